/- The ladder as a function of numbers. -/
import Derived.Test.YtjbjbnooocbleaaLRange
namespace Go.Proofs.Ytjbjbnooocbleaa
open Go.RowKit
def fadd (a b : Nat) : Nat := (a + b) % pF
def fsub (a b : Nat) : Nat := (a + pF - b) % pF
def fmul (a b : Nat) : Nat := a * b % pF
def finv (a : Nat) : Nat := a ^ (pF - 2) % pF
theorem fadd_lt (a b : Nat) : fadd a b < pF := Nat.mod_lt _ (by decide)
theorem fsub_lt (a b : Nat) : fsub a b < pF := Nat.mod_lt _ (by decide)
theorem fmul_lt (a b : Nat) : fmul a b < pF := Nat.mod_lt _ (by decide)
theorem finv_lt (a : Nat) : finv a < pF := Nat.mod_lt _ (by decide)
/-- Two points of the ladder: x and z of each. -/
structure L4 where
  xl : Nat
  zl : Nat
  xh : Nat
  zh : Nat
structure L4.Ok (s : L4) : Prop where
  xl : s.xl < pF
  zl : s.zl < pF
  xh : s.xh < pF
  zh : s.zh < pF
def L4.flip (s : L4) : L4 := ⟨s.xh, s.zh, s.xl, s.zl⟩
def ee (s : L4) : Nat := fsub (fmul (fadd s.xl s.zl) (fadd s.xl s.zl)) (fmul (fsub s.xl s.zl) (fsub s.xl s.zl))
def stepL (u : Nat) (s : L4) : L4 :=
  ⟨fmul (fmul (fadd s.xl s.zl) (fadd s.xl s.zl)) (fmul (fsub s.xl s.zl) (fsub s.xl s.zl)),
   fmul (ee s) (fadd (fmul (fadd s.xl s.zl) (fadd s.xl s.zl)) (fmul 121665 (ee s))),
   fmul (fadd (fmul (fsub s.xh s.zh) (fadd s.xl s.zl)) (fmul (fadd s.xh s.zh) (fsub s.xl s.zl))) (fadd (fmul (fsub s.xh s.zh) (fadd s.xl s.zl)) (fmul (fadd s.xh s.zh) (fsub s.xl s.zl))),
   fmul u (fmul (fsub (fmul (fsub s.xh s.zh) (fadd s.xl s.zl)) (fmul (fadd s.xh s.zh) (fsub s.xl s.zl))) (fsub (fmul (fsub s.xh s.zh) (fadd s.xl s.zl)) (fmul (fadd s.xh s.zh) (fsub s.xl s.zl))))⟩
theorem stepL_ok (u : Nat) (s : L4) : (stepL u s).Ok := ⟨fmul_lt _ _, fmul_lt _ _, fmul_lt _ _, fmul_lt _ _⟩
def rungL (u : Nat) (b : Bool) (s : L4) : L4 := if b then (stepL u s.flip).flip else stepL u s
theorem rungL_ok (u : Nat) (b : Bool) (s : L4) : (rungL u b s).Ok := by
  unfold rungL
  have h := stepL_ok u s.flip
  split
  · exact ⟨h.xh, h.zh, h.xl, h.zl⟩
  · exact stepL_ok u s
/-- Behind j bits from the highest (254) on. -/
def climbL (u : Nat) (ks : Nat → Nat) : Nat → L4
  | 0 => ⟨1, 0, u, 1⟩
  | j + 1 => rungL u (bitN ks (254 - j)) (climbL u ks j)
theorem climbL_ok (u : Nat) (hu : u < pF) (ks : Nat → Nat) : ∀ j, (climbL u ks j).Ok
  | 0 => ⟨(by decide : 1 < pF), (by decide : 0 < pF), hu, (by decide : 1 < pF)⟩
  | _ + 1 => rungL_ok _ _ _
/-- The u of so many times a point with that u. -/
def mulL (ks : Nat → Nat) (u : Nat) : Nat := fmul (climbL u ks 255).xl (finv (climbL u ks 255).zl)
theorem step_any (u g : Nat) (hu : u < pF) (s : L4) (hs : s.Ok) (w : World) (hp : RW w g 0 (c8 s.xl s.zl)) (hq : RW w g 8 (c8 s.xh s.zh)) :
    Calls Try.prog 48 #[.pointer (some ⟨g, 0, none⟩), numV u] w fun e w' => e = .returned (.tuple #[]) ∧ Out g 0 16 w w' ∧ RW w' g 0 (c8 (stepL u s).xl (stepL u s).zl) ∧ RW w' g 8 (c8 (stepL u s).xh (stepL u s).zh) :=
  step_raw u s.xl s.zl s.xh s.zh (fadd s.xl s.zl) (fsub s.xl s.zl) (fadd s.xh s.zh) (fsub s.xh s.zh) _ _ _ _ _ _ _ _ _ _ _ 121665 _ _ _ g
    (fun W => rsum_any s.xl s.zl _ (fun W => plus_any _ _ hs.xl hs.zl W) W) (fun W => rdiff_any s.xl s.zl _ (fun W => minus_any _ _ hs.xl hs.zl W) W)
    (fun W => rsum_any s.xh s.zh _ (fun W => plus_any _ _ hs.xh hs.zh W) W) (fun W => rdiff_any s.xh s.zh _ (fun W => minus_any _ _ hs.xh hs.zh W) W)
    (fun W => times_any _ _ (fsub_lt _ _) (fadd_lt _ _) W) (fun W => times_any _ _ (fadd_lt _ _) (fsub_lt _ _) W)
    (fun W => plus_any _ _ (fmul_lt _ _) (fmul_lt _ _) W) (fun W => minus_any _ _ (fmul_lt _ _) (fmul_lt _ _) W)
    (fun W => times_any _ _ (fadd_lt _ _) (fadd_lt _ _) W) (fun W => times_any _ _ (fsub_lt _ _) (fsub_lt _ _) W)
    (fun W => minus_any _ _ (fmul_lt _ _) (fmul_lt _ _) W)
    (fun W => times_any _ _ (fadd_lt _ _) (fadd_lt _ _) W) (fun W => times_any _ _ (fsub_lt _ _) (fsub_lt _ _) W)
    (fun W => times_any _ _ hu (fmul_lt _ _) W) (fun W => times_any _ _ (fmul_lt _ _) (fmul_lt _ _) W)
    (fun W => fsmall_pos 121665 (by decide) W)
    (fun W => times_any _ _ (by decide) (fsub_lt _ _) W) (fun W => plus_any _ _ (fmul_lt _ _) (fmul_lt _ _) W)
    (fun W => times_any _ _ (fsub_lt _ _) (fadd_lt _ _) W) w hp hq
theorem rung_any (u g : Nat) (hu : u < pF) (b : Bool) (s : L4) (hs : s.Ok) (w : World) (hp : RW w g 0 (c8 s.xl s.zl)) (hq : RW w g 8 (c8 s.xh s.zh)) (hc : RW w g 16 (c4 u)) :
    Calls Try.prog 38 #[.pointer (some ⟨g, 0, none⟩), .bool b] w fun e w' => e = .returned (.tuple #[]) ∧ Out g 0 16 w w' ∧ RW w' g 0 (c8 (rungL u b s).xl (rungL u b s).zl) ∧ RW w' g 8 (c8 (rungL u b s).xh (rungL u b s).zh) ∧ RW w' g 16 (c4 u) := by
  cases b with
  | false => exact rung_no u s.xl s.zl s.xh s.zh _ _ _ _ g (fun W h k => step_any u g hu s hs W h k) w hp hq hc
  | true => exact rung_yes u s.xl s.zl s.xh s.zh _ _ _ _ g (fun W h k => step_any u g hu s.flip ⟨hs.xh, hs.zh, hs.xl, hs.zl⟩ W h k) w hp hq hc
end Go.Proofs.Ytjbjbnooocbleaa
