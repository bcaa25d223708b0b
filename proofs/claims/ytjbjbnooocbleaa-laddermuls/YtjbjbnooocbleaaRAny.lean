/- A step of the reference's ladder, by the numbers that its limbs stand for. -/
import Derived.Test.YtjbjbnooocbleaaRStep
namespace Go.Proofs.Ytjbjbnooocbleaa
open Go.RowKit
/-- Limbs of two points of the ladder: x and z of each. -/
structure R4 where
  xl : Nat → Int
  zl : Nat → Int
  xh : Nat → Int
  zh : Nat → Int
structure R4.Rep (r : R4) (s : L4) : Prop where
  xl : Go.Proofs.Ytjbjbnooocbleaa.Rep r.xl s.xl
  zl : Go.Proofs.Ytjbjbnooocbleaa.Rep r.zl s.zl
  xh : Go.Proofs.Ytjbjbnooocbleaa.Rep r.xh s.xh
  zh : Go.Proofs.Ytjbjbnooocbleaa.Rep r.zh s.zh
def R4.flip (r : R4) : R4 := ⟨r.xh, r.zh, r.xl, r.zl⟩
theorem R4.Rep.flip {r : R4} {s : L4} (h : r.Rep s) : r.flip.Rep s.flip := ⟨h.xh, h.zh, h.xl, h.zl⟩
def kL : Nat → Int := carryL (smL 121665)
theorem rep_k : Rep kL 121665 := rep_int 121665 (by decide) (by decide) 121665 (by decide)
def aaL (r : R4) : Nat → Int := timesL (plusL r.xl r.zl) (plusL r.xl r.zl)
def bbL (r : R4) : Nat → Int := timesL (minusL r.xl r.zl) (minusL r.xl r.zl)
def eeL (r : R4) : Nat → Int := minusL (aaL r) (bbL r)
def daL (r : R4) : Nat → Int := timesL (minusL r.xh r.zh) (plusL r.xl r.zl)
def cbL (r : R4) : Nat → Int := timesL (plusL r.xh r.zh) (minusL r.xl r.zl)
def stepR (X1 : Nat → Int) (r : R4) : R4 :=
  ⟨timesL (aaL r) (bbL r), timesL (eeL r) (plusL (aaL r) (timesL kL (eeL r))),
   timesL (plusL (daL r) (cbL r)) (plusL (daL r) (cbL r)), timesL X1 (timesL (minusL (daL r) (cbL r)) (minusL (daL r) (cbL r)))⟩
theorem aaL_rep {r : R4} {s : L4} (h : r.Rep s) : Rep (aaL r) (fmul (fadd s.xl s.zl) (fadd s.xl s.zl)) := rw_times (rep_plus h.xl h.zl) (rep_plus h.xl h.zl)
theorem bbL_rep {r : R4} {s : L4} (h : r.Rep s) (ok : s.Ok) : Rep (bbL r) (fmul (fsub s.xl s.zl) (fsub s.xl s.zl)) := rw_times (rep_minus h.xl h.zl ok.zl) (rep_minus h.xl h.zl ok.zl)
theorem eeL_rep {r : R4} {s : L4} (h : r.Rep s) (ok : s.Ok) : Rw (eeL r) (ee s) := rep_minus (aaL_rep h) (bbL_rep h ok) (fmul_lt _ _)
theorem daL_rep {r : R4} {s : L4} (h : r.Rep s) (ok : s.Ok) : Rep (daL r) (fmul (fsub s.xh s.zh) (fadd s.xl s.zl)) := rw_times (rep_minus h.xh h.zh ok.zh) (rep_plus h.xl h.zl)
theorem cbL_rep {r : R4} {s : L4} (h : r.Rep s) (ok : s.Ok) : Rep (cbL r) (fmul (fadd s.xh s.zh) (fsub s.xl s.zl)) := rw_times (rep_plus h.xh h.zh) (rep_minus h.xl h.zl ok.zl)
theorem keL_rep {r : R4} {s : L4} (h : r.Rep s) (ok : s.Ok) : Rep (timesL kL (eeL r)) (fmul 121665 (ee s)) := rw_times rep_k.wide (eeL_rep h ok)
theorem sL_rep {r : R4} {s : L4} (h : r.Rep s) (ok : s.Ok) : Rw (plusL (daL r) (cbL r)) (fadd (fmul (fsub s.xh s.zh) (fadd s.xl s.zl)) (fmul (fadd s.xh s.zh) (fsub s.xl s.zl))) := rep_plus (daL_rep h ok) (cbL_rep h ok)
theorem dL_rep {r : R4} {s : L4} (h : r.Rep s) (ok : s.Ok) : Rw (minusL (daL r) (cbL r)) (fsub (fmul (fsub s.xh s.zh) (fadd s.xl s.zl)) (fmul (fadd s.xh s.zh) (fsub s.xl s.zl))) := rep_minus (daL_rep h ok) (cbL_rep h ok) (fmul_lt _ _)
theorem stepR_rep {X1 : Nat → Int} {u : Nat} {r : R4} {s : L4} (hX : Rep X1 u) (h : r.Rep s) (ok : s.Ok) : (stepR X1 r).Rep (stepL u s) :=
  ⟨rw_times (aaL_rep h).wide (bbL_rep h ok).wide, rw_times (eeL_rep h ok) (rep_plus (aaL_rep h) (keL_rep h ok)), rw_times (sL_rep h ok) (sL_rep h ok), rw_times hX.wide (rw_times (dL_rep h ok) (dL_rep h ok)).wide⟩
theorem Rep.far {L : Nat → Int} {x : Nat} (h : Rep L x) : ∀ j, j < 16 → -1073741824 ≤ L j ∧ L j ≤ 1073741824 := fun j hj => by have := h.bd j hj; omega
theorem rstep_any (X1 : Nat → Int) (u : Nat) (r : R4) (s : L4) (hX : Rep X1 u) (h : r.Rep s) (ok : s.Ok) (w : World) :
    Calls Try.prog 28 #[rV X1, pV r.xl r.zl, pV r.xh r.zh] w fun e w' => e = .returned (.tuple #[pV (stepR X1 r).xl (stepR X1 r).zl, pV (stepR X1 r).xh (stepR X1 r).zh]) ∧ Below w.heap.size w w' :=
  rstep_raw X1 r.xl r.zl r.xh r.zh (plusL r.xl r.zl) (minusL r.xl r.zl) (aaL r) (bbL r) (eeL r) (minusL r.xh r.zh) (daL r) (plusL r.xh r.zh) (cbL r) (plusL (daL r) (cbL r)) (minusL (daL r) (cbL r)) _ kL (timesL kL (eeL r)) (plusL (aaL r) (timesL kL (eeL r))) _ _ (timesL (minusL (daL r) (cbL r)) (minusL (daL r) (cbL r))) _
    (fun W => rplus_any _ _ h.xl.far h.zl.far W) (fun W => rminus_any _ _ h.xl.far h.zl.far W)
    (fun W => rtimes_any _ _ (rep_plus h.xl h.zl).bd (rep_plus h.xl h.zl).bd W) (fun W => rtimes_any _ _ (rep_minus h.xl h.zl ok.zl).bd (rep_minus h.xl h.zl ok.zl).bd W)
    (fun W => rminus_any _ _ (aaL_rep h).far (bbL_rep h ok).far W)
    (fun W => rminus_any _ _ h.xh.far h.zh.far W) (fun W => rtimes_any _ _ (rep_minus h.xh h.zh ok.zh).bd (rep_plus h.xl h.zl).bd W)
    (fun W => rplus_any _ _ h.xh.far h.zh.far W) (fun W => rtimes_any _ _ (rep_plus h.xh h.zh).bd (rep_minus h.xl h.zl ok.zl).bd W)
    (fun W => rplus_any _ _ (daL_rep h ok).far (cbL_rep h ok).far W) (fun W => rminus_any _ _ (daL_rep h ok).far (cbL_rep h ok).far W)
    (fun W => rtimes_any _ _ (aaL_rep h).bd (bbL_rep h ok).bd W) (fun W => rsmall_any 121665 (by decide) (by decide) W)
    (fun W => rtimes_any _ _ rep_k.bd (eeL_rep h ok).bd W) (fun W => rplus_any _ _ (aaL_rep h).far (keL_rep h ok).far W)
    (fun W => rtimes_any _ _ (eeL_rep h ok).bd (rep_plus (aaL_rep h) (keL_rep h ok)).bd W)
    (fun W => rtimes_any _ _ (sL_rep h ok).bd (sL_rep h ok).bd W) (fun W => rtimes_any _ _ (dL_rep h ok).bd (dL_rep h ok).bd W)
    (fun W => rtimes_any _ _ hX.bd (rw_times (dL_rep h ok) (dL_rep h ok)).bd W) w
/-- Behind j bits from the highest (254) on. -/
def climbR (X1 : Nat → Int) (ks : Nat → Nat) : Nat → R4
  | 0 => ⟨carryL (smL 1), carryL (smL 0), X1, carryL (smL 1)⟩
  | j + 1 => if bitN ks (254 - j) then (stepR X1 (climbR X1 ks j).flip).flip else stepR X1 (climbR X1 ks j)
theorem rep_1 : Rep (carryL (smL 1)) 1 := rep_int 1 (by decide) (by decide) 1 (by decide)
theorem rep_0 : Rep (carryL (smL 0)) 0 := rep_int 0 (by decide) (by decide) 0 (by decide)
theorem climbR_rep {X1 : Nat → Int} {u : Nat} (hu : u < pF) (hX : Rep X1 u) (ks : Nat → Nat) : ∀ j, (climbR X1 ks j).Rep (climbL u ks j)
  | 0 => ⟨rep_1, rep_0, hX, rep_1⟩
  | j + 1 => by
    have ih := climbR_rep hu hX ks j
    have ok := climbL_ok u hu ks j
    unfold climbR climbL rungL
    cases bitN ks (254 - j)
    · exact stepR_rep hX ih ok
    · exact (stepR_rep hX ih.flip ⟨ok.xh, ok.zh, ok.xl, ok.zl⟩).flip
end Go.Proofs.Ytjbjbnooocbleaa
