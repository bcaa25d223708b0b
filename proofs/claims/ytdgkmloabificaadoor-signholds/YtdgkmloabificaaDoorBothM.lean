/- What the proof stands on: Both, Then, Ones, Inverse, FSmall, Narrow, LRow, ZAb, RNum, NNum, PNum, Prime, PrimeUse, PtA, RootMath. -/
import Derived.Test.YtdgkmloabificaaDoorBaseM
import Derived.Deep.Cut
import Derived.Laws.StructEq
namespace Go.Proofs.YtdgkmloabificaaDoor
open Go.RowKit
/-- Four cells that may be written. -/
structure FourAt (w : World) (g : Nat) (a b c d : Value) : Prop where
 c0 : w.cell? ⟨g, 0, none⟩ = some a
 c1 : w.cell? ⟨g, 1, none⟩ = some b
 c2 : w.cell? ⟨g, 2, none⟩ = some c
 c3 : w.cell? ⟨g, 3, none⟩ = some d
 f0 : w.frozen? ⟨g, 0, none⟩ = false
 f1 : w.frozen? ⟨g, 1, none⟩ = false
 f2 : w.frozen? ⟨g, 2, none⟩ = false
 f3 : w.frozen? ⟨g, 3, none⟩ = false
theorem FourAt.below {w w' : World} {g B : Nat} {a b c d : Value} (h : FourAt w g a b c d) (hb : Below B w w') (hB : g < B) : FourAt w' g a b c d :=
 ⟨(hb.cell (p := ⟨g, 0, none⟩) hB).trans h.c0, (hb.cell (p := ⟨g, 1, none⟩) hB).trans h.c1, (hb.cell (p := ⟨g, 2, none⟩) hB).trans h.c2, (hb.cell (p := ⟨g, 3, none⟩) hB).trans h.c3, (hb.frozen (p := ⟨g, 0, none⟩) hB).trans h.f0, (hb.frozen (p := ⟨g, 1, none⟩) hB).trans h.f1, (hb.frozen (p := ⟨g, 2, none⟩) hB).trans h.f2, (hb.frozen (p := ⟨g, 3, none⟩) hB).trans h.f3⟩
theorem FourAt.there {w : World} {g : Nat} {a b c d : Value} (h : FourAt w g a b c d) : w.there g 0 4 := fun j hj => by
 match j, hj with
 | 0, _ => exact ⟨by rw [h.c0]; rfl, h.f0⟩
 | 1, _ => exact ⟨by rw [show (0 + 1 : Nat) = 1 from rfl, h.c1]; rfl, h.f1⟩
 | 2, _ => exact ⟨by rw [show (0 + 2 : Nat) = 2 from rfl, h.c2]; rfl, h.f2⟩
 | 3, _ => exact ⟨by rw [show (0 + 3 : Nat) = 3 from rfl, h.c3]; rfl, h.f3⟩
theorem FourAt.range {w : World} {g : Nat} {a b c d : Value} (h : FourAt w g a b c d) : w.rangeAt g 0 [a, b, c, d] := fun j v hv => by
 match j, hv with
 | 0, hv => cases hv; exact h.c0
 | 1, hv => cases hv; exact h.c1
 | 2, hv => cases hv; exact h.c2
 | 3, hv => cases hv; exact h.c3
theorem FourAt.drew {w : World} {g : Nat} {a b c d : Value} (h : FourAt w g a b c d) : FourAt w.drew g a b c d := ⟨h.c0, h.c1, h.c2, h.c3, h.f0, h.f1, h.f2, h.f3⟩
theorem four_fresh (w : World) (a b c d : Value) (t : TypeId) : FourAt (w.alloc (.cells #[a, b, c, d] t)) w.heap.size a b c d := by constructor <;> simp
/-- The four cells set anew. -/
def set4 (w : World) (g : Nat) (a b c d : Value) : World := (((w.setCell ⟨g, 0, none⟩ a).setCell ⟨g, 1, none⟩ b).setCell ⟨g, 2, none⟩ c).setCell ⟨g, 3, none⟩ d
theorem FourAt.set {w : World} {g : Nat} {a b c d : Value} (h : FourAt w g a b c d) (a' b' c' d' : Value) : FourAt (set4 w g a' b' c' d') g a' b' c' d' := by
 have hr := World.rangeAt_setCells_same w g 0 [a', b', c', d'] h.there
 have hf : ∀ j, (set4 w g a' b' c' d').frozen? ⟨g, j, none⟩ = w.frozen? ⟨g, j, none⟩ := fun j => World.frozen?_setCells g [a', b', c', d'] 0 w _
 exact ⟨hr 0 _ rfl, hr 1 _ rfl, hr 2 _ rfl, hr 3 _ rfl, (hf 0).trans h.f0, (hf 1).trans h.f1, (hf 2).trans h.f2, (hf 3).trans h.f3⟩
theorem set4_other {w : World} {g k : Nat} (hk : k ≠ g) (a b c d : Value) : (set4 w g a b c d).heap[k]? = w.heap[k]? := heap_setCells_other g [a, b, c, d] 0 w k hk
theorem FourAt.far {w : World} {g k : Nat} {a b c d : Value} (h : FourAt w g a b c d) (hk : g ≠ k) (a' b' c' d' : Value) : FourAt (set4 w k a' b' c' d') g a b c d := by
 have hc : ∀ j, (set4 w k a' b' c' d').cell? ⟨g, j, none⟩ = w.cell? ⟨g, j, none⟩ := fun j => World.cell?_of_block (w := w) (set4_other hk a' b' c' d')
 have hf : ∀ j, (set4 w k a' b' c' d').frozen? ⟨g, j, none⟩ = w.frozen? ⟨g, j, none⟩ := fun j => World.frozen?_of_block (w := w) (set4_other hk a' b' c' d')
 exact ⟨(hc 0).trans h.c0, (hc 1).trans h.c1, (hc 2).trans h.c2, (hc 3).trans h.c3, (hf 0).trans h.f0, (hf 1).trans h.f1, (hf 2).trans h.f2, (hf 3).trans h.f3⟩
theorem below_set4' {B : Nat} {u w : World} {g : Nat} (h : Below B u w) (hg : B ≤ g) (a b c d : Value) : Below B u (set4 w g a b c d) := below_set4 h hg a b c d
theorem size_set4 (w : World) (g : Nat) (a b c d : Value) : (set4 w g a b c d).heap.size = w.heap.size := (setCells_same g [a, b, c, d] 0 w).2.2.2
theorem results_cells2 {P : Program} {fn : Func} {p q s : Tmp} {ty : TypeId} (h : fn.results = #[.cell p ty, .cell q ty, .tmp s]) (tmps : Array Value) (w : World) (g k : Nat) (cs ds : List Value) (d : TypeDesc)
 (hp : tmps.getD p undef = .pointer (some ⟨g, 0, none⟩)) (hq : tmps.getD q undef = .pointer (some ⟨k, 0, none⟩)) (hc : w.rangeAt g 0 cs) (hds : w.rangeAt k 0 ds)
 (hu : P.underlying ty = some d) (hd : d.isRow = true) (hi : (P.info? ty).map (·.size) = some cs.length) (hj : (P.info? ty).map (·.size) = some ds.length) :
 (results fn tmps).run P w = .ok (.tuple #[.agg cs.toArray, .agg ds.toArray, tmps.getD s undef]) w := by
 have hp' : tmps[p]?.getD undef = .pointer (some ⟨g, 0, none⟩) := by simpa using hp
 have hq' : tmps[q]?.getD undef = .pointer (some ⟨k, 0, none⟩) := by simpa using hq
 simp [results, h, hp', hq', asAddr, run_loadVar_mid w g 0 ty cs d hc hu hd hi, run_loadVar_mid w k 0 ty ds d hds hu hd hj]
/-- From, of any bytes: 32 of them, or not. -/
def fromN (n : Nat) (bs : Nat → Nat) : Nat := if n = 32 then ofB bs 32 % pF else 0
def fromE (n : Nat) : Nat := if n = 32 then 0 else 1
theorem from_any (v : Value) (n : Nat) (bs : Nat → Nat) (hbs : ∀ j, bs j < 256) (w : World) (hv : BytesIn w v n bs) :
 Calls Tryd.prog 65 #[v] w fun e w' => e = .returned (.tuple #[numV (fromN n bs), .int .i64 (fromE n)]) ∧ Below w.heap.size w w' := by
 unfold fromN fromE
 by_cases h : n = 32
 · subst h
   rw [if_pos rfl, if_pos rfl]
   rcases hv with ⟨_, _, h0⟩ | ⟨bb, ob, cap, rfl, h1, h2, h3⟩
   · omega
   · exact from_32 bb ob cap bs hbs w h1 h3
 · rw [if_neg h, if_neg h]
   obtain ⟨xo, c, rfl, -⟩ := hv.src
   exact from_other xo n c h w
set_option maxRecDepth 20000 in
set_option maxHeartbeats 2000000 in
theorem both_good (v u : Value) (bs cs : Nat → Nat) (hbs : ∀ j, bs j < 256) (hcs : ∀ j, cs j < 256) (w : World) (hv : BytesIn w v 32 bs) (hu : BytesIn w u 32 cs) :
 Calls Tryd.prog 82 #[v, u] w fun e w' => e = .returned (.tuple #[numV (ofB bs 32 % pF), numV (ofB cs 32 % pF), .int .i64 0]) ∧ Below w.heap.size w w' := by
 have cv : ∀ W, Below w.heap.size w W → Calls Tryd.prog 65 #[v] W fun e w' => e = .returned (.tuple #[numV (ofB bs 32 % pF), .int .i64 0]) ∧ Below W.heap.size W w' := fun W h => from_any v 32 bs hbs W (hv.still h)
 have cu : ∀ W, Below w.heap.size w W → Calls Tryd.prog 65 #[u] W fun e w' => e = .returned (.tuple #[numV (ofB cs 32 % pF), .int .i64 0]) ∧ Below W.heap.size W w' := fun W h => from_any u 32 cs hcs W (hu.still h)
 obtain ⟨xv, kv, rfl, -⟩ := hv.src
 obtain ⟨xu, ku, rfl, -⟩ := hu.src
 obtain ⟨x0, x1, x2, x3, hx⟩ := numV_ex (ofB bs 32 % pF)
 obtain ⟨y0, y1, y2, y3, hy⟩ := numV_ex (ofB cs 32 % pF)
 rw [hx] at cv ⊢
 rw [hy] at cu ⊢
 obtain ⟨W0, hW0⟩ : ∃ W, W = (w.alloc (.cells #[.int .u64 0, .int .u64 0, .int .u64 0, .int .u64 0] 43)).alloc (.cells #[.int .u64 0, .int .u64 0, .int .u64 0, .int .u64 0] 43) := ⟨_, rfl⟩
 have H0 := Hid.mk' hW0
 have hs0 : W0.heap.size = w.heap.size + 1 + 1 := by rw [hW0]; simp
 have hb0 : Below w.heap.size w W0 := by rw [hW0]; exact ((Below.refl _ _).alloc (Nat.le_refl _) _).alloc (by simp) _
 have A0 : FourAt W0 w.heap.size (.int .u64 0) (.int .u64 0) (.int .u64 0) (.int .u64 0) := by rw [hW0]; exact (four_fresh w _ _ _ _ _).below ((Below.refl _ _).alloc (Nat.le_refl _) _) (by simp)
 have B0 : FourAt W0 (w.heap.size + 1) (.int .u64 0) (.int .u64 0) (.int .u64 0) (.int .u64 0) := by
  have := four_fresh (w.alloc (.cells #[.int .u64 0, .int .u64 0, .int .u64 0, .int .u64 0] 43)) (.int .u64 0) (.int .u64 0) (.int .u64 0) (.int .u64 0) 43
  rw [World.size_alloc] at this
  rw [hW0]; exact this
 have cv0 := cv W0 hb0
 clear hv hu hx hy hW0 cv
 go_enter Tryd.func82, Tryd.ntmps82
 go_wp2_with (first
  | (go_at_call 65; rw [← H0.out]; refine cv0.mono ?_; clear cv0; rintro e w1 ⟨rfl, hb1⟩; (have A1 := A0.below hb1 (by omega)); (have B1 := B0.below hb1 (by omega)); (have hbw1 : Below w.heap.size w w1 := hb0.trans (hb1.mono hb0.size)); (have hs1 := hb1.size); obtain ⟨a0, a1, a2, a3, g0, g1, g2, g3⟩ := id A1; clear A0 B0)
  | (go_at_call 65; refine (cu (set4 w1 w.heap.size (.int .u64 x0) (.int .u64 x1) (.int .u64 x2) (.int .u64 x3)) (below_set4' hbw1 (Nat.le_refl _) _ _ _ _)).mono ?_; clear cu; rintro e w2 ⟨rfl, hb2⟩; (have hs2 := hb2.size); rw [size_set4] at hb2 hs2; (have A2 := (A1.set (.int .u64 x0) (.int .u64 x1) (.int .u64 x2) (.int .u64 x3)).below hb2 (by omega)); (have B2 := (B1.far (k := w.heap.size) (by omega) (.int .u64 x0) (.int .u64 x1) (.int .u64 x2) (.int .u64 x3)).below hb2 (by omega)); (have hbw2 : Below w.heap.size w w2 := (below_set4' hbw1 (Nat.le_refl _) _ _ _ _).trans (hb2.mono (by omega))); clear a0 a1 a2 a3 g0 g1 g2 g3 A1 B1; obtain ⟨a0, a1, a2, a3, g0, g1, g2, g3⟩ := id A2; obtain ⟨b0, b1, b2, b3, k0, k1, k2, k3⟩ := id B2))
 go_region
 go_wp2
 (try simp only [Exit.inBlock, Exit.then])
 have FA := (((A2.far (k := w.heap.size + 1) (by omega) (.int .u64 y0) (.int .u64 y1) (.int .u64 y2) (.int .u64 y3)).set (.int .u64 x0) (.int .u64 x1) (.int .u64 x2) (.int .u64 x3)).far (k := w.heap.size + 1) (by omega) (.int .u64 y0) (.int .u64 y1) (.int .u64 y2) (.int .u64 y3)).drew
 have FB := (((B2.set (.int .u64 y0) (.int .u64 y1) (.int .u64 y2) (.int .u64 y3)).far (k := w.heap.size) (by omega) (.int .u64 x0) (.int .u64 x1) (.int .u64 x2) (.int .u64 x3)).set (.int .u64 y0) (.int .u64 y1) (.int .u64 y2) (.int .u64 y3)).drew
 exact bodyPost_ret (results_cells2 Tryd.results82 _ _ w.heap.size (w.heap.size + 1) _ _ _ rfl rfl FA.range FB.range Tryd.underlying43 rfl (by kernel_rfl) (by kernel_rfl)) rfl ⟨rfl, (below_set4' (below_set4' (below_set4' hbw2 (by omega) _ _ _ _) (Nat.le_refl _) _ _ _ _) (by omega) _ _ _ _).drew⟩
end Go.Proofs.YtdgkmloabificaaDoor
namespace Go.Proofs.YtdgkmloabificaaDoor
open Go.RowKit
theorem pF_pos : 0 < pF := by decide
/-- Squared so often. -/
def sqN (n k : Nat) : Nat := n ^ (2 ^ k) % pF
theorem sqN_lt (n k : Nat) : sqN n k < pF := Nat.mod_lt _ pF_pos
theorem sqN_zero (n : Nat) (h : n < pF) : sqN n 0 = n := by unfold sqN; rw [Nat.pow_zero, Nat.pow_one, Nat.mod_eq_of_lt h]
theorem sqN_step (n k : Nat) : sqN n k * sqN n k % pF = sqN n (k + 1) := by
 unfold sqN
 rw [← Nat.mul_mod, ← Nat.pow_add, Nat.pow_succ, Nat.mul_two]
/-- A Number in memory that may be written. -/
def NumW (w : World) (g n : Nat) : Prop := FourAt w g (.int .u64 (lw n 0)) (.int .u64 (lw n 1)) (.int .u64 (lw n 2)) (.int .u64 (lw n 3))
theorem NumW.ex {w : World} {g n : Nat} (h : NumW w g n) : ∃ x0 x1 x2 x3 : Nat, numV n = .agg #[.int .u64 x0, .int .u64 x1, .int .u64 x2, .int .u64 x3] ∧ FourAt w g (.int .u64 x0) (.int .u64 x1) (.int .u64 x2) (.int .u64 x3) := ⟨_, _, _, _, rfl, h⟩
set_option maxRecDepth 20000 in
set_option maxHeartbeats 2000000 in
theorem then_any (n m k : Nat) (hn : n < pF) (hm : m < pF) (hk : k < 1000) (w : World) :
 Calls Tryd.prog 57 #[numV n, .int .i64 k, .func (.func 34) #[numV m] #[]] w fun e w' => e = .returned (numV (m * sqN n k % pF)) ∧ Below w.heap.size w w' := by
 have ct := fun W => times_any m (sqN n k) hm (sqN_lt n k) W
 obtain ⟨R, hR⟩ : ∃ R, R = m * sqN n k % pF := ⟨_, rfl⟩
 rw [← hR] at ct ⊢
 obtain ⟨z0, z1, z2, z3, hz⟩ := numV_ex R
 obtain ⟨m0, m1, m2, m3, hmv⟩ := numV_ex m
 rw [hz] at ct ⊢
 rw [hmv] at ct ⊢
 obtain ⟨W, hW⟩ : ∃ W, W = (w.alloc (.cells #[.int .u64 (lw n 0), .int .u64 (lw n 1), .int .u64 (lw n 2), .int .u64 (lw n 3)] 43)).alloc (.cells #[.int .u64 0, .int .u64 0, .int .u64 0, .int .u64 0] 43) := ⟨_, rfl⟩
 have HW := Hid.mk' hW
 have hWs : W.heap.size = w.heap.size + 1 + 1 := by rw [hW]; simp
 have hbW : Below w.heap.size w W := by rw [hW]; exact ((Below.refl _ _).alloc (Nat.le_refl _) _).alloc (by simp) _
 have hA : NumW W w.heap.size (sqN n 0) := by rw [sqN_zero n hn, hW]; exact (four_fresh w _ _ _ _ _).below ((Below.refl _ _).alloc (Nat.le_refl _) _) (by simp)
 have hB : FourAt W (w.heap.size + 1) (.int .u64 0) (.int .u64 0) (.int .u64 0) (.int .u64 0) := by
  have := four_fresh (w.alloc (.cells #[.int .u64 (lw n 0), .int .u64 (lw n 1), .int .u64 (lw n 2), .int .u64 (lw n 3)] 43)) (.int .u64 0) (.int .u64 0) (.int .u64 0) (.int .u64 0) 43
  rw [World.size_alloc] at this
  rw [hW]; exact this
 unfold numV
 clear hW hR hz hmv
 go_enter Tryd.func57, Tryd.ntmps57
 go_wp2
 rw [← HW.out]
 go_loopw [8] (fun i wr => ∃ q : Nat, q ≤ k ∧ i = .int .i64 q ∧ NumW wr w.heap.size (sqN n q) ∧ FourAt wr (w.heap.size + 1) (.int .u64 0) (.int .u64 0) (.int .u64 0) (.int .u64 0) ∧ Below w.heap.size w wr ∧ w.heap.size + 1 < wr.heap.size) (fun i _ => k - (intOf i).toNat)
 case atStart => exact ⟨0, Nat.zero_le _, rfl, hA, hB, hbW, by omega⟩
 case round =>
  clear hA hB hbW
  obtain ⟨q, hq, rfl, hA, hB, hb, hs⟩ := hrel
  by_cases hlt : q < k
  · have cs := times_any (sqN n q) (sqN n q) (sqN_lt n q) (sqN_lt n q) wr
    rw [sqN_step] at cs
    obtain ⟨x0, x1, x2, x3, hx, hA'⟩ := hA.ex
    have hy : ∃ y0 y1 y2 y3 : Nat, numV (sqN n (q + 1)) = .agg #[.int .u64 y0, .int .u64 y1, .int .u64 y2, .int .u64 y3] ∧ ∀ W, FourAt W w.heap.size (.int .u64 y0) (.int .u64 y1) (.int .u64 y2) (.int .u64 y3) → NumW W w.heap.size (sqN n (q + 1)) := ⟨_, _, _, _, rfl, fun _ h => h⟩
    obtain ⟨y0, y1, y2, y3, hye, hyn⟩ := hy
    rw [hx, hye] at cs
    obtain ⟨c0, c1, c2, c3, f0, f1, f2, f3⟩ := id hA'
    clear ct hx hye hA
    go_wp2_with (go_at_call 34; refine cs.mono ?_; clear cs; rintro e w1 ⟨rfl, hb1⟩; (have A1 := hA'.below hb1 (by omega)); clear c0 c1 c2 c3 f0 f1 f2 f3; obtain ⟨c0, c1, c2, c3, f0, f1, f2, f3⟩ := id A1)
    go_roundw
    case rel =>
     refine ⟨q + 1, by omega, by go_num, hyn _ (A1.set _ _ _ _), (hB.below hb1 (by omega)).far (by omega) _ _ _ _, below_set4' (hb.trans (hb1.mono hb.size)) (Nat.le_refl _) _ _ _ _, ?_⟩
     show w.heap.size + 1 < (set4 _ _ _ _ _ _).heap.size
     rw [size_set4]; have := hb1.size; omega
    case measure => simp [intOf]; omega
  · have hqe : q = k := by omega
    rw [hqe] at hA
    obtain ⟨x0, x1, x2, x3, hx, hA'⟩ := hA.ex
    have ct' := ct wr
    rw [hx] at ct'
    obtain ⟨c0, c1, c2, c3, f0, f1, f2, f3⟩ := id hA'
    clear ct hx hA
    go_wp2_with (go_at_call 34; refine ct'.mono ?_; clear ct'; rintro e w1 ⟨rfl, hb1⟩; (have B1 := hB.below hb1 (by omega)); (have ht1 := B1.there); clear c0 c1 c2 c3 f0 f1 f2 f3; obtain ⟨c0, c1, c2, c3, f0, f1, f2, f3⟩ := B1)
    (try simp only [Exit.inBlock, Exit.then])
    exact bodyPost_ret (results_set4 Tryd.results57 _ _ _ _ _ _ _ ht1 rfl Tryd.underlying43 rfl (by kernel_rfl)) rfl ⟨rfl, below_set4 (hb.trans (hb1.mono hb.size)) (by omega) _ _ _ _⟩
end Go.Proofs.YtdgkmloabificaaDoor
namespace Go.Proofs.YtdgkmloabificaaDoor
open Go.RowKit
theorem then_pow (x a b k e : Nat) (he : b + a * 2 ^ k = e) (hk : k < 1000) (w : World) :
 Calls Tryd.prog 57 #[numV (x ^ a % pF), .int .i64 k, .func (.func 34) #[numV (x ^ b % pF)] #[]] w fun e' w' => e' = .returned (numV (x ^ e % pF)) ∧ Below w.heap.size w w' := by
 have h := then_any (x ^ a % pF) (x ^ b % pF) k (Nat.mod_lt _ pF_pos) (Nat.mod_lt _ pF_pos) hk w
 have e1 : x ^ b % pF * sqN (x ^ a % pF) k % pF = x ^ e % pF := by
  unfold sqN
  rw [← Nat.pow_mod, ← Nat.mul_mod, ← Nat.pow_mul, ← Nat.pow_add, he]
 rw [e1] at h
 exact h
set_option maxRecDepth 20000 in
set_option maxHeartbeats 4000000 in
theorem ones250_any (x : Nat) (w : World) :
 Calls Tryd.prog 56 #[numV (x ^ 1 % pF)] w fun e w' => e = .returned (numV (x ^ 1809251394333065553493296640760748560207343510400633813116524750123642650623 % pF)) ∧ Below w.heap.size w w' := by
 have cc0 := fun W => then_pow x 1 1 1 3 (by decide) (by decide) W
 have cc1 := fun W => then_pow x 3 3 2 15 (by decide) (by decide) W
 have cc2 := fun W => then_pow x 15 1 1 31 (by decide) (by decide) W
 have cc3 := fun W => then_pow x 31 31 5 1023 (by decide) (by decide) W
 have cc4 := fun W => then_pow x 1023 1023 10 1048575 (by decide) (by decide) W
 have cc5 := fun W => then_pow x 1048575 1048575 20 1099511627775 (by decide) (by decide) W
 have cc6 := fun W => then_pow x 1099511627775 1023 10 1125899906842623 (by decide) (by decide) W
 have cc7 := fun W => then_pow x 1125899906842623 1125899906842623 50 1267650600228229401496703205375 (by decide) (by decide) W
 have cc8 := fun W => then_pow x 1267650600228229401496703205375 1267650600228229401496703205375 100 1606938044258990275541962092341162602522202993782792835301375 (by decide) (by decide) W
 have cc9 := fun W => then_pow x 1606938044258990275541962092341162602522202993782792835301375 1125899906842623 50 1809251394333065553493296640760748560207343510400633813116524750123642650623 (by decide) (by decide) W
 obtain ⟨va0, va1, va2, va3, hva⟩ := numV_ex (x ^ 1 % pF)
 obtain ⟨vb0, vb1, vb2, vb3, hvb⟩ := numV_ex (x ^ 3 % pF)
 obtain ⟨vc0, vc1, vc2, vc3, hvc⟩ := numV_ex (x ^ 15 % pF)
 obtain ⟨vd0, vd1, vd2, vd3, hvd⟩ := numV_ex (x ^ 31 % pF)
 obtain ⟨ve0, ve1, ve2, ve3, hve⟩ := numV_ex (x ^ 1023 % pF)
 obtain ⟨vf0, vf1, vf2, vf3, hvf⟩ := numV_ex (x ^ 1048575 % pF)
 obtain ⟨vg0, vg1, vg2, vg3, hvg⟩ := numV_ex (x ^ 1099511627775 % pF)
 obtain ⟨vh0, vh1, vh2, vh3, hvh⟩ := numV_ex (x ^ 1125899906842623 % pF)
 obtain ⟨vi0, vi1, vi2, vi3, hvi⟩ := numV_ex (x ^ 1267650600228229401496703205375 % pF)
 obtain ⟨vj0, vj1, vj2, vj3, hvj⟩ := numV_ex (x ^ 1606938044258990275541962092341162602522202993782792835301375 % pF)
 obtain ⟨vk0, vk1, vk2, vk3, hvk⟩ := numV_ex (x ^ 1809251394333065553493296640760748560207343510400633813116524750123642650623 % pF)
 rw [hva, hvb] at cc0
 rw [hvb, hvc] at cc1
 rw [hvc, hva, hvd] at cc2
 rw [hvd, hve] at cc3
 rw [hve, hvf] at cc4
 rw [hvf, hvg] at cc5
 rw [hvg, hve, hvh] at cc6
 rw [hvh, hvi] at cc7
 rw [hvi, hvj] at cc8
 rw [hvj, hvh, hvk] at cc9
 rw [hva, hvk]
 have dd0 : ∀ W, Calls Tryd.prog 57 #[.agg #[.int .u64 va0, .int .u64 va1, .int .u64 va2, .int .u64 va3], .int .i64 1, .func (.func 34) #[.agg #[.int .u64 va0, .int .u64 va1, .int .u64 va2, .int .u64 va3]] #[]] W fun e w' => e = .returned (.agg #[.int .u64 vb0, .int .u64 vb1, .int .u64 vb2, .int .u64 vb3]) ∧ Below W.heap.size W w' := cc0
 have dd1 : ∀ W, Calls Tryd.prog 57 #[.agg #[.int .u64 vb0, .int .u64 vb1, .int .u64 vb2, .int .u64 vb3], .int .i64 2, .func (.func 34) #[.agg #[.int .u64 vb0, .int .u64 vb1, .int .u64 vb2, .int .u64 vb3]] #[]] W fun e w' => e = .returned (.agg #[.int .u64 vc0, .int .u64 vc1, .int .u64 vc2, .int .u64 vc3]) ∧ Below W.heap.size W w' := cc1
 have dd2 : ∀ W, Calls Tryd.prog 57 #[.agg #[.int .u64 vc0, .int .u64 vc1, .int .u64 vc2, .int .u64 vc3], .int .i64 1, .func (.func 34) #[.agg #[.int .u64 va0, .int .u64 va1, .int .u64 va2, .int .u64 va3]] #[]] W fun e w' => e = .returned (.agg #[.int .u64 vd0, .int .u64 vd1, .int .u64 vd2, .int .u64 vd3]) ∧ Below W.heap.size W w' := cc2
 have dd3 : ∀ W, Calls Tryd.prog 57 #[.agg #[.int .u64 vd0, .int .u64 vd1, .int .u64 vd2, .int .u64 vd3], .int .i64 5, .func (.func 34) #[.agg #[.int .u64 vd0, .int .u64 vd1, .int .u64 vd2, .int .u64 vd3]] #[]] W fun e w' => e = .returned (.agg #[.int .u64 ve0, .int .u64 ve1, .int .u64 ve2, .int .u64 ve3]) ∧ Below W.heap.size W w' := cc3
 have dd4 : ∀ W, Calls Tryd.prog 57 #[.agg #[.int .u64 ve0, .int .u64 ve1, .int .u64 ve2, .int .u64 ve3], .int .i64 10, .func (.func 34) #[.agg #[.int .u64 ve0, .int .u64 ve1, .int .u64 ve2, .int .u64 ve3]] #[]] W fun e w' => e = .returned (.agg #[.int .u64 vf0, .int .u64 vf1, .int .u64 vf2, .int .u64 vf3]) ∧ Below W.heap.size W w' := cc4
 have dd5 : ∀ W, Calls Tryd.prog 57 #[.agg #[.int .u64 vf0, .int .u64 vf1, .int .u64 vf2, .int .u64 vf3], .int .i64 20, .func (.func 34) #[.agg #[.int .u64 vf0, .int .u64 vf1, .int .u64 vf2, .int .u64 vf3]] #[]] W fun e w' => e = .returned (.agg #[.int .u64 vg0, .int .u64 vg1, .int .u64 vg2, .int .u64 vg3]) ∧ Below W.heap.size W w' := cc5
 have dd6 : ∀ W, Calls Tryd.prog 57 #[.agg #[.int .u64 vg0, .int .u64 vg1, .int .u64 vg2, .int .u64 vg3], .int .i64 10, .func (.func 34) #[.agg #[.int .u64 ve0, .int .u64 ve1, .int .u64 ve2, .int .u64 ve3]] #[]] W fun e w' => e = .returned (.agg #[.int .u64 vh0, .int .u64 vh1, .int .u64 vh2, .int .u64 vh3]) ∧ Below W.heap.size W w' := cc6
 have dd7 : ∀ W, Calls Tryd.prog 57 #[.agg #[.int .u64 vh0, .int .u64 vh1, .int .u64 vh2, .int .u64 vh3], .int .i64 50, .func (.func 34) #[.agg #[.int .u64 vh0, .int .u64 vh1, .int .u64 vh2, .int .u64 vh3]] #[]] W fun e w' => e = .returned (.agg #[.int .u64 vi0, .int .u64 vi1, .int .u64 vi2, .int .u64 vi3]) ∧ Below W.heap.size W w' := cc7
 have dd8 : ∀ W, Calls Tryd.prog 57 #[.agg #[.int .u64 vi0, .int .u64 vi1, .int .u64 vi2, .int .u64 vi3], .int .i64 100, .func (.func 34) #[.agg #[.int .u64 vi0, .int .u64 vi1, .int .u64 vi2, .int .u64 vi3]] #[]] W fun e w' => e = .returned (.agg #[.int .u64 vj0, .int .u64 vj1, .int .u64 vj2, .int .u64 vj3]) ∧ Below W.heap.size W w' := cc8
 have dd9 : ∀ W, Calls Tryd.prog 57 #[.agg #[.int .u64 vj0, .int .u64 vj1, .int .u64 vj2, .int .u64 vj3], .int .i64 50, .func (.func 34) #[.agg #[.int .u64 vh0, .int .u64 vh1, .int .u64 vh2, .int .u64 vh3]] #[]] W fun e w' => e = .returned (.agg #[.int .u64 vk0, .int .u64 vk1, .int .u64 vk2, .int .u64 vk3]) ∧ Below W.heap.size W w' := cc9
 clear cc0 cc1 cc2 cc3 cc4 cc5 cc6 cc7 cc8 cc9 hva hvb hvc hvd hve hvf hvg hvh hvi hvj hvk
 obtain ⟨W, hW⟩ : ∃ W, W = (w.alloc (.cells #[.int .u64 va0, .int .u64 va1, .int .u64 va2, .int .u64 va3] 43)).alloc (.cells #[.int .u64 0, .int .u64 0, .int .u64 0, .int .u64 0] 43) := ⟨_, rfl⟩
 have HW := Hid.mk' hW
 have hWs : W.heap.size = w.heap.size + 1 + 1 := by rw [hW]; simp
 have hbW : Below w.heap.size w W := by rw [hW]; exact ((Below.refl _ _).alloc (Nat.le_refl _) _).alloc (by simp) _
 have N0 : FourAt W w.heap.size (.int .u64 va0) (.int .u64 va1) (.int .u64 va2) (.int .u64 va3) := by rw [hW]; exact (four_fresh w _ _ _ _ _).below ((Below.refl _ _).alloc (Nat.le_refl _) _) (by simp)
 have R0 : FourAt W (w.heap.size + 1) (.int .u64 0) (.int .u64 0) (.int .u64 0) (.int .u64 0) := by
  have := four_fresh (w.alloc (.cells #[.int .u64 va0, .int .u64 va1, .int .u64 va2, .int .u64 va3] 43)) (.int .u64 0) (.int .u64 0) (.int .u64 0) (.int .u64 0) 43
  rw [World.size_alloc] at this
  rw [hW]; exact this
 clear hW
 go_enter Tryd.func56, Tryd.ntmps56
 go_wp2_with (first
  | (go_at_call 57; rw [← HW.out]; refine (dd0 _).mono ?_; clear dd0; rintro e w1 ⟨rfl, bel1⟩; (have N1 := N0.below bel1 (by omega)); (have R1 := R0.below bel1 (by omega)); (have zz1 : w.heap.size + 1 + 1 ≤ w1.heap.size := by have := bel1.size; omega); (have hw1 : Below w.heap.size w w1 := hbW.trans (bel1.mono (by omega))))
  | (go_at_call 57; refine (dd1 _).mono ?_; clear dd1; rintro e w2 ⟨rfl, bel2⟩; (have sz2 : w1.heap.size + 1 ≤ w2.heap.size := by have := bel2.size; rw [World.size_alloc] at this; exact this); (have tb2 : Below w1.heap.size w1 w2 := ((Below.refl w1.heap.size w1).alloc (Nat.le_refl _) _).trans (bel2.mono (by rw [World.size_alloc]; omega))); (have zz2 : w.heap.size + 1 + 1 ≤ w2.heap.size := by omega); (have hw2 : Below w.heap.size w w2 := hw1.trans (tb2.mono (by omega))); (have R2 := R1.below tb2 (by omega)); (have N2 := N1.below tb2 (by omega)); (have q2 : w.heap.size < w2.heap.size := by omega); (obtain ⟨n0, n1, n2, n3, -, -, -, -⟩ := id N2))
  | (go_at_call 57; refine (dd2 _).mono ?_; clear dd2; rintro e w3 ⟨rfl, bel3⟩; (have sz3 : w2.heap.size + 1 ≤ w3.heap.size := by have := bel3.size; rw [World.size_alloc] at this; exact this); (have tb3 : Below w2.heap.size w2 w3 := ((Below.refl w2.heap.size w2).alloc (Nat.le_refl _) _).trans (bel3.mono (by rw [World.size_alloc]; omega))); (have zz3 : w.heap.size + 1 + 1 ≤ w3.heap.size := by omega); (have hw3 : Below w.heap.size w w3 := hw2.trans (tb3.mono (by omega))); (have R3 := R2.below tb3 (by omega)))
  | (go_at_call 57; refine (dd3 _).mono ?_; clear dd3; rintro e w4 ⟨rfl, bel4⟩; (have sz4 : w3.heap.size + 1 ≤ w4.heap.size := by have := bel4.size; rw [World.size_alloc] at this; exact this); (have tb4 : Below w3.heap.size w3 w4 := ((Below.refl w3.heap.size w3).alloc (Nat.le_refl _) _).trans (bel4.mono (by rw [World.size_alloc]; omega))); (have zz4 : w.heap.size + 1 + 1 ≤ w4.heap.size := by omega); (have hw4 : Below w.heap.size w w4 := hw3.trans (tb4.mono (by omega))); (have R4 := R3.below tb4 (by omega)))
  | (go_at_call 57; refine (dd4 _).mono ?_; clear dd4; rintro e w5 ⟨rfl, bel5⟩; (have sz5 : w4.heap.size + 1 ≤ w5.heap.size := by have := bel5.size; rw [World.size_alloc] at this; exact this); (have tb5 : Below w4.heap.size w4 w5 := ((Below.refl w4.heap.size w4).alloc (Nat.le_refl _) _).trans (bel5.mono (by rw [World.size_alloc]; omega))); (have zz5 : w.heap.size + 1 + 1 ≤ w5.heap.size := by omega); (have hw5 : Below w.heap.size w w5 := hw4.trans (tb5.mono (by omega))); (have R5 := R4.below tb5 (by omega)); (have T5 := (four_fresh w4 (.int .u64 ve0) (.int .u64 ve1) (.int .u64 ve2) (.int .u64 ve3) 43).below bel5 (by simp)); (have q5 : w4.heap.size < w5.heap.size := by omega))
  | (go_at_call 57; refine (dd5 _).mono ?_; clear dd5; rintro e w6 ⟨rfl, bel6⟩; (have sz6 : w5.heap.size + 1 ≤ w6.heap.size := by have := bel6.size; rw [World.size_alloc] at this; exact this); (have tb6 : Below w5.heap.size w5 w6 := ((Below.refl w5.heap.size w5).alloc (Nat.le_refl _) _).trans (bel6.mono (by rw [World.size_alloc]; omega))); (have zz6 : w.heap.size + 1 + 1 ≤ w6.heap.size := by omega); (have hw6 : Below w.heap.size w w6 := hw5.trans (tb6.mono (by omega))); (have R6 := R5.below tb6 (by omega)); (have T6 := T5.below tb6 (by omega)); (have q6 : w4.heap.size < w6.heap.size := by omega); (obtain ⟨m0, m1, m2, m3, -, -, -, -⟩ := id T6))
  | (go_at_call 57; refine (dd6 _).mono ?_; clear dd6; rintro e w7 ⟨rfl, bel7⟩; (have sz7 : w6.heap.size + 1 ≤ w7.heap.size := by have := bel7.size; rw [World.size_alloc] at this; exact this); (have tb7 : Below w6.heap.size w6 w7 := ((Below.refl w6.heap.size w6).alloc (Nat.le_refl _) _).trans (bel7.mono (by rw [World.size_alloc]; omega))); (have zz7 : w.heap.size + 1 + 1 ≤ w7.heap.size := by omega); (have hw7 : Below w.heap.size w w7 := hw6.trans (tb7.mono (by omega))); (have R7 := R6.below tb7 (by omega)))
  | (go_at_call 57; refine (dd7 _).mono ?_; clear dd7; rintro e w8 ⟨rfl, bel8⟩; (have sz8 : w7.heap.size + 1 ≤ w8.heap.size := by have := bel8.size; rw [World.size_alloc] at this; exact this); (have tb8 : Below w7.heap.size w7 w8 := ((Below.refl w7.heap.size w7).alloc (Nat.le_refl _) _).trans (bel8.mono (by rw [World.size_alloc]; omega))); (have zz8 : w.heap.size + 1 + 1 ≤ w8.heap.size := by omega); (have hw8 : Below w.heap.size w w8 := hw7.trans (tb8.mono (by omega))); (have R8 := R7.below tb8 (by omega)); (have F8 := (four_fresh w7 (.int .u64 vh0) (.int .u64 vh1) (.int .u64 vh2) (.int .u64 vh3) 43).below bel8 (by simp)); (have q8 : w7.heap.size < w8.heap.size := by omega))
  | (go_at_call 57; refine (dd8 _).mono ?_; clear dd8; rintro e w9 ⟨rfl, bel9⟩; (have sz9 : w8.heap.size + 1 ≤ w9.heap.size := by have := bel9.size; rw [World.size_alloc] at this; exact this); (have tb9 : Below w8.heap.size w8 w9 := ((Below.refl w8.heap.size w8).alloc (Nat.le_refl _) _).trans (bel9.mono (by rw [World.size_alloc]; omega))); (have zz9 : w.heap.size + 1 + 1 ≤ w9.heap.size := by omega); (have hw9 : Below w.heap.size w w9 := hw8.trans (tb9.mono (by omega))); (have R9 := R8.below tb9 (by omega)); (have F9 := F8.below tb9 (by omega)); (have q9 : w7.heap.size < w9.heap.size := by omega); (obtain ⟨p0, p1, p2, p3, -, -, -, -⟩ := id F9))
  | (go_at_call 57; refine (dd9 _).mono ?_; clear dd9; rintro e w10 ⟨rfl, bel10⟩; (have sz10 : w9.heap.size + 1 ≤ w10.heap.size := by have := bel10.size; rw [World.size_alloc] at this; exact this); (have tb10 : Below w9.heap.size w9 w10 := ((Below.refl w9.heap.size w9).alloc (Nat.le_refl _) _).trans (bel10.mono (by rw [World.size_alloc]; omega))); (have zz10 : w.heap.size + 1 + 1 ≤ w10.heap.size := by omega); (have hw10 : Below w.heap.size w w10 := hw9.trans (tb10.mono (by omega))); (have R10 := R9.below tb10 (by omega)); (have ht := R10.there); (obtain ⟨r0, r1, r2, r3, f0, f1, f2, f3⟩ := id R10)))
 (try simp only [Exit.inBlock, Exit.then])
 exact bodyPost_ret (results_set4 Tryd.results56 _ _ _ _ _ _ _ ht rfl Tryd.underlying43 rfl (by kernel_rfl)) rfl ⟨rfl, below_set4 hw10 (by omega) _ _ _ _⟩
end Go.Proofs.YtdgkmloabificaaDoor
namespace Go.Proofs.YtdgkmloabificaaDoor
open Go.RowKit
set_option maxRecDepth 20000 in
set_option maxHeartbeats 4000000 in
theorem inverse_pow (x : Nat) (w : World) :
 Calls Tryd.prog 32 #[numV (x ^ 1 % pF)] w fun e w' => e = .returned (numV (x ^ 57896044618658097711785492504343953926634992332820282019728792003956564819947 % pF)) ∧ Below w.heap.size w w' := by
 have cc0 := fun W => ones250_any x W
 have cc1 := fun W => then_pow x 1809251394333065553493296640760748560207343510400633813116524750123642650623 1 2 7237005577332262213973186563042994240829374041602535252466099000494570602493 (by decide) (by decide) W
 have cc2 := fun W => then_pow x 7237005577332262213973186563042994240829374041602535252466099000494570602493 1 2 28948022309329048855892746252171976963317496166410141009864396001978282409973 (by decide) (by decide) W
 have cc3 := fun W => then_pow x 28948022309329048855892746252171976963317496166410141009864396001978282409973 1 1 57896044618658097711785492504343953926634992332820282019728792003956564819947 (by decide) (by decide) W
 obtain ⟨va0, va1, va2, va3, hva⟩ := numV_ex (x ^ 1 % pF)
 obtain ⟨vb0, vb1, vb2, vb3, hvb⟩ := numV_ex (x ^ 1809251394333065553493296640760748560207343510400633813116524750123642650623 % pF)
 obtain ⟨vc0, vc1, vc2, vc3, hvc⟩ := numV_ex (x ^ 7237005577332262213973186563042994240829374041602535252466099000494570602493 % pF)
 obtain ⟨vd0, vd1, vd2, vd3, hvd⟩ := numV_ex (x ^ 28948022309329048855892746252171976963317496166410141009864396001978282409973 % pF)
 obtain ⟨ve0, ve1, ve2, ve3, hve⟩ := numV_ex (x ^ 57896044618658097711785492504343953926634992332820282019728792003956564819947 % pF)
 rw [hva, hvb] at cc0
 rw [hvb, hva, hvc] at cc1
 rw [hvc, hva, hvd] at cc2
 rw [hvd, hva, hve] at cc3
 rw [hva, hve]
 have dd1 : ∀ W, Calls Tryd.prog 57 #[.agg #[.int .u64 vb0, .int .u64 vb1, .int .u64 vb2, .int .u64 vb3], .int .i64 2, .func (.func 34) #[.agg #[.int .u64 va0, .int .u64 va1, .int .u64 va2, .int .u64 va3]] #[]] W fun e w' => e = .returned (.agg #[.int .u64 vc0, .int .u64 vc1, .int .u64 vc2, .int .u64 vc3]) ∧ Below W.heap.size W w' := cc1
 have dd2 : ∀ W, Calls Tryd.prog 57 #[.agg #[.int .u64 vc0, .int .u64 vc1, .int .u64 vc2, .int .u64 vc3], .int .i64 2, .func (.func 34) #[.agg #[.int .u64 va0, .int .u64 va1, .int .u64 va2, .int .u64 va3]] #[]] W fun e w' => e = .returned (.agg #[.int .u64 vd0, .int .u64 vd1, .int .u64 vd2, .int .u64 vd3]) ∧ Below W.heap.size W w' := cc2
 have dd3 : ∀ W, Calls Tryd.prog 57 #[.agg #[.int .u64 vd0, .int .u64 vd1, .int .u64 vd2, .int .u64 vd3], .int .i64 1, .func (.func 34) #[.agg #[.int .u64 va0, .int .u64 va1, .int .u64 va2, .int .u64 va3]] #[]] W fun e w' => e = .returned (.agg #[.int .u64 ve0, .int .u64 ve1, .int .u64 ve2, .int .u64 ve3]) ∧ Below W.heap.size W w' := cc3
 clear cc1 cc2 cc3 hva hvb hvc hvd hve
 obtain ⟨W, hW⟩ : ∃ W, W = (w.alloc (.cells #[.int .u64 va0, .int .u64 va1, .int .u64 va2, .int .u64 va3] 43)).alloc (.cells #[.int .u64 0, .int .u64 0, .int .u64 0, .int .u64 0] 43) := ⟨_, rfl⟩
 have HW := Hid.mk' hW
 have hWs : W.heap.size = w.heap.size + 1 + 1 := by rw [hW]; simp
 have hbW : Below w.heap.size w W := by rw [hW]; exact ((Below.refl _ _).alloc (Nat.le_refl _) _).alloc (by simp) _
 have N0 : FourAt W w.heap.size (.int .u64 va0) (.int .u64 va1) (.int .u64 va2) (.int .u64 va3) := by rw [hW]; exact (four_fresh w _ _ _ _ _).below ((Below.refl _ _).alloc (Nat.le_refl _) _) (by simp)
 have R0 : FourAt W (w.heap.size + 1) (.int .u64 0) (.int .u64 0) (.int .u64 0) (.int .u64 0) := by
  have := four_fresh (w.alloc (.cells #[.int .u64 va0, .int .u64 va1, .int .u64 va2, .int .u64 va3] 43)) (.int .u64 0) (.int .u64 0) (.int .u64 0) (.int .u64 0) 43
  rw [World.size_alloc] at this
  rw [hW]; exact this
 have hr : ∀ w' : World, Below (w.heap.size + 1) W w' → w'.rangeAt w.heap.size 0 [.int .u64 va0, .int .u64 va1, .int .u64 va2, .int .u64 va3] := fun w' h => (N0.below h (by omega)).range
 have hi' : (Tryd.prog.info? 43).map (·.size) = some 4 := by kernel_rfl
 have hb0 : Below (w.heap.size + 1) W W.drew := (Below.refl _ _).drew
 clear hW
 go_enter Tryd.func32, Tryd.ntmps32
 go_wp2
 rw [← HW.out]
 refine wp_region_held_drew (S := fun w2 => Below (w.heap.size + 1) W w2) (by kernel_rfl) hb0 (fun hHeld => ?_)
 refine wpAnyH_take (i := 0) (v := .agg #[.int .u64 va0, .int .u64 va1, .int .u64 va2, .int .u64 va3]) rfl (by kernel_rfl) (by kernel_rfl) (by kernel_rfl) (fun _ _ _ h => h) (yieldsIf_load_mid (by rfl) 43 _ rfl w.heap.size 0 rfl [.int .u64 va0, .int .u64 va1, .int .u64 va2, .int .u64 va3] _ hr Tryd.underlying43 rfl hi') hHeld ?_
 refine wpAnyH_take (i := 2) (v := .agg #[.int .u64 va0, .int .u64 va1, .int .u64 va2, .int .u64 va3]) rfl (by kernel_rfl) (by kernel_rfl) (by kernel_rfl) (fun _ _ _ h => h) (yieldsIf_load_mid (by rfl) 43 _ rfl w.heap.size 0 rfl [.int .u64 va0, .int .u64 va1, .int .u64 va2, .int .u64 va3] _ hr Tryd.underlying43 rfl hi') hHeld ?_
 refine wpAnyH_take (i := 5) (v := .agg #[.int .u64 va0, .int .u64 va1, .int .u64 va2, .int .u64 va3]) rfl (by kernel_rfl) (by kernel_rfl) (by kernel_rfl) (fun _ _ _ h => h) (yieldsIf_load_mid (by rfl) 43 _ rfl w.heap.size 0 rfl [.int .u64 va0, .int .u64 va1, .int .u64 va2, .int .u64 va3] _ hr Tryd.underlying43 rfl hi') hHeld ?_
 refine wpAnyH_take (i := 8) (v := .agg #[.int .u64 va0, .int .u64 va1, .int .u64 va2, .int .u64 va3]) rfl (by kernel_rfl) (by kernel_rfl) (by kernel_rfl) (fun _ _ _ h => h) (yieldsIf_load_mid (by rfl) 43 _ rfl w.heap.size 0 rfl [.int .u64 va0, .int .u64 va1, .int .u64 va2, .int .u64 va3] _ hr Tryd.underlying43 rfl hi') hHeld ?_
 refine wpAnyH_take (i := 3) (v := .func (.func 34) #[.agg #[.int .u64 va0, .int .u64 va1, .int .u64 va2, .int .u64 va3]] #[]) rfl (by kernel_rfl) (by kernel_rfl) (by kernel_rfl) (fun _ _ _ h => h) (Or.inl ⟨by rfl, fun w2 _ => by go_simp⟩) hHeld ?_
 refine wpAnyH_take (i := 6) (v := .func (.func 34) #[.agg #[.int .u64 va0, .int .u64 va1, .int .u64 va2, .int .u64 va3]] #[]) rfl (by kernel_rfl) (by kernel_rfl) (by kernel_rfl) (fun _ _ _ h => h) (Or.inl ⟨by rfl, fun w2 _ => by go_simp⟩) hHeld ?_
 refine wpAnyH_take (i := 9) (v := .func (.func 34) #[.agg #[.int .u64 va0, .int .u64 va1, .int .u64 va2, .int .u64 va3]] #[]) rfl (by kernel_rfl) (by kernel_rfl) (by kernel_rfl) (fun _ _ _ h => h) (Or.inl ⟨by rfl, fun w2 _ => by go_simp⟩) hHeld ?_
 refine wpAnyH_ready (rs := [1]) (by kernel_rfl) (by simp) ?_
 refine AllReadyH.cons rfl (fun K hK => ?_) AllReadyH.nil
 go_simp
 go_at_call 56
 refine (cc0 _).mono ?_
 clear cc0
 rintro e w1 ⟨rfl, bel_w1⟩
 have S_w1 : Below (w.heap.size + 1) W w1 := hb0.trans (bel_w1.mono (by have := hb0.size; omega))
 go_simp
 refine hK.out _ _ S_w1 (fun h1 => ?_)
 clear hK K
 refine wpAnyH_ready (rs := [4]) (by kernel_rfl) (by simp) ?_
 refine AllReadyH.cons rfl (fun K hK => ?_) AllReadyH.nil
 go_simp
 go_at_call 57
 refine (dd1 _).mono ?_
 clear dd1
 rintro e w2 ⟨rfl, bel_w2⟩
 have S_w2 : Below (w.heap.size + 1) W w2 := S_w1.trans (bel_w2.mono (by have := S_w1.size; omega))
 go_simp
 refine hK.out _ _ S_w2 (fun h2 => ?_)
 clear hK K
 refine wpAnyH_ready (rs := [7]) (by kernel_rfl) (by simp) ?_
 refine AllReadyH.cons rfl (fun K hK => ?_) AllReadyH.nil
 go_simp
 go_at_call 57
 refine (dd2 _).mono ?_
 clear dd2
 rintro e w3 ⟨rfl, bel_w3⟩
 have S_w3 : Below (w.heap.size + 1) W w3 := S_w2.trans (bel_w3.mono (by have := S_w2.size; omega))
 go_simp
 refine hK.out _ _ S_w3 (fun h3 => ?_)
 clear hK K
 refine wpAnyH_ready (rs := [10]) (by kernel_rfl) (by simp) ?_
 refine AllReadyH.cons rfl (fun K hK => ?_) AllReadyH.nil
 go_simp
 go_at_call 57
 refine (dd3 _).mono ?_
 clear dd3
 rintro e w4 ⟨rfl, bel_w4⟩
 have S_w4 : Below (w.heap.size + 1) W w4 := S_w3.trans (bel_w4.mono (by have := S_w3.size; omega))
 go_simp
 refine hK.out _ _ S_w4 (fun h4 => ?_)
 clear hK K
 have z1 := bel_w1.size
 have z2 := bel_w2.size
 have z3 := bel_w3.size
 have zd : W.drew.heap.size = w.heap.size + 1 + 1 := hWs
 have R4 := (((R0.drew.below bel_w1 (by omega)).below bel_w2 (by omega)).below bel_w3 (by omega)).below bel_w4 (by omega)
 have ht := R4.there
 have S5 : Below (w.heap.size + 1) W (set4 w4 (w.heap.size + 1) (.int .u64 ve0) (.int .u64 ve1) (.int .u64 ve2) (.int .u64 ve3)) := below_set4' S_w4 (Nat.le_refl _) _ _ _ _
 have hbw4 : Below w.heap.size w w4 := hbW.trans (S_w4.mono (by omega))
 obtain ⟨r0, r1, r2, r3, f0, f1, f2, f3⟩ := R4
 refine wpAnyH_ready (rs := [11]) (by kernel_rfl) (by simp) ?_
 refine AllReadyH.cons rfl (fun K hK => ?_) AllReadyH.nil
 go_simp
 refine hK.out _ _ S5 (fun h5 => ?_)
 clear hK K
 refine wpAnyH_done (by kernel_rfl) ?_ _
 go_simp
 go_wp2
 (try simp only [Exit.inBlock, Exit.then])
 exact bodyPost_ret (results_set4 Tryd.results32 _ _ _ _ _ _ _ ht rfl Tryd.underlying43 rfl (by kernel_rfl)) rfl ⟨rfl, below_set4 hbw4 (by omega) _ _ _ _⟩
theorem inverse_any (x : Nat) (hx : x < pF) (w : World) :
 Calls Tryd.prog 32 #[numV x] w fun e w' => e = .returned (numV (x ^ (pF - 2) % pF)) ∧ Below w.heap.size w w' := by
 have h := inverse_pow x w
 rw [Nat.pow_one, Nat.mod_eq_of_lt hx] at h
 have e : 57896044618658097711785492504343953926634992332820282019728792003956564819947 = pF - 2 := by decide
 rw [e] at h
 exact h
end Go.Proofs.YtdgkmloabificaaDoor
namespace Go.Proofs.YtdgkmloabificaaDoor
open Go.RowKit
theorem numV_small (n : Nat) (h : n < 18446744073709551616) : (Value.agg #[.int .u64 n, .int .u64 0, .int .u64 0, .int .u64 0] : Value) = numV n :=
 numV_of n n 0 0 0 h (by decide) (by decide) (by decide) (by unfold val4; omega)
set_option maxRecDepth 20000 in
set_option maxHeartbeats 2000000 in
theorem fsmall_pos (n : Nat) (h : n ≤ 9223372036854775807) (w : World) : Calls Tryd.prog 55 #[.int .i64 n] w fun e w' => e = .returned (numV n) ∧ Below w.heap.size w w' := by
 have fin := Hid.mk' (numV_small n (by omega))
 have hni : ¬(n : Int) < 0 := by omega
 go_enter Tryd.func55, Tryd.ntmps55
 go_wp2
 (try simp only [Exit.inBlock, Exit.then])
 exact bodyPost_ret (results_fresh4 Tryd.results55 _ _ _ _ _ _ _ rfl Tryd.underlying43 rfl (by kernel_rfl)) rfl ⟨by rw [fin.out], (Below.refl _ _).alloc (Nat.le_refl _) _⟩
end Go.Proofs.YtdgkmloabificaaDoor
namespace Go.Proofs.YtdgkmloabificaaDoor
open Go.RowKit
/-- What holds under a narrower condition on the worlds holds under the wider one. -/
theorem wpAnyH_narrow {P : Program} {md : Region.Mode} {ops : Array Oper} {Q : Exit → Act → World → Prop} {S S' : World → Prop} (h : ∀ w, S' w → S w) : ∀ (fuel : Nat) (listed : Array Bool) (a : Act) (w : World), wpAnyH P md ops Q S' fuel listed a w → wpAnyH P md ops Q S fuel listed a w
 | 0, _, _, _, H => H
 | fuel + 1, _, _, _, H => ⟨H.1, fun i hi => wpOp_mono (fun a' w' h' => ⟨h w' h'.1, wpAnyH_narrow h fuel _ a' w' h'.2⟩) (H.2 i hi)⟩
end Go.Proofs.YtdgkmloabificaaDoor
namespace Go.Proofs.YtdgkmloabificaaDoor
open Go.RowKit
/-- Cells that hold these values, and may be written. -/
structure RW (w : World) (g o : Nat) (cs : List Value) : Prop where
 range : w.rangeAt g o cs
 there : w.there g o cs.length
 lt : g < w.heap.size
theorem RW.still {w w' : World} {g o : Nat} {cs : List Value} (h : RW w g o cs) (hb : Below w.heap.size w w') : RW w' g o cs :=
 ⟨fun j v hv => (hb.cell (p := ⟨g, o + j, none⟩) h.lt).trans (h.range j v hv), fun j hj => by
   rw [hb.cell (p := ⟨g, o + j, none⟩) h.lt, hb.frozen (p := ⟨g, o + j, none⟩) h.lt]; exact h.there j hj, Nat.lt_of_lt_of_le h.lt hb.size⟩
theorem RW.below {w w' : World} {g o B : Nat} {cs : List Value} (h : RW w g o cs) (hb : Below B w w') (hB : g < B) : RW w' g o cs :=
 ⟨fun j v hv => (hb.cell (p := ⟨g, o + j, none⟩) hB).trans (h.range j v hv), fun j hj => by
   rw [hb.cell (p := ⟨g, o + j, none⟩) hB, hb.frozen (p := ⟨g, o + j, none⟩) hB]; exact h.there j hj, Nat.lt_of_lt_of_le h.lt hb.size⟩
theorem RW.out {w w' : World} {g o b p n : Nat} {cs : List Value} (h : RW w g o cs) (hb : Out b p n w w') (hne : g ≠ b) : RW w' g o cs :=
 ⟨fun j v hv => (hb.cell' h.lt hne).trans (h.range j v hv), fun j hj => by
   rw [hb.cell' h.lt hne, hb.frozen' h.lt hne]; exact h.there j hj, Nat.lt_of_lt_of_le h.lt hb.size⟩
theorem RW.stored {w : World} {g o : Nat} {cs : List Value} (h : RW w g o cs) (ds : List Value) (hl : ds.length = cs.length) : RW (w.setCells g o ds) g o ds :=
 ⟨World.rangeAt_setCells_same _ _ _ _ (by rw [hl]; exact h.there), World.there_setCells (by rw [hl]; exact h.there) _ _ _, by rw [(setCells_same g ds o w).2.2.2]; exact h.lt⟩
theorem RW.far {w : World} {g o : Nat} {cs : List Value} (h : RW w g o cs) (b p : Nat) (ds : List Value) (hap : g ≠ b ∨ o + cs.length ≤ p ∨ p + ds.length ≤ o) : RW (w.setCells b p ds) g o cs :=
 ⟨World.rangeAt_setCells_apart h.range _ _ _ hap, World.there_setCells h.there _ _ _, by rw [(setCells_same b ds p w).2.2.2]; exact h.lt⟩
theorem RW.left {w : World} {g o : Nat} {cs ds : List Value} (h : RW w g o (cs ++ ds)) : RW w g o cs :=
 ⟨fun j v hv => h.range j v (by rw [List.getElem?_append_left (List.getElem?_eq_some_iff.1 hv).1]; exact hv), fun j hj => h.there j (by rw [List.length_append]; omega), h.lt⟩
theorem RW.right {w : World} {g o : Nat} {cs ds : List Value} (h : RW w g o (cs ++ ds)) : RW w g (o + cs.length) ds :=
 ⟨fun j v hv => by
   have := h.range (cs.length + j) v (by rw [List.getElem?_append_right (Nat.le_add_right _ _), Nat.add_sub_cancel_left]; exact hv)
   rw [← Nat.add_assoc] at this; exact this, fun j hj => by
   have := h.there (cs.length + j) (by rw [List.length_append]; omega)
   rw [← Nat.add_assoc] at this; exact this, h.lt⟩
theorem RW.join {w : World} {g o : Nat} {cs ds : List Value} (h : RW w g o cs) (k : RW w g (o + cs.length) ds) : RW w g o (cs ++ ds) :=
 ⟨fun j v hv => by
   by_cases hj : j < cs.length
   · exact h.range j v (by rw [List.getElem?_append_left hj] at hv; exact hv)
   · rw [List.getElem?_append_right (by omega)] at hv
     have := k.range (j - cs.length) v hv
     rw [show o + cs.length + (j - cs.length) = o + j by omega] at this; exact this, fun j hj => by
   rw [List.length_append] at hj
   by_cases hj' : j < cs.length
   · exact h.there j hj'
   · have := k.there (j - cs.length) (by omega)
     rw [show o + cs.length + (j - cs.length) = o + j by omega] at this; exact this, h.lt⟩
theorem RW.fresh (w : World) (cs : List Value) (t : TypeId) : RW (w.alloc (.cells cs.toArray t)) w.heap.size 0 cs :=
 ⟨fun j v hv => by rw [Nat.zero_add]; simp [hv], fun j hj => by
   rw [Nat.zero_add]; simp [hj], by simp⟩
theorem RW.drew {w : World} {g o : Nat} {cs : List Value} (h : RW w g o cs) : RW w.drew g o cs := h.still ((Below.refl _ _).drew)
/-- A number's cells; two numbers' (a ratio's). -/
def c4 (n : Nat) : List Value := [.int .u64 (lw n 0), .int .u64 (lw n 1), .int .u64 (lw n 2), .int .u64 (lw n 3)]
def c8 (x z : Nat) : List Value := c4 x ++ c4 z
theorem c4_zero : c4 0 = [.int .u64 0, .int .u64 0, .int .u64 0, .int .u64 0] := by kernel_rfl
/-- A new variable of four cells. -/
theorem fresh4 (w : World) : ∃ w' g, w.alloc (.cells #[.int .u64 0, .int .u64 0, .int .u64 0, .int .u64 0] 43) = w' ∧ w.heap.size = g ∧ Below w.heap.size w w' ∧ RW w' g 0 (c4 0) := by
 refine ⟨_, _, rfl, rfl, (Below.refl _ _).alloc (Nat.le_refl _) _, ?_⟩
 rw [c4_zero]; exact RW.fresh w _ _
theorem info4 : (Tryd.prog.info? 43).map (·.size) = some 4 := by kernel_rfl
theorem one4 (n : Nat) : (c4 n).toArray.all (·.oneCell') = true := by simp [c4, Value.oneCell']
end Go.Proofs.YtdgkmloabificaaDoor
namespace Go.Proofs.YtdgkmloabificaaDoor
open Go.RowKit
abbrev jD (n : Nat) : Edge := { on := n, ground := Ground.data }
abbrev jC (n : Nat) : Edge := { on := n, ground := Ground.chain }
abbrev jP (n : Nat) : Edge := { on := n, ground := Ground.phase }
abbrev jG (n : Nat) : Edge := { on := n, ground := Ground.guard }
abbrev jT (n : Nat) : Edge := { on := n, ground := Ground.textOnly Departure.lateStores }
abbrev jU (n : Nat) : Edge := { on := n, ground := Ground.textOnly Departure.lateStoresUnsure }
abbrev oN (d : Nat) (o : Op) (t : TypeId) (p : String) (a : Array Edge) : Oper := { dst := some d, op := o, type := t, pos := p, after := a, guard := none }
abbrev oS (o : Op) (p : String) (a : Array Edge) : Oper := { dst := none, op := o, type := 0, pos := p, after := a, guard := none }
abbrev cF1 (f : FuncId) (a : Array Operand) (t : Array TypeId) : Op := Op.call { callee := Callee.value (Operand.func f), args := a, argTypes := t }
abbrev oT (k : Nat) : Operand := Operand.tmp k
abbrev pA (g o : Nat) : Value := .pointer (some ⟨g, o, none⟩)
theorem pS : (∀ (a : Act) (d : Nat) (v : Value), a.put (some d) v = { a with tmps := a.tmps.setIfInBounds d v }) ∧ (∀ (l : List Value) (i : Nat) (v : Value), l.toArray.setIfInBounds i v = (l.set i v).toArray) ∧ (∀ (x : Value) (l : List Value) (v : Value), (x :: l).set 0 v = v :: l) ∧ (∀ (x : Value) (l : List Value) (n : Nat) (v : Value), (x :: l).set (n + 1) v = x :: l.set n v) :=
 ⟨fun _ _ _ => rfl, fun _ _ _ => List.setIfInBounds_toArray .., fun _ _ _ => rfl, fun _ _ _ _ => rfl⟩
section
variable {P : Program} {md : Region.Mode} {ops : Array Oper} {Q : Exit → Act → World → Prop} {S : World → Prop} {fuel : Nat} {listed : Array Bool} {a : Act} {w : World}
/-- An operation that yields its value in every such world is taken first. -/
theorem tkH (i : Nat) (oi : Oper) (v : Value) (hS : S w) (hy : YieldsIf P ops S oi v a)
 (h : wpAnyH P md ops Q S fuel (listed.setIfInBounds i true) (a.put oi.dst v) w) (hQ : ∀ c a w, Q (.panic c) (a.put oi.dst v) w → Q (.panic c) a w := by exact fun _ _ _ h => h) (hi : ops[i]? = some oi := by rfl) (hs : Region.noSelect ops = true := by kernel_rfl) (hf : Region.free md ops listed i = true := by kernel_rfl) (hr : (Region.ready md ops listed).contains i = true := by kernel_rfl) : wpAnyH P md ops Q S (fuel + 1) listed a w :=
 wpAnyH_take hi hs hf hr hQ hy hS h
theorem bR {w : World} : Below w.heap.size w w := Below.refl _ _
theorem yR {o : Oper} {v : Value} (hw : Region.wanted o (yielded ops a.tmps) = true := by rfl) (hr : ∀ w, (execOp a.eval o).run P w = .ok (.value v) w := by intro _; kernel_rfl) : YieldsIf P ops S o v a := .inl ⟨hw, fun w _ => hr w⟩
theorem ne_l {g o k : Nat} {cs : List Value} (r : RW w g o cs) (h : w.heap.size ≤ k) : g ≠ k := Nat.ne_of_lt (Nat.lt_of_lt_of_le r.lt h)
theorem ne_r {g o k : Nat} {cs : List Value} (r : RW w g o cs) (h : w.heap.size ≤ k) : k ≠ g := (ne_l r h).symm
/-- A row that is there is read. -/
theorem ldH {V : World} {o : Oper} {g off : Nat} {cs : List Value} (h : RW V g off cs) (ty k : Nat) {d : TypeDesc} (hu : P.underlying ty = some d) (hi : (P.info? ty).map (·.size) = some cs.length) (hd : d.isRow = true := by rfl) (hw : Region.wanted o (yielded ops a.tmps) = true := by rfl) (ho : o.op = .load ty (.tmp k) := by rfl) (hx : a.eval (.tmp k) = .pointer (some ⟨g, off, none⟩) := by rfl) : YieldsIf P ops (fun w' => Below V.heap.size V w') o (.agg cs.toArray) a :=
 yieldsIf_load_mid hw ty _ ho g off hx cs d (fun _ hb => (h.still hb).range) hu hd hi
theorem ldO {V : World} {o : Oper} {g off b p n : Nat} {cs : List Value} (h : RW V g off cs) (hne : g ≠ b) (ty k : Nat) {d : TypeDesc} (hu : P.underlying ty = some d) (hi : (P.info? ty).map (·.size) = some cs.length) (hd : d.isRow = true := by rfl) (hw : Region.wanted o (yielded ops a.tmps) = true := by rfl) (ho : o.op = .load ty (.tmp k) := by rfl) (hx : a.eval (.tmp k) = .pointer (some ⟨g, off, none⟩) := by rfl) : YieldsIf P ops (fun w' => Out b p n V w') o (.agg cs.toArray) a :=
 yieldsIf_load_mid hw ty _ ho g off hx cs d (fun _ hb => (h.out hb hne).range) hu hd hi
/-- A call, by its contract, as one of those that may come up. -/
theorem arC {i : Nat} {rs : List Nat} (oi : Oper) {f : FuncId} {args : Array Value} {R : Ending → World → Prop} (c : Calls P f args w R) (h : ∀ e w', R e w' → ∃ r, e = .returned r ∧ S w' ∧ wpAnyH P md ops Q S fuel (listed.setIfInBounds i true) (a.put oi.dst r) w') (hs : AllReadyH P md ops Q S fuel listed a w rs)
 (hi : ops[i]? = some oi := by rfl) (hw : Region.wanted oi (yielded ops a.tmps) = true := by rfl) (hrun : (execOp a.eval oi).run P w = .ok (.enter f args) w := by kernel_rfl) : AllReadyH P md ops Q S fuel listed a w (i :: rs) := by
 refine AllReadyH.cons hi (fun K hK => ?_) hs
 rw [if_pos hw]
 unfold Oper.wp
 rw [hrun, Oper.upon_enter]
 refine c.mono fun e w' hR => ?_
 obtain ⟨r, rfl, hS, hk⟩ := h e w' hR
 exact hK.out _ _ hS (fun _ => hk)
/-- The only one that may come up is a call. -/
theorem callH (i : Nat) (oi : Oper) {f : FuncId} {args : Array Value} {R : Ending → World → Prop} (c : Calls P f args w R) (h : ∀ e w', R e w' → ∃ r, e = .returned r ∧ S w' ∧ wpAnyH P md ops Q S fuel (listed.setIfInBounds i true) (a.put oi.dst r) w')
 (hr : Region.ready md ops listed = [i] := by kernel_rfl) (hi : ops[i]? = some oi := by rfl) (hw : Region.wanted oi (yielded ops a.tmps) = true := by rfl) (hrun : (execOp a.eval oi).run P w = .ok (.enter f args) w := by kernel_rfl) : wpAnyH P md ops Q S (fuel + 1) listed a w :=
 wpAnyH_ready hr (by simp) (arC oi c h AllReadyH.nil hi hw hrun)
/-- And what it makes may be read behind it. -/
theorem callN (i : Nat) (oi : Oper) {f : FuncId} {args : Array Value} {R : Ending → World → Prop} (c : Calls P f args w R) (h : ∀ e w', R e w' → ∃ r, e = .returned r ∧ Below w.heap.size w w' ∧ wpAnyH P md ops Q (fun u => Below w'.heap.size w' u) fuel (listed.setIfInBounds i true) (a.put oi.dst r) w')
 (hr : Region.ready md ops listed = [i] := by kernel_rfl) (hi : ops[i]? = some oi := by rfl) (hw : Region.wanted oi (yielded ops a.tmps) = true := by rfl) (hrun : (execOp a.eval oi).run P w = .ok (.enter f args) w := by kernel_rfl) : wpAnyH P md ops Q (fun u => Below w.heap.size w u) (fuel + 1) listed a w :=
 callH i oi c (fun e w' hR => by
  obtain ⟨r, he, hb, hk⟩ := h e w' hR
  exact ⟨r, he, hb, wpAnyH_narrow (fun _ hu => below_next hb hu) _ _ _ _ hk⟩) hr hi hw hrun
/-- A new variable. -/
theorem arA {i : Nat} {rs : List Nat} (oi : Oper) {cs : Array Value} {t : TypeId} (h : S (w.alloc (.cells cs t)) ∧ wpAnyH P md ops Q S fuel (listed.setIfInBounds i true) (a.put oi.dst (pA w.heap.size 0)) (w.alloc (.cells cs t))) (hs : AllReadyH P md ops Q S fuel listed a w rs)
 (hrun : (execOp a.eval oi).run P w = .ok (.value (pA w.heap.size 0)) (w.alloc (.cells cs t)) := by kernel_rfl) (hi : ops[i]? = some oi := by rfl) (hw : Region.wanted oi (yielded ops a.tmps) = true := by rfl) : AllReadyH P md ops Q S fuel listed a w (i :: rs) := by
 refine AllReadyH.cons hi (fun K hK => ?_) hs
 rw [if_pos hw]
 unfold Oper.wp
 rw [hrun, Oper.upon_value]
 exact hK.out _ _ h.1 (fun _ => h.2)
theorem dag_root (h : ∀ G : Nat → Array Bool → Act → World → Prop, G = wpAnyH P md ops Q S → G fuel listed a w) : wpAnyH P md ops Q S fuel listed a w := h _ rfl
theorem dagW {G : Nat → Array Bool → Act → World → Prop} (hG : Hid (G = wpAnyH P md ops Q S)) {f : Nat} {l : Array Bool} {b : Act} (h : G f l b w) (hb : b = a) (hf : f = fuel := by kernel_rfl) (hl : l = listed := by kernel_rfl) : wpAnyH P md ops Q S fuel listed a w := by
 subst hf; subst hl; subst hb; rw [← hG.out]; exact h
end
end Go.Proofs.YtdgkmloabificaaDoor
namespace Go.Proofs.YtdgkmloabificaaDoor
open Go.RowKit
def fadd (a b : Nat) : Nat := (a + b) % pF
def fsub (a b : Nat) : Nat := (a + pF - b) % pF
def fmul (a b : Nat) : Nat := a * b % pF
def finv (a : Nat) : Nat := a ^ (pF - 2) % pF
theorem fadd_lt (a b : Nat) : fadd a b < pF := Nat.mod_lt _ (by decide)
theorem fsub_lt (a b : Nat) : fsub a b < pF := Nat.mod_lt _ (by decide)
theorem fmul_lt (a b : Nat) : fmul a b < pF := Nat.mod_lt _ (by decide)
theorem finv_lt (a : Nat) : finv a < pF := Nat.mod_lt _ (by decide)
/-- As Rep, with a wider lowest limb. -/
structure Rw (L : Nat → Int) (x : Nat) : Prop where
 dig : Dig 65725 L
 val : valR L 16 % (pF : Int) = ((x % pF : Nat) : Int)
theorem Rep.wide {L : Nat → Int} {x : Nat} (h : Rep L x) : Rw L x := ⟨h.dig.mono (by decide), h.val⟩
theorem Rw.bd {L : Nat → Int} {x : Nat} (h : Rw L x) : ∀ j, j < 16 → -131072 ≤ L j ∧ L j ≤ 131072 := fun j hj => by have := h.dig.all (by decide) j hj; omega
/-- A number's cells. -/
def i16 (L : Nat → Int) : List Value := intsI 16 L
theorem i16_len (L : Nat → Int) : (i16 L).length = 16 := intsI_len 16 L
end Go.Proofs.YtdgkmloabificaaDoor
namespace Go.Proofs.YtdgkmloabificaaDoor
open Go.RowKit
theorem Rep.far {L : Nat → Int} {x : Nat} (h : Rep L x) : ∀ j, j < 16 → -1073741824 ≤ L j ∧ L j ≤ 1073741824 := fun j hj => by have := h.bd j hj; omega
theorem Rw.far {L : Nat → Int} {x : Nat} (h : Rw L x) : ∀ j, j < 16 → -1073741824 ≤ L j ∧ L j ≤ 1073741824 := fun j hj => by have := h.bd j hj; omega
end Go.Proofs.YtdgkmloabificaaDoor
namespace Go.Proofs.YtdgkmloabificaaDoor
open Go.RowKit
theorem fresh4' (w : World) : RW (w.alloc (.cells #[.int .u64 0, .int .u64 0, .int .u64 0, .int .u64 0] 43)) w.heap.size 0 (c4 0) := by
 rw [c4_zero]; exact RW.fresh w _ _
theorem num_store {o : Oper} {a : Act} {cur V : World} {K : Act → World → Prop} {Q : Exit → Act → World → Prop} (x y : Operand) (ho : o.op = .store 43 x y) (g m n : Nat) (hx : a.eval x = .pointer (some ⟨g, 0, none⟩)) (hy : a.eval y = numV n) (r : RW cur g 0 (c4 m)) (S : Below V.heap.size V cur) (G : V.heap.size ≤ g)
 (h : ∀ W1, RW W1 g 0 (c4 n) → Below V.heap.size V W1 → (∀ b p cs, b ≠ g → RW cur b p cs → RW W1 b p cs) → K (a.put o.dst undef) W1) : o.wp Tryd.prog a cur K Q :=
 wp_store_mid 43 x y ho g 0 (c4 n).toArray hx hy r.there info4 (one4 n) (h _ (r.stored (c4 n) rfl) (below_setCells G _ _ _ S) (fun _ _ _ hne hr => hr.far g 0 (c4 n) (.inl hne)))
section
variable {md : Region.Mode} {ops : Array Oper} {Q : Exit → Act → World → Prop} {fuel : Nat} {listed : Array Bool} {a : Act} {w V : World}
/-- A new number as one of those that may come up. -/
theorem arN {i : Nat} {rs : List Nat} (oi : Oper) (hS : Below V.heap.size V w) (h : ∀ w1 g, V.heap.size ≤ g → w.heap.size ≤ g → Below w.heap.size w w1 → RW w1 g 0 (c4 0) → Below V.heap.size V w1 → wpAnyH Tryd.prog md ops Q (fun u => Below V.heap.size V u) fuel (listed.setIfInBounds i true) (a.put oi.dst (pA g 0)) w1) (hs : AllReadyH Tryd.prog md ops Q (fun u => Below V.heap.size V u) fuel listed a w rs)
 (hrun : (execOp a.eval oi).run Tryd.prog w = .ok (.value (pA w.heap.size 0)) (w.alloc (.cells #[.int .u64 0, .int .u64 0, .int .u64 0, .int .u64 0] 43)) := by kernel_rfl) (hi : ops[i]? = some oi := by rfl) (hw : Region.wanted oi (yielded ops a.tmps) = true := by rfl) : AllReadyH Tryd.prog md ops Q (fun u => Below V.heap.size V u) fuel listed a w (i :: rs) :=
 have hb : Below w.heap.size w (w.alloc (.cells #[.int .u64 0, .int .u64 0, .int .u64 0, .int .u64 0] 43)) := bR.alloc (Nat.le_refl _) _
 arA oi ⟨below_next hS hb, h _ _ hS.size (Nat.le_refl _) hb (fresh4' w) (below_next hS hb)⟩ hs hrun hi hw
/-- A store into a new number. -/
theorem arS {i : Nat} {rs : List Nat} (oi : Oper) (x y : Nat) {g m : Nat} (n : Nat) (r : RW w g 0 (c4 m)) (hS : Below V.heap.size V w) (G : V.heap.size ≤ g) (h : ∀ w1, RW w1 g 0 (c4 n) → Below V.heap.size V w1 → (∀ b p cs, b ≠ g → RW w b p cs → RW w1 b p cs) → wpAnyH Tryd.prog md ops Q (fun u => Below V.heap.size V u) fuel (listed.setIfInBounds i true) (a.put oi.dst undef) w1) (hs : AllReadyH Tryd.prog md ops Q (fun u => Below V.heap.size V u) fuel listed a w rs)
 (ho : oi.op = .store 43 (.tmp x) (.tmp y) := by rfl) (hx : a.eval (.tmp x) = .pointer (some ⟨g, 0, none⟩) := by rfl) (hy : a.eval (.tmp y) = numV n := by rfl) (hi : ops[i]? = some oi := by rfl) (hw : Region.wanted oi (yielded ops a.tmps) = true := by rfl) : AllReadyH Tryd.prog md ops Q (fun u => Below V.heap.size V u) fuel listed a w (i :: rs) := by
 refine AllReadyH.cons hi (fun K hK => ?_) hs
 rw [if_pos hw]
 exact num_store _ _ ho g m n hx hy r hS G (fun w1 r1 hS1 far => hK.out _ _ hS1 (fun _ => h w1 r1 hS1 far))
theorem ldN {o : Oper} {g off n : Nat} (h : RW V g off (c4 n)) (k : Nat) (hw : Region.wanted o (yielded ops a.tmps) = true := by rfl) (ho : o.op = .load 43 (.tmp k) := by rfl) (hx : a.eval (.tmp k) = .pointer (some ⟨g, off, none⟩) := by rfl) : YieldsIf Tryd.prog ops (fun w' => Below V.heap.size V w') o (numV n) a :=
 ldH h 43 k Tryd.underlying43 info4 rfl hw ho hx
end
theorem fresh4t (w : World) (n : Nat) : (w.alloc (.cells #[.int .u64 0, .int .u64 0, .int .u64 0, .int .u64 0] 43)).there w.heap.size 0 (c4 n).toArray.size := (fresh4' w).there
theorem info4a (n : Nat) : (Tryd.prog.info? 43).map (·.size) = some (c4 n).toArray.size := info4
theorem lw_inj {a b : Nat} (ha : a < pF) (hb : b < pF) (h0 : lw a 0 = lw b 0) (h1 : lw a 1 = lw b 1) (h2 : lw a 2 = lw b 2) (h3 : lw a 3 = lw b 3) : a = b := by
 unfold lw at *
 unfold pF at *
 simp only [Nat.pow_zero, Nat.div_one, Nat.pow_one] at *
 omega
theorem run_isAgg_int {P : Program} (w : World) (e : Nat) (k : IntKind) (he : P.underlying e = some (.int k)) : (isAgg e).run P w = .ok false w := by
 simp [isAgg, run_underlying he]
theorem run_eq4 {P : Program} (w : World) (d t e : Nat) (k : IntKind) (ht : P.underlying t = some (.array 4 e)) (he : P.underlying e = some (.int k)) (hs : (sizeOf e).run P w = .ok 1 w) (a0 a1 a2 a3 b0 b1 b2 b3 : Int) :
 (Op.equalIn (d + 2) t (.agg #[.int k a0, .int k a1, .int k a2, .int k a3]) (.agg #[.int k b0, .int k b1, .int k b2, .int k b3])).run P w = .ok (a0 == b0 && a1 == b1 && a2 == b2 && a3 == b3) w := by
 rw [Op.equalIn]
 simp only [Sem.run_bind, run_underlying ht, Result.andThen_ok, hs]
 have hp : ∀ (xs : Array Value) (i : Nat) (v : Value), xs[i]? = some v → (part e xs i).run P w = .ok v w := fun xs i v h => by
  simp [part, run_isAgg_int w e k he, h]
 simp only [Std.Legacy.Range.forIn_eq_forIn_range', Std.Legacy.Range.size]
 simp [List.range', hp, run_equalIn_int w d e k k _ _ he]
 cases h0 : (a0 == b0) <;> cases h1 : (a1 == b1) <;> cases h2 : (a2 == b2) <;> cases h3 : (a3 == b3) <;> simp_all
theorem part_num (w : World) (x0 x1 x2 x3 : Value) : (part 41 #[x0, x1, x2, x3] 0).run Tryd.prog w = .ok (.agg #[x0, x1, x2, x3]) w := by kernel_rfl
theorem eq_num (w : World) {a b : Nat} (ha : a < pF) (hb : b < pF) : (Op.equalIn 10000 43 (numV a) (numV b)).run Tryd.prog w = .ok (decide (a = b)) w := by
 unfold numV
 rw [show (10000 : Nat) = 9999 + 1 from rfl, run_equalIn_agg w 9999 43 _ _ (by kernel_rfl) (by kernel_rfl)]
 simp only [Program.fieldsOf, Tryd.underlying43, Op.eqFields]
 rw [if_pos (by decide)]
 simp only [Sem.run_bind]
 rw [part_num]
 simp only [Result.andThen_ok]
 rw [part_num]
 simp only [Result.andThen_ok]
 rw [show (9999 : Nat) = 9997 + 2 from rfl, run_eq4 w 9997 41 39 .u64 (by kernel_rfl) (by kernel_rfl) (by kernel_rfl)]
 simp only [Result.andThen_ok]
 by_cases h : a = b
 · subst h
   simp
 · have hn : ((lw a 0 : Int) == (lw b 0 : Int) && (lw a 1 : Int) == (lw b 1 : Int) && (lw a 2 : Int) == (lw b 2 : Int) && (lw a 3 : Int) == (lw b 3 : Int)) = false := by
    rcases Bool.eq_false_or_eq_true ((lw a 0 : Int) == (lw b 0 : Int) && (lw a 1 : Int) == (lw b 1 : Int) && (lw a 2 : Int) == (lw b 2 : Int) && (lw a 3 : Int) == (lw b 3 : Int)) with e | e
    · exfalso
      simp only [Bool.and_eq_true, beq_iff_eq] at e
      exact h (lw_inj ha hb (by omega) (by omega) (by omega) (by omega))
    · exact e
   rw [hn, decide_eq_false h]
   simp
theorem exec_neq (w : World) {a b : Nat} (ha : a < pF) (hb : b < pF) (x y : Operand) : (do eqGuard .neq 43 x y (numV a) (numV b); binOp .neq 43 (numV a) (numV b) : Sem Value).run Tryd.prog w = .ok (.bool (!decide (a = b))) w := by
 rw [Sem.run_bind, show (eqGuard .neq 43 x y (numV a) (numV b)).run Tryd.prog w = .ok () w from run_eqGuard_agg w .neq 43 x y _ _ (by kernel_rfl)]
 simp only [Result.andThen_ok]
 rw [show (binOp .neq 43 (numV a) (numV b)).run Tryd.prog w = ((Op.equalIn 10000 43 (numV a) (numV b)).run Tryd.prog w).andThen fun b w' => .ok (.bool (!b)) w' from run_neq_struct w 43 _ _, eq_num w ha hb]
 rfl
theorem wpList_neq {ops : Array Oper} {rest : List Oper} {op : Oper} {a : Act} {w : World} {Q : Exit → Act → World → Prop} (hgd : op.guard = none) (x y : Operand) (t2 : TypeId) (ho : op.op = .binOp .neq 43 x y t2) (m n : Nat) (hm : m < pF) (hn : n < pF)
 (hx : a.eval x = numV m) (hy : a.eval y = numV n) (z : Bool) (hz : decide (m = n) = z) (h : wpList Tryd.prog ops Q rest (a.put op.dst (.bool (!z))) w) : wpList Tryd.prog ops Q (op :: rest) a w :=
 wpList_plain hgd fun K hK => by
  unfold Oper.wp execOp
  simp only [ho, hx, hy]
  rw [Sem.run_bind, exec_neq w hm hn, hz]
  exact hK _ _ h
theorem yields_neq {ops : Array Oper} {S : World → Prop} {o : Oper} {a : Act} (hw : Region.wanted o (yielded ops a.tmps) = true) (x y : Operand) (t2 : TypeId) (ho : o.op = .binOp .neq 43 x y t2) (m n : Nat) (hm : m < pF) (hn : n < pF)
 (hx : a.eval x = numV m) (hy : a.eval y = numV n) (z : Bool) (hz : decide (m = n) = z) : YieldsIf Tryd.prog ops S o (.bool (!z)) a := by
 refine .inl ⟨hw, fun w _ => ?_⟩
 unfold execOp
 simp only [ho, hx, hy]
 rw [Sem.run_bind, exec_neq w hm hn, hz]
 rfl
end Go.Proofs.YtdgkmloabificaaDoor
namespace Go.Proofs.YtdgkmloabificaaDoor
/-- A prime number. -/
def Prm (n : Nat) : Prop := 2 ≤ n ∧ ∀ d, d ∣ n → d = 1 ∨ d = n
theorem Prm.pos {n : Nat} (h : Prm n) : 0 < n := Nat.lt_of_lt_of_le (by decide) h.1
/-- Each number above 1 has a prime factor. -/
theorem prime_factor : ∀ n, 2 ≤ n → ∃ q, Prm q ∧ q ∣ n := by
 intro n
 induction n using Nat.strongRecOn with
 | _ n ih =>
  intro hn
  by_cases h : Prm n
  · exact ⟨n, h, Nat.dvd_refl n⟩
  · have : ∃ d, d ∣ n ∧ d ≠ 1 ∧ d ≠ n := by
     apply Classical.byContradiction
     intro hc
     refine h ⟨hn, fun d hd => ?_⟩
     by_cases e1 : d = 1
     · exact .inl e1
     · by_cases e2 : d = n
       · exact .inr e2
       · exact absurd ⟨d, hd, e1, e2⟩ hc
    obtain ⟨d, hd, h1, h2⟩ := this
    have hle := Nat.le_of_dvd (by omega) hd
    have h0 : d ≠ 0 := fun e => by rw [e] at hd; have := Nat.eq_zero_of_zero_dvd hd; omega
    obtain ⟨q, hq, hqd⟩ := ih d (by omega) (by omega)
    exact ⟨q, hq, Nat.dvd_trans hqd hd⟩
theorem Prm.gcd {p : Nat} (h : Prm p) {a : Nat} (ha : ¬p ∣ a) : Nat.gcd p a = 1 := by
 rcases h.2 _ (Nat.gcd_dvd_left p a) with e | e
 · exact e
 · exact absurd (e ▸ Nat.gcd_dvd_right p a) ha
/-- Euclid. -/
theorem Prm.euclid {p : Nat} (h : Prm p) {a b : Nat} (hab : p ∣ a * b) : p ∣ a ∨ p ∣ b := by
 by_cases ha : p ∣ a
 · exact .inl ha
 · exact .inr (Nat.Coprime.dvd_of_dvd_mul_left (h.gcd ha) hab)
/-- So many out of so many. -/
def cho : Nat → Nat → Nat
 | _, 0 => 1
 | 0, _ + 1 => 0
 | n + 1, k + 1 => cho n k + cho n (k + 1)
theorem cho_zero (n : Nat) : cho n 0 = 1 := by cases n <;> rfl
theorem cho_big : ∀ n k, n < k → cho n k = 0
 | 0, k + 1, _ => rfl
 | n + 1, k + 1, h => by rw [cho, cho_big n k (by omega), cho_big n (k + 1) (by omega)]
theorem cho_self : ∀ n, cho n n = 1
 | 0 => rfl
 | n + 1 => by rw [cho, cho_self n, cho_big n (n + 1) (by omega)]
theorem cho_mul : ∀ n k, (k + 1) * cho (n + 1) (k + 1) = (n + 1) * cho n k
 | 0, 0 => rfl
 | 0, k + 1 => by rw [cho, cho, cho]; rfl
 | n + 1, 0 => by
  have h := cho_mul n 0
  rw [cho_zero] at h ⊢
  rw [cho, cho_zero]
  omega
 | n + 1, k + 1 => by
  have h1 := cho_mul n k
  have h2 := cho_mul n (k + 1)
  have e1 : cho (n + 2) (k + 2) = cho (n + 1) (k + 1) + cho (n + 1) (k + 2) := rfl
  have e2 : cho (n + 1) (k + 1) = cho n k + cho n (k + 1) := rfl
  rw [show n + 1 + 1 = n + 2 from rfl, show k + 1 + 1 = k + 2 from rfl] at *
  have e3 : (k + 2) * cho (n + 1) (k + 1) = (n + 1) * cho n k + cho (n + 1) (k + 1) := by
   rw [show k + 2 = (k + 1) + 1 from rfl, Nat.succ_mul, h1]
  have e4 : (n + 1) * cho (n + 1) (k + 1) = (n + 1) * cho n k + (n + 1) * cho n (k + 1) := by rw [e2, Nat.mul_add]
  have e5 : (n + 2) * cho (n + 1) (k + 1) = (n + 1) * cho (n + 1) (k + 1) + cho (n + 1) (k + 1) := Nat.succ_mul _ _
  rw [e1, Nat.mul_add, h2, e3, e5, e4]
  omega
/-- The sum of the first m terms of (a + 1)^n. -/
def bin (a n : Nat) : Nat → Nat
 | 0 => 0
 | m + 1 => bin a n m + cho n m * a ^ m
theorem bin_step (a n : Nat) : ∀ m, bin a (n + 1) (m + 1) = bin a n (m + 1) + a * bin a n m
 | 0 => by simp [bin, cho_zero]
 | m + 1 => by
  rw [bin, bin_step a n m]
  have e : cho (n + 1) (m + 1) = cho n m + cho n (m + 1) := rfl
  rw [e, Nat.add_mul]
  have h1 : bin a n (m + 1 + 1) = bin a n (m + 1) + cho n (m + 1) * a ^ (m + 1) := rfl
  have h2 : bin a n (m + 1) = bin a n m + cho n m * a ^ m := rfl
  rw [h1, h2, Nat.mul_add, Nat.pow_succ]
  have e2 : a * (cho n m * a ^ m) = cho n m * (a ^ m * a) := by rw [Nat.mul_comm a, Nat.mul_assoc]
  rw [e2]; omega
theorem bin_pow (a : Nat) : ∀ n, bin a n (n + 1) = (a + 1) ^ n
 | 0 => by simp [bin, cho_zero]
 | n + 1 => by
  rw [bin_step]
  have h1 : bin a n (n + 1 + 1) = bin a n (n + 1) + cho n (n + 1) * a ^ (n + 1) := rfl
  rw [h1, cho_big n (n + 1) (by omega), Nat.zero_mul, Nat.add_zero, bin_pow a n, Nat.pow_succ, Nat.mul_comm _ (a + 1), Nat.succ_mul, Nat.add_comm]
theorem bin_mod {p : Nat} (h : Prm p) (a : Nat) : ∀ m, m + 1 ≤ p → bin a p (m + 1) % p = 1 % p
 | 0, _ => by simp [bin, cho_zero]
 | m + 1, hm => by
  have ih := bin_mod h a m (by omega)
  have hd : p ∣ cho p (m + 1) := by
   obtain ⟨n, rfl⟩ : ∃ n, p = n + 1 := ⟨p - 1, by have := h.pos; omega⟩
   have e := cho_mul n m
   have : n + 1 ∣ (m + 1) * cho (n + 1) (m + 1) := ⟨_, e⟩
   rcases h.euclid this with h1 | h1
   · have := Nat.le_of_dvd (by omega) h1; omega
   · exact h1
  have e : bin a p (m + 1 + 1) = bin a p (m + 1) + cho p (m + 1) * a ^ (m + 1) := rfl
  obtain ⟨c, hc⟩ := hd
  rw [e, hc, Nat.mul_assoc, Nat.add_mul_mod_self_left, ih]
/-- Fermat. -/
theorem Prm.fermat {p : Nat} (h : Prm p) : ∀ a, a ^ p % p = a % p
 | 0 => by rw [Nat.zero_pow h.pos]
 | a + 1 => by
  have e1 := bin_pow a p
  have e2 : bin a p (p + 1) = bin a p p + cho p p * a ^ p := rfl
  obtain ⟨n, hn⟩ : ∃ n, p = n + 1 := ⟨p - 1, by have := h.pos; omega⟩
  have e3 := bin_mod h a n (by omega)
  rw [← hn] at e3
  rw [← e1, e2, cho_self, Nat.one_mul, Nat.add_mod, e3, h.fermat a, ← Nat.add_mod, Nat.add_comm]
theorem Prm.fermat1 {p : Nat} (h : Prm p) {a : Nat} (ha : ¬p ∣ a) : a ^ (p - 1) % p = 1 % p := by
 have h1 := h.fermat a
 have hp := h.pos
 obtain ⟨n, rfl⟩ : ∃ n, p = n + 1 := ⟨p - 1, by omega⟩
 rw [Nat.pow_succ] at h1
 rw [Nat.add_sub_cancel]
 have key : ∀ x, (x * a) % (n + 1) = a % (n + 1) → x % (n + 1) = 1 % (n + 1) := by
  intro x hx
  have hd : n + 1 ∣ ((x : Int) * a - a).natAbs := by
   have : ((n + 1 : Nat) : Int) ∣ (x : Int) * a - a := by
    apply Int.dvd_of_emod_eq_zero
    rw [Int.sub_emod, ← Int.natCast_mul, ← Int.natCast_emod, ← Int.natCast_emod, hx, Int.sub_self, Int.zero_emod]
   exact Int.ofNat_dvd_left.1 this
  have e : ((x : Int) * a - a) = ((x : Int) - 1) * a := by rw [Int.sub_mul, Int.one_mul]
  rw [e, Int.natAbs_mul, Int.natAbs_natCast] at hd
  rcases h.euclid hd with h2 | h2
  · have h3 : ((n + 1 : Nat) : Int) ∣ (x : Int) - 1 := Int.ofNat_dvd_left.2 h2
    have h4 := Int.emod_eq_zero_of_dvd h3
    have h5 := (Int.emod_eq_emod_iff_emod_sub_eq_zero (m := (x : Int)) (n := ((n + 1 : Nat) : Int)) (k := 1)).2 h4
    have h6 : (((x % (n + 1) : Nat) : Int)) = ((1 % (n + 1) : Nat) : Int) := by
     rw [Int.natCast_emod, Int.natCast_emod]; exact h5
    exact Int.ofNat_inj.1 h6
  · exact absurd h2 ha
 exact key _ h1
/-- Powers mod N, bit by bit. -/
def pm (N a : Nat) : Nat → Nat → Nat
 | 0, _ => 1 % N
 | k + 1, e => pm N a k (e / 2) ^ 2 % N * a ^ (e % 2) % N
theorem pm_eq (N a : Nat) : ∀ k e, e < 2 ^ k → pm N a k e = a ^ e % N
 | 0, e, h => by
  have : e = 0 := by simpa using h
  rw [this, pm, Nat.pow_zero]
 | k + 1, e, h => by
  rw [pm, pm_eq N a k (e / 2) (by rw [Nat.pow_succ] at h; omega), ← Nat.pow_mod, ← Nat.pow_mul, Nat.mul_mod, Nat.mod_mod, ← Nat.mul_mod, ← Nat.pow_add]
  congr 2; omega
theorem pow_gcd (a s : Nat) (m n : Nat) : a ^ m % s = 1 % s → a ^ n % s = 1 % s → a ^ (Nat.gcd m n) % s = 1 % s := by
 induction m, n using Nat.gcd.induction with
 | H0 n => intro _ h; rw [Nat.gcd_zero_left]; exact h
 | H1 m n hm ih =>
  intro h1 h2
  rw [Nat.gcd_rec]
  refine ih ?_ h1
  have e : a ^ n = (a ^ m) ^ (n / m) * a ^ (n % m) := by rw [← Nat.pow_mul, ← Nat.pow_add, Nat.div_add_mod]
  rw [e, Nat.mul_mod, Nat.pow_mod, h1, ← Nat.pow_mod, Nat.one_pow, ← Nat.mul_mod, Nat.one_mul] at h2
  exact h2
/-- A number with a prime factor f of what is below it, large enough, is prime. -/
theorem pock {N f Q a : Nat} (hf : Prm f) (hN : N = f * Q + 1) (hQ : 0 < Q) (h1 : a ^ (N - 1) % N = 1) (h2 : Nat.gcd (a ^ Q % N + N - 1) N = 1) (hs : Q / f + 1 < Q % f) : Prm N := by
 have hfp := hf.pos
 have hf2 := hf.1
 have hNp : 2 ≤ N := by
  have : 1 ≤ f * Q := Nat.mul_pos hfp hQ
  omega
 have hN1 : N - 1 = f * Q := by omega
 have step : ∀ q, Prm q → q ∣ N → f ∣ q - 1 := fun q hq hqN => by
  apply Classical.byContradiction
  intro hnd
  have hq1 : 1 % q = 1 := Nat.mod_eq_of_lt hq.1
  have e1 : a ^ (N - 1) % q = 1 % q := by rw [← Nat.mod_mod_of_dvd (a ^ (N - 1)) hqN, h1]
  have hqa : ¬q ∣ a := fun hd => by
   have hd2 : q ∣ a ^ (N - 1) := Nat.dvd_trans hd (by
    obtain ⟨k, hk⟩ : ∃ k, N - 1 = k + 1 := ⟨N - 2, by omega⟩
    rw [hk, Nat.pow_succ]; exact Nat.dvd_mul_left _ _)
   rw [Nat.mod_eq_zero_of_dvd hd2, hq1] at e1
   omega
  have e2 := hq.fermat1 hqa
  have e3 := pow_gcd a q _ _ e1 e2
  have hg1 := Nat.gcd_dvd_left (N - 1) (q - 1)
  have hg2 := Nat.gcd_dvd_right (N - 1) (q - 1)
  generalize Nat.gcd (N - 1) (q - 1) = g at *
  have hfg : ¬f ∣ g := fun h => hnd (Nat.dvd_trans h hg2)
  rw [hN1] at hg1
  have hgQ : g ∣ Q := Nat.Coprime.dvd_of_dvd_mul_left (Nat.Coprime.symm (hf.gcd hfg)) hg1
  obtain ⟨c, hc⟩ := hgQ
  have e4 : a ^ Q % q = 1 := by rw [hc, Nat.pow_mul, Nat.pow_mod, e3, ← Nat.pow_mod, Nat.one_pow, hq1]
  have e5 : a ^ Q % N % q = 1 := by rw [Nat.mod_mod_of_dvd _ hqN, e4]
  have hd : q ∣ a ^ Q % N + N - 1 := by
   generalize a ^ Q % N = y at e5
   obtain ⟨n, hn⟩ := hqN
   have hy : y = q * (y / q) + 1 := by have := Nat.div_add_mod y q; omega
   refine ⟨y / q + n, ?_⟩
   rw [Nat.mul_add, ← hn]
   omega
  have := Nat.dvd_gcd hd hqN
  rw [h2] at this
  have := Nat.le_of_dvd (by decide) this
  have := hq.1
  omega
 obtain ⟨q, hq, hqN⟩ := prime_factor N hNp
 by_cases e : q = N
 · rw [← e]; exact hq
 · exfalso
   obtain ⟨t, ht⟩ := hqN
   obtain ⟨x, hx⟩ := step q hq ⟨t, ht⟩
   have hq2 := hq.1
   have hqe : q = f * x + 1 := by omega
   have hx0 : 0 < x := by
    apply Nat.pos_of_ne_zero
    intro h0; rw [h0, Nat.mul_zero] at hqe; omega
   have e1 : f * Q + 1 = (f * x + 1) * t := by rw [← hqe, ← ht, hN]
   have e2 : f * Q + 1 = f * (x * t) + t := by rw [e1, Nat.add_mul, Nat.one_mul, Nat.mul_assoc]
   have ht0 : 0 < t := by
    apply Nat.pos_of_ne_zero
    intro h0; rw [h0, Nat.mul_zero] at ht; omega
   have hft : f ∣ t - 1 := by
    have h3 : f * Q = f * (x * t) + (t - 1) := by omega
    have : f ∣ f * (x * t) + (t - 1) := ⟨Q, h3.symm⟩
    exact (Nat.dvd_add_right (Nat.dvd_mul_right f _)).1 this
   obtain ⟨y, hy⟩ := hft
   have hte : t = f * y + 1 := by omega
   have hy0 : 0 < y := by
    apply Nat.pos_of_ne_zero
    intro h0; rw [h0, Nat.mul_zero] at hte
    rw [hte, Nat.mul_one] at ht
    exact e ht.symm
   have h3 : f * Q = f * (x * t) + f * y := by omega
   have h4 : Q = x * t + y := Nat.eq_of_mul_eq_mul_left hfp (by rw [h3, Nat.mul_add])
   have h5 : Q = f * (x * y) + (x + y) := by
    rw [h4, hte, Nat.mul_add, Nat.mul_one, Nat.mul_left_comm, Nat.add_assoc]
   have h6 : x + y ≤ x * y + 1 := by
    obtain ⟨u, rfl⟩ : ∃ u, x = u + 1 := ⟨x - 1, by omega⟩
    obtain ⟨v, rfl⟩ : ∃ v, y = v + 1 := ⟨y - 1, by omega⟩
    rw [Nat.add_mul, Nat.mul_add]
    omega
   have h7 : x * y ≤ Q / f := by
    rw [Nat.le_div_iff_mul_le hfp, Nat.mul_comm, h5]
    exact Nat.le_add_right _ _
   have h8 : Q % f < f := Nat.mod_lt _ hfp
   have h9 : Q % f = x + y := by
    rw [h5, Nat.mul_add_mod, Nat.mod_eq_of_lt (by omega)]
   omega
theorem prime_trial (n k : Nat) (hn : 2 ≤ n) (hk : n < k * k) (h : (List.range k).all (fun d => decide (d < 2) || decide (n % d ≠ 0)) = true) : Prm n := by
 obtain ⟨q, hq, hqn⟩ := prime_factor n hn
 have hno : ∀ d, 2 ≤ d → d < k → ¬d ∣ n := fun d h2 hdk hd => by
  have := List.all_eq_true.1 h d (List.mem_range.2 hdk)
  rw [Bool.or_eq_true, decide_eq_true_eq, decide_eq_true_eq] at this
  rcases this with h3 | h3
  · omega
  · exact h3 (Nat.mod_eq_zero_of_dvd hd)
 by_cases e : q = n
 · rw [← e]; exact hq
 · exfalso
   obtain ⟨t, ht⟩ := hqn
   have hq2 := hq.1
   have hqk : k ≤ q := Nat.le_of_not_lt (fun hlt => hno q hq2 hlt ⟨t, ht⟩)
   have ht0 : t ≠ 0 := fun h0 => by rw [h0, Nat.mul_zero] at ht; omega
   have ht1 : t ≠ 1 := fun h1 => by rw [h1, Nat.mul_one] at ht; exact e ht.symm
   have htk : k ≤ t := Nat.le_of_not_lt (fun hlt => hno t (by omega) hlt ⟨q, by rw [Nat.mul_comm]; exact ht⟩)
   have := Nat.mul_le_mul hqk htk
   omega
theorem prime0 : Prm 8574133 := prime_trial 8574133 2929 (by decide) (by decide) (by kernel_rfl)
theorem prime1 : Prm 1919519569386763 :=
 pock (f := 8574133) (Q := 223873314) (a := 2) prime0 (by decide) (by decide)
  (by rw [← pm_eq 1919519569386763 2 256 (1919519569386763 - 1) (by decide)]; kernel_rfl)
  (by rw [← pm_eq 1919519569386763 2 256 223873314 (by decide)]; kernel_rfl) (by decide)
theorem prime2 : Prm 75445702479781427272750846543864801 :=
 pock (f := 1919519569386763) (Q := 39304471641247389600) (a := 2) prime1 (by decide) (by decide)
  (by rw [← pm_eq 75445702479781427272750846543864801 2 256 (75445702479781427272750846543864801 - 1) (by decide)]; kernel_rfl)
  (by rw [← pm_eq 75445702479781427272750846543864801 2 256 39304471641247389600 (by decide)]; kernel_rfl) (by decide)
theorem prime3 : Prm 74058212732561358302231226437062788676166966415465897661863160754340907 :=
 pock (f := 75445702479781427272750846543864801) (Q := 981609426360740691344999861639072106) (a := 2) prime2 (by decide) (by decide)
  (by rw [← pm_eq 74058212732561358302231226437062788676166966415465897661863160754340907 2 256 (74058212732561358302231226437062788676166966415465897661863160754340907 - 1) (by decide)]; kernel_rfl)
  (by rw [← pm_eq 74058212732561358302231226437062788676166966415465897661863160754340907 2 256 981609426360740691344999861639072106 (by decide)]; kernel_rfl) (by decide)
theorem prime4 : Prm 57896044618658097711785492504343953926634992332820282019728792003956564819949 :=
 pock (f := 74058212732561358302231226437062788676166966415465897661863160754340907) (Q := 781764) (a := 2) prime3 (by decide) (by decide)
  (by rw [← pm_eq 57896044618658097711785492504343953926634992332820282019728792003956564819949 2 256 (57896044618658097711785492504343953926634992332820282019728792003956564819949 - 1) (by decide)]; kernel_rfl)
  (by rw [← pm_eq 57896044618658097711785492504343953926634992332820282019728792003956564819949 2 256 781764 (by decide)]; kernel_rfl) (by decide)
theorem prime_p : Prm pF := prime4
end Go.Proofs.YtdgkmloabificaaDoor
namespace Go.Proofs.YtdgkmloabificaaDoor
theorem not_dvd {x : Nat} (h0 : x ≠ 0) (hx : x < pF) : ¬pF ∣ x := fun h => by have := Nat.le_of_dvd (Nat.pos_of_ne_zero h0) h; omega
theorem pF_one : 1 % pF = 1 := by decide
/-- A number times what undoes it is 1. -/
theorem inv_mul {x : Nat} (h0 : x ≠ 0) (hx : x < pF) : x * (x ^ (pF - 2) % pF) % pF = 1 := by
 have h := prime_p.fermat1 (not_dvd h0 hx)
 have e : pF - 1 = (pF - 2).succ := by decide
 rw [Nat.mul_mod, Nat.mod_mod, ← Nat.mul_mod, Nat.mul_comm, ← Nat.pow_succ, ← e, h, pF_one]
theorem zero_inv : 0 ^ (pF - 2) % pF = 0 := by
 have e : 0 < pF - 2 := by decide
 rw [Nat.zero_pow e, Nat.zero_mod]
end Go.Proofs.YtdgkmloabificaaDoor
namespace Go.Proofs.YtdgkmloabificaaDoor
section
variable {n : Nat} [NeZero n]
theorem ed_closed {x1 y1 x2 y2 D i j : Fin n} (h1 : x1^2+y1^2=1+D*x1^2*y1^2) (h2 : x2^2+y2^2 = 1+D*x2^2*y2^2) (hi : (1+D*x1*x2*y1*y2)*i = 1) (hj : (1-D*x1*x2*y1*y2)*j = 1) :
 ((x1*y2+x2*y1)*i)^2+((y1*y2-x1*x2)*j)^2 = 1+D*((x1*y2+x2*y1)*i)^2*((y1*y2-x1*x2)*j)^2 := by
 have h : (x1*y2+x2*y1)^2*(1-D*x1*x2*y1*y2)^2 + (y1*y2-x1*x2)^2*(1+D*x1*x2*y1*y2)^2 = (1+D*x1*x2*y1*y2)^2*(1-D*x1*x2*y1*y2)^2 + D*(x1*y2+x2*y1)^2*(y1*y2-x1*x2)^2 := by grind
 generalize x1*y2+x2*y1 = a at *
 generalize y1*y2-x1*x2 = b at *
 generalize 1+D*x1*x2*y1*y2 = p at *
 generalize 1-D*x1*x2*y1*y2 = m at *
 grind
theorem ed_cross {a b c d e f : Fin n} (h : a * d = c * b) (hb : b * e = 1) (hd : d * f = 1) : a * e = c * f := by grind
theorem ed_assoc_x {x1 y1 x2 y2 x3 y3 D : Fin n} (h1 : x1^2+y1^2=1+D*x1^2*y1^2) (h2 : x2^2+y2^2 = 1+D*x2^2*y2^2) (h3 : x3^2+y3^2 = 1+D*x3^2*y3^2) :
 ((x1*y2+x2*y1)*y3*(1 - D*x1*x2*y1*y2) + x3*(y1*y2-x1*x2)*(1 + D*x1*x2*y1*y2)) * ((1 + D*x2*x3*y2*y3)*(1 - D*x2*x3*y2*y3) + D*x1*(x2*y3+x3*y2)*y1*(y2*y3-x2*x3)) = (x1*(y2*y3-x2*x3)*(1 + D*x2*x3*y2*y3) + (x2*y3+x3*y2)*y1*(1 - D*x2*x3*y2*y3)) * ((1 + D*x1*x2*y1*y2)*(1 - D*x1*x2*y1*y2) + D*(x1*y2+x2*y1)*x3*(y1*y2-x1*x2)*y3) := by
 grind (splits := 0)
theorem ed_assoc_y {x1 y1 x2 y2 x3 y3 D : Fin n} (h1 : x1^2+y1^2=1+D*x1^2*y1^2) (h2 : x2^2+y2^2 = 1+D*x2^2*y2^2) (h3 : x3^2+y3^2 = 1+D*x3^2*y3^2) :
 ((y1*y2-x1*x2)*y3*(1 + D*x1*x2*y1*y2) - (x1*y2+x2*y1)*x3*(1 - D*x1*x2*y1*y2)) * ((1 + D*x2*x3*y2*y3)*(1 - D*x2*x3*y2*y3) - D*x1*(x2*y3+x3*y2)*y1*(y2*y3-x2*x3)) = (y1*(y2*y3-x2*x3)*(1 + D*x2*x3*y2*y3) - x1*(x2*y3+x3*y2)*(1 - D*x2*x3*y2*y3)) * ((1 + D*x1*x2*y1*y2)*(1 - D*x1*x2*y1*y2) - D*(x1*y2+x2*y1)*x3*(y1*y2-x1*x2)*y3) := by
 grind (splits := 0)
/-- The way from the products to the sums. -/
theorem ed_up_x {a b p m i j c d q k r s x1 y1 x3 y3 D : Fin n} (hi : p*i=1) (hj : m*j=1) (hr : q*r = 1) (hs : k*s=1)
 (h : (a*y3*m + x3*b*p) * (q*k + D*x1*c*y1*d) = (x1*d*q + c*y1*k) * (p*m + D*a*x3*b*y3)) :
 ((a*i)*y3 + x3*(b*j)) * (1 + D*x1*(c*r)*y1*(d*s)) = (x1*(d*s) + (c*r)*y1) * (1 + D*(a*i)*x3*(b*j)*y3) := by
 have e1 : (a*i)*y3 + x3*(b*j) = (a*y3*m + x3*b*p)*(i*j) := by grind
 have e2 : 1 + D*x1*(c*r)*y1*(d*s) = (q*k + D*x1*c*y1*d)*(r*s) := by grind
 have e3 : x1*(d*s) + (c*r)*y1 = (x1*d*q + c*y1*k)*(r*s) := by grind
 have e4 : 1 + D*(a*i)*x3*(b*j)*y3 = (p*m + D*a*x3*b*y3)*(i*j) := by grind
 rw [e1, e2, e3, e4]
 generalize a*y3*m + x3*b*p = A at *
 generalize q*k + D*x1*c*y1*d = B at *
 generalize x1*d*q + c*y1*k = C at *
 generalize p*m + D*a*x3*b*y3 = E at *
 clear e1 e2 e3 e4
 grind
theorem ed_up_y {a b p m i j c d q k r s x1 y1 x3 y3 D : Fin n} (hi : p*i=1) (hj : m*j=1) (hr : q*r = 1) (hs : k*s=1)
 (h : (b*y3*p - a*x3*m) * (q*k - D*x1*c*y1*d) = (y1*d*q - x1*c*k) * (p*m - D*a*x3*b*y3)) :
 ((b*j)*y3 - (a*i)*x3) * (1 - D*x1*(c*r)*y1*(d*s)) = (y1*(d*s) - x1*(c*r)) * (1 - D*(a*i)*x3*(b*j)*y3) := by
 have e1 : (b*j)*y3 - (a*i)*x3 = (b*y3*p - a*x3*m)*(i*j) := by grind
 have e2 : 1 - D*x1*(c*r)*y1*(d*s) = (q*k - D*x1*c*y1*d)*(r*s) := by grind
 have e3 : y1*(d*s) - x1*(c*r) = (y1*d*q - x1*c*k)*(r*s) := by grind
 have e4 : 1 - D*(a*i)*x3*(b*j)*y3 = (p*m - D*a*x3*b*y3)*(i*j) := by grind
 rw [e1, e2, e3, e4]
 generalize b*y3*p - a*x3*m = A at *
 generalize q*k - D*x1*c*y1*d = B at *
 generalize y1*d*q - x1*c*k = C at *
 generalize p*m - D*a*x3*b*y3 = E at *
 clear e1 e2 e3 e4
 grind
/-- The squares behind completeness. -/
theorem ed_sq {x1 y1 x2 y2 D t : Fin n} (h1 : x1^2+y1^2=1+D*x1^2*y1^2) (h2 : x2^2+y2^2 = 1+D*x2^2*y2^2) (ht : t = D*x1*x2*y1*y2) (h : t*t = 1) :
 (x1 + t*y1)^2 = D*(x1*y1*(x2+y2))^2 ∧ (x1 - t*y1)^2 = D*(x1*y1*(x2-y2))^2 := by
 constructor <;> grind
end
section
variable {n : Nat} [NeZero n]
theorem g_one {D : Fin n} (e : 1 - D*0*0 = 0) : (1 : Fin n) = 0 := by grind
theorem g_z1 {D x y : Fin n} : 1 + D*x*0*y*1 = 1 := by grind
theorem g_z2 {D x y : Fin n} : 1 - D*x*0*y*1 = 1 := by grind
theorem g_z3 {x y : Fin n} : (x*1 + 0*y)*1 = x := by grind
theorem g_z4 {x y : Fin n} : (y*1 - x*0)*1 = y := by grind
end
abbrev Fp := Fin pF
instance : NeZero pF := ⟨by decide⟩
def fi (a : Fp) : Fp := ⟨finv a.val, finv_lt _⟩
theorem fi_mul {a : Fp} (h : a ≠ 0) : a * fi a = 1 := by
 refine Fin.ext ?_
 rw [Fin.val_mul]
 exact inv_mul (fun e => h (Fin.ext e)) a.isLt
theorem fp_zero {a b : Fp} (h : a * b = 0) : a = 0 ∨ b = 0 := by
 by_cases ha : a = 0
 · exact .inl ha
 · right
   have h1 := fi_mul ha
   generalize fi a = i at *
   grind
theorem fp_ne {a b : Fp} (ha : a ≠ 0) (hb : b ≠ 0) : a * b ≠ 0 := fun h => (fp_zero h).elim ha hb
theorem fp_unit {a b : Fp} (h : a * b = 1) : a ≠ 0 := fun e => by
 rw [e] at h
 have : (0 : Fp) = 1 := by grind
 exact absurd this (by decide)
/-- No number's square. -/
def NS (D : Fp) : Prop := ∀ z : Fp, z * z ≠ D
def On (D : Fp) (P : Fp × Fp) : Prop := P.1^2 + P.2^2 = 1 + D*P.1^2*P.2^2
def tt (D : Fp) (P Q : Fp × Fp) : Fp := D*P.1*Q.1*P.2*Q.2
theorem ns_one {D y : Fp} (h : NS D) : 1 - D*y*y ≠ 0 := fun e => by
 have hy : y ≠ 0 := fun h0 => by
  rw [h0] at e
  exact absurd (g_one e) (by decide)
 have h1 := fi_mul hy
 refine h (fi y) ?_
 generalize fi y = i at *
 grind
theorem two_ne : (2 : Fp) ≠ 0 := by decide
theorem complete {D : Fp} (hD : NS D) {P Q : Fp × Fp} (hP : On D P) (hQ : On D Q) : tt D P Q * tt D P Q ≠ 1 := fun h => by
 obtain ⟨x1, y1⟩ := P
 obtain ⟨x2, y2⟩ := Q
 unfold On at hP hQ
 unfold tt at h
 simp only at hP hQ h
 obtain ⟨t, ht⟩ : ∃ t, t = D*x1*x2*y1*y2 := ⟨_, rfl⟩
 rw [← ht] at h
 obtain ⟨s1, s2⟩ := ed_sq hP hQ ht h
 have key : ∀ a w : Fp, a^2 = D*w^2 → w = 0 := fun a w hw => Classical.byContradiction fun hne => by
  have h1 := fi_mul hne
  refine hD (a * fi w) ?_
  generalize fi w = i at *
  grind
 have k1 := key _ _ s1
 have k2 := key _ _ s2
 clear s1 s2 key hP hQ
 have u1 : x1*y1 ≠ 0 := fp_unit (b := D*x2*y2*t) (by rw [ht] at h ⊢; clear k1 k2 ht; grind)
 have u2 : x2*y2 ≠ 0 := fp_unit (b := D*x1*y1*t) (by rw [ht] at h ⊢; clear k1 k2 ht; grind)
 have a1 := (fp_zero k1).resolve_left u1
 have a2 := (fp_zero k2).resolve_left u1
 have b1 : 2 * x2 = 0 := by clear h ht k1 k2 u1 u2; grind
 have b2 := (fp_zero b1).resolve_left two_ne
 rw [b2] at u2
 exact u2 (by grind)
theorem com_p {D : Fp} (hD : NS D) {P Q : Fp × Fp} (hP : On D P) (hQ : On D Q) : 1 + tt D P Q ≠ 0 := fun h => complete hD hP hQ (by generalize tt D P Q = t at *; grind)
theorem com_m {D : Fp} (hD : NS D) {P Q : Fp × Fp} (hP : On D P) (hQ : On D Q) : 1 - tt D P Q ≠ 0 := fun h => complete hD hP hQ (by generalize tt D P Q = t at *; grind)
/-- The sum. -/
def eadd (D : Fp) (P Q : Fp × Fp) : Fp × Fp := ((P.1*Q.2 + Q.1*P.2) * fi (1 + D*P.1*Q.1*P.2*Q.2), (P.2*Q.2 - P.1*Q.1) * fi (1 - D*P.1*Q.1*P.2*Q.2))
theorem eadd_on {D : Fp} (hD : NS D) {P Q : Fp × Fp} (hP : On D P) (hQ : On D Q) : On D (eadd D P Q) :=
 ed_closed hP hQ (fi_mul (com_p hD hP hQ)) (fi_mul (com_m hD hP hQ))
theorem eadd_assoc {D : Fp} (hD : NS D) {P Q R : Fp × Fp} (hP : On D P) (hQ : On D Q) (hR : On D R) : eadd D (eadd D P Q) R = eadd D P (eadd D Q R) := by
 have i1 := fi_mul (com_p hD hP hQ)
 have j1 := fi_mul (com_m hD hP hQ)
 have i2 := fi_mul (com_p hD hQ hR)
 have j2 := fi_mul (com_m hD hQ hR)
 have i3 := fi_mul (com_p hD (eadd_on hD hP hQ) hR)
 have j3 := fi_mul (com_m hD (eadd_on hD hP hQ) hR)
 have i4 := fi_mul (com_p hD hP (eadd_on hD hQ hR))
 have j4 := fi_mul (com_m hD hP (eadd_on hD hQ hR))
 refine Prod.ext ?_ ?_
 · exact ed_cross (ed_up_x i1 j1 i2 j2 (ed_assoc_x hP hQ hR)) i3 i4
 · exact ed_cross (ed_up_y i1 j1 i2 j2 (ed_assoc_y hP hQ hR)) j3 j4
theorem eadd_comm (D : Fp) (P Q : Fp × Fp) : eadd D P Q = eadd D Q P := by
 unfold eadd
 have e1 : P.1*Q.2 + Q.1*P.2 = Q.1*P.2 + P.1*Q.2 := by grind
 have e2 : D*P.1*Q.1*P.2*Q.2 = D*Q.1*P.1*Q.2*P.2 := by grind
 have e3 : P.2*Q.2 - P.1*Q.1 = Q.2*P.2 - Q.1*P.1 := by grind
 rw [e1, e2, e3]
def ezero : Fp × Fp := (0, 1)
theorem ezero_on (D : Fp) : On D ezero := by unfold On ezero; simp only; grind
theorem fi_one : fi 1 = 1 := by
 have := fi_mul (a := 1) (by decide)
 generalize fi 1 = i at *
 grind
theorem eadd_zero (D : Fp) (P : Fp × Fp) : eadd D P ezero = P := by
 unfold eadd ezero
 simp only
 rw [g_z1, g_z2, fi_one]
 refine Prod.ext ?_ ?_
 · exact g_z3
 · exact g_z4
theorem zero_eadd (D : Fp) (P : Fp × Fp) : eadd D ezero P = P := by rw [eadd_comm, eadd_zero]
def eneg (P : Fp × Fp) : Fp × Fp := (0 - P.1, P.2)
theorem eneg_on {D : Fp} {P : Fp × Fp} (h : On D P) : On D (eneg P) := by unfold On eneg at *; simp only; grind
theorem eneg_add {D : Fp} (hD : NS D) {P : Fp × Fp} (h : On D P) : eadd D (eneg P) P = ezero := by
 have i1 := fi_mul (com_p hD (eneg_on h) h)
 have j1 := fi_mul (com_m hD (eneg_on h) h)
 refine Prod.ext ?_ ?_
 · show ((0 - P.1)*P.2 + P.1*P.2) * fi (1 + D*(0 - P.1)*P.1*P.2*P.2) = 0
   have : (0 - P.1)*P.2 + P.1*P.2 = 0 := by grind
   rw [this]; grind
 · show (P.2*P.2 - (0 - P.1)*P.1) * fi (1 - D*(0 - P.1)*P.1*P.2*P.2) = 1
   have e : 1 - tt D (eneg P) P = P.2*P.2 - (0 - P.1)*P.1 := by
    unfold tt eneg On at *; simp only; clear i1 j1; grind
   rw [← e]
   exact j1
/-- So many times a point. -/
def emul (D : Fp) : Nat → Fp × Fp → Fp × Fp
 | 0, _ => ezero
 | n + 1, P => eadd D (emul D n P) P
theorem emul_on {D : Fp} (hD : NS D) {P : Fp × Fp} (h : On D P) : ∀ n, On D (emul D n P)
 | 0 => ezero_on D
 | n + 1 => eadd_on hD (emul_on hD h n) h
theorem emul_add {D : Fp} (hD : NS D) {P : Fp × Fp} (h : On D P) (m : Nat) : ∀ n, emul D (m + n) P = eadd D (emul D m P) (emul D n P)
 | 0 => (eadd_zero D _).symm
 | n + 1 => by
  show eadd D (emul D (m + n) P) P = _
  rw [emul_add hD h m n, eadd_assoc hD (emul_on hD h m) (emul_on hD h n) h]
  rfl
theorem emul_mul {D : Fp} (hD : NS D) {P : Fp × Fp} (h : On D P) (m : Nat) : ∀ n, emul D n (emul D m P) = emul D (m * n) P
 | 0 => rfl
 | n + 1 => by
  show eadd D (emul D n (emul D m P)) (emul D m P) = _
  rw [emul_mul hD h m n, ← emul_add hD h]
  rfl
/-- Numbers as members of the field. -/
def cF (a : Nat) : Fp := ⟨a % pF, Nat.mod_lt _ (by decide)⟩
theorem cF_add (a b : Nat) : cF (fadd a b) = cF a + cF b := Fin.ext (by rw [Fin.val_add]; show (a + b) % pF % pF = (a % pF + b % pF) % pF; rw [Nat.mod_mod, ← Nat.add_mod])
theorem cF_mul (a b : Nat) : cF (fmul a b) = cF a * cF b := Fin.ext (by rw [Fin.val_mul]; show (a * b) % pF % pF = (a % pF * (b % pF)) % pF; rw [Nat.mod_mod, ← Nat.mul_mod])
theorem cF_sub (a b : Nat) (hb : b < pF) : cF (fsub a b) = cF a - cF b := Fin.ext (by
 rw [Fin.sub_def]
 show (a + pF - b) % pF % pF = (pF - b % pF + a % pF) % pF
 rw [Nat.mod_mod, Nat.mod_eq_of_lt hb, Nat.add_mod_mod, show a + pF - b = pF - b + a by omega])
theorem cF_inv (a : Nat) (ha : a < pF) : cF (finv a) = fi (cF a) := Fin.ext (by
 show finv a % pF = finv (a % pF)
 rw [Nat.mod_eq_of_lt (finv_lt a), Nat.mod_eq_of_lt ha])
theorem cF_inj {a b : Nat} (ha : a < pF) (hb : b < pF) (h : cF a = cF b) : a = b := by
 have := congrArg Fin.val h
 change a % pF = b % pF at this
 rwa [Nat.mod_eq_of_lt ha, Nat.mod_eq_of_lt hb] at this
end Go.Proofs.YtdgkmloabificaaDoor
namespace Go.Proofs.YtdgkmloabificaaDoor
/-- A root of -1. -/
def iM : Nat := 19681161376707505956807079304988542015446066515923890162744021073123829784752
theorem iM_sq : iM * iM % pF = pF - 1 := by kernel_rfl
/-- The even one of a number and its negative. -/
def evn (x : Nat) : Nat := if x % 2 = 1 then (0 + pF - x) % pF else x
/-- The first way: with u times v to the 7th to the power k. -/
def rootX (k u v : Nat) : Nat := (u * (v * v % pF * v % pF) % pF * (v * v % pF * v % pF) % pF * v % pF) ^ k % pF * u % pF * (v * v % pF * v % pF) % pF
def rootP (k u v : Nat) : Option Nat :=
 if rootX k u v * rootX k u v % pF * v % pF = u then some (evn (rootX k u v))
 else if rootX k u v * rootX k u v % pF * v % pF = (0 + pF - u) % pF then some (evn (rootX k u v * iM % pF)) else none
/-- The second way: the quotient to the power k + 1. -/
def quoR (u v : Nat) : Nat := u * (v ^ (pF - 2) % pF) % pF
def rootY (k u v : Nat) : Nat := quoR u v ^ (k + 1) % pF
def rootZ (k u v : Nat) : Nat := if rootY k u v * rootY k u v % pF = quoR u v then rootY k u v else rootY k u v * iM % pF
def rootR (k u v : Nat) : Option Nat := if rootZ k u v * rootZ k u v % pF = quoR u v ∧ ¬(v = 0 ∧ u ≠ 0) then some (evn (rootZ k u v)) else none
theorem mulm (a b : Nat) : a % pF * b % pF = a * b % pF := by rw [Nat.mul_mod, Nat.mod_mod, ← Nat.mul_mod]
theorem mulm' (a b : Nat) : a * (b % pF) % pF = a * b % pF := by rw [Nat.mul_mod, Nat.mod_mod, ← Nat.mul_mod]
theorem powm (a n : Nat) : (a % pF) ^ n % pF = a ^ n % pF := (Nat.pow_mod a n pF).symm
/-- Where v is not 0 both ways come to the same number. -/
theorem rootX_eq {k u v : Nat} (hk : 8 * k + 5 = pF) (hv0 : v ≠ 0) (hv : v < pF) : rootX k u v = rootY k u v := by
 have hf := prime_p.fermat1 (not_dvd hv0 hv)
 have hw := inv_mul hv0 hv
 unfold rootX rootY quoR
 generalize v ^ (pF - 2) % pF = w at hw ⊢
 rw [show pF - 1 = 8 * k + 4 by omega, pF_one] at hf
 clear hk hv hv0
 have e1 : (u * (v * v % pF * v % pF) % pF * (v * v % pF * v % pF) % pF * v % pF) ^ k % pF = (u * v ^ 7) ^ k % pF := by
  have : u * (v * v % pF * v % pF) % pF * (v * v % pF * v % pF) % pF * v % pF = u * v ^ 7 % pF := by
   simp only [mulm, mulm']
   congr 1
   simp only [Nat.pow_succ, Nat.pow_zero, Nat.one_mul]
   ac_rfl
  rw [this, powm]
 rw [e1]
 have e2 : (u * v ^ 7) ^ k % pF * u % pF * (v * v % pF * v % pF) % pF = u ^ (k + 1) * v ^ (7 * k + 3) % pF := by
  simp only [mulm, mulm']
  congr 1
  rw [Nat.mul_pow, ← Nat.pow_mul, Nat.pow_add v (7 * k) 3, Nat.pow_succ u k]
  simp only [Nat.pow_succ, Nat.pow_zero, Nat.one_mul]
  ac_rfl
 rw [e2, powm, Nat.mul_pow]
 have e3 : v ^ (7 * k + 3) % pF = w ^ (k + 1) % pF := by
  have h1 : v ^ (7 * k + 3) * (v * w) ^ (k + 1) % pF = v ^ (7 * k + 3) % pF := by
   rw [Nat.mul_mod, Nat.pow_mod (v * w), hw, Nat.one_pow, pF_one, Nat.mul_one, Nat.mod_mod]
  have h2 : v ^ (7 * k + 3) * (v * w) ^ (k + 1) = v ^ (8 * k + 4) * w ^ (k + 1) := by
   rw [Nat.mul_pow, ← Nat.mul_assoc, ← Nat.pow_add]
   congr 2
   omega
  rw [← h1, h2, Nat.mul_mod, hf, Nat.one_mul, Nat.mod_mod]
 rw [Nat.mul_mod, e3, ← Nat.mul_mod]
theorem sq_iff {x u v w : Nat} (hu : u < pF) (hw : v * w % pF = 1) : x * x % pF * v % pF = u ↔ x * x % pF = u * w % pF := by
 constructor
 · intro h
   have e : x * x % pF * v % pF * w % pF = x * x % pF := by
    rw [mulm, Nat.mul_assoc, Nat.mul_mod, hw, Nat.mul_one, Nat.mod_mod, Nat.mod_mod]
   rw [← e, h]
 · intro h
   rw [h, mulm, Nat.mul_assoc, Nat.mul_comm w v, Nat.mul_mod, hw, Nat.mul_one, Nat.mod_mod, Nat.mod_eq_of_lt hu]
theorem neg_lt (u : Nat) : (0 + pF - u) % pF < pF := Nat.mod_lt _ pF_pos
theorem neg_mul (u w : Nat) (hu : u < pF) : (0 + pF - u) % pF * w % pF = (0 + pF - u * w % pF) % pF := by
 rw [Nat.zero_add, mulm, Nat.sub_mul]
 have h1 : u * w ≤ pF * w := Nat.mul_le_mul_right _ (Nat.le_of_lt hu)
 have hd := Nat.div_add_mod (u * w) pF
 have hm : u * w % pF < pF := Nat.mod_lt _ pF_pos
 generalize u * w = T at *
 generalize T % pF = m at *
 generalize T / pF = d at *
 by_cases h0 : m = 0
 · have e : pF * w - T = pF * (w - d) := by rw [Nat.mul_sub]; omega
   rw [e, Nat.mul_mod_right, h0, Nat.sub_zero, Nat.mod_self]
 · have hdw : d < w := by
    rcases Nat.lt_or_ge d w with h | h
    · exact h
    · have := Nat.mul_le_mul_left pF h
      omega
   have e : pF * w - T = (pF - m) + pF * (w - d - 1) := by
    have h3 : pF * (w - d - 1) = pF * w - pF * d - pF := by rw [Nat.mul_sub, Nat.mul_sub, Nat.mul_one]
    have h4 : pF * d + pF ≤ pF * w := by
     have := Nat.mul_le_mul_left pF (show d + 1 ≤ w by omega)
     rwa [Nat.mul_succ] at this
    omega
   rw [e, Nat.add_mul_mod_self_left]
theorem neg_neg {a b : Nat} (ha : a < pF) (hb : b < pF) : (0 + pF - a) % pF = b ↔ a = (0 + pF - b) % pF := by
 unfold pF at *
 omega
theorem times_sq {i : Nat} (hi : i * i % pF = pF - 1) (x : Nat) : x * i % pF * (x * i % pF) % pF = (0 + pF - x * x % pF) % pF := by
 have e : x * i % pF * (x * i % pF) % pF = (i * i % pF) * (x * x % pF) % pF := by
  simp only [mulm, mulm']
  congr 1
  ac_rfl
 have h1 : (0 + pF - 1) % pF = pF - 1 := by decide
 have h2 := neg_mul 1 (x * x % pF) (by decide)
 rw [h1, Nat.one_mul, Nat.mod_mod] at h2
 rw [e, hi, h2]
/-- Both ways find the same. -/
theorem root_same {k u v : Nat} (hk : 8 * k + 5 = pF) (hu : u < pF) (hv : v < pF) : rootP k u v = rootR k u v := by
 by_cases hv0 : v = 0
 · subst hv0
   have hX : rootX k u 0 = 0 := by unfold rootX; simp only [Nat.mul_zero, Nat.zero_mod]
   have hq : quoR u 0 = 0 := by unfold quoR; rw [zero_inv, Nat.mul_zero, Nat.zero_mod]
   have hY : rootY k u 0 = 0 := by unfold rootY; rw [hq, Nat.zero_pow (Nat.succ_pos k), Nat.zero_mod]
   have hZ : rootZ k u 0 = 0 := by unfold rootZ; rw [hY, hq, if_pos (by rw [Nat.mul_zero, Nat.zero_mod])]
   unfold rootP rootR
   rw [hX, hZ, hq]
   have e0 : 0 * 0 % pF * 0 % pF = 0 := rfl
   have e1 : 0 * 0 % pF = 0 := rfl
   by_cases hu0 : u = 0
   · subst hu0
     rw [if_pos e0, if_pos ⟨e1, fun h => h.2 rfl⟩]
   · rw [if_neg (fun h => hu0 (e0 ▸ h).symm), if_neg (fun h => by rw [e0] at h; unfold pF at *; omega), if_neg (fun h => h.2 ⟨rfl, hu0⟩)]
 · have hw := inv_mul hv0 hv
   have hXY := rootX_eq (u := u) hk hv0 hv
   have hYl : rootY k u v < pF := Nat.mod_lt _ pF_pos
   unfold rootP rootR rootZ
   rw [hXY]
   have hql : quoR u v < pF := Nat.mod_lt _ pF_pos
   have s1 := sq_iff (x := rootY k u v) hu hw
   have s2 := sq_iff (x := rootY k u v) (neg_lt u) hw
   have hqe : u * (v ^ (pF - 2) % pF) % pF = quoR u v := rfl
   rw [neg_mul u _ hu] at s2
   rw [hqe] at s1 s2
   generalize rootY k u v = y at *
   generalize quoR u v = q at *
   have ht := times_sq iM_sq y
   have hyl : y * y % pF < pF := Nat.mod_lt _ pF_pos
   by_cases h1 : y * y % pF = q
   · rw [if_pos (s1.2 h1), if_pos h1, if_pos ⟨h1, fun h => hv0 h.1⟩]
   · rw [if_neg (fun h => h1 (s1.1 h)), if_neg h1]
     by_cases h2 : y * y % pF = (0 + pF - q) % pF
     · rw [if_pos (s2.2 h2), if_pos ⟨by rw [ht]; exact (neg_neg hyl hql).2 h2, fun h => hv0 h.1⟩]
     · rw [if_neg (fun h => h2 (s2.1 h)), if_neg (fun h => h2 ((neg_neg hyl hql).1 (by rw [← ht]; exact h.1)))]
end Go.Proofs.YtdgkmloabificaaDoor
