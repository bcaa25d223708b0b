/- What fromBoth of package field does in the model. -/
import Derived.Test.YtinigkpidhbgcaaNumber
namespace Go.Proofs.Ytinigkpidhbgcaa
open Go.RowKit
/-- Four cells that may be written. -/
structure FourAt (w : World) (g : Nat) (a b c d : Value) : Prop where
  c0 : w.cell? ⟨g, 0, none⟩ = some a
  c1 : w.cell? ⟨g, 1, none⟩ = some b
  c2 : w.cell? ⟨g, 2, none⟩ = some c
  c3 : w.cell? ⟨g, 3, none⟩ = some d
  f0 : w.frozen? ⟨g, 0, none⟩ = false
  f1 : w.frozen? ⟨g, 1, none⟩ = false
  f2 : w.frozen? ⟨g, 2, none⟩ = false
  f3 : w.frozen? ⟨g, 3, none⟩ = false
theorem FourAt.below {w w' : World} {g B : Nat} {a b c d : Value} (h : FourAt w g a b c d) (hb : Below B w w') (hB : g < B) : FourAt w' g a b c d :=
  ⟨(hb.cell (p := ⟨g, 0, none⟩) hB).trans h.c0, (hb.cell (p := ⟨g, 1, none⟩) hB).trans h.c1, (hb.cell (p := ⟨g, 2, none⟩) hB).trans h.c2, (hb.cell (p := ⟨g, 3, none⟩) hB).trans h.c3, (hb.frozen (p := ⟨g, 0, none⟩) hB).trans h.f0, (hb.frozen (p := ⟨g, 1, none⟩) hB).trans h.f1, (hb.frozen (p := ⟨g, 2, none⟩) hB).trans h.f2, (hb.frozen (p := ⟨g, 3, none⟩) hB).trans h.f3⟩
theorem FourAt.there {w : World} {g : Nat} {a b c d : Value} (h : FourAt w g a b c d) : w.there g 0 4 := fun j hj => by
  match j, hj with
  | 0, _ => exact ⟨by rw [h.c0]; rfl, h.f0⟩
  | 1, _ => exact ⟨by rw [show (0 + 1 : Nat) = 1 from rfl, h.c1]; rfl, h.f1⟩
  | 2, _ => exact ⟨by rw [show (0 + 2 : Nat) = 2 from rfl, h.c2]; rfl, h.f2⟩
  | 3, _ => exact ⟨by rw [show (0 + 3 : Nat) = 3 from rfl, h.c3]; rfl, h.f3⟩
theorem FourAt.range {w : World} {g : Nat} {a b c d : Value} (h : FourAt w g a b c d) : w.rangeAt g 0 [a, b, c, d] := fun j v hv => by
  match j, hv with
  | 0, hv => cases hv; exact h.c0
  | 1, hv => cases hv; exact h.c1
  | 2, hv => cases hv; exact h.c2
  | 3, hv => cases hv; exact h.c3
theorem FourAt.drew {w : World} {g : Nat} {a b c d : Value} (h : FourAt w g a b c d) : FourAt w.drew g a b c d := ⟨h.c0, h.c1, h.c2, h.c3, h.f0, h.f1, h.f2, h.f3⟩
theorem four_fresh (w : World) (a b c d : Value) (t : TypeId) : FourAt (w.alloc (.cells #[a, b, c, d] t)) w.heap.size a b c d := by constructor <;> simp
/-- The four cells set anew. -/
def set4 (w : World) (g : Nat) (a b c d : Value) : World := (((w.setCell ⟨g, 0, none⟩ a).setCell ⟨g, 1, none⟩ b).setCell ⟨g, 2, none⟩ c).setCell ⟨g, 3, none⟩ d
theorem FourAt.set {w : World} {g : Nat} {a b c d : Value} (h : FourAt w g a b c d) (a' b' c' d' : Value) : FourAt (set4 w g a' b' c' d') g a' b' c' d' := by
  have hr := World.rangeAt_setCells_same w g 0 [a', b', c', d'] h.there
  have hf : ∀ j, (set4 w g a' b' c' d').frozen? ⟨g, j, none⟩ = w.frozen? ⟨g, j, none⟩ := fun j => World.frozen?_setCells g [a', b', c', d'] 0 w _
  exact ⟨hr 0 _ rfl, hr 1 _ rfl, hr 2 _ rfl, hr 3 _ rfl, (hf 0).trans h.f0, (hf 1).trans h.f1, (hf 2).trans h.f2, (hf 3).trans h.f3⟩
theorem set4_other {w : World} {g k : Nat} (hk : k ≠ g) (a b c d : Value) : (set4 w g a b c d).heap[k]? = w.heap[k]? := heap_setCells_other g [a, b, c, d] 0 w k hk
theorem FourAt.far {w : World} {g k : Nat} {a b c d : Value} (h : FourAt w g a b c d) (hk : g ≠ k) (a' b' c' d' : Value) : FourAt (set4 w k a' b' c' d') g a b c d := by
  have hc : ∀ j, (set4 w k a' b' c' d').cell? ⟨g, j, none⟩ = w.cell? ⟨g, j, none⟩ := fun j => World.cell?_of_block (w := w) (set4_other hk a' b' c' d')
  have hf : ∀ j, (set4 w k a' b' c' d').frozen? ⟨g, j, none⟩ = w.frozen? ⟨g, j, none⟩ := fun j => World.frozen?_of_block (w := w) (set4_other hk a' b' c' d')
  exact ⟨(hc 0).trans h.c0, (hc 1).trans h.c1, (hc 2).trans h.c2, (hc 3).trans h.c3, (hf 0).trans h.f0, (hf 1).trans h.f1, (hf 2).trans h.f2, (hf 3).trans h.f3⟩
theorem below_set4' {B : Nat} {u w : World} {g : Nat} (h : Below B u w) (hg : B ≤ g) (a b c d : Value) : Below B u (set4 w g a b c d) := below_set4 h hg a b c d
theorem size_set4 (w : World) (g : Nat) (a b c d : Value) : (set4 w g a b c d).heap.size = w.heap.size := (setCells_same g [a, b, c, d] 0 w).2.2.2
theorem results_cells2 {P : Program} {fn : Func} {p q s : Tmp} {ty : TypeId} (h : fn.results = #[.cell p ty, .cell q ty, .tmp s]) (tmps : Array Value) (w : World) (g k : Nat) (cs ds : List Value) (d : TypeDesc)
    (hp : tmps.getD p undef = .pointer (some ⟨g, 0, none⟩)) (hq : tmps.getD q undef = .pointer (some ⟨k, 0, none⟩)) (hc : w.rangeAt g 0 cs) (hds : w.rangeAt k 0 ds)
    (hu : P.underlying ty = some d) (hd : d.isRow = true) (hi : (P.info? ty).map (·.size) = some cs.length) (hj : (P.info? ty).map (·.size) = some ds.length) :
    (results fn tmps).run P w = .ok (.tuple #[.agg cs.toArray, .agg ds.toArray, tmps.getD s undef]) w := by
  have hp' : tmps[p]?.getD undef = .pointer (some ⟨g, 0, none⟩) := by simpa using hp
  have hq' : tmps[q]?.getD undef = .pointer (some ⟨k, 0, none⟩) := by simpa using hq
  simp [results, h, hp', hq', asAddr, run_loadVar_mid w g 0 ty cs d hc hu hd hi, run_loadVar_mid w k 0 ty ds d hds hu hd hj]
/-- From, of any bytes: 32 of them, or not. -/
def fromN (n : Nat) (bs : Nat → Nat) : Nat := if n = 32 then ofB bs 32 % pF else 0
def fromE (n : Nat) : Nat := if n = 32 then 0 else 1
theorem fromN_lt (n : Nat) (bs : Nat → Nat) : fromN n bs < pF := by
  unfold fromN; split
  · exact Nat.mod_lt _ (by decide)
  · decide
theorem from_any (v : Value) (n : Nat) (bs : Nat → Nat) (hbs : ∀ j, bs j < 256) (w : World) (hv : BytesIn w v n bs) :
    Calls Try.prog 30 #[v] w fun e w' => e = .returned (.tuple #[numV (fromN n bs), .int .i64 (fromE n)]) ∧ Below w.heap.size w w' := by
  unfold fromN fromE
  by_cases h : n = 32
  · subst h
    rw [if_pos rfl, if_pos rfl]
    rcases hv with ⟨_, _, h0⟩ | ⟨bb, ob, cap, rfl, h1, h2, h3⟩
    · omega
    · exact from_32 bb ob cap bs hbs w h1 h3
  · rw [if_neg h, if_neg h]
    obtain ⟨xo, c, rfl, -⟩ := hv.src
    exact from_other xo n c h w
/-- The error of two. -/
def bothE (n m : Nat) : Nat := if n = 32 ∧ m = 32 then 0 else 1
set_option maxRecDepth 20000 in
set_option maxHeartbeats 2000000 in
theorem both_good (v u : Value) (bs cs : Nat → Nat) (hbs : ∀ j, bs j < 256) (hcs : ∀ j, cs j < 256) (w : World) (hv : BytesIn w v 32 bs) (hu : BytesIn w u 32 cs) :
    Calls Try.prog 44 #[v, u] w fun e w' => e = .returned (.tuple #[numV (ofB bs 32 % pF), numV (ofB cs 32 % pF), .int .i64 0]) ∧ Below w.heap.size w w' := by
  have cv : ∀ W, Below w.heap.size w W → Calls Try.prog 30 #[v] W fun e w' => e = .returned (.tuple #[numV (ofB bs 32 % pF), .int .i64 0]) ∧ Below W.heap.size W w' := fun W h => from_any v 32 bs hbs W (hv.still h)
  have cu : ∀ W, Below w.heap.size w W → Calls Try.prog 30 #[u] W fun e w' => e = .returned (.tuple #[numV (ofB cs 32 % pF), .int .i64 0]) ∧ Below W.heap.size W w' := fun W h => from_any u 32 cs hcs W (hu.still h)
  obtain ⟨xv, kv, rfl, -⟩ := hv.src
  obtain ⟨xu, ku, rfl, -⟩ := hu.src
  obtain ⟨x0, x1, x2, x3, hx⟩ := numV_ex (ofB bs 32 % pF)
  obtain ⟨y0, y1, y2, y3, hy⟩ := numV_ex (ofB cs 32 % pF)
  rw [hx] at cv ⊢
  rw [hy] at cu ⊢
  obtain ⟨W0, hW0⟩ : ∃ W, W = (w.alloc (.cells #[.int .u64 0, .int .u64 0, .int .u64 0, .int .u64 0] 46)).alloc (.cells #[.int .u64 0, .int .u64 0, .int .u64 0, .int .u64 0] 46) := ⟨_, rfl⟩
  have H0 := Hid.mk' hW0
  have hs0 : W0.heap.size = w.heap.size + 1 + 1 := by rw [hW0]; simp
  have hb0 : Below w.heap.size w W0 := by rw [hW0]; exact ((Below.refl _ _).alloc (Nat.le_refl _) _).alloc (by simp) _
  have A0 : FourAt W0 w.heap.size (.int .u64 0) (.int .u64 0) (.int .u64 0) (.int .u64 0) := by rw [hW0]; exact (four_fresh w _ _ _ _ _).below ((Below.refl _ _).alloc (Nat.le_refl _) _) (by simp)
  have B0 : FourAt W0 (w.heap.size + 1) (.int .u64 0) (.int .u64 0) (.int .u64 0) (.int .u64 0) := by
    have := four_fresh (w.alloc (.cells #[.int .u64 0, .int .u64 0, .int .u64 0, .int .u64 0] 46)) (.int .u64 0) (.int .u64 0) (.int .u64 0) (.int .u64 0) 46
    rw [World.size_alloc] at this
    rw [hW0]; exact this
  have cv0 := cv W0 hb0
  clear hv hu hx hy hW0 cv
  go_enter Try.func44, Try.ntmps44
  go_wp2_with (first
    | (go_at_call 30; rw [← H0.out]; refine cv0.mono ?_; clear cv0; rintro e w1 ⟨rfl, hb1⟩; (have A1 := A0.below hb1 (by omega)); (have B1 := B0.below hb1 (by omega)); (have hbw1 : Below w.heap.size w w1 := hb0.trans (hb1.mono hb0.size)); (have hs1 := hb1.size); obtain ⟨a0, a1, a2, a3, g0, g1, g2, g3⟩ := id A1; clear A0 B0)
    | (go_at_call 30; refine (cu (set4 w1 w.heap.size (.int .u64 x0) (.int .u64 x1) (.int .u64 x2) (.int .u64 x3)) (below_set4' hbw1 (Nat.le_refl _) _ _ _ _)).mono ?_; clear cu; rintro e w2 ⟨rfl, hb2⟩; (have hs2 := hb2.size); rw [size_set4] at hb2 hs2; (have A2 := (A1.set (.int .u64 x0) (.int .u64 x1) (.int .u64 x2) (.int .u64 x3)).below hb2 (by omega)); (have B2 := (B1.far (k := w.heap.size) (by omega) (.int .u64 x0) (.int .u64 x1) (.int .u64 x2) (.int .u64 x3)).below hb2 (by omega)); (have hbw2 : Below w.heap.size w w2 := (below_set4' hbw1 (Nat.le_refl _) _ _ _ _).trans (hb2.mono (by omega))); clear a0 a1 a2 a3 g0 g1 g2 g3 A1 B1; obtain ⟨a0, a1, a2, a3, g0, g1, g2, g3⟩ := id A2; obtain ⟨b0, b1, b2, b3, k0, k1, k2, k3⟩ := id B2))
  go_region
  go_wp2
  (try simp only [Exit.inBlock, Exit.then])
  have FA := (((A2.far (k := w.heap.size + 1) (by omega) (.int .u64 y0) (.int .u64 y1) (.int .u64 y2) (.int .u64 y3)).set (.int .u64 x0) (.int .u64 x1) (.int .u64 x2) (.int .u64 x3)).far (k := w.heap.size + 1) (by omega) (.int .u64 y0) (.int .u64 y1) (.int .u64 y2) (.int .u64 y3)).drew
  have FB := (((B2.set (.int .u64 y0) (.int .u64 y1) (.int .u64 y2) (.int .u64 y3)).far (k := w.heap.size) (by omega) (.int .u64 x0) (.int .u64 x1) (.int .u64 x2) (.int .u64 x3)).set (.int .u64 y0) (.int .u64 y1) (.int .u64 y2) (.int .u64 y3)).drew
  exact bodyPost_ret (results_cells2 Try.results44 _ _ w.heap.size (w.heap.size + 1) _ _ _ rfl rfl FA.range FB.range Try.underlying46 rfl (by kernel_rfl) (by kernel_rfl)) rfl ⟨rfl, (below_set4' (below_set4' (below_set4' hbw2 (by omega) _ _ _ _) (Nat.le_refl _) _ _ _ _) (by omega) _ _ _ _).drew⟩
set_option maxRecDepth 20000 in
set_option maxHeartbeats 2000000 in
theorem both_bad (v u : Value) (n m : Nat) (bs cs : Nat → Nat) (hbs : ∀ j, bs j < 256) (hcs : ∀ j, cs j < 256) (w : World) (hv : BytesIn w v n bs) (hu : BytesIn w u m cs) (hbad : ¬(n = 32 ∧ m = 32)) :
    Calls Try.prog 44 #[v, u] w fun e w' => e = .returned (.tuple #[numV 0, numV 0, .int .i64 1]) ∧ Below w.heap.size w w' := by
  have cv : ∀ W, Below w.heap.size w W → Calls Try.prog 30 #[v] W fun e w' => e = .returned (.tuple #[numV (fromN n bs), .int .i64 (fromE n)]) ∧ Below W.heap.size W w' := fun W h => from_any v n bs hbs W (hv.still h)
  have cu : ∀ W, Below w.heap.size w W → Calls Try.prog 30 #[u] W fun e w' => e = .returned (.tuple #[numV (fromN m cs), .int .i64 (fromE m)]) ∧ Below W.heap.size W w' := fun W h => from_any u m cs hcs W (hu.still h)
  obtain ⟨xv, kv, rfl, -⟩ := hv.src
  obtain ⟨xu, ku, rfl, -⟩ := hu.src
  obtain ⟨x0, x1, x2, x3, hx⟩ := numV_ex (fromN n bs)
  obtain ⟨y0, y1, y2, y3, hy⟩ := numV_ex (fromN m cs)
  rw [hx] at cv
  rw [hy] at cu
  rw [numV_zero]
  obtain ⟨W0, hW0⟩ : ∃ W, W = (w.alloc (.cells #[.int .u64 0, .int .u64 0, .int .u64 0, .int .u64 0] 46)).alloc (.cells #[.int .u64 0, .int .u64 0, .int .u64 0, .int .u64 0] 46) := ⟨_, rfl⟩
  have H0 := Hid.mk' hW0
  have hs0 : W0.heap.size = w.heap.size + 1 + 1 := by rw [hW0]; simp
  have hb0 : Below w.heap.size w W0 := by rw [hW0]; exact ((Below.refl _ _).alloc (Nat.le_refl _) _).alloc (by simp) _
  have A0 : FourAt W0 w.heap.size (.int .u64 0) (.int .u64 0) (.int .u64 0) (.int .u64 0) := by rw [hW0]; exact (four_fresh w _ _ _ _ _).below ((Below.refl _ _).alloc (Nat.le_refl _) _) (by simp)
  have B0 : FourAt W0 (w.heap.size + 1) (.int .u64 0) (.int .u64 0) (.int .u64 0) (.int .u64 0) := by
    have := four_fresh (w.alloc (.cells #[.int .u64 0, .int .u64 0, .int .u64 0, .int .u64 0] 46)) (.int .u64 0) (.int .u64 0) (.int .u64 0) (.int .u64 0) 46
    rw [World.size_alloc] at this
    rw [hW0]; exact this
  have cv0 := cv W0 hb0
  clear hv hu hx hy hW0 cv
  by_cases hn : n = 32
  · have hm : ¬m = 32 := fun h => hbad ⟨hn, h⟩
    have e1 : fromE n = 0 := if_pos hn
    have e2 : fromE m = 1 := if_neg hm
    rw [e1] at cv0
    rw [e2] at cu
    have cv1 : Calls Try.prog 30 #[.slice xv n kv] W0 fun e w' => e = .returned (.tuple #[.agg #[.int .u64 x0, .int .u64 x1, .int .u64 x2, .int .u64 x3], .int .i64 0]) ∧ Below W0.heap.size W0 w' := cv0
    have cu1 : ∀ W, Below w.heap.size w W → Calls Try.prog 30 #[.slice xu m ku] W fun e w' => e = .returned (.tuple #[.agg #[.int .u64 y0, .int .u64 y1, .int .u64 y2, .int .u64 y3], .int .i64 1]) ∧ Below W.heap.size W w' := cu
    clear hn hm e1 e2 hbad cv0 cu
    go_enter Try.func44, Try.ntmps44
    go_wp2_with (first
      | (go_at_call 30; rw [← H0.out]; refine cv1.mono ?_; clear cv1; rintro e w1 ⟨rfl, hb1⟩; (have A1 := A0.below hb1 (by omega)); (have B1 := B0.below hb1 (by omega)); (have hbw1 : Below w.heap.size w w1 := hb0.trans (hb1.mono hb0.size)); (have hs1 := hb1.size); obtain ⟨a0, a1, a2, a3, g0, g1, g2, g3⟩ := id A1; clear A0 B0)
      | (go_at_call 30; refine (cu1 (set4 w1 w.heap.size (.int .u64 x0) (.int .u64 x1) (.int .u64 x2) (.int .u64 x3)) (below_set4' hbw1 (Nat.le_refl _) _ _ _ _)).mono ?_; clear cu1; rintro e w2 ⟨rfl, hb2⟩; (have hs2 := hb2.size); rw [size_set4] at hb2 hs2; (have A2 := (A1.set (.int .u64 x0) (.int .u64 x1) (.int .u64 x2) (.int .u64 x3)).below hb2 (by omega)); (have B2 := (B1.far (k := w.heap.size) (by omega) (.int .u64 x0) (.int .u64 x1) (.int .u64 x2) (.int .u64 x3)).below hb2 (by omega)); (have hbw2 : Below w.heap.size w w2 := (below_set4' hbw1 (Nat.le_refl _) _ _ _ _).trans (hb2.mono (by omega))); clear a0 a1 a2 a3 g0 g1 g2 g3 A1 B1; obtain ⟨a0, a1, a2, a3, g0, g1, g2, g3⟩ := id A2; obtain ⟨b0, b1, b2, b3, k0, k1, k2, k3⟩ := id B2))
    (try simp only [Exit.inBlock, Exit.then])
    have FA := ((A2.far (k := w.heap.size + 1) (by omega) (.int .u64 y0) (.int .u64 y1) (.int .u64 y2) (.int .u64 y3)).set (.int .u64 0) (.int .u64 0) (.int .u64 0) (.int .u64 0)).far (k := w.heap.size + 1) (by omega) (.int .u64 0) (.int .u64 0) (.int .u64 0) (.int .u64 0)
    have FB := ((B2.set (.int .u64 y0) (.int .u64 y1) (.int .u64 y2) (.int .u64 y3)).far (k := w.heap.size) (by omega) (.int .u64 0) (.int .u64 0) (.int .u64 0) (.int .u64 0)).set (.int .u64 0) (.int .u64 0) (.int .u64 0) (.int .u64 0)
    exact bodyPost_ret (results_cells2 Try.results44 _ _ w.heap.size (w.heap.size + 1) _ _ _ rfl rfl FA.range FB.range Try.underlying46 rfl (by kernel_rfl) (by kernel_rfl)) rfl ⟨rfl, below_set4' (below_set4' (below_set4' hbw2 (by omega) _ _ _ _) (Nat.le_refl _) _ _ _ _) (by omega) _ _ _ _⟩
  · have e1 : fromE n = 1 := if_neg hn
    rw [e1] at cv0
    have cv1 : Calls Try.prog 30 #[.slice xv n kv] W0 fun e w' => e = .returned (.tuple #[.agg #[.int .u64 x0, .int .u64 x1, .int .u64 x2, .int .u64 x3], .int .i64 1]) ∧ Below W0.heap.size W0 w' := cv0
    clear hn e1 hbad cu cv0
    go_enter Try.func44, Try.ntmps44
    go_wp2_with (first
      | (go_at_call 30; rw [← H0.out]; refine cv1.mono ?_; clear cv1; rintro e w1 ⟨rfl, hb1⟩; (have A1 := A0.below hb1 (by omega)); (have B1 := B0.below hb1 (by omega)); (have hbw1 : Below w.heap.size w w1 := hb0.trans (hb1.mono hb0.size)); (have hs1 := hb1.size); obtain ⟨a0, a1, a2, a3, g0, g1, g2, g3⟩ := id A1; obtain ⟨b0, b1, b2, b3, k0, k1, k2, k3⟩ := id B1; clear A0 B0))
    (try simp only [Exit.inBlock, Exit.then])
    have FA := ((A1.set (.int .u64 x0) (.int .u64 x1) (.int .u64 x2) (.int .u64 x3)).set (.int .u64 0) (.int .u64 0) (.int .u64 0) (.int .u64 0)).far (k := w.heap.size + 1) (by omega) (.int .u64 0) (.int .u64 0) (.int .u64 0) (.int .u64 0)
    have FB := ((B1.far (k := w.heap.size) (by omega) (.int .u64 x0) (.int .u64 x1) (.int .u64 x2) (.int .u64 x3)).far (k := w.heap.size) (by omega) (.int .u64 0) (.int .u64 0) (.int .u64 0) (.int .u64 0)).set (.int .u64 0) (.int .u64 0) (.int .u64 0) (.int .u64 0)
    exact bodyPost_ret (results_cells2 Try.results44 _ _ w.heap.size (w.heap.size + 1) _ _ _ rfl rfl FA.range FB.range Try.underlying46 rfl (by kernel_rfl) (by kernel_rfl)) rfl ⟨rfl, below_set4' (below_set4' (below_set4' hbw1 (Nat.le_refl _) _ _ _ _) (Nat.le_refl _) _ _ _ _) (by omega) _ _ _ _⟩
end Go.Proofs.Ytinigkpidhbgcaa
