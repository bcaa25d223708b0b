/- Package scalar: what MulAdd does in the model. -/
import Derived.Test.YtmehhjogddpkgaaDoorSApi
namespace Go.Proofs.YtmehhjogddpkgaaDoor
open Go.RowKit
theorem RowAt.farCells {K : IntKind} {w : World} {b o n : Nat} {X : Nat → Nat} (h : RowAt K w b o n X) {k : Nat} (hk : b ≠ k) (p : Nat) (vs : List Value) : RowAt K (w.setCells k p vs) b o n X := fun j hj => by
  have hb : (w.setCells k p vs).heap[b]? = w.heap[b]? := heap_setCells_other k vs p w b hk
  exact ⟨(World.cell?_of_block (w := w) hb).trans (h j hj).1, (World.frozen?_of_block (w := w) hb).trans (h j hj).2⟩
/-- Three new blocks of nine zeros. -/
abbrev three0 (w : World) : World := ((w.alloc (.cells zW 40)).alloc (.cells zW 40)).alloc (.cells zW 40)
theorem three0_size (w : World) : (three0 w).heap.size = w.heap.size + 3 := by unfold three0; simp
theorem three0_below (w : World) : Below w.heap.size w (three0 w) := (((Below.refl _ _).alloc (Nat.le_refl _) _).alloc (by simp) _).alloc (by simp; omega) _
theorem fresh9 (w : World) : RowAt .u64 (w.alloc (.cells zW 40)) w.heap.size 0 9 (fun _ => 0) := RowAt.fresh (fun j hj => zW_at j hj)
theorem three0_rows (w : World) : RowAt .u64 (three0 w) w.heap.size 0 9 (fun _ => 0) ∧ RowAt .u64 (three0 w) (w.heap.size + 1) 0 9 (fun _ => 0) ∧ RowAt .u64 (three0 w) (w.heap.size + 1 + 1) 0 9 (fun _ => 0) := by
  have h2 := fresh9 (w.alloc (.cells zW 40))
  have h3 := fresh9 ((w.alloc (.cells zW 40)).alloc (.cells zW 40))
  rw [World.size_alloc] at h2 h3
  rw [World.size_alloc] at h3
  exact ⟨((fresh9 w).alloc (by simp) _).alloc (by simp; omega) _, h2.alloc (by simp) _, h3⟩
theorem put9 {w : World} {g : Nat} (h : RowAt .u64 w g 0 9 (fun _ => 0)) (X : Nat → Nat) : RowAt .u64 (w.setCells g 0 (ints .u64 9 X)) g 0 9 X := by
  refine (h.splice 0 9 X (by decide)).congr (fun j hj => ?_)
  unfold over; rw [if_pos ⟨Nat.zero_le _, by omega⟩, Nat.sub_zero]
/-- Three wide numbers laid into new blocks. -/
abbrev laid1 (w : World) (A : Nat → Nat) : World := (three0 w).setCells w.heap.size 0 (ints .u64 9 A)
abbrev laid2 (w : World) (A B : Nat → Nat) : World := (laid1 w A).setCells (w.heap.size + 1) 0 (ints .u64 9 B)
def laid3 (w : World) (A B C : Nat → Nat) : World := (laid2 w A B).setCells (w.heap.size + 1 + 1) 0 (ints .u64 9 C)
theorem laid_theres (w : World) (A B C : Nat → Nat) : (three0 w).there w.heap.size 0 (ints .u64 9 A).toArray.size ∧ (laid1 w A).there (w.heap.size + 1) 0 (ints .u64 9 B).toArray.size ∧ (laid2 w A B).there (w.heap.size + 1 + 1) 0 (ints .u64 9 C).toArray.size := by
  obtain ⟨h1, h2, h3⟩ := three0_rows w
  rw [ints_size, ints_size, ints_size]
  exact ⟨h1.there, (h2.farCells (by omega) _ _).there, ((h3.farCells (by omega) _ _).farCells (by omega) _ _).there⟩
theorem laid3_rows (w : World) (A B C : Nat → Nat) : RowAt .u64 (laid3 w A B C) w.heap.size 0 9 A ∧ RowAt .u64 (laid3 w A B C) (w.heap.size + 1) 0 9 B ∧ RowAt .u64 (laid3 w A B C) (w.heap.size + 1 + 1) 0 9 C := by
  obtain ⟨h1, h2, h3⟩ := three0_rows w
  exact ⟨((put9 h1 A).farCells (by omega) _ _).farCells (by omega) _ _, (put9 (h2.farCells (by omega) _ _) B).farCells (by omega) _ _, put9 ((h3.farCells (by omega) _ _).farCells (by omega) _ _) C⟩
theorem laid3_below (w : World) (A B C : Nat → Nat) : Below w.heap.size w (laid3 w A B C) := below_setCells (by omega) _ _ _ (below_setCells (by omega) _ _ _ (below_setCells (Nat.le_refl _) _ _ _ (three0_below w)))
theorem addp_eq {p q r a b c N : Nat} (hp : p = a) (hq : q = b) (hr : r = c) (h : a + b * c = N) : p + q * r = N := by rw [hp, hq, hr]; exact h
theorem addp_N (g ga gb : Nat) (X A B : Nat → Nat) (N : Nat) (hN : pt X 0 9 + pt A 0 4 * pt B 0 4 = N) (hga : g ≠ ga) (hgb : g ≠ gb) (hX : ∀ j, X j < 18446744073709551616) (hA : ∀ j, A j < 18446744073709551616) (hB : ∀ j, B j < 18446744073709551616) (hz : ∀ j, 4 ≤ j → j < 9 → X j = 0) (w : World) (hrow0 : RowAt .u64 w g 0 9 X) (hra0 : RowAt .u64 w ga 0 9 A) (hrb0 : RowAt .u64 w gb 0 9 B) :
    Calls Tryd.prog 28 #[.pointer (some ⟨g, 0, none⟩), .pointer (some ⟨ga, 0, none⟩), .pointer (some ⟨gb, 0, none⟩)] w fun e w' => e = .returned (.tuple #[]) ∧ ∃ Y, RowAt .u64 w' g 0 9 Y ∧ (∀ j, Y j < 18446744073709551616) ∧ Y 8 = 0 ∧ pt Y 0 9 = N ∧ Out g 0 9 w w' :=
  (addp_any g ga gb X A B hga hgb hX hA hB hz w hrow0 hra0 hrb0).mono fun _ _ ⟨he, Y, h1, h2, h3, h4, h5⟩ => ⟨he, Y, h1, h2, h3, h4.trans hN, h5⟩
set_option maxRecDepth 20000 in
set_option maxHeartbeats 4000000 in
theorem muladd_good (va vb vc : Value) (ds bs cs : Nat → Nat) (hds : ∀ j, ds j < 256) (hbs : ∀ j, bs j < 256) (hcs : ∀ j, cs j < 256) (w : World) (hO : Ord w) (ha : BytesIn w va 32 ds) (hb : BytesIn w vb 32 bs) (hc : BytesIn w vc 32 cs) :
    Calls Tryd.prog 16 #[va, vb, vc] w fun e w' => ∃ s, e = .returned (.tuple #[s, .int .i64 0]) ∧ NewB w w' s 32 (byt ((ofB cs 32 + ofB ds 32 * ofB bs 32) % oL)) ∧ Below w.heap.size w w' := by
  have ca := load_any va 32 ds hds (by decide) w ha
  have cb := fun W (h : Below w.heap.size w W) => load_any vb 32 bs hbs (by decide) W (hb.still h)
  have cc := fun W (h : Below w.heap.size w W) => load_any vc 32 cs hcs (by decide) W (hc.still h)
  have pA := pt_lwN (ofB_32 hds)
  have pB := pt_lwN (ofB_32 hbs)
  have pC := pt_lwN (Nat.lt_of_lt_of_le (ofB_32 hcs) (Nat.pow_le_pow_right (n := 18446744073709551616) (by decide) (show 4 ≤ 9 by decide)))
  have zC := fun j (h : 4 ≤ j) (_ : j < 9) => lw_zero (ofB_32 hcs) h
  obtain ⟨xa, ka, rfl, -⟩ := ha.src
  obtain ⟨xb, kb, rfl, -⟩ := hb.src
  obtain ⟨xc, kc, rfl, -⟩ := hc.src
  have hA := lw_lt (ofB ds 32)
  have hB := lw_lt (ofB bs 32)
  have hC := lw_lt (ofB cs 32)
  generalize hN : ofB cs 32 + ofB ds 32 * ofB bs 32 = N
  have hN' := Hid.mk' (addp_eq pC pA pB hN)
  obtain ⟨A, hAe⟩ : ∃ X, X = lw (ofB ds 32) := ⟨_, rfl⟩
  obtain ⟨B, hBe⟩ : ∃ X, X = lw (ofB bs 32) := ⟨_, rfl⟩
  obtain ⟨C, hCe⟩ : ∃ X, X = lw (ofB cs 32) := ⟨_, rfl⟩
  rw [← hAe] at ca hA hN'
  rw [← hBe] at cb hB hN'
  rw [← hCe] at cc hC zC hN'
  unfold wideV at ca cb cc
  clear pA pB pC hN hAe hBe hCe ha hb hc hds hbs hcs
  have cp := fun (W : World) => addp_N (W.heap.size + 1 + 1) W.heap.size (W.heap.size + 1) C A B N hN'.out (by omega) (by omega) hC hA hB zC (laid3 W A B C) (laid3_rows W A B C).2.2 (laid3_rows W A B C).1 (laid3_rows W A B C).2.1
  have cr := fun (W : World) (X : Nat → Nat) g (hX : ∀ j, X j < 18446744073709551616) h8 hr hOW hg => rest_any g X hX h8 W hr hOW hg
  have hz := zeroW
  have iA := infoWA A
  have iB := infoWA B
  have iC := infoWA C
  have oA := oneW A
  have oB := oneW B
  have oC := oneW C
  clear hN' hA hB hC zC
  go_enter Tryd.func16, Tryd.ntmps16
  go_wp2_with (first
    | (go_at_call 24; refine ca.mono ?_; clear ca; rintro e w1 ⟨rfl, hb1⟩; replace cb := cb w1 hb1)
    | (go_at_call 24; refine cb.mono ?_; clear cb; rintro e w2 ⟨rfl, hb2⟩; (have hw2 := hb1.trans (hb2.mono hb1.size)); replace cc := cc w2 hw2)
    | (go_at_call 24; refine cc.mono ?_; clear cc; rintro e w3 ⟨rfl, hb3⟩; (have hw3 := hw2.trans (hb3.mono hw2.size)); (obtain ⟨t1, t2, t3⟩ := laid_theres w3 A B C); replace cp := cp w3; clear hb1 hb2 hw2 hb3)
    | (with_reducible (refine id (?_ : wpList _ _ _ _ _ _)); refine wpList_store_mid rfl 40 _ _ rfl w3.heap.size 0 (ints .u64 9 A).toArray rfl rfl t1 iA oA ?_; clear t1)
    | (with_reducible (refine id (?_ : wpList _ _ _ _ _ _)); refine wpList_store_mid rfl 40 _ _ rfl (w3.heap.size + 1) 0 (ints .u64 9 B).toArray rfl rfl t2 iB oB ?_; clear t2)
    | (with_reducible (refine id (?_ : wpList _ _ _ _ _ _)); refine wpList_store_mid rfl 40 _ _ rfl (w3.heap.size + 1 + 1) 0 (ints .u64 9 C).toArray rfl rfl t3 iC oC ?_; clear t3)
    | (go_at_call 28; refine Calls.mono (show Calls _ _ _ (laid3 w3 A B C) _ from cp) ?_; clear cp; rintro e w4 ⟨rfl, Y, hr4, hY, hY8, hval, ho4⟩; (have hb34 : Below w3.heap.size w3 w4 := (laid3_below w3 A B C).trans (ho4.below (by omega) (laid3_below w3 A B C).size)); (have hw4 := hw3.trans (hb34.mono hw3.size)); (have HV := Hid.mk' hval); clear hval; replace cr := cr w4 Y (w3.heap.size + 1 + 1) hY hY8 hr4 (hO.still hw4) (by omega))
    | (go_at_call 25; refine cr.mono ?_; clear cr; rintro e w5 ⟨h, rfl, hh1, hh2, hr5, ho5⟩))
  go_ret2
  have hb5 := hw4.trans (ho5.below (B := w.heap.size) (by have := hw3.size; omega) hw4.size)
  rw [HV.out] at hr5
  exact ⟨_, rfl, ⟨h, rfl, by have := hw4.size; omega, hr5⟩, hb5⟩
end Go.Proofs.YtmehhjogddpkgaaDoor
