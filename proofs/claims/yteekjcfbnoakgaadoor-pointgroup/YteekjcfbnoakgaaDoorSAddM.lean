/- What the proof stands on: SAdd, SApi, SApi2, SApi4, PScal, P6Laid. -/
import Derived.Test.YteekjcfbnoakgaaDoorPDcwM
import Derived.Test.YteekjcfbnoakgaaDoorPDecM
import Derived.Test.YteekjcfbnoakgaaDoorRQM
import Derived.Test.YteekjcfbnoakgaaDoorSqMathM
namespace Go.Proofs.YteekjcfbnoakgaaDoor
open Go.RowKit
set_option maxRecDepth 20000 in
set_option maxHeartbeats 4000000 in
theorem addp_any (g ga gb : Nat) (X A B : Nat → Nat) (hga : g ≠ ga) (hgb : g ≠ gb) (hX : ∀ j, X j < 18446744073709551616) (hA : ∀ j, A j < 18446744073709551616) (hB : ∀ j, B j < 18446744073709551616) (hz : ∀ j, 4 ≤ j → j < 9 → X j = 0) (w : World) (hrow0 : RowAt .u64 w g 0 9 X) (hra0 : RowAt .u64 w ga 0 9 A) (hrb0 : RowAt .u64 w gb 0 9 B) :
    Calls Tryd.prog 60 #[.pointer (some ⟨g, 0, none⟩), .pointer (some ⟨ga, 0, none⟩), .pointer (some ⟨gb, 0, none⟩)] w fun e w' => e = .returned (.tuple #[]) ∧ ∃ Y, RowAt .u64 w' g 0 9 Y ∧ (∀ j, Y j < 18446744073709551616) ∧ Y 8 = 0 ∧ pt Y 0 9 = pt X 0 9 + pt A 0 4 * pt B 0 4 ∧ Out g 0 9 w w' := by
  have hra : ∀ W, Out g 0 9 w W → RowAt .u64 W ga 0 9 A := fun W h => h.row hra0 (Ne.symm hga)
  have hrb : ∀ W, Out g 0 9 w W → RowAt .u64 W gb 0 9 B := fun W h => h.row hrb0 (Ne.symm hgb)
  clear hra0 hrb0
  go_enter Tryd.func60, Tryd.ntmps60
  go_wp2
  go_loopw [18] (fun i wr => ∃ (k : Nat) (Z : Nat → Nat), k ≤ 4 ∧ i = .int .i64 k ∧ RowAt .u64 wr g 0 9 Z ∧ (∀ j, Z j < 18446744073709551616) ∧ (∀ j, k + 4 ≤ j → j < 9 → Z j = 0) ∧ pt Z 0 9 = pt X 0 9 + pt A 0 k * pt B 0 4 ∧ Out g 0 9 w wr) (fun i _ => 4 - (intOf i).toNat)
  case atStart => exact ⟨0, X, by decide, rfl, hrow0, hX, fun j h1 h2 => hz j (by omega) h2, by rw [pt, Nat.zero_mul, Nat.add_zero], Out.refl _ _ _ _⟩
  case round =>
    clear hrow0 hX hz
    obtain ⟨k, Z, hk, rfl, hrow, hZ, hz, hval, hout⟩ := hrel
    by_cases hlt : k < 4
    · obtain ⟨ra, -⟩ := hra wr hout k (by omega)
      rw [Nat.zero_add] at ra
      have hz' := Hid.mk' hz
      have hval' := Hid.mk' hval
      have hki : (k : Int) < 4 := by omega
      clear hz hval
      go_wp2
      go_loopw [27, 8] (fun i c wt => ∃ (m C : Nat) (Y : Nat → Nat), m ≤ 4 ∧ i = .int .i64 m ∧ c = .int .u64 C ∧ C < 18446744073709551616 ∧ RowAt .u64 wt g 0 9 Y ∧ (∀ j, Y j < 18446744073709551616) ∧ (∀ j, k + 4 ≤ j → j < 9 → Y j = 0) ∧ pt Y 0 9 + C * 18446744073709551616 ^ (k + m) = pt Z 0 9 + A k * pt B 0 m * 18446744073709551616 ^ k ∧ Out g 0 9 w wt) (fun i _ _ => 4 - (intOf i).toNat)
      case atStart => exact ⟨0, 0, Z, by decide, rfl, rfl, by decide, hrow, hZ, hz'.out, by rw [pt, Nat.mul_zero, Nat.zero_mul, Nat.zero_mul], hout⟩
      case round =>
        clear hrow hout ra
        obtain ⟨m, C, Y, hm, rfl, rfl, hC, hrow, hY, hzY, hinv, hout⟩ := hrel
        by_cases hmt : m < 4
        · obtain ⟨rb, -⟩ := hrb wr hout m (by omega)
          obtain ⟨rg, fg⟩ := hrow (k + m) (by omega)
          rw [Nat.zero_add] at rb rg fg
          obtain ⟨h0, l0, hh0, hl0, e0, r0⟩ := mul64_ex (A k) (B m) (hA k) (hB m)
          obtain ⟨l1, k1, hl1, hk1, e1, r1⟩ := add64_ex0 l0 (Y (k + m)) hl0 (hY _)
          obtain ⟨l2, k2, hl2, hk2, e2, r2⟩ := add64_ex0 l1 C hl1 hC
          have hpu := pt_upd Y (k + m) l2 0 9 (by omega)
          rw [Nat.zero_add] at hpu
          have hstep := Hid.mk' (add_step (Nat.pow_add 18446744073709551616 k m) hinv e0 e1 e2 hpu)
          have hxy : A k * B m ≤ 18446744073709551615 * 18446744073709551615 := Nat.mul_le_mul (by have := hA k; omega) (by have := hB m; omega)
          have hYk := hY (k + m)
          have b1 : h0 + k1 < 18446744073709551616 := by omega
          have b2 : h0 + k1 + k2 < 18446744073709551616 := by
            generalize A k * B m = T at *
            omega
          have hzY' := Hid.mk' hzY
          have qw : IntKind.i64.wrap ((k : Int) + m) = (k : Int) + m := by simp only [IntKind.wrap_i64]; omega
          have q1 : ((k : Int) + m).toNat = k + m := by omega
          have q2 : (0 : Int) ≤ (k : Int) + m ∧ (k : Int) + m < 9 := by omega
          have hmi : (m : Int) < 4 := by omega
          have r0' := r0 wr
          clear hra hrb hinv e0 e1 e2 hpu hxy hzY r0
          go_wp2_with (first
            | (go_at_call 76; refine r0'.mono ?_; clear r0'; rintro e w' ⟨rfl, hw⟩; subst hw)
            | rw [r1])
          go_region_with (rw [r2])
          go_wp2
          have h1 := (hrow.set (i := k + m) (by omega) (v := (l2 : Int)) (u := l2) rfl).drew
          rw [Nat.zero_add] at h1
          refine ⟨⟨m + 1, h0 + k1 + k2, upd Y (k + m) l2, by omega, by go_num, by go_num, b2, h1, fun j => ?_, fun j h1 h2 => ?_, ?_, hout.trans ((Out.setCell w' _ (by omega) (by omega)).trans (Out.drew _))⟩, by simp [intOf]; omega⟩
          · unfold upd; split
            · exact hl2
            · exact hY j
          · unfold upd; rw [if_neg (by omega)]; exact hzY'.out j h1 h2
          · rw [← Nat.add_assoc, Nat.pow_succ, pt_succ0 B m]
            exact hstep.out
        · have hme : m = 4 := by omega
          subst hme
          obtain ⟨rg, fg⟩ := hrow (k + 4) (by omega)
          rw [Nat.zero_add] at rg fg
          have hzk := hzY (k + 4) (by omega) (by omega)
          have hpu := pt_upd Y (k + 4) C 0 9 (by omega)
          rw [Nat.zero_add, hzk, Nat.zero_mul, Nat.add_zero, hinv, hval'.out] at hpu
          have hpu' : pt (upd Y (k + 4) C) 0 9 = pt X 0 9 + pt A 0 (k + 1) * pt B 0 4 := by
            rw [hpu, pt_succ0 A k, Nat.add_mul, Nat.mul_right_comm, Nat.add_assoc]
          have HP := Hid.mk' hpu'
          have hzY' := Hid.mk' hzY
          have qw : IntKind.i64.wrap ((k : Int) + 4) = (k : Int) + 4 := by simp only [IntKind.wrap_i64]; omega
          have q1 : ((k : Int) + 4).toNat = k + 4 := by omega
          have q2 : (0 : Int) ≤ (k : Int) + 4 ∧ (k : Int) + 4 < 9 := by omega
          clear hpu hpu' hinv hzY hra hrb hzk
          go_wp2
          go_roundw
          case rel =>
            have h1 := hrow.set (i := k + 4) (by omega) (v := (C : Int)) (u := C) rfl
            rw [Nat.zero_add] at h1
            refine ⟨k + 1, upd Y (k + 4) C, by omega, by go_num, h1, fun j => ?_, fun j h1 h2 => ?_, HP.out, hout.trans (Out.setCell wr _ (by omega) (by omega))⟩
            · unfold upd; split
              · exact hC
              · exact hY j
            · unfold upd; rw [if_neg (by omega)]; exact hzY'.out j (by omega) h2
          case measure => simp [intOf]; omega
    · have hke : k = 4 := by omega
      subst hke
      have hz' := Hid.mk' hz
      have hval' := Hid.mk' hval
      clear hz hval hra hrb
      go_wp2
      go_end0
      exact ⟨rfl, Z, hrow, hZ, hz'.out 8 (by decide) (by decide), hval'.out, hout⟩
end Go.Proofs.YteekjcfbnoakgaaDoor
namespace Go.Proofs.YteekjcfbnoakgaaDoor
open Go.RowKit
theorem lw_zero {N k j : Nat} (h : N < 18446744073709551616 ^ k) (hj : k ≤ j) : lw N j = 0 := by
  unfold lw
  rw [Nat.div_eq_of_lt (Nat.lt_of_lt_of_le h (Nat.pow_le_pow_right (by decide) hj)), Nat.zero_mod]
theorem pt_lwN {N k : Nat} (h : N < 18446744073709551616 ^ k) : pt (lw N) 0 k = N := by rw [pt_lw, Nat.mod_eq_of_lt h]
theorem ofB_32 {bs : Nat → Nat} (hbs : ∀ j, bs j < 256) : ofB bs 32 < 18446744073709551616 ^ 4 := by
  have := ofB_lt bs hbs 32
  rw [show (18446744073709551616 : Nat) ^ 4 = 256 ^ 32 by decide]
  exact this
/-- A wide number laid into a new block. -/
def laidW (w : World) (X : Nat → Nat) : World := (w.alloc (.cells zW 83)).setCells w.heap.size 0 (ints .u64 9 X)
theorem laidW_there (w : World) (X : Nat → Nat) : (w.alloc (.cells zW 83)).there w.heap.size 0 (ints .u64 9 X).toArray.size := by
  rw [ints_size]; exact (RowAt.fresh (K := .u64) (X := fun _ => 0) (fun j hj => zW_at j hj)).there
theorem laidW_row (w : World) (X : Nat → Nat) : RowAt .u64 (laidW w X) w.heap.size 0 9 X := by
  have h := (RowAt.fresh (K := .u64) (w := w) (cs := zW) (t := 83) (X := fun _ => 0) (fun j hj => zW_at j hj)).splice 0 9 X (by decide)
  refine h.congr (fun j hj => ?_)
  unfold over; rw [if_pos ⟨Nat.zero_le _, by omega⟩, Nat.sub_zero]
theorem laidW_below (w : World) (X : Nat → Nat) : Below w.heap.size w (laidW w X) := below_setCells (Nat.le_refl _) _ _ _ ((Below.refl _ _).alloc (Nat.le_refl _) _)
theorem laidW_size (w : World) (X : Nat → Nat) : (laidW w X).heap.size = w.heap.size + 1 := by
  unfold laidW; rw [(setCells_same _ _ _ _).2.2.2]; simp
end Go.Proofs.YteekjcfbnoakgaaDoor
namespace Go.Proofs.YteekjcfbnoakgaaDoor
open Go.RowKit
theorem RowAt.farCells {K : IntKind} {w : World} {b o n : Nat} {X : Nat → Nat} (h : RowAt K w b o n X) {k : Nat} (hk : b ≠ k) (p : Nat) (vs : List Value) : RowAt K (w.setCells k p vs) b o n X := fun j hj => by
  have hb : (w.setCells k p vs).heap[b]? = w.heap[b]? := heap_setCells_other k vs p w b hk
  exact ⟨(World.cell?_of_block (w := w) hb).trans (h j hj).1, (World.frozen?_of_block (w := w) hb).trans (h j hj).2⟩
/-- Three new blocks of nine zeros. -/
abbrev three0 (w : World) : World := ((w.alloc (.cells zW 83)).alloc (.cells zW 83)).alloc (.cells zW 83)
theorem three0_below (w : World) : Below w.heap.size w (three0 w) := (((Below.refl _ _).alloc (Nat.le_refl _) _).alloc (by simp) _).alloc (by simp; omega) _
theorem fresh9 (w : World) : RowAt .u64 (w.alloc (.cells zW 83)) w.heap.size 0 9 (fun _ => 0) := RowAt.fresh (fun j hj => zW_at j hj)
theorem three0_rows (w : World) : RowAt .u64 (three0 w) w.heap.size 0 9 (fun _ => 0) ∧ RowAt .u64 (three0 w) (w.heap.size + 1) 0 9 (fun _ => 0) ∧ RowAt .u64 (three0 w) (w.heap.size + 1 + 1) 0 9 (fun _ => 0) := by
  have h2 := fresh9 (w.alloc (.cells zW 83))
  have h3 := fresh9 ((w.alloc (.cells zW 83)).alloc (.cells zW 83))
  rw [World.size_alloc] at h2 h3
  rw [World.size_alloc] at h3
  exact ⟨((fresh9 w).alloc (by simp) _).alloc (by simp; omega) _, h2.alloc (by simp) _, h3⟩
theorem put9 {w : World} {g : Nat} (h : RowAt .u64 w g 0 9 (fun _ => 0)) (X : Nat → Nat) : RowAt .u64 (w.setCells g 0 (ints .u64 9 X)) g 0 9 X := by
  refine (h.splice 0 9 X (by decide)).congr (fun j hj => ?_)
  unfold over; rw [if_pos ⟨Nat.zero_le _, by omega⟩, Nat.sub_zero]
/-- Three wide numbers laid into new blocks. -/
abbrev laid1 (w : World) (A : Nat → Nat) : World := (three0 w).setCells w.heap.size 0 (ints .u64 9 A)
abbrev laid2 (w : World) (A B : Nat → Nat) : World := (laid1 w A).setCells (w.heap.size + 1) 0 (ints .u64 9 B)
def laid3 (w : World) (A B C : Nat → Nat) : World := (laid2 w A B).setCells (w.heap.size + 1 + 1) 0 (ints .u64 9 C)
theorem laid_theres (w : World) (A B C : Nat → Nat) : (three0 w).there w.heap.size 0 (ints .u64 9 A).toArray.size ∧ (laid1 w A).there (w.heap.size + 1) 0 (ints .u64 9 B).toArray.size ∧ (laid2 w A B).there (w.heap.size + 1 + 1) 0 (ints .u64 9 C).toArray.size := by
  obtain ⟨h1, h2, h3⟩ := three0_rows w
  rw [ints_size, ints_size, ints_size]
  exact ⟨h1.there, (h2.farCells (by omega) _ _).there, ((h3.farCells (by omega) _ _).farCells (by omega) _ _).there⟩
theorem laid3_rows (w : World) (A B C : Nat → Nat) : RowAt .u64 (laid3 w A B C) w.heap.size 0 9 A ∧ RowAt .u64 (laid3 w A B C) (w.heap.size + 1) 0 9 B ∧ RowAt .u64 (laid3 w A B C) (w.heap.size + 1 + 1) 0 9 C := by
  obtain ⟨h1, h2, h3⟩ := three0_rows w
  exact ⟨((put9 h1 A).farCells (by omega) _ _).farCells (by omega) _ _, (put9 (h2.farCells (by omega) _ _) B).farCells (by omega) _ _, put9 ((h3.farCells (by omega) _ _).farCells (by omega) _ _) C⟩
theorem laid3_below (w : World) (A B C : Nat → Nat) : Below w.heap.size w (laid3 w A B C) := below_setCells (by omega) _ _ _ (below_setCells (by omega) _ _ _ (below_setCells (Nat.le_refl _) _ _ _ (three0_below w)))
theorem addp_eq {p q r a b c N : Nat} (hp : p = a) (hq : q = b) (hr : r = c) (h : a + b * c = N) : p + q * r = N := by rw [hp, hq, hr]; exact h
theorem addp_N (g ga gb : Nat) (X A B : Nat → Nat) (N : Nat) (hN : pt X 0 9 + pt A 0 4 * pt B 0 4 = N) (hga : g ≠ ga) (hgb : g ≠ gb) (hX : ∀ j, X j < 18446744073709551616) (hA : ∀ j, A j < 18446744073709551616) (hB : ∀ j, B j < 18446744073709551616) (hz : ∀ j, 4 ≤ j → j < 9 → X j = 0) (w : World) (hrow0 : RowAt .u64 w g 0 9 X) (hra0 : RowAt .u64 w ga 0 9 A) (hrb0 : RowAt .u64 w gb 0 9 B) :
    Calls Tryd.prog 60 #[.pointer (some ⟨g, 0, none⟩), .pointer (some ⟨ga, 0, none⟩), .pointer (some ⟨gb, 0, none⟩)] w fun e w' => e = .returned (.tuple #[]) ∧ ∃ Y, RowAt .u64 w' g 0 9 Y ∧ (∀ j, Y j < 18446744073709551616) ∧ Y 8 = 0 ∧ pt Y 0 9 = N ∧ Out g 0 9 w w' :=
  (addp_any g ga gb X A B hga hgb hX hA hB hz w hrow0 hra0 hrb0).mono fun _ _ ⟨he, Y, h1, h2, h3, h4, h5⟩ => ⟨he, Y, h1, h2, h3, h4.trans hN, h5⟩
set_option maxRecDepth 20000 in
set_option maxHeartbeats 4000000 in
theorem muladd_good (va vb vc : Value) (ds bs cs : Nat → Nat) (hds : ∀ j, ds j < 256) (hbs : ∀ j, bs j < 256) (hcs : ∀ j, cs j < 256) (w : World) (hO : Ord w) (ha : BytesIn w va 32 ds) (hb : BytesIn w vb 32 bs) (hc : BytesIn w vc 32 cs) :
    Calls Tryd.prog 30 #[va, vb, vc] w fun e w' => ∃ s, e = .returned (.tuple #[s, .int .i64 0]) ∧ NewB w w' s 32 (byt ((ofB cs 32 + ofB ds 32 * ofB bs 32) % oL)) ∧ Below w.heap.size w w' := by
  have ca := load_any va 32 ds hds (by decide) w ha
  have cb := fun W (h : Below w.heap.size w W) => load_any vb 32 bs hbs (by decide) W (hb.still h)
  have cc := fun W (h : Below w.heap.size w W) => load_any vc 32 cs hcs (by decide) W (hc.still h)
  have pA := pt_lwN (ofB_32 hds)
  have pB := pt_lwN (ofB_32 hbs)
  have pC := pt_lwN (Nat.lt_of_lt_of_le (ofB_32 hcs) (Nat.pow_le_pow_right (n := 18446744073709551616) (by decide) (show 4 ≤ 9 by decide)))
  have zC := fun j (h : 4 ≤ j) (_ : j < 9) => lw_zero (ofB_32 hcs) h
  obtain ⟨xa, ka, rfl, -⟩ := ha.src
  obtain ⟨xb, kb, rfl, -⟩ := hb.src
  obtain ⟨xc, kc, rfl, -⟩ := hc.src
  have hA := lw_lt (ofB ds 32)
  have hB := lw_lt (ofB bs 32)
  have hC := lw_lt (ofB cs 32)
  generalize hN : ofB cs 32 + ofB ds 32 * ofB bs 32 = N
  have hN' := Hid.mk' (addp_eq pC pA pB hN)
  obtain ⟨A, hAe⟩ : ∃ X, X = lw (ofB ds 32) := ⟨_, rfl⟩
  obtain ⟨B, hBe⟩ : ∃ X, X = lw (ofB bs 32) := ⟨_, rfl⟩
  obtain ⟨C, hCe⟩ : ∃ X, X = lw (ofB cs 32) := ⟨_, rfl⟩
  rw [← hAe] at ca hA hN'
  rw [← hBe] at cb hB hN'
  rw [← hCe] at cc hC zC hN'
  unfold wideV at ca cb cc
  clear pA pB pC hN hAe hBe hCe ha hb hc hds hbs hcs
  have cp := fun (W : World) => addp_N (W.heap.size + 1 + 1) W.heap.size (W.heap.size + 1) C A B N hN'.out (by omega) (by omega) hC hA hB zC (laid3 W A B C) (laid3_rows W A B C).2.2 (laid3_rows W A B C).1 (laid3_rows W A B C).2.1
  have cr := fun (W : World) (X : Nat → Nat) g (hX : ∀ j, X j < 18446744073709551616) h8 hr hOW hg => rest_any g X hX h8 W hr hOW hg
  have hz := zeroW
  have iA := infoWA A
  have iB := infoWA B
  have iC := infoWA C
  have oA := oneW A
  have oB := oneW B
  have oC := oneW C
  clear hN' hA hB hC zC
  go_enter Tryd.func30, Tryd.ntmps30
  go_wp2_with (first
    | (go_at_call 59; refine ca.mono ?_; clear ca; rintro e w1 ⟨rfl, hb1⟩; replace cb := cb w1 hb1)
    | (go_at_call 59; refine cb.mono ?_; clear cb; rintro e w2 ⟨rfl, hb2⟩; (have hw2 := hb1.trans (hb2.mono hb1.size)); replace cc := cc w2 hw2)
    | (go_at_call 59; refine cc.mono ?_; clear cc; rintro e w3 ⟨rfl, hb3⟩; (have hw3 := hw2.trans (hb3.mono hw2.size)); (obtain ⟨t1, t2, t3⟩ := laid_theres w3 A B C); replace cp := cp w3; clear hb1 hb2 hw2 hb3)
    | (with_reducible (refine id (?_ : wpList _ _ _ _ _ _)); refine wpList_store_mid rfl 83 _ _ rfl w3.heap.size 0 (ints .u64 9 A).toArray rfl rfl t1 iA oA ?_; clear t1)
    | (with_reducible (refine id (?_ : wpList _ _ _ _ _ _)); refine wpList_store_mid rfl 83 _ _ rfl (w3.heap.size + 1) 0 (ints .u64 9 B).toArray rfl rfl t2 iB oB ?_; clear t2)
    | (with_reducible (refine id (?_ : wpList _ _ _ _ _ _)); refine wpList_store_mid rfl 83 _ _ rfl (w3.heap.size + 1 + 1) 0 (ints .u64 9 C).toArray rfl rfl t3 iC oC ?_; clear t3)
    | (go_at_call 60; refine Calls.mono (show Calls _ _ _ (laid3 w3 A B C) _ from cp) ?_; clear cp; rintro e w4 ⟨rfl, Y, hr4, hY, hY8, hval, ho4⟩; (have hb34 : Below w3.heap.size w3 w4 := (laid3_below w3 A B C).trans (ho4.below (by omega) (laid3_below w3 A B C).size)); (have hw4 := hw3.trans (hb34.mono hw3.size)); (have HV := Hid.mk' hval); clear hval; replace cr := cr w4 Y (w3.heap.size + 1 + 1) hY hY8 hr4 (hO.still hw4) (by omega))
    | (go_at_call 61; refine cr.mono ?_; clear cr; rintro e w5 ⟨h, rfl, hh1, hh2, hr5, ho5⟩))
  go_ret2
  have hb5 := hw4.trans (ho5.below (B := w.heap.size) (by have := hw3.size; omega) hw4.size)
  rw [HV.out] at hr5
  exact ⟨_, rfl, ⟨h, rfl, by have := hw4.size; omega, hr5⟩, hb5⟩
end Go.Proofs.YteekjcfbnoakgaaDoor
namespace Go.Proofs.YteekjcfbnoakgaaDoor
open Go.RowKit
/-- The words of the order less one. -/
def Mw (j : Nat) : Nat := if j = 0 then 6346243789798364140 else if j = 1 then 1503914060200516822 else if j = 3 then 1152921504606846976 else 0
theorem Mw_lt (j : Nat) : Mw j < 18446744073709551616 := by
  unfold Mw; split
  · decide
  · split
    · decide
    · split <;> decide
theorem Mw_val : pt Mw 0 4 = oL - 1 := by kernel_rfl
theorem Mw_cells : (ints .u64 9 Mw).toArray = #[.int .u64 6346243789798364140, .int .u64 1503914060200516822, .int .u64 0, .int .u64 1152921504606846976, .int .u64 0, .int .u64 0, .int .u64 0, .int .u64 0, .int .u64 0] := rfl
theorem neg_mod (x : Nat) : (0 + (oL - 1) * x) % oL = (oL - x % oL) % oL := by
  have hx : x % oL < oL := Nat.mod_lt _ (by decide)
  have h0 : 0 < oL := by decide
  have e : ∀ q r : Nat, r < oL → (oL - 1) * (oL * q + r) % oL = (oL - r) % oL := fun q r hr => by
    have e1 : (oL - 1) * (oL * q + r) = (oL - 1) * r + oL * ((oL - 1) * q) := by
      rw [Nat.mul_add, Nat.mul_left_comm, Nat.add_comm]
    rw [e1, Nat.add_mul_mod_self_left]
    cases r with
    | zero => rw [Nat.mul_zero, Nat.zero_mod, Nat.sub_zero, Nat.mod_self]
    | succ r =>
      have e2 : (oL - 1) * (r + 1) = (oL - (r + 1)) + oL * r := by
        rw [Nat.sub_mul, Nat.mul_succ]
        have : r + 1 ≤ oL := by omega
        omega
      rw [e2, Nat.add_mul_mod_self_left]
  have h := e (x / oL) (x % oL) hx
  rw [Nat.div_add_mod] at h
  rw [Nat.zero_add]
  exact h
/-- A wide number laid into a new block, and zeros behind it. -/
def negW (w : World) (B : Nat → Nat) : World := (laidW w B).alloc (.cells zW 83)
theorem negW_below (w : World) (B : Nat → Nat) : Below w.heap.size w (negW w B) := (laidW_below w B).alloc (by rw [laidW_size]; omega) _
theorem negW_rows (w : World) (B : Nat → Nat) {g : Nat} {M : Nat → Nat} (h : RowAt .u64 w g 0 9 M) (hg : g < w.heap.size) : RowAt .u64 (negW w B) (laidW w B).heap.size 0 9 (fun _ => 0) ∧ RowAt .u64 (negW w B) g 0 9 M ∧ RowAt .u64 (negW w B) w.heap.size 0 9 B := by
  exact ⟨fresh9 (laidW w B), h.below (negW_below w B) hg, (laidW_row w B).alloc (by rw [laidW_size]; omega) _⟩
set_option maxRecDepth 20000 in
set_option maxHeartbeats 4000000 in
theorem neg_good (v : Value) (bs : Nat → Nat) (hbs : ∀ j, bs j < 256) (w : World) (hO : Ord w) (hv : BytesIn w v 32 bs) :
    Calls Tryd.prog 31 #[v] w fun e w' => ∃ s, e = .returned (.tuple #[s, .int .i64 0]) ∧ NewB w w' s 32 (byt ((oL - ofB bs 32 % oL) % oL)) ∧ Below w.heap.size w w' := by
  have cl := fun (W : World) (hW : Below w.heap.size w W) => load_any v 32 bs hbs (by decide) W (hv.still hW)
  have pB := pt_lwN (ofB_32 hbs)
  obtain ⟨xv, kv, rfl, -⟩ := hv.src
  have hB := lw_lt (ofB bs 32)
  rw [← neg_mod (ofB bs 32)]
  generalize hN : 0 + (oL - 1) * ofB bs 32 = N
  have hN' := Hid.mk' (addp_eq (show pt (fun _ => 0) 0 9 = 0 from pt_zero 9 (fun _ _ => rfl)) Mw_val pB hN)
  obtain ⟨B, hBe⟩ : ∃ X, X = lw (ofB bs 32) := ⟨_, rfl⟩
  rw [← hBe] at cl hB hN'
  unfold wideV at cl
  have o0 : w.cell? ⟨0, 0, none⟩ = some (.int .u64 6346243789798364141) := hO 0 (by decide)
  have o1 : w.cell? ⟨0, 1, none⟩ = some (.int .u64 1503914060200516822) := hO 1 (by decide)
  have o2 : w.cell? ⟨0, 2, none⟩ = some (.int .u64 0) := hO 2 (by decide)
  have o3 : w.cell? ⟨0, 3, none⟩ = some (.int .u64 1152921504606846976) := hO 3 (by decide)
  have cp := fun (W : World) (g ga gb : Nat) h1 h2 hr1 hr2 hr3 => addp_N g ga gb (fun _ => 0) Mw B N hN'.out h1 h2 (fun _ => by decide) Mw_lt hB (fun _ _ _ => rfl) W hr1 hr2 hr3
  have cr := fun (W : World) (X : Nat → Nat) g (hX : ∀ j, X j < 18446744073709551616) h8 hr hOW hg => rest_any g X hX h8 W hr hOW hg
  have hz := zeroW
  have iM := infoWA Mw
  have oM := oneW Mw
  have tM := laidW_there w Mw
  rw [Mw_cells] at iM oM tM
  have iB := infoWA B
  have oB := oneW B
  clear pB hBe hN hN' hB hv hbs
  go_enter Tryd.func31, Tryd.ntmps31
  go_wp2_with (first
    | (with_reducible (refine id (?_ : wpList _ _ _ _ _ _)); refine wpList_store_mid rfl 83 _ _ rfl w.heap.size 0 #[.int .u64 6346243789798364140, .int .u64 1503914060200516822, .int .u64 0, .int .u64 1152921504606846976, .int .u64 0, .int .u64 0, .int .u64 0, .int .u64 0, .int .u64 0] rfl rfl tM iM oM ?_; clear tM iM oM)
    | (go_at_call 59; refine Calls.mono (show Calls _ _ _ (laidW w Mw) _ from cl (laidW w Mw) (laidW_below w Mw)) ?_; clear cl; rintro e w1 ⟨rfl, hb1⟩; (have hth := laidW_there w1 B); (have rM := (laidW_row w Mw).below hb1 (by rw [laidW_size]; omega)); (have hs1 : w.heap.size < w1.heap.size := by have := hb1.size; rw [laidW_size] at this; omega); (have hw1 := (laidW_below w Mw).trans (hb1.mono (laidW_below w Mw).size)); (have hne1 : (laidW w1 B).heap.size ≠ w.heap.size := by rw [laidW_size]; omega); (have hne2 : (laidW w1 B).heap.size ≠ w1.heap.size := by rw [laidW_size]; omega); (have hge : w1.heap.size ≤ (laidW w1 B).heap.size := by rw [laidW_size]; omega))
    | (with_reducible (refine id (?_ : wpList _ _ _ _ _ _)); refine wpList_store_mid rfl 83 _ _ rfl w1.heap.size 0 (ints .u64 9 B).toArray rfl rfl hth iB oB ?_; clear hth)
    | (go_at_call 60; refine Calls.mono (show Calls _ _ _ (negW w1 B) _ from cp (negW w1 B) (laidW w1 B).heap.size w.heap.size w1.heap.size hne1 hne2 (negW_rows w1 B rM hs1).1 (negW_rows w1 B rM hs1).2.1 (negW_rows w1 B rM hs1).2.2) ?_; clear cp; rintro e w4 ⟨rfl, Y, hr4, hY, hY8, hval, ho4⟩; (have hb14 : Below w1.heap.size w1 w4 := (negW_below w1 B).trans (ho4.below hge (negW_below w1 B).size)); (have hw4 := hw1.trans (hb14.mono hw1.size)); (have HV := Hid.mk' hval); clear hval; replace cr := cr w4 Y (laidW w1 B).heap.size hY hY8 hr4 (hO.still hw4) (by omega))
    | (go_at_call 61; refine Calls.mono (show Calls _ _ #[.pointer (some ⟨(laidW w1 B).heap.size, 0, none⟩)] _ _ from cr) ?_; clear cr; rintro e w5 ⟨h, rfl, hh1, hh2, hr5, ho5⟩))
  go_ret2
  have hb5 := hw4.trans (ho5.below (B := w.heap.size) (by omega) hw4.size)
  rw [HV.out] at hr5
  exact ⟨_, rfl, ⟨h, rfl, by have := hw4.size; omega, hr5⟩, hb5⟩
end Go.Proofs.YteekjcfbnoakgaaDoor
namespace Go.Proofs.YteekjcfbnoakgaaDoor
open Go.RowKit
/-- With more that stays true. -/
theorem PointApi.more {G G' : World → Prop} {R : List Value → Fp × Fp → Prop} (api : PointApi G R) (h : ∀ w, G' w → G w) (hk : ∀ w w', G' w → Below w.heap.size w w' → G' w') : PointApi G' R where
  keep := hk
  len := api.len
  one := api.one
  on := api.on
  base := fun w hG => api.base w (h w hG)
  zero := fun w hG => api.zero w (h w hG)
  enc := fun c P w hc hG => api.enc c P w hc (h w hG)
  plus := fun c P d Q w hc hd hG => api.plus c P d Q w hc hd (h w hG)
  neg := fun c P w hc hG => api.neg c P w hc (h w hG)
  same := fun c P d Q w hc hd hG => api.same c P d Q w hc hd (h w hG)
  times := fun c P v ks w hc hks hv hG => api.times c P v ks w hc hks hv (h w hG)
  timesBad := fun c P v n ks w hc hn hv hG => api.timesBad c P v n ks w hc hn hv (h w hG)
  dec := fun v bs w hbs hv hG => api.dec v bs w hbs hv (h w hG)
  decBad := fun v n bs w hn hv hG => api.decBad v n bs w hn hv (h w hG)
theorem ord_same : ordN = oL := rfl
theorem scal_api {G : World → Prop} (hO : ∀ w, G w → Ord w) : ScalApi G where
  mul := fun va vb vc ds bs cs w hds hbs hcs hG ha hb hc => by
    rw [ord_same]
    exact muladd_good va vb vc ds bs cs hds hbs hcs w (hO w hG) ha hb hc
  neg := fun v bs w hbs hG hv => by
    rw [ord_same]
    exact neg_good v bs hbs w (hO w hG) hv
end Go.Proofs.YteekjcfbnoakgaaDoor
namespace Go.Proofs.YteekjcfbnoakgaaDoor
open Go
def orderL : List Nat := [6346243789798364141, 1503914060200516822, 0, 1152921504606846976]
theorem cellsOfOrder : Tryd.prog.cellsOf 25 = 4 := by kernel_rfl
theorem orderL_eq : Rows.laid_synod_scalar_order = (Lib.tabData .u64 (orderL.map fun n : Nat => (n : Int)) : DataW Unit) := rfl
theorem gOrder : Tryd.prog.globalNamed "synod/scalar.order" = some 0 := by kernel_rfl
theorem tOrder : (Tryd.prog.globals[0]?).map (·.type) = some 25 := by kernel_rfl
theorem both_of_laid {W : World} (h : laidMetH Tryd.prog [("synod/field.rootOfMinusOne", Rows.laid_synod_field_rootOfMinusOne), ("synod/scalar.order", Rows.laid_synod_scalar_order)] W) : IM W ∧ Ord W := by
  have h' : laidMet Tryd.prog [("synod/field.rootOfMinusOne", Rows.laid_synod_field_rootOfMinusOne), ("synod/scalar.order", Rows.laid_synod_scalar_order)] W := h
  obtain ⟨ps, ⟨g1, t1, cs1, f1, p1, q1, hg1, ht1, hv1, hd1, hr, _⟩, _⟩ := h'
  obtain ⟨g2, t2, cs2, f2, p2, q2, hg2, ht2, hv2, hd2, _, _⟩ := hr
  obtain rfl := Option.some.inj (gRoot.symm.trans hg1)
  obtain rfl := Option.some.inj (tRoot.symm.trans ht1)
  obtain rfl := Option.some.inj (gOrder.symm.trans hg2)
  obtain rfl := Option.some.inj (tOrder.symm.trans ht2)
  rw [rootL_eq] at hd1
  rw [orderL_eq] at hd2
  have c1 := Lib.cells_of_tab Tryd.underlying26 Tryd.underlying24 cellsOfWord cellsOfLimbs hd1
  have c2 := Lib.cells_of_tab Tryd.underlying25 Tryd.underlying24 cellsOfWord cellsOfOrder hd2
  have hr : W.rangeAt 1 0 (c4 iM) := fun j v hv => by
    rw [Nat.zero_add, World.var?_cell gRoot hv1 j, ← Array.getElem?_toList, c1, ← hv, c4_iM]
    simp [rootL]
  refine ⟨⟨hr, block_lt_of_cell (hr 0 _ rfl)⟩, fun j hj => ?_⟩
  rw [World.var?_cell gOrder hv2 j, ← Array.getElem?_toList, c2]
  have h : j = 0 ∨ j = 1 ∨ j = 2 ∨ j = 3 := by omega
  rcases h with rfl | rfl | rfl | rfl <;> rfl
/-- A WORLD FOR THE WITNESS: the settled one, both variables holding what their initialisers lay. -/
noncomputable def laidWorld2 (os : Os) : World :=
  { World.holding Tryd.prog os ⟨#[], #[], []⟩ with heap := ((World.holding Tryd.prog os ⟨#[], #[], []⟩).heap.modify 1 (lay #[.int .u64 14190309331451158704, .int .u64 3405592160176694392, .int .u64 3120150775007532967, .int .u64 3135389899092516619])).modify 0 (lay #[.int .u64 6346243789798364141, .int .u64 1503914060200516822, .int .u64 0, .int .u64 1152921504606846976]) }
end Go.Proofs.YteekjcfbnoakgaaDoor
