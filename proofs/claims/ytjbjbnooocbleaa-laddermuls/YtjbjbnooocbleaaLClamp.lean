/- What Clamp and pointOf do in the model. -/
import Derived.Test.YtjbjbnooocbleaaLNews
namespace Go.Proofs.Ytjbjbnooocbleaa
open Go.RowKit
/-- Bytes, clamped. -/
def clB (bs : Nat → Nat) (j : Nat) : Nat := if j = 0 then bs 0 / 8 * 8 else if j = 31 then bs 31 % 64 + 64 else bs j
theorem clB_lt {bs : Nat → Nat} (h : ∀ j, bs j < 256) (j : Nat) : clB bs j < 256 := by
  unfold clB
  have := h 0; have := h 31; have := h j
  split
  · omega
  · split
    · omega
    · exact h j
/-- Bytes without the highest bit. -/
def loB (bs : Nat → Nat) (j : Nat) : Nat := if j = 31 then bs 31 % 128 else bs j
theorem loB_lt {bs : Nat → Nat} (h : ∀ j, bs j < 256) (j : Nat) : loB bs j < 256 := by
  unfold loB
  have := h 31
  split
  · omega
  · exact h j
theorem and_not7 : ∀ b : Nat, b < 256 → bits .andNot .u8 (b : Int) 7 = ((b / 8 * 8 : Nat) : Int) := by decide +kernel
theorem and_not128 : ∀ b : Nat, b < 256 → bits .andNot .u8 (b : Int) 128 = ((b % 128 : Nat) : Int) := by decide +kernel
theorem or_64 : ∀ b : Nat, b < 128 → bits .or .u8 (b : Int) 64 = ((b % 64 + 64 : Nat) : Int) := by decide +kernel
set_option maxRecDepth 20000 in
set_option maxHeartbeats 2000000 in
theorem clamp_bad (v : Value) (n : Nat) (bs : Nat → Nat) (w : World) (hv : BytesIn w v n bs) (hn : n ≠ 32) : Calls Try.prog 9 #[v] w fun e w' => e = .returned (.tuple #[.slice none 0 0, .int .i64 1]) ∧ w' = w := by
  obtain ⟨xo, c, rfl, hxn, hnc, hsrc⟩ := hv.src
  have h1 : ¬((n : Int) = 32) := by omega
  clear hv hsrc
  go_enter Try.func9, Try.ntmps9
  go_wp2
  exact bodyPost_ret (results_tmp2 rfl _ _ _) rfl ⟨rfl, rfl⟩
set_option maxRecDepth 20000 in
set_option maxHeartbeats 2000000 in
theorem clamp_good (v : Value) (bs : Nat → Nat) (hbs : ∀ j, bs j < 256) (w : World) (hv : BytesIn w v 32 bs) : Calls Try.prog 9 #[v] w fun e w' => ∃ s, e = .returned (.tuple #[s, .int .i64 0]) ∧ NewB w w' s 32 (clB bs) ∧ Below w.heap.size w w' := by
  have hmk := make_bytes w 32 32 rfl (by decide)
  obtain ⟨W, hW⟩ : ∃ W, W = w.alloc (.cells (zb 32) 5) := ⟨_, rfl⟩
  have hrow : RowAt .u8 W w.heap.size 0 32 (fun _ => 0) := by rw [hW]; exact RowAt.fresh (fun j hj => zb_at 32 j hj)
  have hb : Below w.heap.size w W := by rw [hW]; exact (Below.refl _ _).alloc (Nat.le_refl _) _
  obtain ⟨xo, c, rfl, hxn, hnc, hsrc⟩ := hv.src
  have src := hsrc W hb
  have hth := hrow.there
  have hsp := hrow.splice 0 32 bs (by decide)
  rw [← hW] at hmk
  have hb2 : Below w.heap.size w (W.setCells w.heap.size 0 (ints .u8 32 bs)) := below_setCells (Nat.le_refl _) _ _ _ hb
  replace hsp : RowAt .u8 (W.setCells w.heap.size 0 (ints .u8 32 bs)) w.heap.size 0 32 bs := hsp.congr (fun j hj => by unfold over; rw [if_pos ⟨Nat.zero_le _, by omega⟩, Nat.sub_zero])
  obtain ⟨V, hV⟩ : ∃ V, V = W.setCells w.heap.size 0 (ints .u8 32 bs) := ⟨_, rfl⟩
  rw [← hV] at hsp hb2
  have HV := Hid.mk' hV
  clear hW hv hsrc hV hrow
  have c0 := (hsp 0 (by decide)).1
  have f0 := (hsp 0 (by decide)).2
  have c1 := (hsp 31 (by decide)).1
  have f1 := (hsp 31 (by decide)).2
  rw [Nat.zero_add] at c0 f0 c1 f1
  have e1 := and_not7 (bs 0) (hbs 0)
  have e2 := and_not128 (bs 31) (hbs 31)
  have e3 := or_64 (bs 31 % 128) (by omega)
  have r1 := hsp.set (i := 0) (by decide) (v := ((bs 0 / 8 * 8 : Nat) : Int)) rfl
  rw [Nat.zero_add] at r1
  have r2 := r1.set (i := 31) (by decide) (v := ((bs 31 % 128 : Nat) : Int)) rfl
  rw [Nat.zero_add] at r2
  have r3 := r2.set (i := 31) (by decide) (v := ((bs 31 % 128 % 64 + 64 : Nat) : Int)) rfl
  rw [Nat.zero_add] at r3
  generalize ((bs 0 / 8 * 8 : Nat) : Int) = b0 at *
  generalize hb1 : ((bs 31 % 128 : Nat) : Int) = b1 at *
  generalize ((bs 31 % 128 % 64 + 64 : Nat) : Int) = b3 at *
  clear hb1
  go_enter Try.func9, Try.ntmps9
  go_wp2_with (first
    | rw [hmk]
    | (refine wpList_copy_bytes rfl _ _ 22 22 rfl 5 Try.underlying22 infoByte w.heap.size 0 32 32 xo 32 c rfl rfl 32 bs src rfl hth ?_; rw [← HV.out]; clear src hth HV hmk))
  refine bodyPost_ret (results_tmp2 rfl _ _ _) rfl ⟨_, rfl, ⟨w.heap.size, rfl, Nat.le_refl _, r3.congr (fun j hj => ?_)⟩, ?_⟩
  · unfold upd clB
    by_cases h31 : j = 31
    · rw [if_pos h31, if_neg (by omega), if_pos h31]; omega
    · simp only [if_neg h31]
  · exact below_setCells (Nat.le_refl _) [_] 31 _ (below_setCells (Nat.le_refl _) [_] 31 _ (below_setCells (Nat.le_refl _) [_] 0 _ hb2))
set_option maxRecDepth 20000 in
set_option maxHeartbeats 2000000 in
theorem pointOf_bad (v : Value) (n : Nat) (bs : Nat → Nat) (w : World) (hv : BytesIn w v n bs) (hn : n ≠ 32) : Calls Try.prog 23 #[v] w fun e w' => e = .returned (.tuple #[numV 0, .int .i64 1]) ∧ Below w.heap.size w w' := by
  obtain ⟨xo, c, rfl, hxn, hnc, hsrc⟩ := hv.src
  have h1 : ¬((n : Int) = 32) := by omega
  have hr := fresh4' w
  clear hv hsrc
  go_enter Try.func23, Try.ntmps23
  go_wp2
  exact bodyPost_ret (results_cell_tmp Try.results23 _ _ w.heap.size 0 (c4 0) _ rfl hr.range Try.underlying42 rfl info4) rfl ⟨rfl, (Below.refl _ _).alloc (Nat.le_refl _) _⟩
set_option maxRecDepth 20000 in
set_option maxHeartbeats 2000000 in
theorem pointOf_good (v : Value) (bs : Nat → Nat) (hbs : ∀ j, bs j < 256) (w : World) (hv : BytesIn w v 32 bs) : Calls Try.prog 23 #[v] w fun e w' => e = .returned (.tuple #[numV (ofB (loB bs) 32 % pF), .int .i64 0]) ∧ Below w.heap.size w w' := by
  obtain ⟨Z, hZ⟩ : ∃ Z, Z = w.alloc (.cells #[.int .u64 0, .int .u64 0, .int .u64 0, .int .u64 0] 42) := ⟨_, rfl⟩
  have hZr : RW Z w.heap.size 0 (c4 0) := by rw [hZ]; exact fresh4' w
  have hZb : Below w.heap.size w Z := by rw [hZ]; exact (Below.refl _ _).alloc (Nat.le_refl _) _
  have HZ := Hid.mk' hZ
  clear hZ
  have hmk := make_bytes Z 32 32 rfl (by decide)
  obtain ⟨W, hW⟩ : ∃ W, W = Z.alloc (.cells (zb 32) 5) := ⟨_, rfl⟩
  have hrow : RowAt .u8 W Z.heap.size 0 32 (fun _ => 0) := by rw [hW]; exact RowAt.fresh (fun j hj => zb_at 32 j hj)
  have hb : Below Z.heap.size Z W := by rw [hW]; exact (Below.refl _ _).alloc (Nat.le_refl _) _
  obtain ⟨xo, c, rfl, hxn, hnc, hsrc⟩ := hv.src
  have src := hsrc W (below_next hZb hb)
  have hth := hrow.there
  have hsp := hrow.splice 0 32 bs (by decide)
  rw [← hW] at hmk
  have hb2 : Below Z.heap.size Z (W.setCells Z.heap.size 0 (ints .u8 32 bs)) := below_setCells (Nat.le_refl _) _ _ _ hb
  replace hsp : RowAt .u8 (W.setCells Z.heap.size 0 (ints .u8 32 bs)) Z.heap.size 0 32 bs := hsp.congr (fun j hj => by unfold over; rw [if_pos ⟨Nat.zero_le _, by omega⟩, Nat.sub_zero])
  obtain ⟨V, hV⟩ : ∃ V, V = W.setCells Z.heap.size 0 (ints .u8 32 bs) := ⟨_, rfl⟩
  rw [← hV] at hsp hb2
  have HV := Hid.mk' hV
  clear hW hv hsrc hV hrow
  have c1 := (hsp 31 (by decide)).1
  have f1 := (hsp 31 (by decide)).2
  rw [Nat.zero_add] at c1 f1
  have e2 := and_not128 (bs 31) (hbs 31)
  have r2 := hsp.set (i := 31) (by decide) (v := ((bs 31 % 128 : Nat) : Int)) rfl
  rw [Nat.zero_add] at r2
  generalize ((bs 31 % 128 : Nat) : Int) = b1 at *
  replace r2 := r2.congr (Y := loB bs) (fun j hj => by unfold upd loB; rfl)
  obtain ⟨V2, hV2⟩ : ∃ V2, V2 = V.setCell ⟨Z.heap.size, 31, none⟩ (.int .u8 b1) := ⟨_, rfl⟩
  rw [← hV2] at r2
  have hb3 : Below Z.heap.size Z V2 := by rw [hV2]; exact below_setCells (Nat.le_refl _) [_] 31 _ hb2
  have HV2 := Hid.mk' hV2
  clear hV2
  have hF := from_any (.slice (some ⟨Z.heap.size, 0, none⟩) 32 32) 32 (loB bs) (loB_lt hbs) V2 (.inr ⟨Z.heap.size, 0, 32, rfl, block_lt_of_cell (r2 0 (by decide)).1, Nat.le_refl _, fun j hj => (r2 j hj).1⟩)
  obtain ⟨N, hN⟩ : ∃ N, N = ofB (loB bs) 32 % pF := ⟨_, rfl⟩
  rw [show fromN 32 (loB bs) = N from hN.symm, show fromE 32 = 0 from rfl] at hF
  rw [← hN]
  clear hN
  have hF' : Calls Try.prog 35 #[.slice (some ⟨Z.heap.size, 0, none⟩) 32 32] V2 fun e w' => e = .returned (.tuple #[.agg (c4 N).toArray, .int .i64 0]) ∧ Below V2.heap.size V2 w' := hF
  clear hF
  have hZr2 := hZr.still hb3
  have hbw : Below w.heap.size w V2 := below_next hZb hb3
  clear hb hb2 hb3 hZr r2
  go_enter Try.func23, Try.ntmps23
  go_wp2_with (first
    | (rw [← HZ.out]; rw [hmk])
    | (refine wpList_copy_bytes rfl _ _ 22 22 rfl 5 Try.underlying22 infoByte Z.heap.size 0 32 32 xo 32 c rfl rfl 32 bs src rfl hth ?_; rw [← HV.out]; clear src hth HV hmk)
    | (go_at_call 35; rw [← HV2.out]; refine hF'.mono ?_; clear hF' HV2; rintro e w3 ⟨rfl, hb3⟩; (have hZr3 := hZr2.still hb3); (have t3 : w3.there w.heap.size 0 (c4 N).toArray.size := hZr3.there))
    | (with_reducible (refine id (?_ : wpList _ _ _ _ _ _)); refine wpList_store_mid rfl 42 _ _ rfl w.heap.size 0 (c4 N).toArray rfl rfl t3 (info4a N) (one4 N) ?_))
  exact bodyPost_ret (results_cell_tmp Try.results23 _ _ w.heap.size 0 (c4 N) _ rfl (hZr3.stored (c4 N) rfl).range Try.underlying42 rfl info4) rfl ⟨rfl, below_setCells (Nat.le_refl _) _ _ _ (below_next hbw hb3)⟩
end Go.Proofs.Ytjbjbnooocbleaa
