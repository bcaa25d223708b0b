/- Package scalar: what Reduce, MulAdd, Neg and Canonical do in the model. -/
import Derived.Test.YtmehhjogddpkgaaDoorSAdd
import Derived.Test.YtmehhjogddpkgaaDoorNews
namespace Go.Proofs.YtmehhjogddpkgaaDoor
open Go.RowKit
theorem lw_zero {N k j : Nat} (h : N < 18446744073709551616 ^ k) (hj : k ≤ j) : lw N j = 0 := by
  unfold lw
  rw [Nat.div_eq_of_lt (Nat.lt_of_lt_of_le h (Nat.pow_le_pow_right (by decide) hj)), Nat.zero_mod]
theorem pt_lwN {N k : Nat} (h : N < 18446744073709551616 ^ k) : pt (lw N) 0 k = N := by rw [pt_lw, Nat.mod_eq_of_lt h]
theorem ofB_64 {bs : Nat → Nat} (hbs : ∀ j, bs j < 256) {n : Nat} (hn : n ≤ 64) : ofB bs n < 18446744073709551616 ^ 8 := by
  refine Nat.lt_of_lt_of_le (ofB_lt bs hbs n) ?_
  rw [show (18446744073709551616 : Nat) ^ 8 = 256 ^ 64 by decide]
  exact Nat.pow_le_pow_right (by decide) hn
theorem ofB_32 {bs : Nat → Nat} (hbs : ∀ j, bs j < 256) : ofB bs 32 < 18446744073709551616 ^ 4 := by
  have := ofB_lt bs hbs 32
  rw [show (18446744073709551616 : Nat) ^ 4 = 256 ^ 32 by decide]
  exact this
/-- A wide number laid into a new block. -/
def laidW (w : World) (X : Nat → Nat) : World := (w.alloc (.cells zW 40)).setCells w.heap.size 0 (ints .u64 9 X)
theorem laidW_there (w : World) (X : Nat → Nat) : (w.alloc (.cells zW 40)).there w.heap.size 0 (ints .u64 9 X).toArray.size := by
  rw [ints_size]; exact (RowAt.fresh (K := .u64) (X := fun _ => 0) (fun j hj => zW_at j hj)).there
theorem laidW_row (w : World) (X : Nat → Nat) : RowAt .u64 (laidW w X) w.heap.size 0 9 X := by
  have h := (RowAt.fresh (K := .u64) (w := w) (cs := zW) (t := 40) (X := fun _ => 0) (fun j hj => zW_at j hj)).splice 0 9 X (by decide)
  refine h.congr (fun j hj => ?_)
  unfold over; rw [if_pos ⟨Nat.zero_le _, by omega⟩, Nat.sub_zero]
theorem laidW_below (w : World) (X : Nat → Nat) : Below w.heap.size w (laidW w X) := below_setCells (Nat.le_refl _) _ _ _ ((Below.refl _ _).alloc (Nat.le_refl _) _)
theorem laidW_size (w : World) (X : Nat → Nat) : (laidW w X).heap.size = w.heap.size + 1 := by
  unfold laidW; rw [(setCells_same _ _ _ _).2.2.2]; simp
set_option maxRecDepth 20000 in
set_option maxHeartbeats 2000000 in
theorem reduce_good (v : Value) (n : Nat) (bs : Nat → Nat) (hbs : ∀ j, bs j < 256) (hn : n ≤ 64) (w : World) (hO : Ord w) (hv : BytesIn w v n bs) :
    Calls Tryd.prog 9 #[v] w fun e w' => ∃ s, e = .returned (.tuple #[s, .int .i64 0]) ∧ NewB w w' s 32 (byt (ofB bs n % oL)) ∧ Below w.heap.size w w' := by
  have cl := load_any v n bs hbs hn w hv
  obtain ⟨xv, kv, rfl, -⟩ := hv.src
  have hN := ofB_64 hbs hn
  have hni : ¬(64 : Int) < n := by omega
  have cr := fun W (hW : Below w.heap.size w W) => rest_any W.heap.size (lw (ofB bs n)) (lw_lt _) (lw_zero hN (Nat.le_refl _)) (laidW W (lw (ofB bs n))) (laidW_row W _) ((hO.still hW).still (laidW_below W _)) (by have := hW.size; have := hO.lt; omega)
  rw [pt_lwN (Nat.lt_of_lt_of_le hN (Nat.pow_le_pow_right (by decide) (by decide)))] at cr
  obtain ⟨R, hR⟩ : ∃ R, R = ofB bs n % oL := ⟨_, rfl⟩
  rw [← hR] at cr ⊢
  obtain ⟨X, hX⟩ : ∃ X, X = lw (ofB bs n) := ⟨_, rfl⟩
  rw [← hX] at cl cr
  have hz := zeroW
  have hi2 := infoWA X
  have ho := oneW X
  unfold wideV at cl
  clear hv hR hX hN hbs
  go_enter Tryd.func9, Tryd.ntmps9
  go_wp2_with (first
    | (go_at_call 24; refine cl.mono ?_; clear cl; rintro e w1 ⟨rfl, hb1⟩; (have hth := laidW_there w1 X); replace cr := cr w1 hb1)
    | (with_reducible (refine id (?_ : wpList _ _ _ _ _ _)); refine wpList_store_mid rfl 40 _ _ rfl w1.heap.size 0 (ints .u64 9 X).toArray rfl rfl hth hi2 ho ?_)
    | (go_at_call 25; refine Calls.mono (show Calls _ _ _ (laidW w1 X) _ from cr) ?_; clear cr; rintro e w3 ⟨h, rfl, hh1, hh2, hr, hout⟩))
  go_ret2
  have hbl := hb1.trans ((laidW_below w1 X).mono hb1.size)
  have hb3 := hbl.trans (hout.below hb1.size hbl.size)
  exact ⟨_, rfl, ⟨h, rfl, by have := hbl.size; omega, hr⟩, hb3⟩
theorem reduce_bad (xv : Option Addr) (n kv : Nat) (hn : ¬n ≤ 64) (w : World) : Calls Tryd.prog 9 #[.slice xv n kv] w fun e w' => e = .returned (.tuple #[.slice none 0 0, .int .i64 1]) ∧ w' = w := by
  have hni : (64 : Int) < n := by omega
  go_enter Tryd.func9, Tryd.ntmps9
  go_wp2
  go_ret2
  exact ⟨rfl, rfl⟩
end Go.Proofs.YtmehhjogddpkgaaDoor
