/- Package scalar: what MulAdd of other lengths, Neg and Canonical do in the model. -/
import Derived.Test.YtmehhjogddpkgaaDoorSApi2
namespace Go.Proofs.YtmehhjogddpkgaaDoor
open Go.RowKit
theorem muladd_bad (xa xb xc : Option Addr) (n m p ka kb kc : Nat) (h : ¬(n = 32 ∧ m = 32 ∧ p = 32)) (w : World) : Calls Tryd.prog 16 #[.slice xa n ka, .slice xb m kb, .slice xc p kc] w fun e w' => e = .returned (.tuple #[.slice none 0 0, .int .i64 1]) ∧ w' = w := by
  by_cases hn : n = 32
  · by_cases hm : m = 32
    · have hp : ¬(p : Int) = 32 := by omega
      have hni : (n : Int) = 32 := by omega
      have hmi : (m : Int) = 32 := by omega
      clear hn hm h
      go_enter Tryd.func16, Tryd.ntmps16
      go_wp2
      go_ret2
      exact ⟨rfl, rfl⟩
    · have hmi : ¬(m : Int) = 32 := by omega
      have hni : (n : Int) = 32 := by omega
      clear hn hm h
      go_enter Tryd.func16, Tryd.ntmps16
      go_wp2
      go_ret2
      exact ⟨rfl, rfl⟩
  · have hni : ¬(n : Int) = 32 := by omega
    clear hn h
    go_enter Tryd.func16, Tryd.ntmps16
    go_wp2
    go_ret2
    exact ⟨rfl, rfl⟩
/-- Strings that are the same, or not. -/
theorem bequal_any (v u : Value) (S T : ByteArray) (b : Bool) (hb : (S.toList == T.toList) = b) (w : World) (hv : Str w v S) (hu : Str w u T) : Calls Tryd.prog 27 #[v, u] w fun e w' => e = .returned (.bool b) ∧ w' = w := by
  have c1 := hv.conv w (Below.refl _ _)
  have c2 := hu.conv w (Below.refl _ _)
  obtain ⟨xv, n, kv, rfl⟩ := hv.form
  obtain ⟨xu, m, ku, rfl⟩ := hu.form
  clear hv hu
  go_enter Tryd.func27, Tryd.ntmps27
  go_wp2
  go_ret
  exact ⟨rfl, rfl⟩
/-- Bytes are canonical just where their number is below the order. -/
def canonB (bs : Nat → Nat) : Bool := decide (ofB bs 32 < oL)
theorem canon_str {bs : Nat → Nat} (hbs : ∀ j, bs j < 256) : ((strB 32 (byt (ofB bs 32 % oL))).toList == (strB 32 bs).toList) = canonB bs := by
  have hl := ofB_lt bs hbs 32
  unfold canonB
  by_cases h : ofB bs 32 < oL
  · rw [decide_eq_true h, Nat.mod_eq_of_lt h, strB_congr (n := 32) (a := byt (ofB bs 32)) (b := bs) (fun j hj => byt_ofB bs hbs 32 j hj)]
    exact beq_self_eq_true _
  · rw [decide_eq_false h, ByteArray.toList_eq, ByteArray.toList_eq]
    refine beq_false_of_ne (fun e => h ?_)
    have e2 := (strB_eq (byt_all _) hbs).1 (WideShapes.bytes_inj e)
    have e3 := ofB_congr 32 e2.2
    have hm : ofB bs 32 % oL < oL := Nat.mod_lt _ (by decide)
    rw [ofB_byt32 _ (Nat.lt_trans hm (by unfold oL; decide))] at e3
    omega
set_option maxRecDepth 20000 in
set_option maxHeartbeats 2000000 in
theorem canonical_good (v : Value) (bs : Nat → Nat) (hbs : ∀ j, bs j < 256) (w : World) (hO : Ord w) (hv : BytesIn w v 32 bs) :
    Calls Tryd.prog 12 #[v] w fun e w' => e = .returned (.bool (canonB bs)) ∧ Below w.heap.size w w' := by
  have cl := load_any v 32 bs hbs (by decide) w hv
  have hN := ofB_64 hbs (show 32 ≤ 64 by decide)
  have cr := fun (W : World) (hW : Below w.heap.size w W) => rest_any W.heap.size (lw (ofB bs 32)) (lw_lt _) (lw_zero hN (Nat.le_refl _)) (laidW W (lw (ofB bs 32))) (laidW_row W _) ((hO.still hW).still (laidW_below W _)) (by have := hW.size; have := hO.lt; omega)
  rw [pt_lwN (Nat.lt_of_lt_of_le hN (Nat.pow_le_pow_right (by decide) (by decide)))] at cr
  have ceq := fun (W : World) (u : Value) (hu : Str W u _) (hv : Str W v _) => bequal_any u v _ _ _ (canon_str hbs) W hu hv
  have sv := Str.of hv hbs
  obtain ⟨xv, kv, rfl, -⟩ := hv.src
  obtain ⟨R, hR⟩ : ∃ R, R = ofB bs 32 % oL := ⟨_, rfl⟩
  rw [← hR] at cr ceq
  obtain ⟨X, hX⟩ : ∃ X, X = lw (ofB bs 32) := ⟨_, rfl⟩
  rw [← hX] at cl cr
  obtain ⟨b, hb⟩ : ∃ b, b = canonB bs := ⟨_, rfl⟩
  rw [← hb] at ceq ⊢
  have hz := zeroW
  have hi2 := infoWA X
  have ho := oneW X
  unfold wideV at cl
  clear hv hR hX hN hbs hb
  go_enter Tryd.func12, Tryd.ntmps12
  go_wp2_with (first
    | (go_at_call 24; refine cl.mono ?_; clear cl; rintro e w1 ⟨rfl, hb1⟩; (have hth := laidW_there w1 X); replace cr := cr w1 hb1)
    | (with_reducible (refine id (?_ : wpList _ _ _ _ _ _)); refine wpList_store_mid rfl 40 _ _ rfl w1.heap.size 0 (ints .u64 9 X).toArray rfl rfl hth hi2 ho ?_)
    | (go_at_call 25; refine Calls.mono (show Calls _ _ _ (laidW w1 X) _ from cr) ?_; clear cr; rintro e w3 ⟨h, rfl, hh1, hh2, hr, hout⟩; (have hbl := hb1.trans ((laidW_below w1 X).mono hb1.size)); (have hb3 := hbl.trans (hout.below hb1.size hbl.size)); (have sh : Str w3 (.slice (some ⟨h, 0, none⟩) 32 32) (strB 32 (byt R)) := Str.of (.inr ⟨h, 0, 32, rfl, hh2, Nat.le_refl _, fun j hj => (hr j hj).1⟩) (byt_all R)); replace ceq := ceq w3 _ sh (sv.still hb3))
    | (go_at_call 27; refine ceq.mono ?_; clear ceq; rintro e w4 ⟨rfl, rfl⟩))
  go_ret
  exact ⟨rfl, hb3⟩
theorem canonical_bad (xv : Option Addr) (n kv : Nat) (hn : ¬n = 32) (w : World) : Calls Tryd.prog 12 #[.slice xv n kv] w fun e w' => e = .returned (.bool false) ∧ w' = w := by
  have hni : ¬(n : Int) = 32 := by omega
  clear hn
  go_enter Tryd.func12, Tryd.ntmps12
  go_wp2
  go_ret
  exact ⟨rfl, rfl⟩
theorem neg_bad (xv : Option Addr) (n kv : Nat) (hn : ¬n = 32) (w : World) : Calls Tryd.prog 18 #[.slice xv n kv] w fun e w' => e = .returned (.tuple #[.slice none 0 0, .int .i64 1]) ∧ w' = w := by
  have hni : ¬(n : Int) = 32 := by omega
  clear hn
  go_enter Tryd.func18, Tryd.ntmps18
  go_wp2
  go_ret2
  exact ⟨rfl, rfl⟩
end Go.Proofs.YtmehhjogddpkgaaDoor
