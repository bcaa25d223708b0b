/- What Power and Inverse of the reference do in the model. -/
import Derived.Test.YtinigkpidhbgcaaRefOne
namespace Go.Proofs.Ytinigkpidhbgcaa
open Go.RowKit
/-- A product of the reference. -/
def timesL (L M : Nat → Int) : Nat → Int := carryL (carryL (foldT (tP L M 15 16) 16))
/-- Limbs that stand for a number mod p. -/
structure Rep (L : Nat → Int) (x : Nat) : Prop where
  dig : Dig 65573 L
  val : valR L 16 % (pF : Int) = ((x % pF : Nat) : Int)
theorem Rep.bd {L : Nat → Int} {x : Nat} (h : Rep L x) : ∀ j, j < 16 → -131072 ≤ L j ∧ L j ≤ 131072 := fun j hj => by have := h.dig.all (by decide) j hj; omega
theorem rep_times {L M : Nat → Int} {x y : Nat} (hL : Rep L x) (hM : Rep M y) : Rep (timesL L M) (x * y) := by
  have hbd := tP_bd L M hL.bd hM.bd 15 16 (by decide) (Nat.le_refl _)
  have hF : ∀ j, j < 16 → -171523813933056 ≤ foldT (tP L M 15 16) 16 j ∧ foldT (tP L M 15 16) 16 j ≤ 171523813933056 := fun j hj => by
    have h1 := hbd j
    have h2 := hbd (j + 16)
    unfold foldT
    rw [if_pos hj]
    split <;> omega
  refine ⟨(carry_fine _ ((carry_dig _ 171523813933056 (by decide) hF).mono (by decide))).1, ?_⟩
  unfold timesL
  rw [valR_carry, valR_carry, foldT_val, tP_all, show ∀ a b c d P : Int, a - 2 * P * d - b * 2 * P - c * 2 * P = a + P * (-(2 * d) - b * 2 - c * 2) from fun a b c d P => by
    rw [Int.mul_sub, Int.mul_sub, Int.mul_neg, Int.mul_comm P (b * 2), Int.mul_comm P (c * 2), Int.mul_comm 2 P, Int.mul_assoc P 2 d]; omega, Int.add_mul_emod_self_left, Int.mul_emod, hL.val, hM.val, ← Int.natCast_mul, nat_mod, ← Nat.mul_mod]
theorem rep_one : Rep (carryL oneL) 1 := by
  have h : ∀ j, j < 16 → -2 ≤ oneL j ∧ oneL j ≤ 2 := fun j _ => by unfold oneL; split <;> decide
  refine ⟨(carry_dig oneL 2 (by decide) h).mono (by decide), ?_⟩
  rw [valR_carry, show ∀ a b P : Int, a - b * 2 * P = a + P * (-(b * 2)) from fun a b P => by rw [Int.mul_neg, Int.mul_comm P]; omega, Int.add_mul_emod_self_left]
  decide
theorem pow_bit (a E k : Nat) (hk : 0 < k) : a ^ (E / 2 ^ (k - 1)) = a ^ (E / 2 ^ k) * a ^ (E / 2 ^ k) * a ^ (E / 2 ^ (k - 1) % 2) := by
  have e : E / 2 ^ k = E / 2 ^ (k - 1) / 2 := by
    rw [Nat.div_div_eq_div_mul, ← Nat.pow_succ]
    congr 2; omega
  rw [e, ← Nat.pow_add, ← Nat.pow_add]
  congr 1; omega
theorem rep_from (bs : Nat → Nat) (hb : ∀ j, bs j < 256) : Rep (fromL bs) (ofB bs 32) := ⟨(from_dig bs hb).mono (by decide), by rw [valR_from, nat_mod]⟩
theorem rpowInv_bits : (List.range 255).all (fun i => decide (i < 5 ∨ 57896044618658097711785492504343953926634992332820282019728792003956564819947 / 2 ^ i % 2 = 1)) = true := by kernel_rfl
theorem rpowInv_bit (i : Nat) (h : 5 ≤ i) (hi : i < 255) : 57896044618658097711785492504343953926634992332820282019728792003956564819947 / 2 ^ i % 2 = 1 := by
  have h1 := List.all_eq_true.1 rpowInv_bits i (List.mem_range.2 hi)
  have h2 := of_decide_eq_true h1
  omega
set_option maxRecDepth 20000 in
set_option maxHeartbeats 4000000 in
theorem rpowInv_gen (A : Nat → Int) (a : Nat) (hAb : ∀ j, j < 16 → -131072 ≤ A j ∧ A j ≤ 131072) (hAm : ∀ M m, Rep M m → Rep (timesL M A) (m * a)) (w : World) :
    Calls Try.prog 53 #[refV A, .int .i64 255, .int .i64 11, .int .i64 5] w fun e w' => ∃ R, e = .returned (refV R) ∧ Rep R (a ^ 57896044618658097711785492504343953926634992332820282019728792003956564819947) ∧ Below w.heap.size w w' := by
  have hz := zeroR
  have c1 := fun W => rone_any W
  have hone : Rep (carryL oneL) (a ^ (57896044618658097711785492504343953926634992332820282019728792003956564819947 / 2 ^ 255)) := by rw [show 57896044618658097711785492504343953926634992332820282019728792003956564819947 / 2 ^ 255 = 0 by decide, Nat.pow_zero]; exact rep_one
  obtain ⟨O, hO⟩ : ∃ O, O = carryL oneL := ⟨_, rfl⟩
  rw [← hO] at c1 hone
  obtain ⟨EX, hEX⟩ : ∃ EX, EX = 57896044618658097711785492504343953926634992332820282019728792003956564819947 := ⟨_, rfl⟩
  have hbit : ∀ i, 5 ≤ i → i < 255 → EX / 2 ^ i % 2 = 1 := fun i h1 h2 => by rw [hEX]; exact rpowInv_bit i h1 h2
  have hbt0 : EX / 2 ^ 0 % 2 = 1 := by rw [hEX]
  have hbt1 : EX / 2 ^ 1 % 2 = 1 := by rw [hEX]
  have hbt2 : EX / 2 ^ 2 % 2 = 0 := by rw [hEX]
  have hbt3 : EX / 2 ^ 3 % 2 = 1 := by rw [hEX]
  have hbt4 : EX / 2 ^ 4 % 2 = 0 := by rw [hEX]
  have hE0 : EX / 2 ^ 0 = 57896044618658097711785492504343953926634992332820282019728792003956564819947 := by rw [hEX, Nat.pow_zero, Nat.div_one]
  rw [← hEX] at hone
  rw [← hE0]
  obtain ⟨W, hW⟩ : ∃ W, W = (w.alloc (.cells (intsI 16 A).toArray 52)).alloc (.cells zI 52) := ⟨_, rfl⟩
  have HW := Hid.mk' hW
  have hWs : W.heap.size = w.heap.size + 1 + 1 := by rw [hW]; simp
  have hbW : Below w.heap.size w W := by rw [hW]; exact ((Below.refl _ _).alloc (Nat.le_refl _) _).alloc (by simp) _
  have hAr0 : IRow W w.heap.size 16 A := by rw [hW]; exact (IRow.box w 16 A _).below ((Below.refl _ _).alloc (Nat.le_refl _) _) (by simp)
  have hRr0 : IRow W (w.heap.size + 1) 16 (fun _ => 0) := by
    have := IRow.fresh (w.alloc (.cells (intsI 16 A).toArray 52)) zI 52 (n := 16) (L := fun _ => 0) (fun j hj => zI_at j hj)
    rw [World.size_alloc] at this
    rw [hW]; exact this
  have c1' : Calls Try.prog 34 #[.int .i64 1] W fun e w' => e = .returned (.agg (intsI 16 O).toArray) ∧ Below W.heap.size W w' := c1 W
  have hsto : ∀ w1 : World, Below W.heap.size W w1 → ∃ V, V = (w1.alloc (.cells zI 52)).setCells w1.heap.size 0 (intsI 16 O).toArray.toList ∧ IRow V w1.heap.size 16 O ∧ IRow V w.heap.size 16 A ∧ IRow V (w.heap.size + 1) 16 (fun _ => 0) ∧ Below w.heap.size w V ∧ w1.heap.size < V.heap.size ∧ (w1.alloc (.cells zI 52)).there w1.heap.size 0 (intsI 16 O).toArray.size ∧ w.heap.size + 1 < w1.heap.size := fun w1 hb1 => by
    have hf := IRow.fresh w1 zI 52 (n := 16) (L := fun _ => 0) (fun j hj => zI_at j hj)
    have hs := hb1.size
    have hba : Below w1.heap.size w1 (w1.alloc (.cells zI 52)) := (Below.refl _ _).alloc (Nat.le_refl _) _
    refine ⟨_, rfl, ?_, ((hAr0.below hb1 (by omega)).below hba (by omega)).farCells (by omega) _ _, ((hRr0.below hb1 (by omega)).below hba (by omega)).farCells (by omega) _ _, below_setCells (by omega) _ _ _ ((hbW.trans (hb1.mono hbW.size)).trans (hba.mono (by omega))), ?_, ?_, by omega⟩
    · rw [List.toList_toArray]; exact hf.stored
    · rw [(setCells_same _ _ _ _).2.2.2]; simp
    · rw [intsI_size]; exact hf.there
  have hi2O := infoRA O
  have hoO := oneR O
  unfold refV
  clear hW hO hEX c1 hE0
  go_enter Try.func53, Try.ntmps53
  go_wp2_with (first
    | (go_at_call 34; rw [← HW.out]; refine c1'.mono ?_; clear c1'; rintro e w1 ⟨rfl, hb1⟩; (obtain ⟨V, hV, hNV, hAV, hRV, hbV, hsV, hthV, hsz⟩ := hsto w1 hb1); (have HV := Hid.mk' hV); clear hV hsto)
    | (refine wpList_store_mid rfl 52 _ _ rfl w1.heap.size 0 (intsI 16 O).toArray rfl rfl hthV hi2O hoO ?_; rw [← HV.out]))
  obtain ⟨g, hg⟩ : ∃ g, g = w1.heap.size := ⟨_, rfl⟩
  rw [← hg] at hNV hsV hsz ⊢
  clear hg hthV HV hi2O hoO hAr0 hRr0 hb1
  go_loopw [10] (fun i wr => ∃ (k : Nat) (L : Nat → Int), k ≤ 255 ∧ i = .int .i64 ((k : Int) - 1) ∧ IRow wr g 16 L ∧ Rep L (a ^ (EX / 2 ^ k)) ∧ IRow wr w.heap.size 16 A ∧ IRow wr (w.heap.size + 1) 16 (fun _ => 0) ∧ Below w.heap.size w wr ∧ g < wr.heap.size) (fun i _ => (intOf i + 1).toNat)
  case atStart => exact ⟨255, O, Nat.le_refl _, by go_num, hNV, hone, hAV, hRV, hbV, hsV⟩
  case round =>
    clear hNV hAV hRV hbV hsV hone hz
    obtain ⟨k, L, hk, rfl, hN, hL, hAr, hRr, hb, hs⟩ := hrel
    by_cases hlt : 0 < k
    · have hsq := rep_times hL hL
      have c1 := rtimes_any L L hL.bd hL.bd wr
      obtain ⟨M, hM⟩ : ∃ M, M = timesL L L := ⟨_, rfl⟩
      have c1' : Calls Try.prog 40 #[.agg (intsI 16 L).toArray, .agg (intsI 16 L).toArray] wr fun e w' => e = .returned (.agg (intsI 16 M).toArray) ∧ Below wr.heap.size wr w' := by rw [hM]; exact c1
      rw [← hM] at hsq
      have hmul := hAm _ _ hsq
      have c2 := fun W => rtimes_any M A hsq.bd hAb W
      obtain ⟨Q, hQ⟩ : ∃ Q, Q = timesL M A := ⟨_, rfl⟩
      have c2' : ∀ W, Calls Try.prog 40 #[.agg (intsI 16 M).toArray, .agg (intsI 16 A).toArray] W fun e w' => e = .returned (.agg (intsI 16 Q).toArray) ∧ Below W.heap.size W w' := by rw [hQ]; exact c2
      rw [← hQ] at hmul
      have hp1 : EX / 2 ^ (k - 1) % 2 = 1 → Rep Q (a ^ (EX / 2 ^ (k - 1))) := fun h => by
        have := pow_bit a EX k hlt
        rw [h] at this
        rw [this, Nat.pow_one]; exact hmul
      have hp0 : EX / 2 ^ (k - 1) % 2 = 0 → Rep M (a ^ (EX / 2 ^ (k - 1))) := fun h => by
        have := pow_bit a EX k hlt
        rw [h] at this
        rw [this, Nat.pow_zero, Nat.mul_one]; exact hsq
      clear hM hQ c1 c2 hsq hmul hL
      have hiL := infoRL L
      have hiM := infoRL M
      have hiA := infoRL A
      have hi2M := infoRA M
      have hoM := oneR M
      have hi2Q := infoRA Q
      have hoQ := oneR Q
      have hNr := hN.range
      by_cases hw : 5 < k
      · have hwi : ¬(k : Int) - 1 < 5 := by omega
        have hwi2 : (5 : Int) ≤ (k : Int) - 1 := by omega
        go_wp2_with (first
          | (refine wpList_load_mid rfl 52 _ rfl g 0 rfl (intsI 16 L) _ hNr Try.underlying52 rfl hiL ?_)
          | (go_at_call 40; refine c1'.mono ?_; clear c1' hNr; rintro e w1 ⟨rfl, hb1⟩; (have hN1 := hN.below hb1 hs); (have hth1 : w1.there g 0 (intsI 16 M).toArray.size := by rw [intsI_size]; exact hN1.there); (have hAr1 := (hAr.below hb1 (by omega)).farCells (k := g) (by omega) 0 (intsI 16 M).toArray.toList); (have hRr1 := (hRr.below hb1 (by omega)).farCells (k := g) (by omega) 0 (intsI 16 M).toArray.toList); (have hN2 : IRow (w1.setCells g 0 (intsI 16 M).toArray.toList) g 16 M := by rw [List.toList_toArray]; exact hN1.stored); (have hbw1 : Below w.heap.size w (w1.setCells g 0 (intsI 16 M).toArray.toList) := below_setCells (by omega) _ _ _ (hb.trans (hb1.mono hb.size))); (have hs1 : g < (w1.setCells g 0 (intsI 16 M).toArray.toList).heap.size := by rw [(setCells_same _ _ _ _).2.2.2]; exact Nat.lt_of_lt_of_le hs hb1.size); (obtain ⟨V1, hV1⟩ : ∃ V1, V1 = w1.setCells g 0 (intsI 16 M).toArray.toList := ⟨_, rfl⟩); (have HV1 := Hid.mk' hV1); rw [← hV1] at hAr1 hRr1 hN2 hbw1 hs1; clear hV1; (have hNr2 := hN2.range); (have hAr2 := hAr1.range))
          | (refine wpList_store_mid rfl 52 _ _ rfl g 0 (intsI 16 M).toArray rfl rfl hth1 hi2M hoM ?_; rw [← HV1.out]; clear hth1)
          | (refine wpList_load_mid rfl 52 _ rfl g 0 rfl (intsI 16 M) _ hNr2 Try.underlying52 rfl hiM ?_)
          | (refine wpList_load_mid rfl 52 _ rfl w.heap.size 0 rfl (intsI 16 A) _ hAr2 Try.underlying52 rfl hiA ?_)
          | (go_at_call 40; refine (c2' _).mono ?_; clear c2' hNr2 hAr2; rintro e w2 ⟨rfl, hb2⟩; (have hN3 := hN2.below hb2 hs1); (have hth2 : w2.there g 0 (intsI 16 Q).toArray.size := by rw [intsI_size]; exact hN3.there))
          | (with_reducible (refine id (?_ : wpList _ _ _ _ _ _)); refine wpList_store_mid rfl 52 _ _ rfl g 0 (intsI 16 Q).toArray rfl rfl hth2 hi2Q hoQ ?_))
        go_roundw
        case rel =>
          refine ⟨k - 1, Q, by omega, by go_num, ?_, hp1 (hbit (k - 1) (by omega) (by omega)), (hAr1.below hb2 (by omega)).farCells (by omega) _ _, (hRr1.below hb2 (by omega)).farCells (by omega) _ _, below_setCells (by omega) _ _ _ (hbw1.trans (hb2.mono hbw1.size)), ?_⟩
          · exact hN3.stored
          · rw [(setCells_same _ _ _ _).2.2.2]; exact Nat.lt_of_lt_of_le hs1 hb2.size
        case measure => simp [intOf]; omega
      · have hcases : k = 1 ∨ k = 2 ∨ k = 3 ∨ k = 4 ∨ k = 5 := by omega
        rcases hcases with rfl | rfl | rfl | rfl | rfl
        · go_wp2_with (first
            | (refine wpList_load_mid rfl 52 _ rfl g 0 rfl (intsI 16 L) _ hNr Try.underlying52 rfl hiL ?_)
            | (go_at_call 40; refine c1'.mono ?_; clear c1' hNr; rintro e w1 ⟨rfl, hb1⟩; (have hN1 := hN.below hb1 hs); (have hth1 : w1.there g 0 (intsI 16 M).toArray.size := by rw [intsI_size]; exact hN1.there); (have hAr1 := (hAr.below hb1 (by omega)).farCells (k := g) (by omega) 0 (intsI 16 M).toArray.toList); (have hRr1 := (hRr.below hb1 (by omega)).farCells (k := g) (by omega) 0 (intsI 16 M).toArray.toList); (have hN2 : IRow (w1.setCells g 0 (intsI 16 M).toArray.toList) g 16 M := by rw [List.toList_toArray]; exact hN1.stored); (have hbw1 : Below w.heap.size w (w1.setCells g 0 (intsI 16 M).toArray.toList) := below_setCells (by omega) _ _ _ (hb.trans (hb1.mono hb.size))); (have hs1 : g < (w1.setCells g 0 (intsI 16 M).toArray.toList).heap.size := by rw [(setCells_same _ _ _ _).2.2.2]; exact Nat.lt_of_lt_of_le hs hb1.size); (obtain ⟨V1, hV1⟩ : ∃ V1, V1 = w1.setCells g 0 (intsI 16 M).toArray.toList := ⟨_, rfl⟩); (have HV1 := Hid.mk' hV1); rw [← hV1] at hAr1 hRr1 hN2 hbw1 hs1; clear hV1; (have hNr2 := hN2.range); (have hAr2 := hAr1.range))
            | (refine wpList_store_mid rfl 52 _ _ rfl g 0 (intsI 16 M).toArray rfl rfl hth1 hi2M hoM ?_; rw [← HV1.out]; clear hth1)
            | (refine wpList_load_mid rfl 52 _ rfl g 0 rfl (intsI 16 M) _ hNr2 Try.underlying52 rfl hiM ?_)
            | (refine wpList_load_mid rfl 52 _ rfl w.heap.size 0 rfl (intsI 16 A) _ hAr2 Try.underlying52 rfl hiA ?_)
            | (go_at_call 40; refine (c2' _).mono ?_; clear c2' hNr2 hAr2; rintro e w2 ⟨rfl, hb2⟩; (have hN3 := hN2.below hb2 hs1); (have hth2 : w2.there g 0 (intsI 16 Q).toArray.size := by rw [intsI_size]; exact hN3.there))
            | (with_reducible (refine id (?_ : wpList _ _ _ _ _ _)); refine wpList_store_mid rfl 52 _ _ rfl g 0 (intsI 16 Q).toArray rfl rfl hth2 hi2Q hoQ ?_))
          go_roundw
          case rel =>
            refine ⟨0, Q, by omega, by go_num, ?_, hp1 (hbt0), (hAr1.below hb2 (by omega)).farCells (by omega) _ _, (hRr1.below hb2 (by omega)).farCells (by omega) _ _, below_setCells (by omega) _ _ _ (hbw1.trans (hb2.mono hbw1.size)), ?_⟩
            · exact hN3.stored
            · rw [(setCells_same _ _ _ _).2.2.2]; exact Nat.lt_of_lt_of_le hs1 hb2.size
          case measure => simp [intOf]
        · go_wp2_with (first
            | (refine wpList_load_mid rfl 52 _ rfl g 0 rfl (intsI 16 L) _ hNr Try.underlying52 rfl hiL ?_)
            | (go_at_call 40; refine c1'.mono ?_; clear c1' hNr; rintro e w1 ⟨rfl, hb1⟩; (have hN1 := hN.below hb1 hs); (have hth1 : w1.there g 0 (intsI 16 M).toArray.size := by rw [intsI_size]; exact hN1.there); (have hAr1 := (hAr.below hb1 (by omega)).farCells (k := g) (by omega) 0 (intsI 16 M).toArray.toList); (have hRr1 := (hRr.below hb1 (by omega)).farCells (k := g) (by omega) 0 (intsI 16 M).toArray.toList); (have hN2 : IRow (w1.setCells g 0 (intsI 16 M).toArray.toList) g 16 M := by rw [List.toList_toArray]; exact hN1.stored); (have hbw1 : Below w.heap.size w (w1.setCells g 0 (intsI 16 M).toArray.toList) := below_setCells (by omega) _ _ _ (hb.trans (hb1.mono hb.size))); (have hs1 : g < (w1.setCells g 0 (intsI 16 M).toArray.toList).heap.size := by rw [(setCells_same _ _ _ _).2.2.2]; exact Nat.lt_of_lt_of_le hs hb1.size); (obtain ⟨V1, hV1⟩ : ∃ V1, V1 = w1.setCells g 0 (intsI 16 M).toArray.toList := ⟨_, rfl⟩); (have HV1 := Hid.mk' hV1); rw [← hV1] at hAr1 hRr1 hN2 hbw1 hs1; clear hV1; (have hNr2 := hN2.range); (have hAr2 := hAr1.range))
            | (refine wpList_store_mid rfl 52 _ _ rfl g 0 (intsI 16 M).toArray rfl rfl hth1 hi2M hoM ?_; rw [← HV1.out]; clear hth1)
            | (refine wpList_load_mid rfl 52 _ rfl g 0 rfl (intsI 16 M) _ hNr2 Try.underlying52 rfl hiM ?_)
            | (refine wpList_load_mid rfl 52 _ rfl w.heap.size 0 rfl (intsI 16 A) _ hAr2 Try.underlying52 rfl hiA ?_)
            | (go_at_call 40; refine (c2' _).mono ?_; clear c2' hNr2 hAr2; rintro e w2 ⟨rfl, hb2⟩; (have hN3 := hN2.below hb2 hs1); (have hth2 : w2.there g 0 (intsI 16 Q).toArray.size := by rw [intsI_size]; exact hN3.there))
            | (with_reducible (refine id (?_ : wpList _ _ _ _ _ _)); refine wpList_store_mid rfl 52 _ _ rfl g 0 (intsI 16 Q).toArray rfl rfl hth2 hi2Q hoQ ?_))
          go_roundw
          case rel =>
            refine ⟨1, Q, by omega, by go_num, ?_, hp1 (hbt1), (hAr1.below hb2 (by omega)).farCells (by omega) _ _, (hRr1.below hb2 (by omega)).farCells (by omega) _ _, below_setCells (by omega) _ _ _ (hbw1.trans (hb2.mono hbw1.size)), ?_⟩
            · exact hN3.stored
            · rw [(setCells_same _ _ _ _).2.2.2]; exact Nat.lt_of_lt_of_le hs1 hb2.size
          case measure => simp [intOf]
        · go_wp2_with (first
            | (refine wpList_load_mid rfl 52 _ rfl g 0 rfl (intsI 16 L) _ hNr Try.underlying52 rfl hiL ?_)
            | (go_at_call 40; refine c1'.mono ?_; clear c1' hNr; rintro e w1 ⟨rfl, hb1⟩; (have hN1 := hN.below hb1 hs); (have hth1 : w1.there g 0 (intsI 16 M).toArray.size := by rw [intsI_size]; exact hN1.there); (have hAr1 := (hAr.below hb1 (by omega)).farCells (k := g) (by omega) 0 (intsI 16 M).toArray.toList); (have hRr1 := (hRr.below hb1 (by omega)).farCells (k := g) (by omega) 0 (intsI 16 M).toArray.toList); (have hN2 : IRow (w1.setCells g 0 (intsI 16 M).toArray.toList) g 16 M := by rw [List.toList_toArray]; exact hN1.stored); (have hbw1 : Below w.heap.size w (w1.setCells g 0 (intsI 16 M).toArray.toList) := below_setCells (by omega) _ _ _ (hb.trans (hb1.mono hb.size))); (have hs1 : g < (w1.setCells g 0 (intsI 16 M).toArray.toList).heap.size := by rw [(setCells_same _ _ _ _).2.2.2]; exact Nat.lt_of_lt_of_le hs hb1.size); (obtain ⟨V1, hV1⟩ : ∃ V1, V1 = w1.setCells g 0 (intsI 16 M).toArray.toList := ⟨_, rfl⟩); (have HV1 := Hid.mk' hV1); rw [← hV1] at hAr1 hRr1 hN2 hbw1 hs1; clear hV1; (have hNr2 := hN2.range); (have hAr2 := hAr1.range))
            | (refine wpList_store_mid rfl 52 _ _ rfl g 0 (intsI 16 M).toArray rfl rfl hth1 hi2M hoM ?_; rw [← HV1.out]; clear hth1)
            | fail)
          go_roundw
          case rel => exact ⟨2, M, by omega, by go_num, hN2, hp0 (hbt2), hAr1, hRr1, hbw1, hs1⟩
          case measure => simp [intOf]
        · go_wp2_with (first
            | (refine wpList_load_mid rfl 52 _ rfl g 0 rfl (intsI 16 L) _ hNr Try.underlying52 rfl hiL ?_)
            | (go_at_call 40; refine c1'.mono ?_; clear c1' hNr; rintro e w1 ⟨rfl, hb1⟩; (have hN1 := hN.below hb1 hs); (have hth1 : w1.there g 0 (intsI 16 M).toArray.size := by rw [intsI_size]; exact hN1.there); (have hAr1 := (hAr.below hb1 (by omega)).farCells (k := g) (by omega) 0 (intsI 16 M).toArray.toList); (have hRr1 := (hRr.below hb1 (by omega)).farCells (k := g) (by omega) 0 (intsI 16 M).toArray.toList); (have hN2 : IRow (w1.setCells g 0 (intsI 16 M).toArray.toList) g 16 M := by rw [List.toList_toArray]; exact hN1.stored); (have hbw1 : Below w.heap.size w (w1.setCells g 0 (intsI 16 M).toArray.toList) := below_setCells (by omega) _ _ _ (hb.trans (hb1.mono hb.size))); (have hs1 : g < (w1.setCells g 0 (intsI 16 M).toArray.toList).heap.size := by rw [(setCells_same _ _ _ _).2.2.2]; exact Nat.lt_of_lt_of_le hs hb1.size); (obtain ⟨V1, hV1⟩ : ∃ V1, V1 = w1.setCells g 0 (intsI 16 M).toArray.toList := ⟨_, rfl⟩); (have HV1 := Hid.mk' hV1); rw [← hV1] at hAr1 hRr1 hN2 hbw1 hs1; clear hV1; (have hNr2 := hN2.range); (have hAr2 := hAr1.range))
            | (refine wpList_store_mid rfl 52 _ _ rfl g 0 (intsI 16 M).toArray rfl rfl hth1 hi2M hoM ?_; rw [← HV1.out]; clear hth1)
            | (refine wpList_load_mid rfl 52 _ rfl g 0 rfl (intsI 16 M) _ hNr2 Try.underlying52 rfl hiM ?_)
            | (refine wpList_load_mid rfl 52 _ rfl w.heap.size 0 rfl (intsI 16 A) _ hAr2 Try.underlying52 rfl hiA ?_)
            | (go_at_call 40; refine (c2' _).mono ?_; clear c2' hNr2 hAr2; rintro e w2 ⟨rfl, hb2⟩; (have hN3 := hN2.below hb2 hs1); (have hth2 : w2.there g 0 (intsI 16 Q).toArray.size := by rw [intsI_size]; exact hN3.there))
            | (with_reducible (refine id (?_ : wpList _ _ _ _ _ _)); refine wpList_store_mid rfl 52 _ _ rfl g 0 (intsI 16 Q).toArray rfl rfl hth2 hi2Q hoQ ?_))
          go_roundw
          case rel =>
            refine ⟨3, Q, by omega, by go_num, ?_, hp1 (hbt3), (hAr1.below hb2 (by omega)).farCells (by omega) _ _, (hRr1.below hb2 (by omega)).farCells (by omega) _ _, below_setCells (by omega) _ _ _ (hbw1.trans (hb2.mono hbw1.size)), ?_⟩
            · exact hN3.stored
            · rw [(setCells_same _ _ _ _).2.2.2]; exact Nat.lt_of_lt_of_le hs1 hb2.size
          case measure => simp [intOf]
        · go_wp2_with (first
            | (refine wpList_load_mid rfl 52 _ rfl g 0 rfl (intsI 16 L) _ hNr Try.underlying52 rfl hiL ?_)
            | (go_at_call 40; refine c1'.mono ?_; clear c1' hNr; rintro e w1 ⟨rfl, hb1⟩; (have hN1 := hN.below hb1 hs); (have hth1 : w1.there g 0 (intsI 16 M).toArray.size := by rw [intsI_size]; exact hN1.there); (have hAr1 := (hAr.below hb1 (by omega)).farCells (k := g) (by omega) 0 (intsI 16 M).toArray.toList); (have hRr1 := (hRr.below hb1 (by omega)).farCells (k := g) (by omega) 0 (intsI 16 M).toArray.toList); (have hN2 : IRow (w1.setCells g 0 (intsI 16 M).toArray.toList) g 16 M := by rw [List.toList_toArray]; exact hN1.stored); (have hbw1 : Below w.heap.size w (w1.setCells g 0 (intsI 16 M).toArray.toList) := below_setCells (by omega) _ _ _ (hb.trans (hb1.mono hb.size))); (have hs1 : g < (w1.setCells g 0 (intsI 16 M).toArray.toList).heap.size := by rw [(setCells_same _ _ _ _).2.2.2]; exact Nat.lt_of_lt_of_le hs hb1.size); (obtain ⟨V1, hV1⟩ : ∃ V1, V1 = w1.setCells g 0 (intsI 16 M).toArray.toList := ⟨_, rfl⟩); (have HV1 := Hid.mk' hV1); rw [← hV1] at hAr1 hRr1 hN2 hbw1 hs1; clear hV1; (have hNr2 := hN2.range); (have hAr2 := hAr1.range))
            | (refine wpList_store_mid rfl 52 _ _ rfl g 0 (intsI 16 M).toArray rfl rfl hth1 hi2M hoM ?_; rw [← HV1.out]; clear hth1)
            | fail)
          go_roundw
          case rel => exact ⟨4, M, by omega, by go_num, hN2, hp0 (hbt4), hAr1, hRr1, hbw1, hs1⟩
          case measure => simp [intOf]
    · have hke : k = 0 := by omega
      subst hke
      have hiL := infoRL L
      have hi2L := infoRA L
      have hoL := oneR L
      have hth : wr.there (w.heap.size + 1) 0 (intsI 16 L).toArray.size := by rw [intsI_size]; exact hRr.there
      have hNr := hN.range
      go_wp2_with (first
        | (refine wpList_load_mid rfl 52 _ rfl g 0 rfl (intsI 16 L) _ hNr Try.underlying52 rfl hiL ?_)
        | (refine wpList_store_mid rfl 52 _ _ rfl (w.heap.size + 1) 0 (intsI 16 L).toArray rfl rfl hth hi2L hoL ?_))
      (try simp only [Exit.inBlock, Exit.then])
      refine bodyPost_ret (results_cell_mid Try.results53 _ _ (w.heap.size + 1) 0 (intsI 16 L) _ rfl (World.rangeAt_setCells_same _ _ _ _ (by rw [intsI_len]; exact hRr.there)) Try.underlying52 rfl hiL) rfl ⟨L, rfl, hL, ?_⟩
      exact below_setCells (by omega) _ _ _ hb
set_option maxRecDepth 20000 in
set_option maxHeartbeats 2000000 in
theorem rinverse_gen (A : Nat → Int) (a : Nat) (hAb : ∀ j, j < 16 → -131072 ≤ A j ∧ A j ≤ 131072) (hAm : ∀ M m, Rep M m → Rep (timesL M A) (m * a)) (w : World) :
    Calls Try.prog 42 #[refV A] w fun e w' => ∃ R, e = .returned (refV R) ∧ Rep R (a ^ 57896044618658097711785492504343953926634992332820282019728792003956564819947) ∧ Below w.heap.size w w' := by
  have hz := zeroR
  obtain ⟨W, hW⟩ : ∃ W, W = (w.alloc (.cells (intsI 16 A).toArray 52)).alloc (.cells zI 52) := ⟨_, rfl⟩
  have HW := Hid.mk' hW
  have hWs : W.heap.size = w.heap.size + 1 + 1 := by rw [hW]; simp
  have hbW : Below w.heap.size w W := by rw [hW]; exact ((Below.refl _ _).alloc (Nat.le_refl _) _).alloc (by simp) _
  have hAr0 : IRow W w.heap.size 16 A := by rw [hW]; exact (IRow.box w 16 A _).below ((Below.refl _ _).alloc (Nat.le_refl _) _) (by simp)
  have hRr0 : IRow W (w.heap.size + 1) 16 (fun _ => 0) := by
    have := IRow.fresh (w.alloc (.cells (intsI 16 A).toArray 52)) zI 52 (n := 16) (L := fun _ => 0) (fun j hj => zI_at j hj)
    rw [World.size_alloc] at this
    rw [hW]; exact this
  obtain ⟨EX, hEX⟩ : ∃ EX, EX = a ^ 57896044618658097711785492504343953926634992332820282019728792003956564819947 := ⟨_, rfl⟩
  have c1 := rpowInv_gen A a hAb hAm W
  rw [← hEX] at c1 ⊢
  have c1' : Calls Try.prog 53 #[.agg (intsI 16 A).toArray, .int .i64 255, .int .i64 11, .int .i64 5] W fun e w' => ∃ R, e = .returned (.agg (intsI 16 R).toArray) ∧ Rep R EX ∧ Below W.heap.size W w' := c1
  have hiA := infoRL A
  have hAr := hAr0.range
  have hi2 := infoRA
  have hoX := oneR
  have hiX := infoRL
  unfold refV
  clear hW hEX c1
  go_enter Try.func42, Try.ntmps42
  go_wp2_with (first
    | (rw [← HW.out]; refine wpList_load_mid rfl 52 _ rfl w.heap.size 0 rfl (intsI 16 A) _ hAr Try.underlying52 rfl hiA ?_)
    | (go_at_call 53; refine c1'.mono ?_; clear c1' hAr; rintro e w1 ⟨R, rfl, hR, hb1⟩; (have hC1 := hRr0.below hb1 (by omega)); (have hth : w1.there (w.heap.size + 1) 0 (intsI 16 R).toArray.size := by rw [intsI_size]; exact hC1.there))
    | (with_reducible (refine id (?_ : wpList _ _ _ _ _ _)); refine wpList_store_mid rfl 52 _ _ rfl (w.heap.size + 1) 0 (intsI 16 R).toArray rfl rfl hth (hi2 R) (hoX R) ?_))
  (try simp only [Exit.inBlock, Exit.then])
  refine bodyPost_ret (results_cell_mid Try.results42 _ _ (w.heap.size + 1) 0 (intsI 16 R) _ rfl (World.rangeAt_setCells_same _ _ _ _ (by rw [intsI_len]; exact hC1.there)) Try.underlying52 rfl (hiX R)) rfl ⟨R, rfl, hR, ?_⟩
  exact below_setCells (by omega) _ _ _ (hbW.trans (hb1.mono hbW.size))
theorem rinverse_any (A : Nat → Int) (a : Nat) (hA : Rep A a) (w : World) :
    Calls Try.prog 42 #[refV A] w fun e w' => ∃ R, e = .returned (refV R) ∧ Rep R (a ^ 57896044618658097711785492504343953926634992332820282019728792003956564819947) ∧ Below w.heap.size w w' :=
  rinverse_gen A a hA.bd (fun _ _ h => rep_times h hA) w
end Go.Proofs.Ytinigkpidhbgcaa
