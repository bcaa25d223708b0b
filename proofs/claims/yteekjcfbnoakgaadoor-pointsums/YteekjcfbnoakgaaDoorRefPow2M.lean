/- What the proof stands on: RefPow2, Api, Know, Lent, Sums, RootRef, RootRef2, RootFit. -/
import Derived.Test.YteekjcfbnoakgaaDoorBaseM
import Derived.Test.YteekjcfbnoakgaaDoorLimbsM
import Derived.Test.YteekjcfbnoakgaaDoorPrimeM
import Derived.Test.YteekjcfbnoakgaaDoorRefSubM
import Derived.WideShapes
namespace Go.Proofs.YteekjcfbnoakgaaDoor
open Go.RowKit
theorem rpow8_bits : (List.range 252).all (fun i => decide (i < 4 ∨ 7237005577332262213973186563042994240829374041602535252466099000494570602494 / 2 ^ i % 2 = 1)) = true := by kernel_rfl
theorem rpow8_bit (i : Nat) (h : 4 ≤ i) (hi : i < 252) : 7237005577332262213973186563042994240829374041602535252466099000494570602494 / 2 ^ i % 2 = 1 := by
  have h1 := List.all_eq_true.1 rpow8_bits i (List.mem_range.2 hi)
  have h2 := of_decide_eq_true h1
  omega
set_option maxRecDepth 20000 in
set_option maxHeartbeats 4000000 in
theorem rpow8_any (A : Nat → Int) (a : Nat) (hA : Rep A a) (w : World) :
    Calls Tryd.prog 70 #[refV A, .int .i64 252, .int .i64 14, .int .i64 4] w fun e w' => ∃ R, e = .returned (refV R) ∧ Rep R (a ^ 7237005577332262213973186563042994240829374041602535252466099000494570602494) ∧ Below w.heap.size w w' := by
  have hz := zeroR
  have c1 := fun W => rone_any W
  have hone : Rep (carryL oneL) (a ^ (7237005577332262213973186563042994240829374041602535252466099000494570602494 / 2 ^ 252)) := by rw [show 7237005577332262213973186563042994240829374041602535252466099000494570602494 / 2 ^ 252 = 0 by decide, Nat.pow_zero]; exact rep_one
  obtain ⟨O, hO⟩ : ∃ O, O = carryL oneL := ⟨_, rfl⟩
  rw [← hO] at c1 hone
  obtain ⟨EX, hEX⟩ : ∃ EX, EX = 7237005577332262213973186563042994240829374041602535252466099000494570602494 := ⟨_, rfl⟩
  have hbit : ∀ i, 4 ≤ i → i < 252 → EX / 2 ^ i % 2 = 1 := fun i h1 h2 => by rw [hEX]; exact rpow8_bit i h1 h2
  have hbt0 : EX / 2 ^ 0 % 2 = 0 := by rw [hEX]
  have hbt1 : EX / 2 ^ 1 % 2 = 1 := by rw [hEX]
  have hbt2 : EX / 2 ^ 2 % 2 = 1 := by rw [hEX]
  have hbt3 : EX / 2 ^ 3 % 2 = 1 := by rw [hEX]
  have hE0 : EX / 2 ^ 0 = 7237005577332262213973186563042994240829374041602535252466099000494570602494 := by rw [hEX, Nat.pow_zero, Nat.div_one]
  rw [← hEX] at hone
  rw [← hE0]
  obtain ⟨W, hW⟩ : ∃ W, W = (w.alloc (.cells (intsI 16 A).toArray 36)).alloc (.cells zI 36) := ⟨_, rfl⟩
  have HW := Hid.mk' hW
  have hWs : W.heap.size = w.heap.size + 1 + 1 := by rw [hW]; simp
  have hbW : Below w.heap.size w W := by rw [hW]; exact ((Below.refl _ _).alloc (Nat.le_refl _) _).alloc (by simp) _
  have hAr0 : IRow W w.heap.size 16 A := by rw [hW]; exact (IRow.box w 16 A _).below ((Below.refl _ _).alloc (Nat.le_refl _) _) (by simp)
  have hRr0 : IRow W (w.heap.size + 1) 16 (fun _ => 0) := by
    have := IRow.fresh (w.alloc (.cells (intsI 16 A).toArray 36)) zI 36 (n := 16) (L := fun _ => 0) (fun j hj => zI_at j hj)
    rw [World.size_alloc] at this
    rw [hW]; exact this
  have c1' : Calls Tryd.prog 42 #[.int .i64 1] W fun e w' => e = .returned (.agg (intsI 16 O).toArray) ∧ Below W.heap.size W w' := c1 W
  have hsto : ∀ w1 : World, Below W.heap.size W w1 → ∃ V, V = (w1.alloc (.cells zI 36)).setCells w1.heap.size 0 (intsI 16 O).toArray.toList ∧ IRow V w1.heap.size 16 O ∧ IRow V w.heap.size 16 A ∧ IRow V (w.heap.size + 1) 16 (fun _ => 0) ∧ Below w.heap.size w V ∧ w1.heap.size < V.heap.size ∧ (w1.alloc (.cells zI 36)).there w1.heap.size 0 (intsI 16 O).toArray.size ∧ w.heap.size + 1 < w1.heap.size := fun w1 hb1 => by
    have hf := IRow.fresh w1 zI 36 (n := 16) (L := fun _ => 0) (fun j hj => zI_at j hj)
    have hs := hb1.size
    have hba : Below w1.heap.size w1 (w1.alloc (.cells zI 36)) := (Below.refl _ _).alloc (Nat.le_refl _) _
    refine ⟨_, rfl, ?_, ((hAr0.below hb1 (by omega)).below hba (by omega)).farCells (by omega) _ _, ((hRr0.below hb1 (by omega)).below hba (by omega)).farCells (by omega) _ _, below_setCells (by omega) _ _ _ ((hbW.trans (hb1.mono hbW.size)).trans (hba.mono (by omega))), ?_, ?_, by omega⟩
    · rw [List.toList_toArray]; exact hf.stored
    · rw [(setCells_same _ _ _ _).2.2.2]; simp
    · rw [intsI_size]; exact hf.there
  have hi2O := infoRA O
  have hoO := oneR O
  unfold refV
  clear hW hO hEX c1 hE0
  go_enter Tryd.func70, Tryd.ntmps70
  go_wp2_with (first
    | (go_at_call 42; rw [← HW.out]; refine c1'.mono ?_; clear c1'; rintro e w1 ⟨rfl, hb1⟩; (obtain ⟨V, hV, hNV, hAV, hRV, hbV, hsV, hthV, hsz⟩ := hsto w1 hb1); (have HV := Hid.mk' hV); clear hV hsto)
    | (refine wpList_store_mid rfl 36 _ _ rfl w1.heap.size 0 (intsI 16 O).toArray rfl rfl hthV hi2O hoO ?_; rw [← HV.out]))
  obtain ⟨g, hg⟩ : ∃ g, g = w1.heap.size := ⟨_, rfl⟩
  rw [← hg] at hNV hsV hsz ⊢
  clear hg hthV HV hi2O hoO hAr0 hRr0 hb1
  go_loopw [10] (fun i wr => ∃ (k : Nat) (L : Nat → Int), k ≤ 252 ∧ i = .int .i64 ((k : Int) - 1) ∧ IRow wr g 16 L ∧ Rep L (a ^ (EX / 2 ^ k)) ∧ IRow wr w.heap.size 16 A ∧ IRow wr (w.heap.size + 1) 16 (fun _ => 0) ∧ Below w.heap.size w wr ∧ g < wr.heap.size) (fun i _ => (intOf i + 1).toNat)
  case atStart => exact ⟨252, O, Nat.le_refl _, by go_num, hNV, hone, hAV, hRV, hbV, hsV⟩
  case round =>
    clear hNV hAV hRV hbV hsV hone hz
    obtain ⟨k, L, hk, rfl, hN, hL, hAr, hRr, hb, hs⟩ := hrel
    by_cases hlt : 0 < k
    · have hsq := rep_times hL hL
      have c1 := rtimes_any L L hL.bd hL.bd wr
      obtain ⟨M, hM⟩ : ∃ M, M = timesL L L := ⟨_, rfl⟩
      have c1' : Calls Tryd.prog 43 #[.agg (intsI 16 L).toArray, .agg (intsI 16 L).toArray] wr fun e w' => e = .returned (.agg (intsI 16 M).toArray) ∧ Below wr.heap.size wr w' := by rw [hM]; exact c1
      rw [← hM] at hsq
      have hmul := rep_times hsq hA
      have c2 := fun W => rtimes_any M A hsq.bd hA.bd W
      obtain ⟨Q, hQ⟩ : ∃ Q, Q = timesL M A := ⟨_, rfl⟩
      have c2' : ∀ W, Calls Tryd.prog 43 #[.agg (intsI 16 M).toArray, .agg (intsI 16 A).toArray] W fun e w' => e = .returned (.agg (intsI 16 Q).toArray) ∧ Below W.heap.size W w' := by rw [hQ]; exact c2
      rw [← hQ] at hmul
      have hp1 : EX / 2 ^ (k - 1) % 2 = 1 → Rep Q (a ^ (EX / 2 ^ (k - 1))) := fun h => by
        have := pow_bit a EX k hlt
        rw [h] at this
        rw [this, Nat.pow_one]; exact hmul
      have hp0 : EX / 2 ^ (k - 1) % 2 = 0 → Rep M (a ^ (EX / 2 ^ (k - 1))) := fun h => by
        have := pow_bit a EX k hlt
        rw [h] at this
        rw [this, Nat.pow_zero, Nat.mul_one]; exact hsq
      clear hM hQ c1 c2 hsq hmul hL
      have hiL := infoRL L
      have hiM := infoRL M
      have hiA := infoRL A
      have hi2M := infoRA M
      have hoM := oneR M
      have hi2Q := infoRA Q
      have hoQ := oneR Q
      have hNr := hN.range
      by_cases hw : 4 < k
      · have hwi : ¬(k : Int) - 1 < 4 := by omega
        have hwi2 : (4 : Int) ≤ (k : Int) - 1 := by omega
        go_wp2_with (first
          | (refine wpList_load_mid rfl 36 _ rfl g 0 rfl (intsI 16 L) _ hNr Tryd.underlying36 rfl hiL ?_)
          | (go_at_call 43; refine c1'.mono ?_; clear c1' hNr; rintro e w1 ⟨rfl, hb1⟩; (have hN1 := hN.below hb1 hs); (have hth1 : w1.there g 0 (intsI 16 M).toArray.size := by rw [intsI_size]; exact hN1.there); (have hAr1 := (hAr.below hb1 (by omega)).farCells (k := g) (by omega) 0 (intsI 16 M).toArray.toList); (have hRr1 := (hRr.below hb1 (by omega)).farCells (k := g) (by omega) 0 (intsI 16 M).toArray.toList); (have hN2 : IRow (w1.setCells g 0 (intsI 16 M).toArray.toList) g 16 M := by rw [List.toList_toArray]; exact hN1.stored); (have hbw1 : Below w.heap.size w (w1.setCells g 0 (intsI 16 M).toArray.toList) := below_setCells (by omega) _ _ _ (hb.trans (hb1.mono hb.size))); (have hs1 : g < (w1.setCells g 0 (intsI 16 M).toArray.toList).heap.size := by rw [(setCells_same _ _ _ _).2.2.2]; exact Nat.lt_of_lt_of_le hs hb1.size); (obtain ⟨V1, hV1⟩ : ∃ V1, V1 = w1.setCells g 0 (intsI 16 M).toArray.toList := ⟨_, rfl⟩); (have HV1 := Hid.mk' hV1); rw [← hV1] at hAr1 hRr1 hN2 hbw1 hs1; clear hV1; (have hNr2 := hN2.range); (have hAr2 := hAr1.range))
          | (refine wpList_store_mid rfl 36 _ _ rfl g 0 (intsI 16 M).toArray rfl rfl hth1 hi2M hoM ?_; rw [← HV1.out]; clear hth1)
          | (refine wpList_load_mid rfl 36 _ rfl g 0 rfl (intsI 16 M) _ hNr2 Tryd.underlying36 rfl hiM ?_)
          | (refine wpList_load_mid rfl 36 _ rfl w.heap.size 0 rfl (intsI 16 A) _ hAr2 Tryd.underlying36 rfl hiA ?_)
          | (go_at_call 43; refine (c2' _).mono ?_; clear c2' hNr2 hAr2; rintro e w2 ⟨rfl, hb2⟩; (have hN3 := hN2.below hb2 hs1); (have hth2 : w2.there g 0 (intsI 16 Q).toArray.size := by rw [intsI_size]; exact hN3.there))
          | (with_reducible (refine id (?_ : wpList _ _ _ _ _ _)); refine wpList_store_mid rfl 36 _ _ rfl g 0 (intsI 16 Q).toArray rfl rfl hth2 hi2Q hoQ ?_))
        go_roundw
        case rel =>
          refine ⟨k - 1, Q, by omega, by go_num, ?_, hp1 (hbit (k - 1) (by omega) (by omega)), (hAr1.below hb2 (by omega)).farCells (by omega) _ _, (hRr1.below hb2 (by omega)).farCells (by omega) _ _, below_setCells (by omega) _ _ _ (hbw1.trans (hb2.mono hbw1.size)), ?_⟩
          · exact hN3.stored
          · rw [(setCells_same _ _ _ _).2.2.2]; exact Nat.lt_of_lt_of_le hs1 hb2.size
        case measure => simp [intOf]; omega
      · have hcases : k = 1 ∨ k = 2 ∨ k = 3 ∨ k = 4 := by omega
        rcases hcases with rfl | rfl | rfl | rfl
        · go_wp2_with (first
            | (refine wpList_load_mid rfl 36 _ rfl g 0 rfl (intsI 16 L) _ hNr Tryd.underlying36 rfl hiL ?_)
            | (go_at_call 43; refine c1'.mono ?_; clear c1' hNr; rintro e w1 ⟨rfl, hb1⟩; (have hN1 := hN.below hb1 hs); (have hth1 : w1.there g 0 (intsI 16 M).toArray.size := by rw [intsI_size]; exact hN1.there); (have hAr1 := (hAr.below hb1 (by omega)).farCells (k := g) (by omega) 0 (intsI 16 M).toArray.toList); (have hRr1 := (hRr.below hb1 (by omega)).farCells (k := g) (by omega) 0 (intsI 16 M).toArray.toList); (have hN2 : IRow (w1.setCells g 0 (intsI 16 M).toArray.toList) g 16 M := by rw [List.toList_toArray]; exact hN1.stored); (have hbw1 : Below w.heap.size w (w1.setCells g 0 (intsI 16 M).toArray.toList) := below_setCells (by omega) _ _ _ (hb.trans (hb1.mono hb.size))); (have hs1 : g < (w1.setCells g 0 (intsI 16 M).toArray.toList).heap.size := by rw [(setCells_same _ _ _ _).2.2.2]; exact Nat.lt_of_lt_of_le hs hb1.size); (obtain ⟨V1, hV1⟩ : ∃ V1, V1 = w1.setCells g 0 (intsI 16 M).toArray.toList := ⟨_, rfl⟩); (have HV1 := Hid.mk' hV1); rw [← hV1] at hAr1 hRr1 hN2 hbw1 hs1; clear hV1; (have hNr2 := hN2.range); (have hAr2 := hAr1.range))
            | (refine wpList_store_mid rfl 36 _ _ rfl g 0 (intsI 16 M).toArray rfl rfl hth1 hi2M hoM ?_; rw [← HV1.out]; clear hth1)
            | fail)
          go_roundw
          case rel => exact ⟨0, M, by omega, by go_num, hN2, hp0 (hbt0), hAr1, hRr1, hbw1, hs1⟩
          case measure => simp [intOf]
        · go_wp2_with (first
            | (refine wpList_load_mid rfl 36 _ rfl g 0 rfl (intsI 16 L) _ hNr Tryd.underlying36 rfl hiL ?_)
            | (go_at_call 43; refine c1'.mono ?_; clear c1' hNr; rintro e w1 ⟨rfl, hb1⟩; (have hN1 := hN.below hb1 hs); (have hth1 : w1.there g 0 (intsI 16 M).toArray.size := by rw [intsI_size]; exact hN1.there); (have hAr1 := (hAr.below hb1 (by omega)).farCells (k := g) (by omega) 0 (intsI 16 M).toArray.toList); (have hRr1 := (hRr.below hb1 (by omega)).farCells (k := g) (by omega) 0 (intsI 16 M).toArray.toList); (have hN2 : IRow (w1.setCells g 0 (intsI 16 M).toArray.toList) g 16 M := by rw [List.toList_toArray]; exact hN1.stored); (have hbw1 : Below w.heap.size w (w1.setCells g 0 (intsI 16 M).toArray.toList) := below_setCells (by omega) _ _ _ (hb.trans (hb1.mono hb.size))); (have hs1 : g < (w1.setCells g 0 (intsI 16 M).toArray.toList).heap.size := by rw [(setCells_same _ _ _ _).2.2.2]; exact Nat.lt_of_lt_of_le hs hb1.size); (obtain ⟨V1, hV1⟩ : ∃ V1, V1 = w1.setCells g 0 (intsI 16 M).toArray.toList := ⟨_, rfl⟩); (have HV1 := Hid.mk' hV1); rw [← hV1] at hAr1 hRr1 hN2 hbw1 hs1; clear hV1; (have hNr2 := hN2.range); (have hAr2 := hAr1.range))
            | (refine wpList_store_mid rfl 36 _ _ rfl g 0 (intsI 16 M).toArray rfl rfl hth1 hi2M hoM ?_; rw [← HV1.out]; clear hth1)
            | (refine wpList_load_mid rfl 36 _ rfl g 0 rfl (intsI 16 M) _ hNr2 Tryd.underlying36 rfl hiM ?_)
            | (refine wpList_load_mid rfl 36 _ rfl w.heap.size 0 rfl (intsI 16 A) _ hAr2 Tryd.underlying36 rfl hiA ?_)
            | (go_at_call 43; refine (c2' _).mono ?_; clear c2' hNr2 hAr2; rintro e w2 ⟨rfl, hb2⟩; (have hN3 := hN2.below hb2 hs1); (have hth2 : w2.there g 0 (intsI 16 Q).toArray.size := by rw [intsI_size]; exact hN3.there))
            | (with_reducible (refine id (?_ : wpList _ _ _ _ _ _)); refine wpList_store_mid rfl 36 _ _ rfl g 0 (intsI 16 Q).toArray rfl rfl hth2 hi2Q hoQ ?_))
          go_roundw
          case rel =>
            refine ⟨1, Q, by omega, by go_num, ?_, hp1 (hbt1), (hAr1.below hb2 (by omega)).farCells (by omega) _ _, (hRr1.below hb2 (by omega)).farCells (by omega) _ _, below_setCells (by omega) _ _ _ (hbw1.trans (hb2.mono hbw1.size)), ?_⟩
            · exact hN3.stored
            · rw [(setCells_same _ _ _ _).2.2.2]; exact Nat.lt_of_lt_of_le hs1 hb2.size
          case measure => simp [intOf]
        · go_wp2_with (first
            | (refine wpList_load_mid rfl 36 _ rfl g 0 rfl (intsI 16 L) _ hNr Tryd.underlying36 rfl hiL ?_)
            | (go_at_call 43; refine c1'.mono ?_; clear c1' hNr; rintro e w1 ⟨rfl, hb1⟩; (have hN1 := hN.below hb1 hs); (have hth1 : w1.there g 0 (intsI 16 M).toArray.size := by rw [intsI_size]; exact hN1.there); (have hAr1 := (hAr.below hb1 (by omega)).farCells (k := g) (by omega) 0 (intsI 16 M).toArray.toList); (have hRr1 := (hRr.below hb1 (by omega)).farCells (k := g) (by omega) 0 (intsI 16 M).toArray.toList); (have hN2 : IRow (w1.setCells g 0 (intsI 16 M).toArray.toList) g 16 M := by rw [List.toList_toArray]; exact hN1.stored); (have hbw1 : Below w.heap.size w (w1.setCells g 0 (intsI 16 M).toArray.toList) := below_setCells (by omega) _ _ _ (hb.trans (hb1.mono hb.size))); (have hs1 : g < (w1.setCells g 0 (intsI 16 M).toArray.toList).heap.size := by rw [(setCells_same _ _ _ _).2.2.2]; exact Nat.lt_of_lt_of_le hs hb1.size); (obtain ⟨V1, hV1⟩ : ∃ V1, V1 = w1.setCells g 0 (intsI 16 M).toArray.toList := ⟨_, rfl⟩); (have HV1 := Hid.mk' hV1); rw [← hV1] at hAr1 hRr1 hN2 hbw1 hs1; clear hV1; (have hNr2 := hN2.range); (have hAr2 := hAr1.range))
            | (refine wpList_store_mid rfl 36 _ _ rfl g 0 (intsI 16 M).toArray rfl rfl hth1 hi2M hoM ?_; rw [← HV1.out]; clear hth1)
            | (refine wpList_load_mid rfl 36 _ rfl g 0 rfl (intsI 16 M) _ hNr2 Tryd.underlying36 rfl hiM ?_)
            | (refine wpList_load_mid rfl 36 _ rfl w.heap.size 0 rfl (intsI 16 A) _ hAr2 Tryd.underlying36 rfl hiA ?_)
            | (go_at_call 43; refine (c2' _).mono ?_; clear c2' hNr2 hAr2; rintro e w2 ⟨rfl, hb2⟩; (have hN3 := hN2.below hb2 hs1); (have hth2 : w2.there g 0 (intsI 16 Q).toArray.size := by rw [intsI_size]; exact hN3.there))
            | (with_reducible (refine id (?_ : wpList _ _ _ _ _ _)); refine wpList_store_mid rfl 36 _ _ rfl g 0 (intsI 16 Q).toArray rfl rfl hth2 hi2Q hoQ ?_))
          go_roundw
          case rel =>
            refine ⟨2, Q, by omega, by go_num, ?_, hp1 (hbt2), (hAr1.below hb2 (by omega)).farCells (by omega) _ _, (hRr1.below hb2 (by omega)).farCells (by omega) _ _, below_setCells (by omega) _ _ _ (hbw1.trans (hb2.mono hbw1.size)), ?_⟩
            · exact hN3.stored
            · rw [(setCells_same _ _ _ _).2.2.2]; exact Nat.lt_of_lt_of_le hs1 hb2.size
          case measure => simp [intOf]
        · go_wp2_with (first
            | (refine wpList_load_mid rfl 36 _ rfl g 0 rfl (intsI 16 L) _ hNr Tryd.underlying36 rfl hiL ?_)
            | (go_at_call 43; refine c1'.mono ?_; clear c1' hNr; rintro e w1 ⟨rfl, hb1⟩; (have hN1 := hN.below hb1 hs); (have hth1 : w1.there g 0 (intsI 16 M).toArray.size := by rw [intsI_size]; exact hN1.there); (have hAr1 := (hAr.below hb1 (by omega)).farCells (k := g) (by omega) 0 (intsI 16 M).toArray.toList); (have hRr1 := (hRr.below hb1 (by omega)).farCells (k := g) (by omega) 0 (intsI 16 M).toArray.toList); (have hN2 : IRow (w1.setCells g 0 (intsI 16 M).toArray.toList) g 16 M := by rw [List.toList_toArray]; exact hN1.stored); (have hbw1 : Below w.heap.size w (w1.setCells g 0 (intsI 16 M).toArray.toList) := below_setCells (by omega) _ _ _ (hb.trans (hb1.mono hb.size))); (have hs1 : g < (w1.setCells g 0 (intsI 16 M).toArray.toList).heap.size := by rw [(setCells_same _ _ _ _).2.2.2]; exact Nat.lt_of_lt_of_le hs hb1.size); (obtain ⟨V1, hV1⟩ : ∃ V1, V1 = w1.setCells g 0 (intsI 16 M).toArray.toList := ⟨_, rfl⟩); (have HV1 := Hid.mk' hV1); rw [← hV1] at hAr1 hRr1 hN2 hbw1 hs1; clear hV1; (have hNr2 := hN2.range); (have hAr2 := hAr1.range))
            | (refine wpList_store_mid rfl 36 _ _ rfl g 0 (intsI 16 M).toArray rfl rfl hth1 hi2M hoM ?_; rw [← HV1.out]; clear hth1)
            | (refine wpList_load_mid rfl 36 _ rfl g 0 rfl (intsI 16 M) _ hNr2 Tryd.underlying36 rfl hiM ?_)
            | (refine wpList_load_mid rfl 36 _ rfl w.heap.size 0 rfl (intsI 16 A) _ hAr2 Tryd.underlying36 rfl hiA ?_)
            | (go_at_call 43; refine (c2' _).mono ?_; clear c2' hNr2 hAr2; rintro e w2 ⟨rfl, hb2⟩; (have hN3 := hN2.below hb2 hs1); (have hth2 : w2.there g 0 (intsI 16 Q).toArray.size := by rw [intsI_size]; exact hN3.there))
            | (with_reducible (refine id (?_ : wpList _ _ _ _ _ _)); refine wpList_store_mid rfl 36 _ _ rfl g 0 (intsI 16 Q).toArray rfl rfl hth2 hi2Q hoQ ?_))
          go_roundw
          case rel =>
            refine ⟨3, Q, by omega, by go_num, ?_, hp1 (hbt3), (hAr1.below hb2 (by omega)).farCells (by omega) _ _, (hRr1.below hb2 (by omega)).farCells (by omega) _ _, below_setCells (by omega) _ _ _ (hbw1.trans (hb2.mono hbw1.size)), ?_⟩
            · exact hN3.stored
            · rw [(setCells_same _ _ _ _).2.2.2]; exact Nat.lt_of_lt_of_le hs1 hb2.size
          case measure => simp [intOf]
    · have hke : k = 0 := by omega
      subst hke
      have hiL := infoRL L
      have hi2L := infoRA L
      have hoL := oneR L
      have hth : wr.there (w.heap.size + 1) 0 (intsI 16 L).toArray.size := by rw [intsI_size]; exact hRr.there
      have hNr := hN.range
      go_wp2_with (first
        | (refine wpList_load_mid rfl 36 _ rfl g 0 rfl (intsI 16 L) _ hNr Tryd.underlying36 rfl hiL ?_)
        | (refine wpList_store_mid rfl 36 _ _ rfl (w.heap.size + 1) 0 (intsI 16 L).toArray rfl rfl hth hi2L hoL ?_))
      (try simp only [Exit.inBlock, Exit.then])
      refine bodyPost_ret (results_cell_mid Tryd.results70 _ _ (w.heap.size + 1) 0 (intsI 16 L) _ rfl (World.rangeAt_setCells_same _ _ _ _ (by rw [intsI_len]; exact hRr.there)) Tryd.underlying36 rfl hiL) rfl ⟨L, rfl, hL, ?_⟩
      exact below_setCells (by omega) _ _ _ hb
theorem rpow4_bits : (List.range 253).all (fun i => decide (i < 3 ∨ 14474011154664524427946373126085988481658748083205070504932198000989141204987 / 2 ^ i % 2 = 1)) = true := by kernel_rfl
theorem rpow4_bit (i : Nat) (h : 3 ≤ i) (hi : i < 253) : 14474011154664524427946373126085988481658748083205070504932198000989141204987 / 2 ^ i % 2 = 1 := by
  have h1 := List.all_eq_true.1 rpow4_bits i (List.mem_range.2 hi)
  have h2 := of_decide_eq_true h1
  omega
set_option maxRecDepth 20000 in
set_option maxHeartbeats 4000000 in
theorem rpow4_any (A : Nat → Int) (a : Nat) (hA : Rep A a) (w : World) :
    Calls Tryd.prog 70 #[refV A, .int .i64 253, .int .i64 3, .int .i64 3] w fun e w' => ∃ R, e = .returned (refV R) ∧ Rep R (a ^ 14474011154664524427946373126085988481658748083205070504932198000989141204987) ∧ Below w.heap.size w w' := by
  have hz := zeroR
  have c1 := fun W => rone_any W
  have hone : Rep (carryL oneL) (a ^ (14474011154664524427946373126085988481658748083205070504932198000989141204987 / 2 ^ 253)) := by rw [show 14474011154664524427946373126085988481658748083205070504932198000989141204987 / 2 ^ 253 = 0 by decide, Nat.pow_zero]; exact rep_one
  obtain ⟨O, hO⟩ : ∃ O, O = carryL oneL := ⟨_, rfl⟩
  rw [← hO] at c1 hone
  obtain ⟨EX, hEX⟩ : ∃ EX, EX = 14474011154664524427946373126085988481658748083205070504932198000989141204987 := ⟨_, rfl⟩
  have hbit : ∀ i, 3 ≤ i → i < 253 → EX / 2 ^ i % 2 = 1 := fun i h1 h2 => by rw [hEX]; exact rpow4_bit i h1 h2
  have hbt0 : EX / 2 ^ 0 % 2 = 1 := by rw [hEX]
  have hbt1 : EX / 2 ^ 1 % 2 = 1 := by rw [hEX]
  have hbt2 : EX / 2 ^ 2 % 2 = 0 := by rw [hEX]
  have hE0 : EX / 2 ^ 0 = 14474011154664524427946373126085988481658748083205070504932198000989141204987 := by rw [hEX, Nat.pow_zero, Nat.div_one]
  rw [← hEX] at hone
  rw [← hE0]
  obtain ⟨W, hW⟩ : ∃ W, W = (w.alloc (.cells (intsI 16 A).toArray 36)).alloc (.cells zI 36) := ⟨_, rfl⟩
  have HW := Hid.mk' hW
  have hWs : W.heap.size = w.heap.size + 1 + 1 := by rw [hW]; simp
  have hbW : Below w.heap.size w W := by rw [hW]; exact ((Below.refl _ _).alloc (Nat.le_refl _) _).alloc (by simp) _
  have hAr0 : IRow W w.heap.size 16 A := by rw [hW]; exact (IRow.box w 16 A _).below ((Below.refl _ _).alloc (Nat.le_refl _) _) (by simp)
  have hRr0 : IRow W (w.heap.size + 1) 16 (fun _ => 0) := by
    have := IRow.fresh (w.alloc (.cells (intsI 16 A).toArray 36)) zI 36 (n := 16) (L := fun _ => 0) (fun j hj => zI_at j hj)
    rw [World.size_alloc] at this
    rw [hW]; exact this
  have c1' : Calls Tryd.prog 42 #[.int .i64 1] W fun e w' => e = .returned (.agg (intsI 16 O).toArray) ∧ Below W.heap.size W w' := c1 W
  have hsto : ∀ w1 : World, Below W.heap.size W w1 → ∃ V, V = (w1.alloc (.cells zI 36)).setCells w1.heap.size 0 (intsI 16 O).toArray.toList ∧ IRow V w1.heap.size 16 O ∧ IRow V w.heap.size 16 A ∧ IRow V (w.heap.size + 1) 16 (fun _ => 0) ∧ Below w.heap.size w V ∧ w1.heap.size < V.heap.size ∧ (w1.alloc (.cells zI 36)).there w1.heap.size 0 (intsI 16 O).toArray.size ∧ w.heap.size + 1 < w1.heap.size := fun w1 hb1 => by
    have hf := IRow.fresh w1 zI 36 (n := 16) (L := fun _ => 0) (fun j hj => zI_at j hj)
    have hs := hb1.size
    have hba : Below w1.heap.size w1 (w1.alloc (.cells zI 36)) := (Below.refl _ _).alloc (Nat.le_refl _) _
    refine ⟨_, rfl, ?_, ((hAr0.below hb1 (by omega)).below hba (by omega)).farCells (by omega) _ _, ((hRr0.below hb1 (by omega)).below hba (by omega)).farCells (by omega) _ _, below_setCells (by omega) _ _ _ ((hbW.trans (hb1.mono hbW.size)).trans (hba.mono (by omega))), ?_, ?_, by omega⟩
    · rw [List.toList_toArray]; exact hf.stored
    · rw [(setCells_same _ _ _ _).2.2.2]; simp
    · rw [intsI_size]; exact hf.there
  have hi2O := infoRA O
  have hoO := oneR O
  unfold refV
  clear hW hO hEX c1 hE0
  go_enter Tryd.func70, Tryd.ntmps70
  go_wp2_with (first
    | (go_at_call 42; rw [← HW.out]; refine c1'.mono ?_; clear c1'; rintro e w1 ⟨rfl, hb1⟩; (obtain ⟨V, hV, hNV, hAV, hRV, hbV, hsV, hthV, hsz⟩ := hsto w1 hb1); (have HV := Hid.mk' hV); clear hV hsto)
    | (refine wpList_store_mid rfl 36 _ _ rfl w1.heap.size 0 (intsI 16 O).toArray rfl rfl hthV hi2O hoO ?_; rw [← HV.out]))
  obtain ⟨g, hg⟩ : ∃ g, g = w1.heap.size := ⟨_, rfl⟩
  rw [← hg] at hNV hsV hsz ⊢
  clear hg hthV HV hi2O hoO hAr0 hRr0 hb1
  go_loopw [10] (fun i wr => ∃ (k : Nat) (L : Nat → Int), k ≤ 253 ∧ i = .int .i64 ((k : Int) - 1) ∧ IRow wr g 16 L ∧ Rep L (a ^ (EX / 2 ^ k)) ∧ IRow wr w.heap.size 16 A ∧ IRow wr (w.heap.size + 1) 16 (fun _ => 0) ∧ Below w.heap.size w wr ∧ g < wr.heap.size) (fun i _ => (intOf i + 1).toNat)
  case atStart => exact ⟨253, O, Nat.le_refl _, by go_num, hNV, hone, hAV, hRV, hbV, hsV⟩
  case round =>
    clear hNV hAV hRV hbV hsV hone hz
    obtain ⟨k, L, hk, rfl, hN, hL, hAr, hRr, hb, hs⟩ := hrel
    by_cases hlt : 0 < k
    · have hsq := rep_times hL hL
      have c1 := rtimes_any L L hL.bd hL.bd wr
      obtain ⟨M, hM⟩ : ∃ M, M = timesL L L := ⟨_, rfl⟩
      have c1' : Calls Tryd.prog 43 #[.agg (intsI 16 L).toArray, .agg (intsI 16 L).toArray] wr fun e w' => e = .returned (.agg (intsI 16 M).toArray) ∧ Below wr.heap.size wr w' := by rw [hM]; exact c1
      rw [← hM] at hsq
      have hmul := rep_times hsq hA
      have c2 := fun W => rtimes_any M A hsq.bd hA.bd W
      obtain ⟨Q, hQ⟩ : ∃ Q, Q = timesL M A := ⟨_, rfl⟩
      have c2' : ∀ W, Calls Tryd.prog 43 #[.agg (intsI 16 M).toArray, .agg (intsI 16 A).toArray] W fun e w' => e = .returned (.agg (intsI 16 Q).toArray) ∧ Below W.heap.size W w' := by rw [hQ]; exact c2
      rw [← hQ] at hmul
      have hp1 : EX / 2 ^ (k - 1) % 2 = 1 → Rep Q (a ^ (EX / 2 ^ (k - 1))) := fun h => by
        have := pow_bit a EX k hlt
        rw [h] at this
        rw [this, Nat.pow_one]; exact hmul
      have hp0 : EX / 2 ^ (k - 1) % 2 = 0 → Rep M (a ^ (EX / 2 ^ (k - 1))) := fun h => by
        have := pow_bit a EX k hlt
        rw [h] at this
        rw [this, Nat.pow_zero, Nat.mul_one]; exact hsq
      clear hM hQ c1 c2 hsq hmul hL
      have hiL := infoRL L
      have hiM := infoRL M
      have hiA := infoRL A
      have hi2M := infoRA M
      have hoM := oneR M
      have hi2Q := infoRA Q
      have hoQ := oneR Q
      have hNr := hN.range
      by_cases hw : 3 < k
      · have hwi : ¬(k : Int) - 1 < 3 := by omega
        have hwi2 : (3 : Int) ≤ (k : Int) - 1 := by omega
        go_wp2_with (first
          | (refine wpList_load_mid rfl 36 _ rfl g 0 rfl (intsI 16 L) _ hNr Tryd.underlying36 rfl hiL ?_)
          | (go_at_call 43; refine c1'.mono ?_; clear c1' hNr; rintro e w1 ⟨rfl, hb1⟩; (have hN1 := hN.below hb1 hs); (have hth1 : w1.there g 0 (intsI 16 M).toArray.size := by rw [intsI_size]; exact hN1.there); (have hAr1 := (hAr.below hb1 (by omega)).farCells (k := g) (by omega) 0 (intsI 16 M).toArray.toList); (have hRr1 := (hRr.below hb1 (by omega)).farCells (k := g) (by omega) 0 (intsI 16 M).toArray.toList); (have hN2 : IRow (w1.setCells g 0 (intsI 16 M).toArray.toList) g 16 M := by rw [List.toList_toArray]; exact hN1.stored); (have hbw1 : Below w.heap.size w (w1.setCells g 0 (intsI 16 M).toArray.toList) := below_setCells (by omega) _ _ _ (hb.trans (hb1.mono hb.size))); (have hs1 : g < (w1.setCells g 0 (intsI 16 M).toArray.toList).heap.size := by rw [(setCells_same _ _ _ _).2.2.2]; exact Nat.lt_of_lt_of_le hs hb1.size); (obtain ⟨V1, hV1⟩ : ∃ V1, V1 = w1.setCells g 0 (intsI 16 M).toArray.toList := ⟨_, rfl⟩); (have HV1 := Hid.mk' hV1); rw [← hV1] at hAr1 hRr1 hN2 hbw1 hs1; clear hV1; (have hNr2 := hN2.range); (have hAr2 := hAr1.range))
          | (refine wpList_store_mid rfl 36 _ _ rfl g 0 (intsI 16 M).toArray rfl rfl hth1 hi2M hoM ?_; rw [← HV1.out]; clear hth1)
          | (refine wpList_load_mid rfl 36 _ rfl g 0 rfl (intsI 16 M) _ hNr2 Tryd.underlying36 rfl hiM ?_)
          | (refine wpList_load_mid rfl 36 _ rfl w.heap.size 0 rfl (intsI 16 A) _ hAr2 Tryd.underlying36 rfl hiA ?_)
          | (go_at_call 43; refine (c2' _).mono ?_; clear c2' hNr2 hAr2; rintro e w2 ⟨rfl, hb2⟩; (have hN3 := hN2.below hb2 hs1); (have hth2 : w2.there g 0 (intsI 16 Q).toArray.size := by rw [intsI_size]; exact hN3.there))
          | (with_reducible (refine id (?_ : wpList _ _ _ _ _ _)); refine wpList_store_mid rfl 36 _ _ rfl g 0 (intsI 16 Q).toArray rfl rfl hth2 hi2Q hoQ ?_))
        go_roundw
        case rel =>
          refine ⟨k - 1, Q, by omega, by go_num, ?_, hp1 (hbit (k - 1) (by omega) (by omega)), (hAr1.below hb2 (by omega)).farCells (by omega) _ _, (hRr1.below hb2 (by omega)).farCells (by omega) _ _, below_setCells (by omega) _ _ _ (hbw1.trans (hb2.mono hbw1.size)), ?_⟩
          · exact hN3.stored
          · rw [(setCells_same _ _ _ _).2.2.2]; exact Nat.lt_of_lt_of_le hs1 hb2.size
        case measure => simp [intOf]; omega
      · have hcases : k = 1 ∨ k = 2 ∨ k = 3 := by omega
        rcases hcases with rfl | rfl | rfl
        · go_wp2_with (first
            | (refine wpList_load_mid rfl 36 _ rfl g 0 rfl (intsI 16 L) _ hNr Tryd.underlying36 rfl hiL ?_)
            | (go_at_call 43; refine c1'.mono ?_; clear c1' hNr; rintro e w1 ⟨rfl, hb1⟩; (have hN1 := hN.below hb1 hs); (have hth1 : w1.there g 0 (intsI 16 M).toArray.size := by rw [intsI_size]; exact hN1.there); (have hAr1 := (hAr.below hb1 (by omega)).farCells (k := g) (by omega) 0 (intsI 16 M).toArray.toList); (have hRr1 := (hRr.below hb1 (by omega)).farCells (k := g) (by omega) 0 (intsI 16 M).toArray.toList); (have hN2 : IRow (w1.setCells g 0 (intsI 16 M).toArray.toList) g 16 M := by rw [List.toList_toArray]; exact hN1.stored); (have hbw1 : Below w.heap.size w (w1.setCells g 0 (intsI 16 M).toArray.toList) := below_setCells (by omega) _ _ _ (hb.trans (hb1.mono hb.size))); (have hs1 : g < (w1.setCells g 0 (intsI 16 M).toArray.toList).heap.size := by rw [(setCells_same _ _ _ _).2.2.2]; exact Nat.lt_of_lt_of_le hs hb1.size); (obtain ⟨V1, hV1⟩ : ∃ V1, V1 = w1.setCells g 0 (intsI 16 M).toArray.toList := ⟨_, rfl⟩); (have HV1 := Hid.mk' hV1); rw [← hV1] at hAr1 hRr1 hN2 hbw1 hs1; clear hV1; (have hNr2 := hN2.range); (have hAr2 := hAr1.range))
            | (refine wpList_store_mid rfl 36 _ _ rfl g 0 (intsI 16 M).toArray rfl rfl hth1 hi2M hoM ?_; rw [← HV1.out]; clear hth1)
            | (refine wpList_load_mid rfl 36 _ rfl g 0 rfl (intsI 16 M) _ hNr2 Tryd.underlying36 rfl hiM ?_)
            | (refine wpList_load_mid rfl 36 _ rfl w.heap.size 0 rfl (intsI 16 A) _ hAr2 Tryd.underlying36 rfl hiA ?_)
            | (go_at_call 43; refine (c2' _).mono ?_; clear c2' hNr2 hAr2; rintro e w2 ⟨rfl, hb2⟩; (have hN3 := hN2.below hb2 hs1); (have hth2 : w2.there g 0 (intsI 16 Q).toArray.size := by rw [intsI_size]; exact hN3.there))
            | (with_reducible (refine id (?_ : wpList _ _ _ _ _ _)); refine wpList_store_mid rfl 36 _ _ rfl g 0 (intsI 16 Q).toArray rfl rfl hth2 hi2Q hoQ ?_))
          go_roundw
          case rel =>
            refine ⟨0, Q, by omega, by go_num, ?_, hp1 (hbt0), (hAr1.below hb2 (by omega)).farCells (by omega) _ _, (hRr1.below hb2 (by omega)).farCells (by omega) _ _, below_setCells (by omega) _ _ _ (hbw1.trans (hb2.mono hbw1.size)), ?_⟩
            · exact hN3.stored
            · rw [(setCells_same _ _ _ _).2.2.2]; exact Nat.lt_of_lt_of_le hs1 hb2.size
          case measure => simp [intOf]
        · go_wp2_with (first
            | (refine wpList_load_mid rfl 36 _ rfl g 0 rfl (intsI 16 L) _ hNr Tryd.underlying36 rfl hiL ?_)
            | (go_at_call 43; refine c1'.mono ?_; clear c1' hNr; rintro e w1 ⟨rfl, hb1⟩; (have hN1 := hN.below hb1 hs); (have hth1 : w1.there g 0 (intsI 16 M).toArray.size := by rw [intsI_size]; exact hN1.there); (have hAr1 := (hAr.below hb1 (by omega)).farCells (k := g) (by omega) 0 (intsI 16 M).toArray.toList); (have hRr1 := (hRr.below hb1 (by omega)).farCells (k := g) (by omega) 0 (intsI 16 M).toArray.toList); (have hN2 : IRow (w1.setCells g 0 (intsI 16 M).toArray.toList) g 16 M := by rw [List.toList_toArray]; exact hN1.stored); (have hbw1 : Below w.heap.size w (w1.setCells g 0 (intsI 16 M).toArray.toList) := below_setCells (by omega) _ _ _ (hb.trans (hb1.mono hb.size))); (have hs1 : g < (w1.setCells g 0 (intsI 16 M).toArray.toList).heap.size := by rw [(setCells_same _ _ _ _).2.2.2]; exact Nat.lt_of_lt_of_le hs hb1.size); (obtain ⟨V1, hV1⟩ : ∃ V1, V1 = w1.setCells g 0 (intsI 16 M).toArray.toList := ⟨_, rfl⟩); (have HV1 := Hid.mk' hV1); rw [← hV1] at hAr1 hRr1 hN2 hbw1 hs1; clear hV1; (have hNr2 := hN2.range); (have hAr2 := hAr1.range))
            | (refine wpList_store_mid rfl 36 _ _ rfl g 0 (intsI 16 M).toArray rfl rfl hth1 hi2M hoM ?_; rw [← HV1.out]; clear hth1)
            | (refine wpList_load_mid rfl 36 _ rfl g 0 rfl (intsI 16 M) _ hNr2 Tryd.underlying36 rfl hiM ?_)
            | (refine wpList_load_mid rfl 36 _ rfl w.heap.size 0 rfl (intsI 16 A) _ hAr2 Tryd.underlying36 rfl hiA ?_)
            | (go_at_call 43; refine (c2' _).mono ?_; clear c2' hNr2 hAr2; rintro e w2 ⟨rfl, hb2⟩; (have hN3 := hN2.below hb2 hs1); (have hth2 : w2.there g 0 (intsI 16 Q).toArray.size := by rw [intsI_size]; exact hN3.there))
            | (with_reducible (refine id (?_ : wpList _ _ _ _ _ _)); refine wpList_store_mid rfl 36 _ _ rfl g 0 (intsI 16 Q).toArray rfl rfl hth2 hi2Q hoQ ?_))
          go_roundw
          case rel =>
            refine ⟨1, Q, by omega, by go_num, ?_, hp1 (hbt1), (hAr1.below hb2 (by omega)).farCells (by omega) _ _, (hRr1.below hb2 (by omega)).farCells (by omega) _ _, below_setCells (by omega) _ _ _ (hbw1.trans (hb2.mono hbw1.size)), ?_⟩
            · exact hN3.stored
            · rw [(setCells_same _ _ _ _).2.2.2]; exact Nat.lt_of_lt_of_le hs1 hb2.size
          case measure => simp [intOf]
        · go_wp2_with (first
            | (refine wpList_load_mid rfl 36 _ rfl g 0 rfl (intsI 16 L) _ hNr Tryd.underlying36 rfl hiL ?_)
            | (go_at_call 43; refine c1'.mono ?_; clear c1' hNr; rintro e w1 ⟨rfl, hb1⟩; (have hN1 := hN.below hb1 hs); (have hth1 : w1.there g 0 (intsI 16 M).toArray.size := by rw [intsI_size]; exact hN1.there); (have hAr1 := (hAr.below hb1 (by omega)).farCells (k := g) (by omega) 0 (intsI 16 M).toArray.toList); (have hRr1 := (hRr.below hb1 (by omega)).farCells (k := g) (by omega) 0 (intsI 16 M).toArray.toList); (have hN2 : IRow (w1.setCells g 0 (intsI 16 M).toArray.toList) g 16 M := by rw [List.toList_toArray]; exact hN1.stored); (have hbw1 : Below w.heap.size w (w1.setCells g 0 (intsI 16 M).toArray.toList) := below_setCells (by omega) _ _ _ (hb.trans (hb1.mono hb.size))); (have hs1 : g < (w1.setCells g 0 (intsI 16 M).toArray.toList).heap.size := by rw [(setCells_same _ _ _ _).2.2.2]; exact Nat.lt_of_lt_of_le hs hb1.size); (obtain ⟨V1, hV1⟩ : ∃ V1, V1 = w1.setCells g 0 (intsI 16 M).toArray.toList := ⟨_, rfl⟩); (have HV1 := Hid.mk' hV1); rw [← hV1] at hAr1 hRr1 hN2 hbw1 hs1; clear hV1; (have hNr2 := hN2.range); (have hAr2 := hAr1.range))
            | (refine wpList_store_mid rfl 36 _ _ rfl g 0 (intsI 16 M).toArray rfl rfl hth1 hi2M hoM ?_; rw [← HV1.out]; clear hth1)
            | fail)
          go_roundw
          case rel => exact ⟨2, M, by omega, by go_num, hN2, hp0 (hbt2), hAr1, hRr1, hbw1, hs1⟩
          case measure => simp [intOf]
    · have hke : k = 0 := by omega
      subst hke
      have hiL := infoRL L
      have hi2L := infoRA L
      have hoL := oneR L
      have hth : wr.there (w.heap.size + 1) 0 (intsI 16 L).toArray.size := by rw [intsI_size]; exact hRr.there
      have hNr := hN.range
      go_wp2_with (first
        | (refine wpList_load_mid rfl 36 _ rfl g 0 rfl (intsI 16 L) _ hNr Tryd.underlying36 rfl hiL ?_)
        | (refine wpList_store_mid rfl 36 _ _ rfl (w.heap.size + 1) 0 (intsI 16 L).toArray rfl rfl hth hi2L hoL ?_))
      (try simp only [Exit.inBlock, Exit.then])
      refine bodyPost_ret (results_cell_mid Tryd.results70 _ _ (w.heap.size + 1) 0 (intsI 16 L) _ rfl (World.rangeAt_setCells_same _ _ _ _ (by rw [intsI_len]; exact hRr.there)) Tryd.underlying36 rfl hiL) rfl ⟨L, rfl, hL, ?_⟩
      exact below_setCells (by omega) _ _ _ hb
end Go.Proofs.YteekjcfbnoakgaaDoor
namespace Go.Proofs.YteekjcfbnoakgaaDoor
open Go.RowKit
/-- New bytes: so many, in a block of their own. -/
def NewB (w w' : World) (v : Value) (n : Nat) (X : Nat → Nat) : Prop := ∃ g, v = .slice (some ⟨g, 0, none⟩) n n ∧ w.heap.size ≤ g ∧ RowAt .u8 w' g 0 n X
theorem NewB.bytes {w w' : World} {v : Value} {n : Nat} {X : Nat → Nat} (h : NewB w w' v n X) (h0 : 0 < n) : BytesIn w' v n X := by
  obtain ⟨g, rfl, -, hr⟩ := h
  exact .inr ⟨g, 0, n, rfl, block_lt_of_cell (hr 0 h0).1, Nat.le_refl _, fun j hj => (hr j hj).1⟩
end Go.Proofs.YteekjcfbnoakgaaDoor
namespace Go.Proofs.YteekjcfbnoakgaaDoor
open Go.RowKit
theorem NewB.still {w w' w2 : World} {v : Value} {n : Nat} {X : Nat → Nat} (h : NewB w w' v n X) (h0 : 0 < n) (hb : Below w'.heap.size w' w2) : NewB w w2 v n X := by
  obtain ⟨g, rfl, hg, hr⟩ := h
  exact ⟨g, rfl, hg, hr.below hb (block_lt_of_cell (hr 0 h0).1)⟩
theorem byt_all (n : Nat) : ∀ j, byt n j < 256 := fun j => byt_lt n j
end Go.Proofs.YteekjcfbnoakgaaDoor
namespace Go.Proofs.YteekjcfbnoakgaaDoor
open Go.RowKit
/-- The room behind lent bytes. -/
def room (j : Nat) : Nat := if j = 0 then 201 else 202
theorem src_room (w : World) : Src (w.alloc (.cells #[.int .u8 201, .int .u8 202] 5)) (some ⟨w.heap.size, 0, none⟩) 2 room := by
  refine .inr ⟨w.heap.size, 0, rfl, fun j hj => ?_⟩
  match j, hj with
  | 0, _ => simp [room]
  | 1, _ => simp [room]
set_option maxHeartbeats 1000000 in
theorem lent_any (v : Value) (n : Nat) (bs : Nat → Nat) (w : World) (hv : BytesIn w v n bs) (hn : n < 140737488355000) :
    Calls Tryd.prog 8 #[v] w fun e w' => ∃ g cap, e = .returned (.slice (some ⟨g, 0, none⟩) n cap) ∧ n + 2 ≤ cap ∧ w.heap.size ≤ g ∧ RowAt .u8 w' g 0 (n + 2) (cat n bs room) ∧ Below w.heap.size w w' := by
  obtain ⟨xo, cx, rfl, hxn, -, hsrc⟩ := hv.src
  clear hv
  have src0 := hsrc _ ((Below.refl _ _).alloc (Nat.le_refl _) (.cells #[] 5))
  clear hsrc
  go_enter Tryd.func8, Tryd.ntmps8
  go_wp2_with (first
    | (at_builtin; refine wpList_append_empty rfl (.tmp 4) (.tmp 5) rfl w.heap.size bs _ rfl rfl xo n cx rfl src0 hxn (by omega) (Nat.le_refl _) ?_; intro v1 w1 own1 hb1; have hs1 := hb1.size; clear src0)
    | (at_builtin; refine wpList_append_bytes rfl (.tmp 7) (.tmp 8) rfl w.heap.size v1 n bs rfl (own1.alloc _) _ 2 2 room rfl (src_room w1) (fun h => by cases h) (by omega) (by simp only [World.size_alloc]; omega) ?_; intro v2 w2 own2 grow2; have hb2 := Own.grown (hb1.alloc hs1 _) grow2 (own1.alloc _) (Nat.le_refl _) (by simp only [World.size_alloc]; omega); clear own1 hb1 hs1; (obtain ⟨g, cap, hv2, hg, hgl, hcap, hrow⟩ : ∃ g cap, v2 = .slice (some ⟨g, 0, none⟩) (n + 2) cap ∧ w.heap.size ≤ g ∧ g < w2.heap.size ∧ n + 2 ≤ cap ∧ RowAt .u8 w2 g 0 (n + 2) (cat n bs room) := own2.form.resolve_left (fun h => by omega)); subst hv2; have hni : (n : Int) ≤ cap := by omega))
  go_ret
  exact ⟨g, cap, rfl, hcap, hg, hrow, hb2⟩
set_option maxRecDepth 20000 in
set_option maxHeartbeats 1000000 in
theorem stays_any (g cap n : Nat) (v : Value) (bs : Nat → Nat) (hbs : ∀ j, bs j < 256) (w : World) (hn : n < 140737488355000) (hcap : n + 2 ≤ cap) (hrow : RowAt .u8 w g 0 (n + 2) (cat n bs room)) (hv : BytesIn w v n bs) :
    Calls Tryd.prog 12 #[.slice (some ⟨g, 0, none⟩) n cap, v] w fun e w' => e = .returned (.bool true) ∧ Below w.heap.size w w' := by
  have hc1 : ∀ W, Below w.heap.size w W → ∀ c, (convert 22 9 (.slice (some ⟨g, 0, none⟩) n c)).run Tryd.prog W = .ok (.string (strB n bs)) W := fun W hW c => conv_bytes W g 0 n c bs hbs (fun j hj => by
    have := (hrow j (by omega)).1
    rw [cat_left hj] at this
    exact (hW.cell (p := ⟨g, 0 + j, none⟩) (block_lt_of_cell this)).trans this)
  have hc2 := hv.conv hbs
  obtain ⟨xo, cx, rfl, -, -, -⟩ := hv.src
  have r1 : w.cell? ⟨g, n, none⟩ = some (.int .u8 201) := by
    have := (hrow n (by omega)).1
    rw [Nat.zero_add] at this
    rw [this]; unfold cat room; simp
  have r2 : w.cell? ⟨g, n + 1, none⟩ = some (.int .u8 202) := by
    have := (hrow (n + 1) (by omega)).1
    rw [Nat.zero_add, cat_right] at this
    exact this
  clear hrow hv
  have hn2 : (n : Int) + 2 ≤ cap := by omega
  have hn3 : (n : Int) ≤ cap := by omega
  have e1 : IntKind.i64.wrap ((n : Int) + 1) = (n : Int) + 1 := by simp only [IntKind.wrap_i64]; omega
  have e3 : ((n : Int) + 1).toNat = n + 1 := by omega
  have e4 : (0 : Int) ≤ (n : Int) ∧ (n : Int) < (n : Int) + 2 := by omega
  have e5 : (0 : Int) ≤ (n : Int) + 1 ∧ (n : Int) + 1 < (n : Int) + 2 := by omega
  have e6 : n < n + 2 := by omega
  have e7 : n + 1 < n + 2 := by omega
  go_enter Tryd.func12, Tryd.ntmps12
  go_wp2
  have hS : ∀ w' : World, Below w.heap.size w w' → ∀ b o, b < w.heap.size → w'.cell? ⟨b, o, none⟩ = w.cell? ⟨b, o, none⟩ := fun w' h b o hb => h.cell (p := ⟨b, o, none⟩) hb
  have hb0 : Below w.heap.size w w.drew := (Below.refl _ _).drew
  have hgl : g < w.heap.size := block_lt_of_cell r1
  go_region_held3 (fun w' => Below w.heap.size w w') (first | assumption) (fail)
  go_wp2
  go_ret
  exact ⟨rfl, hb0⟩
end Go.Proofs.YteekjcfbnoakgaaDoor
namespace Go.Proofs.YteekjcfbnoakgaaDoor
open Go.RowKit
theorem ans_str {W : World} {v : Value} {n : Nat} {X : Nat → Nat} (h : BytesIn W v n X) (hX : ∀ j, X j < 256) : ∃ xo c, v = .slice xo n c ∧ ∀ W', Below W.heap.size W W' → (convert 22 9 v).run Tryd.prog W' = .ok (.string (strB n X)) W' := by
  have hc := h.conv hX
  obtain ⟨xo, c, rfl, -⟩ := h.src
  exact ⟨xo, c, rfl, hc⟩
/-- Bytes of an answer: a slice, its string in every later world. -/
structure Str (W : World) (v : Value) (S : ByteArray) : Prop where
  form : ∃ xo n c, v = .slice xo n c
  conv : ∀ W', Below W.heap.size W W' → (convert 22 9 v).run Tryd.prog W' = .ok (.string S) W'
theorem Str.of {W : World} {v : Value} {n : Nat} {X : Nat → Nat} (h : BytesIn W v n X) (hX : ∀ j, X j < 256) : Str W v (strB n X) := by
  obtain ⟨xo, c, rfl, hc⟩ := ans_str h hX
  exact ⟨⟨xo, n, c, rfl⟩, hc⟩
theorem Str.still {W W2 : World} {v : Value} {S : ByteArray} (h : Str W v S) (hb : Below W.heap.size W W2) : Str W2 v S := ⟨h.form, fun W' h2 => h.conv W' (hb.trans (h2.mono hb.size))⟩
theorem Str.nil (W : World) : Str W (.slice none 0 0) (strB 0 (fun _ => 0)) := ⟨⟨none, 0, 0, rfl⟩, fun W' _ => conv_nil W'⟩
end Go.Proofs.YteekjcfbnoakgaaDoor
namespace Go.Proofs.YteekjcfbnoakgaaDoor
open Go.RowKit
/-- A number of the reference in a block. -/
structure Box (w : World) (g : Nat) (L : Nat → Int) : Prop where
  row : IRow w g 16 L
  lt : g < w.heap.size
theorem Box.still {w w' : World} {g : Nat} {L : Nat → Int} (h : Box w g L) (hb : Below w.heap.size w w') : Box w' g L := ⟨h.row.below hb h.lt, Nat.lt_of_lt_of_le h.lt hb.size⟩
theorem two_boxes (w : World) (A B : Nat → Int) (t : TypeId) : Box ((w.alloc (.cells (intsI 16 A).toArray t)).alloc (.cells (intsI 16 B).toArray t)) w.heap.size A ∧ Box ((w.alloc (.cells (intsI 16 A).toArray t)).alloc (.cells (intsI 16 B).toArray t)) (w.heap.size + 1) B := by
  have h1 : Box (w.alloc (.cells (intsI 16 A).toArray t)) w.heap.size A := ⟨IRow.box w 16 A t, by simp⟩
  have h2 : Box ((w.alloc (.cells (intsI 16 A).toArray t)).alloc (.cells (intsI 16 B).toArray t)) (w.alloc (.cells (intsI 16 A).toArray t)).heap.size B := ⟨IRow.box _ 16 B t, by simp⟩
  rw [World.size_alloc] at h2
  exact ⟨h1.still ((Below.refl _ _).alloc (Nat.le_refl _) _), h2⟩
theorem strN_eq {x y : Nat} (hx : x < pF) (hy : y < pF) : ((strB 32 (byt x)).toList == (strB 32 (byt y)).toList) = decide (x = y) := by
  by_cases h : x = y
  · subst h; rw [decide_eq_true rfl]; exact beq_self_eq_true _
  · rw [decide_eq_false h, ByteArray.toList_eq, ByteArray.toList_eq]
    refine beq_false_of_ne (fun e => h ?_)
    have := (strB_eq (byt_all x) (byt_all y)).1 (WideShapes.bytes_inj e)
    exact byt_inj (by unfold pF at hx; omega) (by unfold pF at hy; omega) this.2
theorem rep_bytes (A : Nat → Int) (a : Nat) (hA : Rep A a) (w : World) : Calls Tryd.prog 41 #[.agg (intsI 16 A).toArray] w fun e w' => ∃ v, e = .returned v ∧ Own w.heap.size w' v 32 (byt (a % pF)) ∧ Below w.heap.size w w' :=
  rbytes A (hA.dig.mono (by decide)) a hA.val w
set_option maxRecDepth 20000 in
set_option maxHeartbeats 4000000 in
theorem rsame_gen (A B : Nat → Int) (a b : Nat) (cA : ∀ W, Calls Tryd.prog 41 #[.agg (intsI 16 A).toArray] W fun e w' => ∃ v, e = .returned v ∧ Own W.heap.size w' v 32 (byt (a % pF)) ∧ Below W.heap.size W w') (cB : ∀ W, Calls Tryd.prog 41 #[.agg (intsI 16 B).toArray] W fun e w' => ∃ v, e = .returned v ∧ Own W.heap.size w' v 32 (byt (b % pF)) ∧ Below W.heap.size W w') (w : World) :
    Calls Tryd.prog 47 #[refV A, refV B] w fun e w' => e = .returned (.bool (decide (a % pF = b % pF))) ∧ Below w.heap.size w w' := by
  have hxl : a % pF < pF := Nat.mod_lt _ pF_pos
  have hyl : b % pF < pF := Nat.mod_lt _ pF_pos
  have hse := strN_eq hxl hyl
  obtain ⟨z, hz⟩ : ∃ z, z = decide (a % pF = b % pF) := ⟨_, rfl⟩
  rw [← hz] at hse ⊢
  obtain ⟨bxA, bxB⟩ := two_boxes w A B 36
  obtain ⟨W, hW⟩ : ∃ W, W = (w.alloc (.cells (intsI 16 A).toArray 36)).alloc (.cells (intsI 16 B).toArray 36) := ⟨_, rfl⟩
  have hw : Below w.heap.size w W := by rw [hW]; exact ((Below.refl _ _).alloc (Nat.le_refl _) _).alloc (by simp) _
  rw [← hW] at bxA bxB
  have HW := Hid.mk' hW
  generalize a % pF = x at *
  generalize b % pF = y at *
  unfold refV
  clear hW hz hxl hyl
  go_enter Tryd.func47, Tryd.ntmps47
  go_wp2
  rw [← HW.out]
  have hdrew : Below W.heap.size W W.drew := (Below.refl _ _).drew
  replace bxA := bxA.still hdrew
  replace bxB := bxB.still hdrew
  replace hw := below_next hw hdrew
  clear hdrew
  refine wp_region_noPanic ?_
  refine wp_region_held_drew (S := fun w' => Below W.drew.heap.size W.drew w') (by kernel_rfl) (Below.refl _ _) (fun hHeld => ?_)
  clear hHeld
  refine wpAnyH_take (i := 0) (oi := { dst := some 5, op := Op.load 36 (Operand.tmp 2), type := 36, pos := "ref.go:112", after := #[], guard := none }) (v := .agg (intsI 16 A).toArray) rfl (by kernel_rfl) (by kernel_rfl) (by kernel_rfl) (fun _ _ _ h => h) (yieldsIf_load_mid (by rfl) 36 _ rfl w.heap.size 0 rfl (intsI 16 A) _ (fun _ h => (bxA.still h).row.range) Tryd.underlying36 rfl (infoRL A)) (Below.refl _ _) ?_
  (try simp only [Act.put, List.setIfInBounds_toArray, List.set_cons_zero, List.set_cons_succ])
  refine wpAnyH_take (i := 3) (oi := { dst := some 8, op := Op.load 36 (Operand.tmp 3), type := 36, pos := "ref.go:112", after := #[], guard := none }) (v := .agg (intsI 16 B).toArray) rfl (by kernel_rfl) (by kernel_rfl) (by kernel_rfl) (fun _ _ _ h => h) (yieldsIf_load_mid (by rfl) 36 _ rfl (w.heap.size + 1) 0 rfl (intsI 16 B) _ (fun _ h => (bxB.still h).row.range) Tryd.underlying36 rfl (infoRL B)) (Below.refl _ _) ?_
  (try simp only [Act.put, List.setIfInBounds_toArray, List.set_cons_zero, List.set_cons_succ])
  refine wpAnyH_ready (rs := [1]) (by kernel_rfl) (by simp) ?_
  refine AllReadyH.cons (o := { dst := some 6, op := Op.call { callee := Callee.value (Operand.func 41), args := #[Operand.tmp 5], argTypes := #[36] }, type := 22, pos := "ref.go:112", after := #[{ on := 0, ground := Ground.data }], guard := none }) rfl (fun K hK => ?_) AllReadyH.nil
  go_simp
  (go_at_call 41; refine (cA _).mono ?_; clear cA; rintro e w1 ⟨v1, rfl, own1, hb1⟩; (have t1 := Str.of (BytesIn.of_own own1) (byt_all _)); (obtain ⟨x1, n1, k1, rfl⟩ := t1.form))
  (try go_simp)
  refine hK.out _ _ hb1 (fun h => ?_)
  clear h hK K
  refine wpAnyH_narrow (S' := fun w' => Below w1.heap.size w1 w') (fun _ h => below_next hb1 h) _ _ _ _ ?_
  clear bxA
  replace bxB := bxB.still hb1
  replace hw := below_next hw hb1
  clear hb1
  (try simp only [Act.put, List.setIfInBounds_toArray, List.set_cons_zero, List.set_cons_succ])
  refine wpAnyH_take (i := 2) (oi := { dst := some 7, op := Op.convert 22 9 (Operand.tmp 6), type := 9, pos := "ref.go:112", after := #[{ on := 1, ground := Ground.data }], guard := none }) (v := ?va2) rfl (by kernel_rfl) (by kernel_rfl) (by kernel_rfl) (fun _ _ _ h => h) (Or.inl ⟨by rfl, ?ha2⟩) (Below.refl _ _) ?ra2
  case ha2 =>
    intro w hSw
    have q := t1.conv w hSw
    go_simp
    try with_reducible rfl
  (try simp only [Act.put, List.setIfInBounds_toArray, List.set_cons_zero, List.set_cons_succ])
  refine wpAnyH_ready (rs := [4]) (by kernel_rfl) (by simp) ?_
  refine AllReadyH.cons (o := { dst := some 9, op := Op.call { callee := Callee.value (Operand.func 41), args := #[Operand.tmp 8], argTypes := #[36] }, type := 22, pos := "ref.go:112", after := #[{ on := 3, ground := Ground.data }, { on := 1, ground := Ground.chain }], guard := none }) rfl (fun K hK => ?_) AllReadyH.nil
  go_simp
  (go_at_call 41; refine (cB _).mono ?_; clear cB; rintro e w2 ⟨v2, rfl, own2, hb2⟩; (have t2 := Str.of (BytesIn.of_own own2) (byt_all _)); (obtain ⟨x2, n2, k2, rfl⟩ := t2.form))
  (try go_simp)
  refine hK.out _ _ hb2 (fun h => ?_)
  clear h hK K
  refine wpAnyH_narrow (S' := fun w' => Below w2.heap.size w2 w') (fun _ h => below_next hb2 h) _ _ _ _ ?_
  clear bxB
  replace t1 := t1.still hb2
  replace hw := below_next hw hb2
  clear hb2
  (try simp only [Act.put, List.setIfInBounds_toArray, List.set_cons_zero, List.set_cons_succ])
  refine wpAnyH_take (i := 5) (oi := { dst := some 10, op := Op.convert 22 9 (Operand.tmp 9), type := 9, pos := "ref.go:112", after := #[{ on := 4, ground := Ground.data }], guard := none }) (v := ?va5) rfl (by kernel_rfl) (by kernel_rfl) (by kernel_rfl) (fun _ _ _ h => h) (Or.inl ⟨by rfl, ?ha5⟩) (Below.refl _ _) ?ra5
  case ha5 =>
    intro w hSw
    have q := t2.conv w hSw
    go_simp
    try with_reducible rfl
  (try simp only [Act.put, List.setIfInBounds_toArray, List.set_cons_zero, List.set_cons_succ])
  refine wpAnyH_take (i := 6) (oi := { dst := some 11, op := Op.binOp BinOp.eql 9 (Operand.tmp 7) (Operand.tmp 10) 9, type := 4, pos := "ref.go:112", after := #[{ on := 2, ground := Ground.data }, { on := 5, ground := Ground.data }], guard := none }) (v := ?va6) rfl (by kernel_rfl) (by kernel_rfl) (by kernel_rfl) (fun _ _ _ h => h) (Or.inl ⟨by rfl, ?ha6⟩) (Below.refl _ _) ?ra6
  case ha6 =>
    intro w hSw
    go_simp
    try with_reducible rfl
  (try simp only [Act.put, List.setIfInBounds_toArray, List.set_cons_zero, List.set_cons_succ])
  refine wpAnyH_take (i := 7) (oi := { dst := some 4, op := Op.assign (Operand.tmp 11), type := 4, pos := "ref.go:112", after := #[{ on := 6, ground := Ground.data }, { on := 4, ground := Ground.chain }, { on := 0, ground := Ground.phase }, { on := 1, ground := Ground.phase }, { on := 2, ground := Ground.phase }, { on := 3, ground := Ground.phase }, { on := 4, ground := Ground.phase }, { on := 5, ground := Ground.phase }, { on := 6, ground := Ground.phase }], guard := none }) (v := ?va7) rfl (by kernel_rfl) (by kernel_rfl) (by kernel_rfl) (fun _ _ _ h => h) (Or.inl ⟨by rfl, ?ha7⟩) (Below.refl _ _) ?ra7
  case ha7 =>
    intro w hSw
    go_simp
    try with_reducible rfl
  (try simp only [Act.put, List.setIfInBounds_toArray, List.set_cons_zero, List.set_cons_succ])
  refine wpAnyH_done (by kernel_rfl) ?_ _
  refine NoPanic.normal ?_
  go_wp2
  go_ret
  exact ⟨rfl, hw⟩
theorem rsame_any (A B : Nat → Int) (a b : Nat) (hA : Rep A a) (hB : Rep B b) (w : World) :
    Calls Tryd.prog 47 #[refV A, refV B] w fun e w' => e = .returned (.bool (decide (a % pF = b % pF))) ∧ Below w.heap.size w w' :=
  rsame_gen A B a b (fun W => rep_bytes A a hA W) (fun W => rep_bytes B b hB W) w
end Go.Proofs.YteekjcfbnoakgaaDoor
namespace Go.Proofs.YteekjcfbnoakgaaDoor
open Go.RowKit
theorem Rep.to {L : Nat → Int} {x y : Nat} (h : Rep L x) (e : x % pF = y % pF) : Rep L y := ⟨h.dig, by rw [h.val, e]⟩
theorem smL_dig (x : Int) (h0 : 0 ≤ x) (h2 : x ≤ 9223372036854775807) : Dig 65535 (smL x) := by
  have e0 : ∀ j, 0 ≤ smL x j ∧ smL x j ≤ 65535 := fun j => by
    unfold smL
    split
    · omega
    · split
      · have : (65536 : Int) ^ 3 = 281474976710656 := by decide
        rw [this]; omega
      · decide
  exact ⟨by have := e0 0; omega, fun j _ _ => e0 j⟩
theorem rep_small (x : Nat) (h : x ≤ 9223372036854775807) : Rep (carryL (smL x)) x := by
  refine ⟨(carry_fine _ ((smL_dig x (by omega) (by omega)).mono (by decide))).1, ?_⟩
  rw [valR_carry, smL_val, show ∀ a b P : Int, a - b * 2 * P = a + P * (-(b * 2)) from fun a b P => by rw [Int.mul_neg, Int.mul_comm P]; omega, Int.add_mul_emod_self_left, nat_mod]
theorem rsmall_rep (x : Nat) (h : x ≤ 9223372036854775807) (w : World) : Calls Tryd.prog 42 #[.int .i64 x] w fun e w' => ∃ R, e = .returned (.agg (intsI 16 R).toArray) ∧ Rep R x ∧ Below w.heap.size w w' :=
  (rsmall_any x (by omega) (by omega) w).mono fun e w' ⟨he, hb⟩ => ⟨_, he, rep_small x h, hb⟩
set_option maxRecDepth 20000 in
set_option maxHeartbeats 2000000 in
theorem rminus1_any (w : World) : Calls Tryd.prog 86 #[] w fun e w' => ∃ R, e = .returned (.agg (intsI 16 R).toArray) ∧ Rep R iM ∧ Below w.heap.size w w' := by
  have hz := zeroR
  have c2 : ∀ W, Calls Tryd.prog 42 #[.int .i64 2] W fun e w' => ∃ R, e = .returned (.agg (intsI 16 R).toArray) ∧ Rep R 2 ∧ Below W.heap.size W w' := fun W => rsmall_rep 2 (by decide) W
  have cp : ∀ W A, Rep A 2 → Calls Tryd.prog 70 #[.agg (intsI 16 A).toArray, .int .i64 253, .int .i64 3, .int .i64 3] W fun e w' => ∃ R, e = .returned (.agg (intsI 16 R).toArray) ∧ Rep R iM ∧ Below W.heap.size W w' := fun W A hA =>
    (rpow4_any A 2 hA W).mono fun e w' ⟨R, he, hR, hb⟩ => ⟨R, he, hR.to (by rw [iM_pow]; rfl), hb⟩
  have hbW : Below w.heap.size w (w.alloc (.cells zI 36)) := (Below.refl _ _).alloc (Nat.le_refl _) _
  have hres : IRow (w.alloc (.cells zI 36)) w.heap.size 16 (fun _ => 0) := IRow.fresh w zI _ (fun j hj => zI_at j hj)
  have hsz : w.heap.size < (w.alloc (.cells zI 36)).heap.size := by simp
  have hi2 := infoRA
  have ho := oneR
  go_enter Tryd.func86, Tryd.ntmps86
  go_wp2_with (first
    | (go_at_call 42; refine (c2 _).mono ?_; clear c2; rintro e w1 ⟨R1, rfl, hR1, hb1⟩; (have hr1 := hres.below hb1 hsz); (have hs1 := Nat.lt_of_lt_of_le hsz hb1.size); (have hw1 := hbW.trans (hb1.mono hbW.size)); replace cp := cp w1 R1 hR1)
    | (go_at_call 70; refine cp.mono ?_; clear cp; rintro e w2 ⟨R, rfl, hR, hb2⟩; (have hr2 := hr1.below hb2 hs1); (have hth : w2.there w.heap.size 0 (intsI 16 R).toArray.size := by rw [intsI_size]; exact hr2.there); (have hw2 := below_next hw1 hb2))
    | (with_reducible (refine id (?_ : wpList _ _ _ _ _ _)); refine wpList_store_mid rfl 36 _ _ rfl w.heap.size 0 (intsI 16 R).toArray rfl rfl hth (hi2 R) (ho R) ?_))
  (try simp only [Exit.inBlock, Exit.then])
  refine bodyPost_ret (results_cell_mid Tryd.results86 _ _ w.heap.size 0 (intsI 16 R) _ rfl (World.rangeAt_setCells_same _ _ _ _ (by rw [intsI_len]; exact hr2.there)) Tryd.underlying36 rfl (infoRL R)) rfl ⟨R, rfl, hR, ?_⟩
  exact below_setCells (Nat.le_refl _) _ _ _ hw2
end Go.Proofs.YteekjcfbnoakgaaDoor
namespace Go.Proofs.YteekjcfbnoakgaaDoor
open Go.RowKit
theorem Box.out {w w' : World} {g b : Nat} {L : Nat → Int} (h : Box w b L) (ho : Out g 0 16 w w') (hne : b ≠ g) : Box w' b L :=
  ⟨fun j hj => ⟨(ho.cell' h.lt hne).trans (h.row j hj).1, (ho.frozen' h.lt hne).trans (h.row j hj).2⟩, Nat.lt_of_lt_of_le h.lt ho.size⟩
theorem rtimes_rep {A B : Nat → Int} {a b : Nat} (hA : Rep A a) (hB : Rep B b) (w : World) : Calls Tryd.prog 43 #[.agg (intsI 16 A).toArray, .agg (intsI 16 B).toArray] w fun e w' => ∃ R, e = .returned (.agg (intsI 16 R).toArray) ∧ Rep R (a * b) ∧ Below w.heap.size w w' :=
  (rtimes_any A B hA.bd hB.bd w).mono fun _ _ ⟨he, hb⟩ => ⟨_, he, rep_times hA hB, hb⟩
theorem rsame_rep {A B : Nat → Int} {a b : Nat} (hA : Rep A a) (hB : Rep B b) (z : Bool) (hz : decide (a % pF = b % pF) = z) (w : World) : Calls Tryd.prog 47 #[.agg (intsI 16 A).toArray, .agg (intsI 16 B).toArray] w fun e w' => e = .returned (.bool z) ∧ Below w.heap.size w w' := by
  have h := rsame_any A B a b hA hB w
  rw [hz] at h
  exact h
set_option maxRecDepth 20000 in
set_option maxHeartbeats 4000000 in
theorem rfit_yes (A B : Nat → Int) (a b : Nat) (hA : Rep A a) (hB : Rep B b) (h : a * a % pF = b % pF) (w : World) :
    Calls Tryd.prog 71 #[.agg (intsI 16 A).toArray, .agg (intsI 16 B).toArray] w fun e w' => e = .returned (.agg (intsI 16 A).toArray) ∧ Below w.heap.size w w' := by
  have cT := fun W => rtimes_rep hA hA W
  have cS := fun (R : Nat → Int) (hR : Rep R (a * a)) (W : World) => rsame_rep hR hB true (decide_eq_true h) W
  have hz := zeroR
  obtain ⟨bxA, bxB⟩ := two_boxes w A B 36
  obtain ⟨W, hW⟩ : ∃ W, W = ((w.alloc (.cells (intsI 16 A).toArray 36)).alloc (.cells (intsI 16 B).toArray 36)).alloc (.cells zI 36) := ⟨_, rfl⟩
  have hw : Below w.heap.size w W := by rw [hW]; exact (((Below.refl _ _).alloc (Nat.le_refl _) _).alloc (by simp) _).alloc (by simp; omega) _
  have bxR : Box W (w.heap.size + 1 + 1) (fun _ => 0) := by
    have h : Box W ((w.alloc (.cells (intsI 16 A).toArray 36)).alloc (.cells (intsI 16 B).toArray 36)).heap.size (fun _ => 0) := by rw [hW]; exact ⟨IRow.fresh _ zI _ (fun j hj => zI_at j hj), by simp⟩
    rw [World.size_alloc, World.size_alloc] at h
    exact h
  have hstep : Below ((w.alloc (.cells (intsI 16 A).toArray 36)).alloc (.cells (intsI 16 B).toArray 36)).heap.size ((w.alloc (.cells (intsI 16 A).toArray 36)).alloc (.cells (intsI 16 B).toArray 36)) W := by rw [hW]; exact (Below.refl _ _).alloc (Nat.le_refl _) _
  replace bxA := bxA.still hstep
  replace bxB := bxB.still hstep
  have HW := Hid.mk' hW
  clear hW hstep
  clear hA hB h
  go_enter Tryd.func71, Tryd.ntmps71
  go_wp2
  rw [← HW.out]
  have hdrew : Below W.heap.size W W.drew := (Below.refl _ _).drew
  replace bxA := bxA.still hdrew
  replace bxB := bxB.still hdrew
  replace bxR := bxR.still hdrew
  replace hw := below_next hw hdrew
  clear hdrew
  refine wp_region_noPanic ?_
  refine wp_region_held_drew (S := fun w' => Below W.drew.heap.size W.drew w') (by kernel_rfl) (Below.refl _ _) (fun hHeld => ?_)
  clear hHeld
  refine wpAnyH_take (i := 0) (oi := { dst := some 5, op := Op.load 36 (Operand.tmp 2), type := 36, pos := "ref.go:191", after := #[], guard := none }) (v := .agg (intsI 16 A).toArray) rfl (by kernel_rfl) (by kernel_rfl) (by kernel_rfl) (fun _ _ _ h => h) (yieldsIf_load_mid (by rfl) 36 _ rfl w.heap.size 0 rfl (intsI 16 A) _ (fun _ h => (bxA.still h).row.range) Tryd.underlying36 rfl (infoRL A)) (Below.refl _ _) ?_
  (try simp only [Act.put, List.setIfInBounds_toArray, List.set_cons_zero, List.set_cons_succ])
  refine wpAnyH_take (i := 1) (oi := { dst := some 6, op := Op.load 36 (Operand.tmp 2), type := 36, pos := "ref.go:191", after := #[], guard := none }) (v := .agg (intsI 16 A).toArray) rfl (by kernel_rfl) (by kernel_rfl) (by kernel_rfl) (fun _ _ _ h => h) (yieldsIf_load_mid (by rfl) 36 _ rfl w.heap.size 0 rfl (intsI 16 A) _ (fun _ h => (bxA.still h).row.range) Tryd.underlying36 rfl (infoRL A)) (Below.refl _ _) ?_
  (try simp only [Act.put, List.setIfInBounds_toArray, List.set_cons_zero, List.set_cons_succ])
  refine wpAnyH_take (i := 3) (oi := { dst := some 8, op := Op.load 36 (Operand.tmp 3), type := 36, pos := "ref.go:191", after := #[], guard := none }) (v := .agg (intsI 16 B).toArray) rfl (by kernel_rfl) (by kernel_rfl) (by kernel_rfl) (fun _ _ _ h => h) (yieldsIf_load_mid (by rfl) 36 _ rfl (w.heap.size + 1) 0 rfl (intsI 16 B) _ (fun _ h => (bxB.still h).row.range) Tryd.underlying36 rfl (infoRL B)) (Below.refl _ _) ?_
  (try simp only [Act.put, List.setIfInBounds_toArray, List.set_cons_zero, List.set_cons_succ])
  refine wpAnyH_ready (rs := [2]) (by kernel_rfl) (by simp) ?_
  refine AllReadyH.cons (o := { dst := some 7, op := Op.call { callee := Callee.value (Operand.func 43), args := #[Operand.tmp 5, Operand.tmp 6], argTypes := #[36, 36] }, type := 36, pos := "ref.go:191", after := #[{ on := 0, ground := Ground.data }, { on := 1, ground := Ground.data }], guard := none }) rfl (fun K hK => ?_) AllReadyH.nil
  go_simp
  (go_at_call 43; refine (cT _).mono ?_; clear cT; rintro e w1 ⟨R1, rfl, hR1, hb1⟩; replace cS := cS R1 hR1)
  (try go_simp)
  refine hK.out _ _ hb1 (fun h => ?_)
  clear h hK K
  refine wpAnyH_narrow (S' := fun w' => Below w1.heap.size w1 w') (fun _ h => below_next hb1 h) _ _ _ _ ?_
  replace bxA := bxA.still hb1
  replace bxB := bxB.still hb1
  replace bxR := bxR.still hb1
  replace hw := below_next hw hb1
  clear hb1
  (try simp only [Act.put, List.setIfInBounds_toArray, List.set_cons_zero, List.set_cons_succ])
  refine wpAnyH_ready (rs := [4]) (by kernel_rfl) (by simp) ?_
  refine AllReadyH.cons (o := { dst := some 9, op := Op.call { callee := Callee.value (Operand.func 47), args := #[Operand.tmp 7, Operand.tmp 8], argTypes := #[36, 36] }, type := 4, pos := "ref.go:191", after := #[{ on := 2, ground := Ground.data }, { on := 3, ground := Ground.data }, { on := 2, ground := Ground.chain }], guard := none }) rfl (fun K hK => ?_) AllReadyH.nil
  go_simp
  (go_at_call 47; refine (cS _).mono ?_; clear cS; rintro e w2 ⟨rfl, hb2⟩)
  (try go_simp)
  refine hK.out _ _ hb2 (fun h => ?_)
  clear h hK K
  refine wpAnyH_narrow (S' := fun w' => Below w2.heap.size w2 w') (fun _ h => below_next hb2 h) _ _ _ _ ?_
  replace bxA := bxA.still hb2
  replace bxB := bxB.still hb2
  replace bxR := bxR.still hb2
  replace hw := below_next hw hb2
  clear hb2
  (try simp only [Act.put, List.setIfInBounds_toArray, List.set_cons_zero, List.set_cons_succ])
  refine wpAnyH_done (by kernel_rfl) ?_ _
  refine NoPanic.normal ?_
  have hr := bxA.row.range
  have hiA := infoRL A
  have hth : w2.there (w.heap.size + 1 + 1) 0 (intsI 16 A).toArray.size := by rw [intsI_size]; exact bxR.row.there
  have hi2 := infoRA A
  have ho := oneR A
  go_wp2_with (first
    | (refine wpList_load_mid rfl 36 _ rfl w.heap.size 0 rfl (intsI 16 A) _ hr Tryd.underlying36 rfl hiA ?_)
    | (with_reducible (refine id (?_ : wpList _ _ _ _ _ _)); refine wpList_store_mid rfl 36 _ _ rfl (w.heap.size + 1 + 1) 0 (intsI 16 A).toArray rfl rfl hth hi2 ho ?_))
  (try simp only [Exit.inBlock, Exit.then])
  refine bodyPost_ret (results_cell_mid Tryd.results71 _ _ (w.heap.size + 1 + 1) 0 (intsI 16 A) _ rfl (World.rangeAt_setCells_same _ _ _ _ (by rw [intsI_len]; exact bxR.row.there)) Tryd.underlying36 rfl hiA) rfl ⟨rfl, ?_⟩
  exact below_setCells (by omega) _ _ _ hw
set_option maxRecDepth 20000 in
set_option maxHeartbeats 4000000 in
theorem rfit_no (A B : Nat → Int) (a b : Nat) (hA : Rep A a) (hB : Rep B b) (h : ¬a * a % pF = b % pF) (w : World) :
    Calls Tryd.prog 71 #[.agg (intsI 16 A).toArray, .agg (intsI 16 B).toArray] w fun e w' => ∃ R, e = .returned (.agg (intsI 16 R).toArray) ∧ Rep R (a * iM) ∧ Below w.heap.size w w' := by
  have cT := fun W => rtimes_rep hA hA W
  have cS := fun (R : Nat → Int) (hR : Rep R (a * a)) (W : World) => rsame_rep hR hB false (decide_eq_false h) W
  have cM := fun W => rminus1_any W
  have cI := fun (R : Nat → Int) (hR : Rep R iM) (W : World) => rtimes_rep hA hR W
  have hz := zeroR
  obtain ⟨bxA, bxB⟩ := two_boxes w A B 36
  obtain ⟨W, hW⟩ : ∃ W, W = ((w.alloc (.cells (intsI 16 A).toArray 36)).alloc (.cells (intsI 16 B).toArray 36)).alloc (.cells zI 36) := ⟨_, rfl⟩
  have hw : Below w.heap.size w W := by rw [hW]; exact (((Below.refl _ _).alloc (Nat.le_refl _) _).alloc (by simp) _).alloc (by simp; omega) _
  have bxR : Box W (w.heap.size + 1 + 1) (fun _ => 0) := by
    have h : Box W ((w.alloc (.cells (intsI 16 A).toArray 36)).alloc (.cells (intsI 16 B).toArray 36)).heap.size (fun _ => 0) := by rw [hW]; exact ⟨IRow.fresh _ zI _ (fun j hj => zI_at j hj), by simp⟩
    rw [World.size_alloc, World.size_alloc] at h
    exact h
  have hstep : Below ((w.alloc (.cells (intsI 16 A).toArray 36)).alloc (.cells (intsI 16 B).toArray 36)).heap.size ((w.alloc (.cells (intsI 16 A).toArray 36)).alloc (.cells (intsI 16 B).toArray 36)) W := by rw [hW]; exact (Below.refl _ _).alloc (Nat.le_refl _) _
  replace bxA := bxA.still hstep
  replace bxB := bxB.still hstep
  have HW := Hid.mk' hW
  clear hW hstep
  clear hA hB h
  go_enter Tryd.func71, Tryd.ntmps71
  go_wp2
  rw [← HW.out]
  have hdrew : Below W.heap.size W W.drew := (Below.refl _ _).drew
  replace bxA := bxA.still hdrew
  replace bxB := bxB.still hdrew
  replace bxR := bxR.still hdrew
  replace hw := below_next hw hdrew
  clear hdrew
  refine wp_region_noPanic ?_
  refine wp_region_held_drew (S := fun w' => Below W.drew.heap.size W.drew w') (by kernel_rfl) (Below.refl _ _) (fun hHeld => ?_)
  clear hHeld
  refine wpAnyH_take (i := 0) (oi := { dst := some 5, op := Op.load 36 (Operand.tmp 2), type := 36, pos := "ref.go:191", after := #[], guard := none }) (v := .agg (intsI 16 A).toArray) rfl (by kernel_rfl) (by kernel_rfl) (by kernel_rfl) (fun _ _ _ h => h) (yieldsIf_load_mid (by rfl) 36 _ rfl w.heap.size 0 rfl (intsI 16 A) _ (fun _ h => (bxA.still h).row.range) Tryd.underlying36 rfl (infoRL A)) (Below.refl _ _) ?_
  (try simp only [Act.put, List.setIfInBounds_toArray, List.set_cons_zero, List.set_cons_succ])
  refine wpAnyH_take (i := 1) (oi := { dst := some 6, op := Op.load 36 (Operand.tmp 2), type := 36, pos := "ref.go:191", after := #[], guard := none }) (v := .agg (intsI 16 A).toArray) rfl (by kernel_rfl) (by kernel_rfl) (by kernel_rfl) (fun _ _ _ h => h) (yieldsIf_load_mid (by rfl) 36 _ rfl w.heap.size 0 rfl (intsI 16 A) _ (fun _ h => (bxA.still h).row.range) Tryd.underlying36 rfl (infoRL A)) (Below.refl _ _) ?_
  (try simp only [Act.put, List.setIfInBounds_toArray, List.set_cons_zero, List.set_cons_succ])
  refine wpAnyH_take (i := 3) (oi := { dst := some 8, op := Op.load 36 (Operand.tmp 3), type := 36, pos := "ref.go:191", after := #[], guard := none }) (v := .agg (intsI 16 B).toArray) rfl (by kernel_rfl) (by kernel_rfl) (by kernel_rfl) (fun _ _ _ h => h) (yieldsIf_load_mid (by rfl) 36 _ rfl (w.heap.size + 1) 0 rfl (intsI 16 B) _ (fun _ h => (bxB.still h).row.range) Tryd.underlying36 rfl (infoRL B)) (Below.refl _ _) ?_
  (try simp only [Act.put, List.setIfInBounds_toArray, List.set_cons_zero, List.set_cons_succ])
  refine wpAnyH_ready (rs := [2]) (by kernel_rfl) (by simp) ?_
  refine AllReadyH.cons (o := { dst := some 7, op := Op.call { callee := Callee.value (Operand.func 43), args := #[Operand.tmp 5, Operand.tmp 6], argTypes := #[36, 36] }, type := 36, pos := "ref.go:191", after := #[{ on := 0, ground := Ground.data }, { on := 1, ground := Ground.data }], guard := none }) rfl (fun K hK => ?_) AllReadyH.nil
  go_simp
  (go_at_call 43; refine (cT _).mono ?_; clear cT; rintro e w1 ⟨R1, rfl, hR1, hb1⟩; replace cS := cS R1 hR1)
  (try go_simp)
  refine hK.out _ _ hb1 (fun h => ?_)
  clear h hK K
  refine wpAnyH_narrow (S' := fun w' => Below w1.heap.size w1 w') (fun _ h => below_next hb1 h) _ _ _ _ ?_
  replace bxA := bxA.still hb1
  replace bxB := bxB.still hb1
  replace bxR := bxR.still hb1
  replace hw := below_next hw hb1
  clear hb1
  (try simp only [Act.put, List.setIfInBounds_toArray, List.set_cons_zero, List.set_cons_succ])
  refine wpAnyH_ready (rs := [4]) (by kernel_rfl) (by simp) ?_
  refine AllReadyH.cons (o := { dst := some 9, op := Op.call { callee := Callee.value (Operand.func 47), args := #[Operand.tmp 7, Operand.tmp 8], argTypes := #[36, 36] }, type := 4, pos := "ref.go:191", after := #[{ on := 2, ground := Ground.data }, { on := 3, ground := Ground.data }, { on := 2, ground := Ground.chain }], guard := none }) rfl (fun K hK => ?_) AllReadyH.nil
  go_simp
  (go_at_call 47; refine (cS _).mono ?_; clear cS; rintro e w2 ⟨rfl, hb2⟩)
  (try go_simp)
  refine hK.out _ _ hb2 (fun h => ?_)
  clear h hK K
  refine wpAnyH_narrow (S' := fun w' => Below w2.heap.size w2 w') (fun _ h => below_next hb2 h) _ _ _ _ ?_
  replace bxA := bxA.still hb2
  replace bxB := bxB.still hb2
  replace bxR := bxR.still hb2
  replace hw := below_next hw hb2
  clear hb2
  (try simp only [Act.put, List.setIfInBounds_toArray, List.set_cons_zero, List.set_cons_succ])
  refine wpAnyH_done (by kernel_rfl) ?_ _
  refine NoPanic.normal ?_
  have hg := bxR.lt
  clear bxB
  go_wp2
  have hdrew : Below w2.heap.size w2 w2.drew := (Below.refl _ _).drew
  replace bxA := bxA.still hdrew
  replace bxR := bxR.still hdrew
  replace hw := below_next hw hdrew
  replace hg := Nat.lt_of_lt_of_le hg hdrew.size
  clear hdrew
  refine wp_region_noPanic ?_
  refine wp_region_held_drew (S := fun w' => Out (w.heap.size + 1 + 1) 0 16 w2.drew w') (by kernel_rfl) (Out.refl _ _ _ _) (fun hHeld => ?_)
  clear hHeld
  refine wpAnyH_take (i := 0) (oi := { dst := some 11, op := Op.load 36 (Operand.tmp 2), type := 36, pos := "ref.go:194", after := #[], guard := none }) (v := .agg (intsI 16 A).toArray) rfl (by kernel_rfl) (by kernel_rfl) (by kernel_rfl) (fun _ _ _ h => h) (yieldsIf_load_mid (by rfl) 36 _ rfl w.heap.size 0 rfl (intsI 16 A) _ (fun _ h => (bxA.out h (by omega)).row.range) Tryd.underlying36 rfl (infoRL A)) (Out.refl _ _ _ _) ?_
  (try simp only [Act.put, List.setIfInBounds_toArray, List.set_cons_zero, List.set_cons_succ])
  refine wpAnyH_ready (rs := [1]) (by kernel_rfl) (by simp) ?_
  refine AllReadyH.cons (o := { dst := some 12, op := Op.call { callee := Callee.value (Operand.func 86), args := #[], argTypes := #[] }, type := 36, pos := "ref.go:194", after := #[], guard := none }) rfl (fun K hK => ?_) AllReadyH.nil
  go_simp
  (go_at_call 86; refine (cM _).mono ?_; clear cM; rintro e w3 ⟨R3, rfl, hR3, hb3⟩; replace cI := cI R3 hR3)
  (try go_simp)
  refine hK.out _ _ (Out.of_below hb3 hg) (fun h => ?_)
  clear h hK K
  refine wpAnyH_narrow (S' := fun w' => Out (w.heap.size + 1 + 1) 0 16 w3 w') (fun _ h => (Out.of_below hb3 hg).trans h) _ _ _ _ ?_
  replace bxA := bxA.still hb3
  replace bxR := bxR.still hb3
  replace hw := below_next hw hb3
  replace hg := Nat.lt_of_lt_of_le hg hb3.size
  clear hb3
  (try simp only [Act.put, List.setIfInBounds_toArray, List.set_cons_zero, List.set_cons_succ])
  refine wpAnyH_ready (rs := [2]) (by kernel_rfl) (by simp) ?_
  refine AllReadyH.cons (o := { dst := some 13, op := Op.call { callee := Callee.value (Operand.func 43), args := #[Operand.tmp 11, Operand.tmp 12], argTypes := #[36, 36] }, type := 36, pos := "ref.go:194", after := #[{ on := 0, ground := Ground.data }, { on := 1, ground := Ground.data }, { on := 1, ground := Ground.chain }], guard := none }) rfl (fun K hK => ?_) AllReadyH.nil
  go_simp
  (go_at_call 43; refine (cI _).mono ?_; clear cI; rintro e w4 ⟨R4, rfl, hR4, hb4⟩; (have hth : w4.there (w.heap.size + 1 + 1) 0 (intsI 16 R4).toArray.size := by rw [intsI_size]; exact (bxR.still hb4).row.there))
  (try go_simp)
  refine hK.out _ _ (Out.of_below hb4 hg) (fun h => ?_)
  clear h hK K
  refine wpAnyH_narrow (S' := fun w' => Out (w.heap.size + 1 + 1) 0 16 w4 w') (fun _ h => (Out.of_below hb4 hg).trans h) _ _ _ _ ?_
  replace bxA := bxA.still hb4
  replace bxR := bxR.still hb4
  replace hw := below_next hw hb4
  replace hg := Nat.lt_of_lt_of_le hg hb4.size
  clear hb4
  (try simp only [Act.put, List.setIfInBounds_toArray, List.set_cons_zero, List.set_cons_succ])
  refine wpAnyH_ready (rs := [3]) (by kernel_rfl) (by simp) ?_
  refine AllReadyH.cons (o := { dst := none, op := Op.store 36 (Operand.tmp 4) (Operand.tmp 13), type := 0, pos := "ref.go:194", after := #[{ on := 2, ground := Ground.data }, { on := 2, ground := Ground.chain }, { on := 0, ground := Ground.phase }, { on := 1, ground := Ground.phase }, { on := 2, ground := Ground.phase }], guard := none }) rfl (fun K hK => ?_) AllReadyH.nil
  rw [if_pos (by rfl)]
  refine wp_store_mid 36 _ _ rfl (w.heap.size + 1 + 1) 0 (intsI 16 R4).toArray rfl rfl hth (infoRA R4) (oneR R4) ?_
  refine hK.out _ _ (Out.setCells _ _ (Nat.le_refl _) (by simp [intsI_len])) (fun h => ?_)
  clear h hK K
  refine wpAnyH_done (by kernel_rfl) ?_ _
  refine NoPanic.normal ?_
  go_wp2
  (try simp only [Exit.inBlock, Exit.then])
  refine bodyPost_ret (results_cell_mid Tryd.results71 _ _ (w.heap.size + 1 + 1) 0 (intsI 16 R4) _ rfl (World.rangeAt_setCells_same _ _ _ _ (by rw [intsI_len]; exact bxR.row.there)) Tryd.underlying36 rfl (infoRL R4)) rfl ⟨R4, rfl, hR4, ?_⟩
  exact below_setCells (by omega) _ _ _ hw
end Go.Proofs.YteekjcfbnoakgaaDoor
