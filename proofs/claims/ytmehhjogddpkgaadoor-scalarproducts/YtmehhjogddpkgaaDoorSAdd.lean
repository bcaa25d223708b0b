/- Package scalar: what addProduct does in the model. -/
import Derived.Test.YtmehhjogddpkgaaDoorSRest
namespace Go.Proofs.YtmehhjogddpkgaaDoor
open Go.RowKit
set_option maxRecDepth 20000 in
set_option maxHeartbeats 4000000 in
theorem addp_any (g ga gb : Nat) (X A B : Nat → Nat) (hga : g ≠ ga) (hgb : g ≠ gb) (hX : ∀ j, X j < 18446744073709551616) (hA : ∀ j, A j < 18446744073709551616) (hB : ∀ j, B j < 18446744073709551616) (hz : ∀ j, 4 ≤ j → j < 9 → X j = 0) (w : World) (hrow0 : RowAt .u64 w g 0 9 X) (hra0 : RowAt .u64 w ga 0 9 A) (hrb0 : RowAt .u64 w gb 0 9 B) :
    Calls Tryd.prog 28 #[.pointer (some ⟨g, 0, none⟩), .pointer (some ⟨ga, 0, none⟩), .pointer (some ⟨gb, 0, none⟩)] w fun e w' => e = .returned (.tuple #[]) ∧ ∃ Y, RowAt .u64 w' g 0 9 Y ∧ (∀ j, Y j < 18446744073709551616) ∧ Y 8 = 0 ∧ pt Y 0 9 = pt X 0 9 + pt A 0 4 * pt B 0 4 ∧ Out g 0 9 w w' := by
  have hra : ∀ W, Out g 0 9 w W → RowAt .u64 W ga 0 9 A := fun W h => h.row hra0 (Ne.symm hga)
  have hrb : ∀ W, Out g 0 9 w W → RowAt .u64 W gb 0 9 B := fun W h => h.row hrb0 (Ne.symm hgb)
  clear hra0 hrb0
  go_enter Tryd.func28, Tryd.ntmps28
  go_wp2
  go_loopw [18] (fun i wr => ∃ (k : Nat) (Z : Nat → Nat), k ≤ 4 ∧ i = .int .i64 k ∧ RowAt .u64 wr g 0 9 Z ∧ (∀ j, Z j < 18446744073709551616) ∧ (∀ j, k + 4 ≤ j → j < 9 → Z j = 0) ∧ pt Z 0 9 = pt X 0 9 + pt A 0 k * pt B 0 4 ∧ Out g 0 9 w wr) (fun i _ => 4 - (intOf i).toNat)
  case atStart => exact ⟨0, X, by decide, rfl, hrow0, hX, fun j h1 h2 => hz j (by omega) h2, by rw [pt, Nat.zero_mul, Nat.add_zero], Out.refl _ _ _ _⟩
  case round =>
    clear hrow0 hX hz
    obtain ⟨k, Z, hk, rfl, hrow, hZ, hz, hval, hout⟩ := hrel
    by_cases hlt : k < 4
    · obtain ⟨ra, -⟩ := hra wr hout k (by omega)
      rw [Nat.zero_add] at ra
      have hz' := Hid.mk' hz
      have hval' := Hid.mk' hval
      have hki : (k : Int) < 4 := by omega
      clear hz hval
      go_wp2
      go_loopw [27, 8] (fun i c wt => ∃ (m C : Nat) (Y : Nat → Nat), m ≤ 4 ∧ i = .int .i64 m ∧ c = .int .u64 C ∧ C < 18446744073709551616 ∧ RowAt .u64 wt g 0 9 Y ∧ (∀ j, Y j < 18446744073709551616) ∧ (∀ j, k + 4 ≤ j → j < 9 → Y j = 0) ∧ pt Y 0 9 + C * 18446744073709551616 ^ (k + m) = pt Z 0 9 + A k * pt B 0 m * 18446744073709551616 ^ k ∧ Out g 0 9 w wt) (fun i _ _ => 4 - (intOf i).toNat)
      case atStart => exact ⟨0, 0, Z, by decide, rfl, rfl, by decide, hrow, hZ, hz'.out, by rw [pt, Nat.mul_zero, Nat.zero_mul, Nat.zero_mul], hout⟩
      case round =>
        clear hrow hout ra
        obtain ⟨m, C, Y, hm, rfl, rfl, hC, hrow, hY, hzY, hinv, hout⟩ := hrel
        by_cases hmt : m < 4
        · obtain ⟨rb, -⟩ := hrb wr hout m (by omega)
          obtain ⟨rg, fg⟩ := hrow (k + m) (by omega)
          rw [Nat.zero_add] at rb rg fg
          obtain ⟨h0, l0, hh0, hl0, e0, r0⟩ := mul64_ex (A k) (B m) (hA k) (hB m)
          obtain ⟨l1, k1, hl1, hk1, e1, r1⟩ := add64_ex0 l0 (Y (k + m)) hl0 (hY _)
          obtain ⟨l2, k2, hl2, hk2, e2, r2⟩ := add64_ex0 l1 C hl1 hC
          have hpu := pt_upd Y (k + m) l2 0 9 (by omega)
          rw [Nat.zero_add] at hpu
          have hstep := Hid.mk' (add_step (Nat.pow_add 18446744073709551616 k m) hinv e0 e1 e2 hpu)
          have hxy : A k * B m ≤ 18446744073709551615 * 18446744073709551615 := Nat.mul_le_mul (by have := hA k; omega) (by have := hB m; omega)
          have hYk := hY (k + m)
          have b1 : h0 + k1 < 18446744073709551616 := by omega
          have b2 : h0 + k1 + k2 < 18446744073709551616 := by
            generalize A k * B m = T at *
            omega
          have hzY' := Hid.mk' hzY
          have qw : IntKind.i64.wrap ((k : Int) + m) = (k : Int) + m := by simp only [IntKind.wrap_i64]; omega
          have q1 : ((k : Int) + m).toNat = k + m := by omega
          have q2 : (0 : Int) ≤ (k : Int) + m ∧ (k : Int) + m < 9 := by omega
          have hmi : (m : Int) < 4 := by omega
          have r0' := r0 wr
          clear hra hrb hinv e0 e1 e2 hpu hxy hzY r0
          go_wp2_with (first
            | (go_at_call 34; refine r0'.mono ?_; clear r0'; rintro e w' ⟨rfl, hw⟩; subst hw)
            | rw [r1])
          go_region_with (rw [r2])
          go_wp2
          have h1 := (hrow.set (i := k + m) (by omega) (v := (l2 : Int)) (u := l2) rfl).drew
          rw [Nat.zero_add] at h1
          refine ⟨⟨m + 1, h0 + k1 + k2, upd Y (k + m) l2, by omega, by go_num, by go_num, b2, h1, fun j => ?_, fun j h1 h2 => ?_, ?_, hout.trans ((Out.setCell w' _ (by omega) (by omega)).trans (Out.drew _))⟩, by simp [intOf]; omega⟩
          · unfold upd; split
            · exact hl2
            · exact hY j
          · unfold upd; rw [if_neg (by omega)]; exact hzY'.out j h1 h2
          · rw [← Nat.add_assoc, Nat.pow_succ, pt_succ0 B m]
            exact hstep.out
        · have hme : m = 4 := by omega
          subst hme
          obtain ⟨rg, fg⟩ := hrow (k + 4) (by omega)
          rw [Nat.zero_add] at rg fg
          have hzk := hzY (k + 4) (by omega) (by omega)
          have hpu := pt_upd Y (k + 4) C 0 9 (by omega)
          rw [Nat.zero_add, hzk, Nat.zero_mul, Nat.add_zero, hinv, hval'.out] at hpu
          have hpu' : pt (upd Y (k + 4) C) 0 9 = pt X 0 9 + pt A 0 (k + 1) * pt B 0 4 := by
            rw [hpu, pt_succ0 A k, Nat.add_mul, Nat.mul_right_comm, Nat.add_assoc]
          have HP := Hid.mk' hpu'
          have hzY' := Hid.mk' hzY
          have qw : IntKind.i64.wrap ((k : Int) + 4) = (k : Int) + 4 := by simp only [IntKind.wrap_i64]; omega
          have q1 : ((k : Int) + 4).toNat = k + 4 := by omega
          have q2 : (0 : Int) ≤ (k : Int) + 4 ∧ (k : Int) + 4 < 9 := by omega
          clear hpu hpu' hinv hzY hra hrb hzk
          go_wp2
          go_roundw
          case rel =>
            have h1 := hrow.set (i := k + 4) (by omega) (v := (C : Int)) (u := C) rfl
            rw [Nat.zero_add] at h1
            refine ⟨k + 1, upd Y (k + 4) C, by omega, by go_num, h1, fun j => ?_, fun j h1 h2 => ?_, HP.out, hout.trans (Out.setCell wr _ (by omega) (by omega))⟩
            · unfold upd; split
              · exact hC
              · exact hY j
            · unfold upd; rw [if_neg (by omega)]; exact hzY'.out j (by omega) h2
          case measure => simp [intOf]; omega
    · have hke : k = 4 := by omega
      subst hke
      have hz' := Hid.mk' hz
      have hval' := Hid.mk' hval
      clear hz hval hra hrb
      go_wp2
      go_end0
      exact ⟨rfl, Z, hrow, hZ, hz'.out 8 (by decide) (by decide), hval'.out, hout⟩
end Go.Proofs.YtmehhjogddpkgaaDoor
