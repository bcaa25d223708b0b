/- What Shared and ones do in the model. -/
import Derived.Test.YtjbjbnooocbleaaLPub
namespace Go.Proofs.Ytjbjbnooocbleaa
open Go.RowKit
theorem shared_arg (v u : Value) (w : World) (hM : Calls Try.prog 14 #[v, u] w fun e w' => e = .returned (.tuple #[.slice none 0 0, .int .i64 1]) ∧ Below w.heap.size w w') : Calls Try.prog 18 #[v, u] w fun e w' => e = .returned (.tuple #[.slice none 0 0, .int .i64 1]) ∧ Below w.heap.size w w' := by
  go_enter Try.func18, Try.ntmps18
  go_wp2_with (go_at_call 14; refine hM.mono ?_; clear hM; rintro e w1 ⟨rfl, hb1⟩)
  exact bodyPost_ret (results_tmp2 rfl _ _ _) rfl ⟨rfl, hb1⟩
theorem shared_none (v u : Value) (N : Nat) (hN : N = 0) (w : World) (hM : Calls Try.prog 14 #[v, u] w fun e w' => ∃ s, e = .returned (.tuple #[s, .int .i64 0]) ∧ NewB w w' s 32 (byt N) ∧ Below w.heap.size w w') : Calls Try.prog 18 #[v, u] w fun e w' => e = .returned (.tuple #[.slice none 0 0, .int .i64 30]) ∧ Below w.heap.size w w' := by
  have hA := fun g W => allZero_yes g W (byt N) (fun j _ => by rw [hN]; unfold byt; rw [Nat.zero_div])
  go_enter Try.func18, Try.ntmps18
  go_wp2_with (first
    | (go_at_call 14; refine hM.mono ?_; clear hM; rintro e w1 ⟨s, rfl, ⟨g, rfl, hg, hr⟩, hb1⟩)
    | (go_at_call 34; refine (hA g _ hr).mono ?_; clear hA; rintro e w2 ⟨rfl, rfl⟩))
  exact bodyPost_ret (results_tmp2 rfl _ _ _) rfl ⟨rfl, hb1⟩
theorem byt_some {N : Nat} (h : N < 115792089237316195423570985008687907853269984665640564039457584007913129639936) (h0 : N ≠ 0) : ∃ j, j < 32 ∧ byt N j ≠ 0 := by
  refine Classical.byContradiction fun hn => h0 ?_
  have hz : ∀ j, j < 32 → byt N j = (fun _ => 0 : Nat → Nat) j := fun j hj => Classical.byContradiction fun hb => hn ⟨j, hj, hb⟩
  have e := ofB_byt32 N h
  rw [ofB_congr 32 hz] at e
  exact e.symm.trans (by kernel_rfl)
theorem shared_some (v u : Value) (N : Nat) (hN : N ≠ 0) (hl : N < pF) (w : World) (hM : Calls Try.prog 14 #[v, u] w fun e w' => ∃ s, e = .returned (.tuple #[s, .int .i64 0]) ∧ NewB w w' s 32 (byt N) ∧ Below w.heap.size w w') : Calls Try.prog 18 #[v, u] w fun e w' => ∃ s, e = .returned (.tuple #[s, .int .i64 0]) ∧ NewB w w' s 32 (byt N) ∧ Below w.heap.size w w' := by
  have hA := fun g W => allZero_no g W (byt N) (byt_some (Nat.lt_trans hl (by decide)) hN)
  go_enter Try.func18, Try.ntmps18
  go_wp2_with (first
    | (go_at_call 14; refine hM.mono ?_; clear hM; rintro e w1 ⟨s, rfl, ⟨g, rfl, hg, hr⟩, hb1⟩)
    | (go_at_call 34; refine (hA g _ hr).mono ?_; clear hA; rintro e w2 ⟨rfl, rfl⟩))
  exact bodyPost_ret (results_tmp2 rfl _ _ _) rfl ⟨_, rfl, ⟨g, rfl, hg, hr⟩, hb1⟩
set_option maxRecDepth 20000 in
set_option maxHeartbeats 2000000 in
theorem ones_any (w : World) : Calls Try.prog 22 #[] w fun e w' => ∃ s, e = .returned s ∧ NewB w w' s 32 onesB ∧ Below w.heap.size w w' := by
  have hmk := make_bytes w 32 32 rfl (by decide)
  obtain ⟨W, hW⟩ : ∃ W, W = w.alloc (.cells (zb 32) 5) := ⟨_, rfl⟩
  have hrow : RowAt .u8 W w.heap.size 0 32 (fun _ => 0) := by rw [hW]; exact RowAt.fresh (fun j hj => zb_at 32 j hj)
  have hb : Below w.heap.size w W := by rw [hW]; exact (Below.refl _ _).alloc (Nat.le_refl _) _
  rw [← hW] at hmk
  clear hW
  go_enter Try.func22, Try.ntmps22
  go_wp2_with (rw [hmk])
  go_loopw [2] (fun i wr => ∃ k : Nat, k ≤ 32 ∧ i = .int .i64 (k : Int) ∧ RowAt .u8 wr w.heap.size 0 32 (fun j => if j < k then 1 else 0) ∧ Below w.heap.size w wr) (fun i _ => 32 - (intOf i).toNat)
  case atStart => exact ⟨0, by decide, by go_num, hrow.congr (fun j hj => by rw [if_neg (by omega)]), hb⟩
  case round =>
    obtain ⟨k, hk, rfl, hr, hbr⟩ := hrel
    by_cases hk2 : k < 32
    · have hc := (hr k hk2).1
      have hf := (hr k hk2).2
      have hs := hr.set (i := k) hk2 (v := 1) (u := 1) rfl
      rw [Nat.zero_add] at hc hf hs
      have h1 : (k : Int) < 32 := by omega
      simp only [if_neg (Nat.lt_irrefl k)] at hc
      go_wp2
      go_roundw
      case rel => exact ⟨k + 1, by omega, by go_num, hs.congr (fun j hj => by
        unfold upd
        by_cases e : j = k
        · rw [if_pos e, if_pos (by omega)]
        · rw [if_neg e]
          show (if j < k then 1 else 0) = _
          by_cases h : j < k
          · rw [if_pos h, if_pos (by omega)]
          · rw [if_neg h, if_neg (by omega)]), below_setCells (Nat.le_refl _) [_] k _ hbr⟩
      case measure => simp [intOf]; omega
    · obtain rfl : k = 32 := by omega
      go_wp2
      go_ret
      exact ⟨_, rfl, ⟨w.heap.size, rfl, Nat.le_refl _, hr.congr (fun j hj => by rw [if_pos hj]; rfl)⟩, hbr⟩
theorem num5_any (x : Int) (w : World) : Calls Try.prog 11 #[.int .i64 x] w fun e w' => e = .returned (.int .i64 x) ∧ w' = w := by
  go_enter Try.func11, Try.ntmps11
  go_wp2
  go_ret
  exact ⟨rfl, rfl⟩
end Go.Proofs.Ytjbjbnooocbleaa
