/- What Public, Shared, and what the laws' own functions do in the model. -/
import Derived.Test.YtjbjbnooocbleaaLCert
namespace Go.Proofs.Ytjbjbnooocbleaa
open Go.RowKit
set_option maxRecDepth 20000 in
set_option maxHeartbeats 2000000 in
theorem public_good (v : Value) (bs : Nat → Nat) (hbs : ∀ j, bs j < 256) (w : World) (hv : BytesIn w v 32 bs) : Calls Try.prog 16 #[v] w fun e w' => ∃ s, e = .returned (.tuple #[s, .int .i64 0]) ∧ NewB w w' s 32 (byt (mulL (clB bs) 9)) ∧ Below w.heap.size w w' := by
  have hS := fun W => fsmall_pos 9 (by decide) W
  have hB := fun W => bytes_any 9 W
  have hM : ∀ u W, BytesIn W u 32 (byt 9) → Below w.heap.size w W → Calls Try.prog 14 #[v, u] W fun e w' => ∃ s, e = .returned (.tuple #[s, .int .i64 0]) ∧ NewB W w' s 32 (byt (mulL (clB bs) 9)) ∧ Below W.heap.size W w' := fun u W h hb => by
    have := lmul_good v u bs (byt 9) hbs (byt_all 9) W (hv.still hb) h
    rwa [nine_of] at this
  go_enter Try.func16, Try.ntmps16
  go_wp2_with (first
    | (go_at_call 32; refine (hS _).mono ?_; clear hS; rintro e w1 ⟨rfl, hb1⟩)
    | (go_at_call 25; refine (hB _).mono ?_; clear hB; rintro e w2 ⟨g, rfl, hg, hr, hb2⟩)
    | (go_at_call 14; refine (hM _ _ (.inr ⟨g, 0, 32, rfl, block_lt_of_cell (hr 0 (by decide)).1, Nat.le_refl _, fun j hj => (hr j hj).1⟩) (below_next hb1 hb2)).mono ?_; clear hM; rintro e w3 ⟨s, rfl, hs, hb3⟩))
  obtain ⟨g3, rfl, hg3, hr3⟩ := hs
  have s1 := hb1.size
  have s2 := hb2.size
  exact bodyPost_ret (results_tmp2 rfl _ _ _) rfl ⟨_, rfl, ⟨g3, rfl, by omega, hr3⟩, below_next (below_next hb1 hb2) hb3⟩
set_option maxRecDepth 20000 in
set_option maxHeartbeats 2000000 in
theorem public_bad (v : Value) (n : Nat) (bs : Nat → Nat) (w : World) (hv : BytesIn w v n bs) (hn : n ≠ 32) : Calls Try.prog 16 #[v] w fun e w' => e = .returned (.tuple #[.slice none 0 0, .int .i64 1]) ∧ Below w.heap.size w w' := by
  have hS := fun W => fsmall_pos 9 (by decide) W
  have hB := fun W => bytes_any 9 W
  have hM : ∀ u W, Below w.heap.size w W → Calls Try.prog 14 #[v, u] W fun e w' => e = .returned (.tuple #[.slice none 0 0, .int .i64 1]) ∧ Below W.heap.size W w' := fun u W hb => lmul_key v u n bs W (hv.still hb) hn
  go_enter Try.func16, Try.ntmps16
  go_wp2_with (first
    | (go_at_call 32; refine (hS _).mono ?_; clear hS; rintro e w1 ⟨rfl, hb1⟩)
    | (go_at_call 25; refine (hB _).mono ?_; clear hB; rintro e w2 ⟨g, rfl, hg, hr, hb2⟩)
    | (go_at_call 14; refine (hM _ _ (below_next hb1 hb2)).mono ?_; clear hM; rintro e w3 ⟨rfl, hb3⟩))
  exact bodyPost_ret (results_tmp2 rfl _ _ _) rfl ⟨rfl, below_next (below_next hb1 hb2) hb3⟩
set_option maxRecDepth 20000 in
set_option maxHeartbeats 2000000 in
theorem allZero_yes (g : Nat) (w : World) (X : Nat → Nat) (hX : ∀ j, j < 32 → X j = 0) (hr : RowAt .u8 w g 0 32 X) : Calls Try.prog 34 #[.slice (some ⟨g, 0, none⟩) 32 32] w fun e w' => e = .returned (.bool true) ∧ w' = w := by
  go_enter Try.func34, Try.ntmps34
  go_wp2
  go_loopw [4, 7] (fun _ i wr => wr = w ∧ ∃ k : Nat, k ≤ 32 ∧ i = .int .i64 (k : Int)) (fun _ i _ => 32 - (intOf i).toNat)
  case atStart => exact ⟨rfl, 0, by decide, by go_num⟩
  case round =>
    obtain ⟨hw, k, hk, rfl⟩ := hrel
    rw [hw]
    clear hw
    by_cases hk2 : k < 32
    · have hc := (hr k hk2).1
      rw [Nat.zero_add, hX k hk2] at hc
      have h1 : (k : Int) < 32 := by omega
      go_wp2
      go_roundw
      case rel => exact ⟨trivial, k + 1, by omega, by go_num⟩
      case measure => simp [intOf]; omega
    · obtain rfl : k = 32 := by omega
      go_wp2
      go_ret
      exact ⟨rfl, rfl⟩
set_option maxRecDepth 20000 in
set_option maxHeartbeats 2000000 in
theorem allZero_no (g : Nat) (w : World) (X : Nat → Nat) (hX : ∃ j, j < 32 ∧ X j ≠ 0) (hr : RowAt .u8 w g 0 32 X) : Calls Try.prog 34 #[.slice (some ⟨g, 0, none⟩) 32 32] w fun e w' => e = .returned (.bool false) ∧ w' = w := by
  go_enter Try.func34, Try.ntmps34
  go_wp2
  go_loopw [4, 7] (fun _ i wr => wr = w ∧ ∃ k : Nat, k ≤ 32 ∧ i = .int .i64 (k : Int) ∧ ∃ j, k ≤ j ∧ j < 32 ∧ X j ≠ 0) (fun _ i _ => 32 - (intOf i).toNat)
  case atStart =>
    obtain ⟨j, h1, h2⟩ := hX
    exact ⟨rfl, 0, by decide, by go_num, j, Nat.zero_le _, h1, h2⟩
  case round =>
    obtain ⟨hw, k, hk, rfl, j, hkj, hj, hne⟩ := hrel
    rw [hw]
    clear hw
    have hk2 : k < 32 := by omega
    have hc := (hr k hk2).1
    rw [Nat.zero_add] at hc
    have h1 : (k : Int) < 32 := by omega
    by_cases h0 : X k = 0
    · rw [h0] at hc
      have hkj2 : k + 1 ≤ j := by
        rcases Nat.eq_or_lt_of_le hkj with h | h
        · exact absurd (h ▸ h0) hne
        · exact h
      go_wp2
      go_roundw
      case rel => exact ⟨trivial, k + 1, by omega, by go_num, j, hkj2, hj, hne⟩
      case measure => simp [intOf]; omega
    · have h2 : ¬((X k : Int) = 0) := by omega
      go_wp2
      go_ret
      exact ⟨rfl, rfl⟩
end Go.Proofs.Ytjbjbnooocbleaa
