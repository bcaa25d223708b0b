/- What Nine, Public and Shared of the reference do in the model. -/
import Derived.Test.YtjbjbnooocbleaaRLMul
namespace Go.Proofs.Ytjbjbnooocbleaa
open Go.RowKit
set_option maxRecDepth 20000 in
set_option maxHeartbeats 2000000 in
theorem rnine_any (w : World) : Calls Try.prog 33 #[] w fun e w' => ∃ s, e = .returned s ∧ BytesIn w' s 32 (byt 9) ∧ Below w.heap.size w w' := by
  have hmk := make_bytes w 32 32 rfl (by decide)
  obtain ⟨W, hW⟩ : ∃ W, W = w.alloc (.cells (zb 32) 5) := ⟨_, rfl⟩
  have hrow : RowAt .u8 W w.heap.size 0 32 (fun _ => 0) := by rw [hW]; exact RowAt.fresh (fun j hj => zb_at 32 j hj)
  have hb : Below w.heap.size w W := by rw [hW]; exact (Below.refl _ _).alloc (Nat.le_refl _) _
  rw [← hW] at hmk
  clear hW
  have hc := (hrow 0 (by decide)).1
  have hf := (hrow 0 (by decide)).2
  have hs := hrow.set (i := 0) (by decide) (v := 9) (u := 9) rfl
  rw [Nat.zero_add] at hc hf hs
  go_enter Try.func33, Try.ntmps33
  go_wp2_with (rw [hmk])
  go_ret
  have hr := hs.congr (Y := byt 9) (fun j hj => by
    rw [← byt_small 9 j (by decide)]
    unfold upd; rfl)
  exact ⟨_, rfl, .inr ⟨w.heap.size, 0, 32, rfl, block_lt_of_cell (hr 0 (by decide)).1, Nat.le_refl _, fun j hj => (hr j hj).1⟩, below_setCells (Nat.le_refl _) [_] 0 _ hb⟩
set_option maxRecDepth 20000 in
set_option maxHeartbeats 2000000 in
theorem rpublic_good (v : Value) (bs : Nat → Nat) (hbs : ∀ j, bs j < 256) (w : World) (hv : BytesIn w v 32 bs) : Calls Try.prog 17 #[v] w fun e w' => ∃ s, e = .returned (.tuple #[s, .int .i64 0]) ∧ BytesIn w' s 32 (byt (mulL (clB bs) 9)) ∧ Below w.heap.size w w' := by
  have hS := fun W => rnine_any W
  have hM : ∀ u W, BytesIn W u 32 (byt 9) → Below w.heap.size w W → Calls Try.prog 15 #[v, u] W fun e w' => ∃ s, e = .returned (.tuple #[s, .int .i64 0]) ∧ BytesIn w' s 32 (byt (mulL (clB bs) 9)) ∧ Below W.heap.size W w' := fun u W h hb => by
    have := rlmul_good v u bs (byt 9) hbs (byt_all 9) W (hv.still hb) h
    rwa [nine_of] at this
  go_enter Try.func17, Try.ntmps17
  go_wp2_with (first
    | (go_at_call 33; refine (hS _).mono ?_; clear hS; rintro e w1 ⟨s1, rfl, h1, hb1⟩)
    | (go_at_call 15; refine (hM _ _ h1 hb1).mono ?_; clear hM; rintro e w3 ⟨s, rfl, hs, hb3⟩))
  exact bodyPost_ret (results_tmp2 rfl _ _ _) rfl ⟨_, rfl, hs, below_next hb1 hb3⟩
set_option maxRecDepth 20000 in
set_option maxHeartbeats 2000000 in
theorem rpublic_bad (v : Value) (n : Nat) (bs : Nat → Nat) (w : World) (hv : BytesIn w v n bs) (hn : n ≠ 32) : Calls Try.prog 17 #[v] w fun e w' => e = .returned (.tuple #[.slice none 0 0, .int .i64 1]) ∧ Below w.heap.size w w' := by
  have hS := fun W => rnine_any W
  have hM : ∀ u W, Below w.heap.size w W → Calls Try.prog 15 #[v, u] W fun e w' => e = .returned (.tuple #[.slice none 0 0, .int .i64 1]) ∧ Below W.heap.size W w' := fun u W hb => rlmul_key v n bs u W (hv.still hb) hn
  go_enter Try.func17, Try.ntmps17
  go_wp2_with (first
    | (go_at_call 33; refine (hS _).mono ?_; clear hS; rintro e w1 ⟨s1, rfl, h1, hb1⟩)
    | (go_at_call 15; refine (hM _ _ hb1).mono ?_; clear hM; rintro e w3 ⟨rfl, hb3⟩))
  exact bodyPost_ret (results_tmp2 rfl _ _ _) rfl ⟨rfl, below_next hb1 hb3⟩
theorem rshared_arg (v u : Value) (w : World) (hM : Calls Try.prog 15 #[v, u] w fun e w' => e = .returned (.tuple #[.slice none 0 0, .int .i64 1]) ∧ Below w.heap.size w w') : Calls Try.prog 19 #[v, u] w fun e w' => e = .returned (.tuple #[.slice none 0 0, .int .i64 1]) ∧ Below w.heap.size w w' := by
  go_enter Try.func19, Try.ntmps19
  go_wp2_with (go_at_call 15; refine hM.mono ?_; clear hM; rintro e w1 ⟨rfl, hb1⟩)
  exact bodyPost_ret (results_tmp2 rfl _ _ _) rfl ⟨rfl, hb1⟩
set_option maxRecDepth 20000 in
set_option maxHeartbeats 2000000 in
theorem rshared_none (v u : Value) (X : Nat → Nat) (hX : ∀ j, j < 32 → X j = 0) (w : World) (hM : Calls Try.prog 15 #[v, u] w fun e w' => ∃ s, e = .returned (.tuple #[s, .int .i64 0]) ∧ BytesIn w' s 32 X ∧ Below w.heap.size w w') : Calls Try.prog 19 #[v, u] w fun e w' => e = .returned (.tuple #[.slice none 0 0, .int .i64 30]) ∧ Below w.heap.size w w' := by
  go_enter Try.func19, Try.ntmps19
  go_wp2_with (go_at_call 15; refine hM.mono ?_; clear hM; rintro e w1 ⟨s, rfl, hs, hb1⟩; (obtain ⟨bb, ob, cap, hsl, hl, hcap, hc⟩ : ∃ bb ob cap, s = .slice (some ⟨bb, ob, none⟩) 32 cap ∧ bb < w1.heap.size ∧ 32 ≤ cap ∧ ∀ j, j < 32 → w1.cell? ⟨bb, ob + j, none⟩ = some (.int .u8 (X j)) := hs.resolve_left (fun ⟨_, _, h⟩ => by omega)); subst hsl; clear hs)
  go_loopw [8] (fun i wr => wr = w1 ∧ ∃ k : Nat, k ≤ 32 ∧ i = .int .i64 (k : Int)) (fun i _ => 32 - (intOf i).toNat)
  case atStart => exact ⟨rfl, 0, by decide, by go_num⟩
  case round =>
    obtain ⟨hw, k, hk, rfl⟩ := hrel
    rw [hw]
    clear hw
    by_cases hk2 : k < 32
    · have hcc := hc k hk2
      rw [hX k hk2] at hcc
      have h1 : (k : Int) < 32 := by omega
      go_wp2
      go_roundw
      case rel => exact ⟨trivial, k + 1, by omega, by go_num⟩
      case measure => simp [intOf]; omega
    · obtain rfl : k = 32 := by omega
      go_wp2
      exact bodyPost_ret (results_tmp2 rfl _ _ _) rfl ⟨rfl, hb1⟩
set_option maxRecDepth 20000 in
set_option maxHeartbeats 2000000 in
theorem rshared_some (v u : Value) (X : Nat → Nat) (hX : ∃ j, j < 32 ∧ X j ≠ 0) (w : World) (hM : Calls Try.prog 15 #[v, u] w fun e w' => ∃ s, e = .returned (.tuple #[s, .int .i64 0]) ∧ BytesIn w' s 32 X ∧ Below w.heap.size w w') : Calls Try.prog 19 #[v, u] w fun e w' => ∃ s, e = .returned (.tuple #[s, .int .i64 0]) ∧ BytesIn w' s 32 X ∧ Below w.heap.size w w' := by
  go_enter Try.func19, Try.ntmps19
  go_wp2_with (go_at_call 15; refine hM.mono ?_; clear hM; rintro e w1 ⟨s, rfl, hs, hb1⟩; (obtain ⟨bb, ob, cap, hsl, hl, hcap, hc⟩ : ∃ bb ob cap, s = .slice (some ⟨bb, ob, none⟩) 32 cap ∧ bb < w1.heap.size ∧ 32 ≤ cap ∧ ∀ j, j < 32 → w1.cell? ⟨bb, ob + j, none⟩ = some (.int .u8 (X j)) := hs.resolve_left (fun ⟨_, _, h⟩ => by omega)); subst hsl)
  go_loopw [8] (fun i wr => wr = w1 ∧ ∃ k : Nat, k ≤ 32 ∧ i = .int .i64 (k : Int) ∧ ∃ j, k ≤ j ∧ j < 32 ∧ X j ≠ 0) (fun i _ => 32 - (intOf i).toNat)
  case atStart =>
    obtain ⟨j, h1, h2⟩ := hX
    exact ⟨rfl, 0, by decide, by go_num, j, Nat.zero_le _, h1, h2⟩
  case round =>
    obtain ⟨hw, k, hk, rfl, j, hkj, hj, hne⟩ := hrel
    rw [hw]
    clear hw
    have hk2 : k < 32 := by omega
    have hcc := hc k hk2
    have h1 : (k : Int) < 32 := by omega
    by_cases h0 : X k = 0
    · rw [h0] at hcc
      have hkj2 : k + 1 ≤ j := by
        rcases Nat.eq_or_lt_of_le hkj with h | h
        · exact absurd (h ▸ h0) hne
        · exact h
      go_wp2
      go_roundw
      case rel => exact ⟨trivial, k + 1, by omega, by go_num, j, hkj2, hj, hne⟩
      case measure => simp [intOf]; omega
    · have h2 : ¬((X k : Int) = 0) := by omega
      go_wp2
      exact bodyPost_ret (results_tmp2 rfl _ _ _) rfl ⟨_, rfl, hs, hb1⟩
end Go.Proofs.Ytjbjbnooocbleaa
