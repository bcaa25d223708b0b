/- What num, small and knows of the laws of layer 3 do in the model. -/
import Derived.Test.YtinigkpidhbgcaaApi
namespace Go.Proofs.Ytinigkpidhbgcaa
open Go.RowKit
theorem num3_any (n : Int) (w : World) : Calls Try.prog 17 #[.int .i64 n] w fun e w' => e = .returned (.int .i64 n) ∧ w' = w := by
  go_enter Try.func17, Try.ntmps17
  go_wp2
  go_ret
  exact ⟨rfl, rfl⟩
theorem byt_small (n j : Nat) (hn : n < 256) : (if j = 0 then n else 0) = byt n j := by
  unfold byt
  by_cases e : j = 0
  · rw [if_pos e, e]; simp; omega
  · have h : 256 ≤ 256 ^ j := by
      have := Nat.pow_le_pow_right (n := 256) (by decide) (show 1 ≤ j by omega)
      simpa using this
    rw [if_neg e, Nat.div_eq_of_lt (by omega)]
set_option maxRecDepth 20000 in
theorem small_any (n : Nat) (hn : n < 256) (w : World) : Calls Try.prog 26 #[.int .u8 n] w fun e w' => ∃ s, e = .returned s ∧ NewB w w' s 32 (byt n) ∧ Below w.heap.size w w' := by
  have hmk := make_bytes w 32 32 rfl (by decide)
  obtain ⟨W, hW⟩ : ∃ W, W = w.alloc (.cells (zb 32) 5) := ⟨_, rfl⟩
  have hrow : RowAt .u8 W w.heap.size 0 32 (fun _ => 0) := by rw [hW]; exact RowAt.fresh (fun j hj => zb_at 32 j hj)
  have hb : Below w.heap.size w W := by rw [hW]; exact (Below.refl _ _).alloc (Nat.le_refl _) _
  obtain ⟨r0, f0⟩ := hrow 0 (by decide)
  have r0' : W.cell? ⟨w.heap.size, 0, none⟩ = some (.int .u8 0) := r0
  have f0' : W.frozen? ⟨w.heap.size, 0, none⟩ = false := f0
  rw [← hW] at hmk
  clear hW r0 f0
  go_enter Try.func26, Try.ntmps26
  go_wp2_with (rw [hmk])
  go_ret
  have h1 := hrow.set (i := 0) (by decide) (v := (n : Int)) (u := n) rfl
  refine ⟨_, rfl, ⟨w.heap.size, rfl, Nat.le_refl _, h1.congr (fun j hj => ?_)⟩, hb.setCell (Nat.le_refl _) _⟩
  rw [← byt_small n j hn]
  unfold upd
  rfl
theorem NewB.still {w w' w2 : World} {v : Value} {n : Nat} {X : Nat → Nat} (h : NewB w w' v n X) (h0 : 0 < n) (hb : Below w'.heap.size w' w2) : NewB w w2 v n X := by
  obtain ⟨g, rfl, hg, hr⟩ := h
  exact ⟨g, rfl, hg, hr.below hb (block_lt_of_cell (hr 0 h0).1)⟩
theorem byt_all (n : Nat) : ∀ j, byt n j < 256 := fun j => byt_lt n j
theorem ofB_byt32 (n : Nat) (h : n < 115792089237316195423570985008687907853269984665640564039457584007913129639936) : ofB (byt n) 32 = n := by
  rw [ofB_byt, show (256 : Nat) ^ 32 = 115792089237316195423570985008687907853269984665640564039457584007913129639936 from rfl, Nat.mod_eq_of_lt h]
/-- 2^254, as bytes. -/
def bigB (j : Nat) : Nat := if j = 31 then 64 else 0
theorem bigB_lt (j : Nat) : bigB j < 256 := by unfold bigB; split <;> decide
theorem bigB_val : ofB bigB 32 = 28948022309329048855892746252171976963317496166410141009864396001978282409984 := by kernel_rfl
set_option maxRecDepth 20000 in
set_option maxHeartbeats 2000000 in
theorem knows3_any (w : World) : Calls Try.prog 19 #[] w fun e w' => e = .returned (.bool true) ∧ Below w.heap.size w w' := by
  have hmk := make_bytes w 32 32 rfl (by decide)
  obtain ⟨W, hW⟩ : ∃ W, W = w.alloc (.cells (zb 32) 5) := ⟨_, rfl⟩
  have hrow : RowAt .u8 W w.heap.size 0 32 (fun _ => 0) := by rw [hW]; exact RowAt.fresh (fun j hj => zb_at 32 j hj)
  have hbW : Below w.heap.size w W := by rw [hW]; exact (Below.refl _ _).alloc (Nat.le_refl _) _
  have hWs : w.heap.size < W.heap.size := by rw [hW]; simp
  obtain ⟨r0, f0⟩ := hrow 31 (by decide)
  have r0' : W.cell? ⟨w.heap.size, 31, none⟩ = some (.int .u8 0) := r0
  have f0' : W.frozen? ⟨w.heap.size, 31, none⟩ = false := f0
  have hrow2 : RowAt .u8 (W.setCell ⟨w.heap.size, 31, none⟩ (.int .u8 64)) w.heap.size 0 32 bigB := (hrow.set (i := 31) (by decide) (v := 64) (u := 64) rfl).congr (fun j hj => by unfold upd bigB; rfl)
  have hb2 : Below w.heap.size w (W.setCell ⟨w.heap.size, 31, none⟩ (.int .u8 64)) := hbW.setCell (Nat.le_refl _) _
  have hs2 : w.heap.size < (W.setCell ⟨w.heap.size, 31, none⟩ (.int .u8 64)).heap.size := by simpa using hWs
  obtain ⟨V, hV⟩ : ∃ V, V = W.setCell ⟨w.heap.size, 31, none⟩ (.int .u8 64) := ⟨_, rfl⟩
  have HV := Hid.mk' hV
  rw [← hV] at hrow2 hb2 hs2
  have hbig : BytesIn V (.slice (some ⟨w.heap.size, 0, none⟩) 32 32) 32 bigB := .inr ⟨w.heap.size, 0, 32, rfl, hs2, Nat.le_refl _, fun j hj => (hrow2 j hj).1⟩
  rw [← hW] at hmk
  have cs := fun W => small_any 2 (by decide) W
  have csV : Calls Try.prog 26 #[.int .u8 2] V fun e w' => ∃ s, e = .returned s ∧ NewB V w' s 32 (byt 2) ∧ Below V.heap.size V w' := cs V
  have c19 : ∀ W, Calls Try.prog 26 #[.int .u8 19] W fun e w' => ∃ s, e = .returned s ∧ NewB W w' s 32 (byt 19) ∧ Below W.heap.size W w' := fun W => small_any 19 (by decide) W
  have hval : ofB (byt 2) 32 % pF * (ofB bigB 32 % pF) % pF = 19 := by rw [ofB_byt32 2 (by decide), bigB_val]; kernel_rfl
  clear hW r0 f0 hrow hrow2 hV cs
  go_enter Try.func19, Try.ntmps19
  go_wp2_with (first
    | rw [hmk]
    | (go_at_call 26; rw [← HV.out]; refine csV.mono ?_; clear csV; rintro e w1 ⟨s, rfl, hn, hb1⟩; (have cm := mul_good s (.slice (some ⟨w.heap.size, 0, none⟩) 32 32) (byt 2) bigB (byt_all 2) bigB_lt w1 (hn.bytes (by decide)) (hbig.still hb1)); rw [hval] at cm; obtain ⟨gs, rfl, -⟩ := hn)
    | (go_at_call 20; refine cm.mono ?_; clear cm; rintro e w2 ⟨c, rfl, hc, hb2'⟩; (have hbn := hc.bytes (by decide)); (have ca := add_bad (.slice none 0 0) (.slice (some ⟨w.heap.size, 0, none⟩) 32 32) 0 32 (fun _ => 0) bigB (fun _ => by decide) bigB_lt w2 (.inl ⟨none, rfl, rfl⟩) ((hbig.still hb1).still hb2') (by decide)); obtain ⟨gc, rfl, -⟩ := hc)
    | (go_at_call 11; refine ca.mono ?_; clear ca; rintro e w3 ⟨rfl, hb3⟩; (have hbn3 := hbn.still hb3); (have hbw3 : Below w.heap.size w w3 := hb2.trans ((hb1.mono hb2.size).trans ((hb2'.mono (Nat.le_trans hb2.size hb1.size)).trans (hb3.mono (Nat.le_trans hb2.size (Nat.le_trans hb1.size hb2'.size))))))))
  have hcv := fun W h => hbn3.conv (byt_all 19) W h
  have hb0 : Below w3.heap.size w3 w3.drew := (Below.refl _ _).drew
  have hz0 : w3.heap.size ≤ w3.drew.heap.size := Nat.le_refl _
  clear hbn3 hbn hbig
  have c19' := c19 w3.drew
  have hcv0 := hcv w3.drew hb0
  clear c19
  go_region_with (first
    | (go_at_call 17; refine (num3_any _ _).mono ?_; rintro e wn ⟨rfl, hwn⟩; subst hwn)
    | (go_at_call 26; refine c19'.mono ?_; clear c19'; rintro e w4 ⟨s4, rfl, hn4, hb4⟩; (have hb34 : Below w3.heap.size w3 w4 := hb0.trans (hb4.mono hz0)); (have hcv4 := (hn4.bytes (by decide)).conv (byt_all 19) w4 (Below.refl _ _)); (have hcvc := hcv w4 hb34); (obtain ⟨g4, rfl, -⟩ := hn4)))
  all_goals (go_wp2; go_ret; exact ⟨rfl, hbw3.trans (hb34.mono hbw3.size)⟩)
end Go.Proofs.Ytinigkpidhbgcaa
