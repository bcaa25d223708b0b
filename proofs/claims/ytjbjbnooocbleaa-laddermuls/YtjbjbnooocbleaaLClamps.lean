/- What the reference's Clamp does in the model, and the law LadderClamps. -/
import Derived.Test.YtjbjbnooocbleaaLKnow5
namespace Go.Proofs.Ytjbjbnooocbleaa
open Go.RowKit
theorem and_248 : ∀ b : Nat, b < 256 → bits .and .u8 (b : Int) 248 = ((b / 8 * 8 : Nat) : Int) := by decide +kernel
theorem and_127 : ∀ b : Nat, b < 256 → bits .and .u8 (b : Int) 127 = ((b % 128 : Nat) : Int) := by decide +kernel
/-- New bytes with whatever room behind. -/
def NewC (w w' : World) (v : Value) (n : Nat) (X : Nat → Nat) : Prop := ∃ g cap, v = .slice (some ⟨g, 0, none⟩) n cap ∧ n ≤ cap ∧ w.heap.size ≤ g ∧ RowAt .u8 w' g 0 n X
theorem NewC.bytes {w w' : World} {v : Value} {n : Nat} {X : Nat → Nat} (h : NewC w w' v n X) (h0 : 0 < n) : BytesIn w' v n X := by
  obtain ⟨g, cap, rfl, hc, -, hr⟩ := h
  exact .inr ⟨g, 0, cap, rfl, block_lt_of_cell (hr 0 h0).1, hc, fun j hj => (hr j hj).1⟩
theorem rclamp_bad (v : Value) (n : Nat) (bs : Nat → Nat) (w : World) (hv : BytesIn w v n bs) (hn : n ≠ 32) : Calls Try.prog 10 #[v] w fun e w' => e = .returned (.tuple #[.slice none 0 0, .int .i64 1]) ∧ w' = w := by
  obtain ⟨xo, c, rfl, hxn, hnc, hsrc⟩ := hv.src
  have h1 : ¬((n : Int) = 32) := by omega
  clear hv hsrc
  go_enter Try.func10, Try.ntmps10
  go_wp2
  exact bodyPost_ret (results_tmp2 rfl _ _ _) rfl ⟨rfl, rfl⟩
set_option maxRecDepth 20000 in
set_option maxHeartbeats 2000000 in
theorem rclamp_good (v : Value) (bs : Nat → Nat) (hbs : ∀ j, bs j < 256) (w : World) (hv : BytesIn w v 32 bs) : Calls Try.prog 10 #[v] w fun e w' => ∃ s, e = .returned (.tuple #[s, .int .i64 0]) ∧ NewC w w' s 32 (clB bs) ∧ Below w.heap.size w w' := by
  obtain ⟨xo, cx, rfl, hxn, -, hsrc⟩ := hv.src
  clear hv
  have src0 := hsrc _ ((Below.refl _ _).alloc (Nat.le_refl _) (.cells #[] 5))
  clear hsrc
  have e1 := and_248 (bs 0) (hbs 0)
  have e2 := and_127 (bs 31) (hbs 31)
  have e3 := or_64 (bs 31 % 128) (by omega)
  obtain ⟨b0, hb0⟩ : ∃ b : Int, ((bs 0 / 8 * 8 : Nat) : Int) = b := ⟨_, rfl⟩
  obtain ⟨b1, hb1'⟩ : ∃ b : Int, ((bs 31 % 128 : Nat) : Int) = b := ⟨_, rfl⟩
  obtain ⟨b3, hb3⟩ : ∃ b : Int, ((bs 31 % 128 % 64 + 64 : Nat) : Int) = b := ⟨_, rfl⟩
  rw [hb0] at e1
  rw [hb1'] at e2 e3
  rw [hb3] at e3
  have H0 := Hid.mk' hb0
  have H3 := Hid.mk' hb3
  clear hb0 hb1' hb3
  go_enter Try.func10, Try.ntmps10
  go_wp2_with (at_builtin; refine wpList_append_empty rfl (.tmp 8) (.tmp 9) rfl w.heap.size bs _ rfl rfl xo 32 cx rfl src0 hxn (by omega) (Nat.le_refl _) ?_; intro v1 w1 own1 hb1; clear src0; (obtain ⟨g, cap, hv1, hg, hgl, hcap, hrow⟩ : ∃ g cap, v1 = .slice (some ⟨g, 0, none⟩) 32 cap ∧ w.heap.size ≤ g ∧ g < w1.heap.size ∧ 32 ≤ cap ∧ RowAt .u8 w1 g 0 32 bs := own1.form.resolve_left (fun h => by omega)); subst hv1; clear own1; (have c0 := (hrow 0 (by decide)).1); (have f0 := (hrow 0 (by decide)).2); (have c1 := (hrow 31 (by decide)).1); (have f1 := (hrow 31 (by decide)).2); rw [Nat.zero_add] at c0 f0 c1 f1)
  have r1 := hrow.set (i := 0) (by decide) (v := b0) H0.out.symm
  rw [Nat.zero_add] at r1
  have r3 := r1.set (i := 31) (by decide) (v := b3) H3.out.symm
  rw [Nat.zero_add] at r3
  refine bodyPost_ret (results_tmp2 rfl _ _ _) rfl ⟨_, rfl, ⟨g, cap, rfl, hcap, hg, r3.congr (fun j hj => ?_)⟩, ?_⟩
  · unfold upd clB
    by_cases h31 : j = 31
    · rw [if_pos h31, if_neg (by omega), if_pos h31]; omega
    · simp only [if_neg h31]
  · exact below_setCells hg [_] 31 _ (below_setCells hg [_] 0 _ hb1)
set_option maxRecDepth 20000 in
set_option maxHeartbeats 4000000 in
theorem ladderClamps_any (v : Value) (n : Nat) (bs : Nat → Nat) (hbs : ∀ j, bs j < 256) (w : World) (hv : BytesIn w v n bs) (hn : n < 140737488355000) : Calls Try.prog 3 #[v] w fun e w' => e = .returned (.bool true) ∧ Below w.heap.size w w' := by
  have hL := lent_any v n bs w hv hn
  have hK := fun W => knows_any W
  have pair : ∃ (S : ByteArray) (er : Int), (∀ x W, BytesIn W x n bs → Calls Try.prog 9 #[x] W fun e w' => ∃ s, e = .returned (.tuple #[s, .int .i64 er]) ∧ Str w' s S ∧ Below W.heap.size W w') ∧ (∀ x W, BytesIn W x n bs → Calls Try.prog 10 #[x] W fun e w' => ∃ s, e = .returned (.tuple #[s, .int .i64 er]) ∧ Str w' s S ∧ Below W.heap.size W w') := by
    by_cases h : n = 32
    · subst h
      exact ⟨strB 32 (clB bs), 0, fun x W hx => (clamp_good x bs hbs W hx).mono fun e w' ⟨s, he, hs, hb⟩ => ⟨s, he, Str.of (hs.bytes (by decide)) (clB_lt hbs), hb⟩, fun x W hx => (rclamp_good x bs hbs W hx).mono fun e w' ⟨s, he, hs, hb⟩ => ⟨s, he, Str.of (hs.bytes (by decide)) (clB_lt hbs), hb⟩⟩
    · exact ⟨_, 1, fun x W hx => (clamp_bad x n bs W hx h).mono fun e w' ⟨he, hw⟩ => ⟨_, he, Str.nil w', by rw [hw]; exact Below.refl _ _⟩, fun x W hx => (rclamp_bad x n bs W hx h).mono fun e w' ⟨he, hw⟩ => ⟨_, he, Str.nil w', by rw [hw]; exact Below.refl _ _⟩⟩
  obtain ⟨S, er, p1, p2⟩ := pair
  obtain ⟨xo, cx, hve, -, -, -⟩ := hv.src
  subst hve
  go_enter Try.func3, Try.ntmps3
  go_wp2_with (first
    | (go_at_call 8; refine hL.mono ?_; clear hL; rintro e w1 ⟨g, cap, rfl, hcap, hg, hrow, hb1⟩)
    | (go_at_call 9; refine (p1 _ _ (lent_bytes hrow hcap)).mono ?_; clear p1; rintro e w2 ⟨s2, rfl, hs2, hb2⟩; (have hrow2 := hrow.below hb2 (block_lt_of_cell (hrow 0 (by omega)).1)); clear hrow; (obtain ⟨⟨x2, m2, c2, rfl⟩, hcv2⟩ := hs2))
    | (go_at_call 10; refine (p2 _ _ (hv.still (below_next hb1 hb2))).mono ?_; clear p2; rintro e w3 ⟨s3, rfl, hs3, hb3⟩; (have hrow3 := hrow2.below hb3 (block_lt_of_cell (hrow2 0 (by omega)).1)); clear hrow2; (obtain ⟨⟨x3, m3, c3, rfl⟩, hcv3⟩ := hs3); (have q2 := hcv2 w3 hb3); (have q3 := hcv3 w3 (Below.refl _ _)); clear hcv2 hcv3; (have hbw3 := below_next (below_next hb1 hb2) hb3); (have cS := stays_any g cap n (.slice xo n cx) bs hbs w3 hn hcap hrow3 (hv.still hbw3)))
    | (go_at_call 11; refine (num5_any _ _).mono ?_; rintro e wn ⟨rfl, hwn⟩; subst hwn)
    | (go_at_call 12; refine cS.mono ?_; clear cS; rintro e w4 ⟨rfl, hb4⟩)
    | (go_at_call 13; refine (hK _).mono ?_; clear hK; rintro e w5 ⟨rfl, hb5⟩))
  go_ret
  exact ⟨rfl, below_next (below_next hbw3 hb4) hb5⟩
end Go.Proofs.Ytjbjbnooocbleaa
