/- The law LadderMuls. -/
import Derived.Test.YtjbjbnooocbleaaRLShare
namespace Go.Proofs.Ytjbjbnooocbleaa
open Go.RowKit
set_option maxRecDepth 20000 in
set_option maxHeartbeats 4000000 in
theorem ladderMuls_any (v u : Value) (n m : Nat) (bs cs : Nat → Nat) (hbs : ∀ j, bs j < 256) (hcs : ∀ j, cs j < 256) (w : World) (hv : BytesIn w v n bs) (hu : BytesIn w u m cs) (hn : n < 140737488355000) (hm : m < 140737488355000) : Calls Try.prog 4 #[v, u] w fun e w' => e = .returned (.bool true) ∧ Below w.heap.size w w' := by
  have hL1 := lent_any v n bs w hv hn
  have hL2 := fun W h => lent_any u m cs W (hu.still h) hm
  have hK := fun W => knows_any W
  have pM : ∃ (S : ByteArray) (er : Int) (T : ByteArray) (fr : Int),
      ((∀ x y W, BytesIn W x n bs → BytesIn W y m cs → Calls Try.prog 14 #[x, y] W fun e w' => ∃ s, e = .returned (.tuple #[s, .int .i64 er]) ∧ Str w' s S ∧ Below W.heap.size W w') ∧ (∀ x y W, BytesIn W x n bs → BytesIn W y m cs → Calls Try.prog 15 #[x, y] W fun e w' => ∃ s, e = .returned (.tuple #[s, .int .i64 er]) ∧ Str w' s S ∧ Below W.heap.size W w')) ∧
      ((∀ x y W, BytesIn W x n bs → BytesIn W y m cs → Calls Try.prog 18 #[x, y] W fun e w' => ∃ s, e = .returned (.tuple #[s, .int .i64 fr]) ∧ Str w' s T ∧ Below W.heap.size W w') ∧ (∀ x y W, BytesIn W x n bs → BytesIn W y m cs → Calls Try.prog 19 #[x, y] W fun e w' => ∃ s, e = .returned (.tuple #[s, .int .i64 fr]) ∧ Str w' s T ∧ Below W.heap.size W w')) := by
    by_cases h : n = 32
    · subst h
      by_cases h2 : m = 32
      · subst h2
        have a1 := fun x y W hx hy => lmul_good x y bs cs hbs hcs W hx hy
        have a2 := fun x y W hx hy => rlmul_good x y bs cs hbs hcs W hx hy
        have hl : mulL (clB bs) (ofB (loB cs) 32 % pF) < pF := fmul_lt _ _
        generalize mulL (clB bs) (ofB (loB cs) 32 % pF) = M at *
        by_cases h0 : M = 0
        · exact ⟨strB 32 (byt M), 0, _, 30, ⟨fun x y W hx hy => (a1 x y W hx hy).mono fun e w' ⟨s, he, hs, hb⟩ => ⟨s, he, hs.str, hb⟩, fun x y W hx hy => (a2 x y W hx hy).mono fun e w' ⟨s, he, hs, hb⟩ => ⟨s, he, Str.of hs (byt_all M), hb⟩⟩,
            fun x y W hx hy => (shared_none x y M h0 W (a1 x y W hx hy)).mono fun e w' ⟨he, hb⟩ => ⟨_, he, Str.nil w', hb⟩,
            fun x y W hx hy => (rshared_none x y (byt M) (fun j _ => by rw [h0]; unfold byt; rw [Nat.zero_div]) W (a2 x y W hx hy)).mono fun e w' ⟨he, hb⟩ => ⟨_, he, Str.nil w', hb⟩⟩
        · exact ⟨strB 32 (byt M), 0, strB 32 (byt M), 0, ⟨fun x y W hx hy => (a1 x y W hx hy).mono fun e w' ⟨s, he, hs, hb⟩ => ⟨s, he, hs.str, hb⟩, fun x y W hx hy => (a2 x y W hx hy).mono fun e w' ⟨s, he, hs, hb⟩ => ⟨s, he, Str.of hs (byt_all M), hb⟩⟩,
            fun x y W hx hy => (shared_some x y M h0 hl W (a1 x y W hx hy)).mono fun e w' ⟨s, he, hs, hb⟩ => ⟨s, he, hs.str, hb⟩,
            fun x y W hx hy => (rshared_some x y (byt M) (byt_some (Nat.lt_trans hl (by decide)) h0) W (a2 x y W hx hy)).mono fun e w' ⟨s, he, hs, hb⟩ => ⟨s, he, Str.of hs (byt_all M), hb⟩⟩
      · have a1 := fun x y W hx hy => lmul_point x y m bs cs hbs W hx hy h2
        have a2 := fun x y W hx hy => rlmul_point x y m bs cs hbs W hx hy h2
        exact ⟨_, 1, _, 1, ⟨fun x y W hx hy => (a1 x y W hx hy).mono fun e w' ⟨he, hb⟩ => ⟨_, he, Str.nil w', hb⟩, fun x y W hx hy => (a2 x y W hx hy).mono fun e w' ⟨he, hb⟩ => ⟨_, he, Str.nil w', hb⟩⟩,
          fun x y W hx hy => (shared_arg x y W (a1 x y W hx hy)).mono fun e w' ⟨he, hb⟩ => ⟨_, he, Str.nil w', hb⟩,
          fun x y W hx hy => (rshared_arg x y W (a2 x y W hx hy)).mono fun e w' ⟨he, hb⟩ => ⟨_, he, Str.nil w', hb⟩⟩
    · have a1 := fun x y W hx => lmul_key x y n bs W hx h
      have a2 := fun x y W hx => rlmul_key x n bs y W hx h
      exact ⟨_, 1, _, 1, ⟨fun x y W hx _ => (a1 x y W hx).mono fun e w' ⟨he, hb⟩ => ⟨_, he, Str.nil w', hb⟩, fun x y W hx _ => (a2 x y W hx).mono fun e w' ⟨he, hb⟩ => ⟨_, he, Str.nil w', hb⟩⟩,
        fun x y W hx _ => (shared_arg x y W (a1 x y W hx)).mono fun e w' ⟨he, hb⟩ => ⟨_, he, Str.nil w', hb⟩,
        fun x y W hx _ => (rshared_arg x y W (a2 x y W hx)).mono fun e w' ⟨he, hb⟩ => ⟨_, he, Str.nil w', hb⟩⟩
  have pP : ∃ (S : ByteArray) (er : Int), (∀ x W, BytesIn W x n bs → Calls Try.prog 16 #[x] W fun e w' => ∃ s, e = .returned (.tuple #[s, .int .i64 er]) ∧ Str w' s S ∧ Below W.heap.size W w') ∧ (∀ x W, BytesIn W x n bs → Calls Try.prog 17 #[x] W fun e w' => ∃ s, e = .returned (.tuple #[s, .int .i64 er]) ∧ Str w' s S ∧ Below W.heap.size W w') := by
    by_cases h : n = 32
    · subst h
      exact ⟨strB 32 (byt (mulL (clB bs) 9)), 0, fun x W hx => (public_good x bs hbs W hx).mono fun e w' ⟨s, he, hs, hb⟩ => ⟨s, he, hs.str, hb⟩, fun x W hx => (rpublic_good x bs hbs W hx).mono fun e w' ⟨s, he, hs, hb⟩ => ⟨s, he, Str.of hs (byt_all _), hb⟩⟩
    · exact ⟨_, 1, fun x W hx => (public_bad x n bs W hx h).mono fun e w' ⟨he, hb⟩ => ⟨_, he, Str.nil w', hb⟩, fun x W hx => (rpublic_bad x n bs W hx h).mono fun e w' ⟨he, hb⟩ => ⟨_, he, Str.nil w', hb⟩⟩
  obtain ⟨S, er, T, fr, ⟨p1, p2⟩, p5, p6⟩ := pM
  obtain ⟨U, gr, p3, p4⟩ := pP
  obtain ⟨xo, cx, hve, -, -, -⟩ := hv.src
  subst hve
  obtain ⟨yo, cy, hue, -, -, -⟩ := hu.src
  subst hue
  go_enter Try.func4, Try.ntmps4
  go_wp2_with (first
    | (go_at_call 8; refine hL1.mono ?_; clear hL1; rintro e w1 ⟨g, cap, rfl, hcap, hg, row1, hbw1⟩)
    | (go_at_call 8; refine (hL2 _ hbw1).mono ?_; clear hL2; rintro e w2 ⟨g2, cap2, rfl, hcap2, hg2, row2, hb2⟩; (replace row1 := row1.below hb2 (block_lt_of_cell (row1 0 (by omega)).1)); (have hbw2 := below_next hbw1 hb2); clear hb2 hbw1)
    | (go_at_call 14; refine (p1 _ _ _ (lent_bytes row1 hcap) (lent_bytes row2 hcap2)).mono ?_; clear p1; rintro e w3 ⟨s3, rfl, hs3, hb3⟩; (replace row1 := row1.below hb3 (block_lt_of_cell (row1 0 (by omega)).1)); (replace row2 := row2.below hb3 (block_lt_of_cell (row2 0 (by omega)).1)); (have hbw3 := below_next hbw2 hb3); clear hb3 hbw2; (have f3 := hs3.form); (obtain ⟨x3, m3, c3, rfl⟩ := f3))
    | (go_at_call 15; refine (p2 _ _ _ (hv.still hbw3) (hu.still hbw3)).mono ?_; clear p2; rintro e w4 ⟨s4, rfl, hs4, hb4⟩; (replace row1 := row1.below hb4 (block_lt_of_cell (row1 0 (by omega)).1)); (replace row2 := row2.below hb4 (block_lt_of_cell (row2 0 (by omega)).1)); (replace hs3 := hs3.still hb4); (have hbw4 := below_next hbw3 hb4); clear hb4 hbw3; (have f4 := hs4.form); (obtain ⟨x4, m4, c4, rfl⟩ := f4))
    | (go_at_call 16; refine (p3 _ _ (lent_bytes row1 hcap)).mono ?_; clear p3; rintro e w5 ⟨s5, rfl, hs5, hb5⟩; (replace row1 := row1.below hb5 (block_lt_of_cell (row1 0 (by omega)).1)); (replace row2 := row2.below hb5 (block_lt_of_cell (row2 0 (by omega)).1)); (replace hs3 := hs3.still hb5); (replace hs4 := hs4.still hb5); (have hbw5 := below_next hbw4 hb5); clear hb5 hbw4; (have f5 := hs5.form); (obtain ⟨x5, m5, c5, rfl⟩ := f5))
    | (go_at_call 17; refine (p4 _ _ (hv.still hbw5)).mono ?_; clear p4; rintro e w6 ⟨s6, rfl, hs6, hb6⟩; (replace row1 := row1.below hb6 (block_lt_of_cell (row1 0 (by omega)).1)); (replace row2 := row2.below hb6 (block_lt_of_cell (row2 0 (by omega)).1)); (replace hs3 := hs3.still hb6); (replace hs4 := hs4.still hb6); (replace hs5 := hs5.still hb6); (have hbw6 := below_next hbw5 hb6); clear hb6 hbw5; (have f6 := hs6.form); (obtain ⟨x6, m6, c6, rfl⟩ := f6))
    | (go_at_call 18; refine (p5 _ _ _ (lent_bytes row1 hcap) (lent_bytes row2 hcap2)).mono ?_; clear p5; rintro e w7 ⟨s7, rfl, hs7, hb7⟩; (replace row1 := row1.below hb7 (block_lt_of_cell (row1 0 (by omega)).1)); (replace row2 := row2.below hb7 (block_lt_of_cell (row2 0 (by omega)).1)); (replace hs3 := hs3.still hb7); (replace hs4 := hs4.still hb7); (replace hs5 := hs5.still hb7); (replace hs6 := hs6.still hb7); (have hbw7 := below_next hbw6 hb7); clear hb7 hbw6; (have f7 := hs7.form); (obtain ⟨x7, m7, c7, rfl⟩ := f7))
    | (go_at_call 19; refine (p6 _ _ _ (hv.still hbw7) (hu.still hbw7)).mono ?_; clear p6; rintro e w8 ⟨s8, rfl, hs8, hb8⟩; (replace row1 := row1.below hb8 (block_lt_of_cell (row1 0 (by omega)).1)); (replace row2 := row2.below hb8 (block_lt_of_cell (row2 0 (by omega)).1)); (have hbw8 := below_next hbw7 hb8); (have f8 := hs8.form); (obtain ⟨x8, m8, c8, rfl⟩ := f8); (have q3 := hs3.conv w8 hb8); (have q4 := hs4.conv w8 hb8); (have q5 := hs5.conv w8 hb8); (have q6 := hs6.conv w8 hb8); (have q7 := hs7.conv w8 hb8); (have q8 := hs8.conv w8 (Below.refl _ _)); clear hb8 hbw7 hs3 hs4 hs5 hs6 hs7 hs8; (have cS := stays_any g cap n (.slice xo n cx) bs hbs w8 hn hcap row1 (hv.still hbw8)); (have cT := fun W hb => stays_any g2 cap2 m (.slice yo m cy) cs hcs W hm hcap2 (row2.below hb (block_lt_of_cell (row2 0 (by omega)).1)) ((hu.still hbw8).still hb)))
    | (go_at_call 11; refine (num5_any _ _).mono ?_; rintro e wn ⟨rfl, hwn⟩; subst hwn)
    | (go_at_call 12; refine cS.mono ?_; clear cS; rintro e w9 ⟨rfl, hb9⟩)
    | (go_at_call 12; refine (cT _ hb9).mono ?_; clear cT; rintro e w10 ⟨rfl, hb10⟩)
    | (go_at_call 13; refine (hK _).mono ?_; clear hK; rintro e w11 ⟨rfl, hb11⟩))
  go_ret
  exact ⟨rfl, below_next (below_next (below_next hbw8 hb9) hb10) hb11⟩
end Go.Proofs.Ytjbjbnooocbleaa
