/- The law FieldRoots. -/
import Derived.Test.YtinigkpidhbgcaaDoorRootApi
import Derived.Test.YtinigkpidhbgcaaDoorSums
namespace Go.Proofs.YtinigkpidhbgcaaDoor
open Go.RowKit
theorem evn_lt {x : Nat} (h : x < pF) : evn x < pF := by
  unfold evn
  split
  · exact Nat.mod_lt _ pF_pos
  · exact h
theorem opt_lt (c : Prop) [Decidable c] (x P : Nat) (h : x < P) (h0 : 0 < P) : (if c then some x else none : Option Nat).getD 0 < P := by
  split
  · exact h
  · exact h0
theorem rootR_lt (k u v : Nat) : (rootR k u v).getD 0 < pF := opt_lt _ _ pF (evn_lt (rootZ_lt k u v)) pF_pos
set_option maxRecDepth 20000 in
set_option maxHeartbeats 4000000 in
theorem fieldRoots_any (v u : Value) (n m : Nat) (bs cs : Nat → Nat) (hbs : ∀ j, bs j < 256) (hcs : ∀ j, cs j < 256) (w : World) (im : IM w) (hv : BytesIn w v n bs) (hu : BytesIn w u m cs) (hn : n < 140737488355000) (hm : m < 140737488355000) : Calls Tryd.prog 3 #[v, u] w fun e w' => e = .returned (.bool true) ∧ Below w.heap.size w w' := by
  have hL1 := lent_any v n bs w hv hn
  have hL2 := fun W h => lent_any u m cs W (hu.still h) hm
  have hK := fun W => knows3_any W
  have pM : ∃ (S : ByteArray) (ok : Bool) (er : Int),
      (∀ x y W, IM W → BytesIn W x n bs → BytesIn W y m cs → Calls Tryd.prog 6 #[x, y] W fun e w' => ∃ s, e = .returned (.tuple #[s, .bool ok, .int .i64 er]) ∧ Str w' s S ∧ Below W.heap.size W w') ∧ (∀ x y W, BytesIn W x n bs → BytesIn W y m cs → Calls Tryd.prog 7 #[x, y] W fun e w' => ∃ s, e = .returned (.tuple #[s, .bool ok, .int .i64 er]) ∧ Str w' s S ∧ Below W.heap.size W w') := by
    by_cases h : n = 32 ∧ m = 32
    · obtain ⟨rfl, rfl⟩ := h
      have hs := root_same kP_eq (Nat.mod_lt (ofB bs 32) pF_pos) (Nat.mod_lt (ofB cs 32) pF_pos)
      have hl := rootR_lt kP (ofB bs 32 % pF) (ofB cs 32 % pF)
      have a1 := fun x y W hi hx hy => froot_good x y bs cs hbs hcs W hi hx hy
      have a2 := fun x y W hx hy => rroot_good x y bs cs hbs hcs W hx hy
      rw [hs] at a1
      rw [Nat.mod_eq_of_lt hl] at a2
      exact ⟨_, _, 0, fun x y W hi hx hy => (a1 x y W hi hx hy).mono fun e w' ⟨s, he, hs, hb⟩ => ⟨s, he, hs.str, hb⟩, fun x y W hx hy => (a2 x y W hx hy).mono fun e w' ⟨s, he, hs, hb⟩ => ⟨s, he, Str.of hs (byt_all _), hb⟩⟩
    · exact ⟨_, false, 1, fun x y W hi hx hy => (froot_bad x y n m bs cs hbs hcs W hx hy h).mono fun e w' ⟨he, hb⟩ => ⟨_, he, Str.nil w', hb⟩, fun x y W hx hy => by
        obtain ⟨xo, cx, rfl, -⟩ := hx.src
        obtain ⟨yo, cy, rfl, -⟩ := hy.src
        exact (rroot_bad xo yo n m cx cy W h).mono fun e w' ⟨he, hw⟩ => ⟨_, he, Str.nil w', by rw [hw]; exact Below.refl _ _⟩⟩
  obtain ⟨S, ok, er, p1, p2⟩ := pM
  obtain ⟨xo, cx, hve, -, -, -⟩ := hv.src
  subst hve
  obtain ⟨yo, cy, hue, -, -, -⟩ := hu.src
  subst hue
  go_enter Tryd.func3, Tryd.ntmps3
  go_wp2_with (first
    | (go_at_call 5; refine hL1.mono ?_; clear hL1; rintro e w1 ⟨g, cap, rfl, hcap, hg, row1, hbw1⟩)
    | (go_at_call 5; refine (hL2 _ hbw1).mono ?_; clear hL2; rintro e w2 ⟨g2, cap2, rfl, hcap2, hg2, row2, hb2⟩; (replace row1 := row1.below hb2 (block_lt_of_cell (row1 0 (by omega)).1)); (have hbw2 := below_next hbw1 hb2); clear hb2 hbw1)
    | (go_at_call 6; refine (p1 _ _ _ (im.still hbw2) (lent_bytes row1 hcap) (lent_bytes row2 hcap2)).mono ?_; clear p1; rintro e w3 ⟨s3, rfl, hs3, hb3⟩; (replace row1 := row1.below hb3 (block_lt_of_cell (row1 0 (by omega)).1)); (replace row2 := row2.below hb3 (block_lt_of_cell (row2 0 (by omega)).1)); (have hbw3 := below_next hbw2 hb3); clear hb3 hbw2; (have f3 := hs3.form); (obtain ⟨x3, m3, c3, rfl⟩ := f3))
    | (go_at_call 7; refine (p2 _ _ _ (hv.still hbw3) (hu.still hbw3)).mono ?_; clear p2; rintro e w4 ⟨s4, rfl, hs4, hb4⟩; (replace row1 := row1.below hb4 (block_lt_of_cell (row1 0 (by omega)).1)); (replace row2 := row2.below hb4 (block_lt_of_cell (row2 0 (by omega)).1)); (have hbw4 := below_next hbw3 hb4); (have f4 := hs4.form); (obtain ⟨x4, m4, c4, rfl⟩ := f4); (have q3 := hs3.conv w4 hb4); (have q4 := hs4.conv w4 (Below.refl _ _)); clear hb4 hbw3 hs3 hs4; (have cS := stays_any g cap n (.slice xo n cx) bs hbs w4 hn hcap row1 (hv.still hbw4)); (have cT := fun W hb => stays_any g2 cap2 m (.slice yo m cy) cs hcs W hm hcap2 (row2.below hb (block_lt_of_cell (row2 0 (by omega)).1)) ((hu.still hbw4).still hb)))
    | (go_at_call 8; refine (num3_any _ _).mono ?_; rintro e wn ⟨rfl, hwn⟩; subst hwn)
    | (go_at_call 9; refine cS.mono ?_; clear cS; rintro e w9 ⟨rfl, hb9⟩)
    | (go_at_call 9; refine (cT _ hb9).mono ?_; clear cT; rintro e w10 ⟨rfl, hb10⟩)
    | (go_at_call 10; refine (hK _).mono ?_; clear hK; rintro e w11 ⟨rfl, hb11⟩))
  go_ret
  exact ⟨rfl, below_next (below_next (below_next hbw4 hb9) hb10) hb11⟩
end Go.Proofs.YtinigkpidhbgcaaDoor
