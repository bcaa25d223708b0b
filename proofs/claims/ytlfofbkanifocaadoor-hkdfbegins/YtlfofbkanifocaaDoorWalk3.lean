/- The walk of the law HkdfExpands in the model. -/
import Derived.Test.YtlfofbkanifocaaDoorRefExpand
import Derived.Test.YtlfofbkanifocaaDoorWalk2
namespace Go.Proofs.YtlfofbkanifocaaDoor
open Go.RowKit
theorem outF_lt (kv : Nat → Nat) (m : Nat) (info : Nat → Nat) (N j : Nat) : outF kv m info N j < 256 := by
  unfold outF
  split
  · exact tE_lt _ _ _ _ _
  · decide
theorem bytesIn_nil (w : World) (X : Nat → Nat) : BytesIn w (.slice none 0 0) 0 X := .inl ⟨none, rfl, rfl⟩
set_option maxRecDepth 20000 in
set_option maxHeartbeats 2000000 in
theorem hkdfExpands_any (v0 v1 : Value) (n0 n1 : Nat) (bs0 bs1 : Nat → Nat) (hl0 : ∀ j, bs0 j < 256) (hl1 : ∀ j, bs1 j < 256) (z : Int) (w : World) (hT : Tab w cubeK squareK) (hv0 : BytesIn w v0 n0 bs0) (hv1 : BytesIn w v1 n1 bs1) (hn0 : n0 < 140737488352000) (hn1 : n1 < 140737488352000) :
    Calls Tryd.prog 9 #[v0, v1, .int .i64 z] w fun e w' => e = .returned (.bool true) ∧ Below w.heap.size w w' := by
  have h3 := hT.size
  have hlent0 := lent_any v0 n0 bs0 w hv0 (by omega)
  have hlent1 := fun W (hW : Below w.heap.size w W) => lent_any v1 n1 bs1 W (hv1.keep hW) (by omega)
  obtain ⟨N, E, X, hXl, hs1, hs2⟩ : ∃ (N : Nat) (E : Int) (X : Nat → Nat), (∀ j, X j < 256) ∧ (∀ (W : World) (g0 cap0 g1 cap1 : Nat), Below w.heap.size w W → n0 ≤ cap0 → RowAt .u8 W g0 0 (n0 + 2) (cat n0 bs0 room) → n1 ≤ cap1 → RowAt .u8 W g1 0 (n1 + 2) (cat n1 bs1 room) → Calls Tryd.prog 29 #[.slice (some ⟨g0, 0, none⟩) n0 cap0, .slice (some ⟨g1, 0, none⟩) n1 cap1, .int .i64 z] W fun e w' => ∃ va, e = .returned (.tuple #[va, .int .i64 E]) ∧ BytesIn w' va N X ∧ Below W.heap.size W w')
      ∧ (∀ W, Below w.heap.size w W → Calls Tryd.prog 30 #[v0, v1, .int .i64 z] W fun e w' => ∃ vb, e = .returned (.tuple #[vb, .int .i64 E]) ∧ BytesIn w' vb N X ∧ Below W.heap.size W w') := by
    by_cases hz : z < 0 ∨ 8160 < z
    · refine ⟨0, 6, fun _ => 0, fun _ => Nat.zero_lt_succ _, fun W g0 cap0 g1 cap1 hW hc0 hr0 hc1 hr1 => ?_, fun W hW => ?_⟩
      · refine (expand_err _ _ z hz W).mono ?_
        rintro e w' ⟨rfl, hb⟩
        exact ⟨_, rfl, bytesIn_nil _ _, hb⟩
      · refine (rExpand_err _ _ z hz W).mono ?_
        rintro e w' ⟨rfl, hb⟩
        exact ⟨_, rfl, bytesIn_nil _ _, hb⟩
    · obtain ⟨N, rfl⟩ : ∃ N : Nat, z = (N : Int) := ⟨z.toNat, by omega⟩
      have hN : N ≤ 8160 := by omega
      refine ⟨N, 0, outF (keyB n0 bs0) n1 bs1 N, outF_lt _ _ _ _, fun W g0 cap0 g1 cap1 hW hc0 hr0 hc1 hr1 => ?_, fun W hW => ?_⟩
      · refine (expand_any (some ⟨g0, 0, none⟩) (some ⟨g1, 0, none⟩) n0 n1 cap0 cap1 bs0 bs1 hl0 hl1 (by omega) (by omega) W (hT.below hW h3) (bytesIn_lent hc0 hr0) (bytesIn_lent hc1 hr1) N hN).mono ?_
        rintro e w' ⟨g, rfl, hg, hr, hb⟩
        refine ⟨_, rfl, ?_, hb⟩
        by_cases h0 : N = 0
        · subst h0; exact .inl ⟨_, rfl, rfl⟩
        · exact .inr ⟨g, 0, N, rfl, block_lt_of_cell (hr 0 (by omega)).1, Nat.le_refl _, fun j hj => (hr j hj).1⟩
      · exact rExpand_any v0 v1 n0 n1 bs0 bs1 hl0 hl1 (by omega) (by omega) W (hv0.keep hW) (hv1.keep hW) N hN
  have hs30 := fun (W : World) (g cap : Nat) (hW : Below w.heap.size w W) => stays_any g cap n0 v0 bs0 hl0 W (by omega)
  have hs31 := fun (W : World) (g cap : Nat) (hW : Below w.heap.size w W) => stays_any g cap n1 v1 bs1 hl1 W (by omega)
  have hk := fun W (hW : Below w.heap.size w W) => knows2_any W (hT.below hW h3)
  have hvk0 := fun W (hW : Below w.heap.size w W) => hv0.keep hW
  have hvk1 := fun W (hW : Below w.heap.size w W) => hv1.keep hW
  clear hT hv0 hv1
  go_enter Tryd.func9, Tryd.ntmps9
  go_wp2_with (first
    | (go_at_call 12; refine hlent0.mono ?_; clear hlent0; rintro e wa ⟨g0, cap0, rfl, hcap0, hg0, hrow0, hba⟩; replace hlent1 := hlent1 wa hba; (have hga0 : g0 < wa.heap.size := block_lt_of_cell (hrow0 0 (by omega)).1))
    | (go_at_call 12; refine hlent1.mono ?_; clear hlent1; rintro e w1 ⟨g1, cap1, rfl, hcap1, hg1, hrow1, hbb⟩; (have hb1 : Below w.heap.size w w1 := hba.trans (hbb.mono hba.size)); have hzz := hbb.size; replace hrow0 := hrow0.below hbb hga0; (have hgl0 : g0 < w1.heap.size := by omega); (have hgl1 : g1 < w1.heap.size := block_lt_of_cell (hrow1 0 (by omega)).1); replace hs1 := hs1 w1 g0 cap0 g1 cap1 hb1 (by omega) hrow0 (by omega) hrow1)
    | (go_at_call 29; refine hs1.mono ?_; clear hs1; rintro e w2 ⟨va, rfl, hbi, hb2⟩; (have hbw2 : Below w.heap.size w w2 := hb1.trans (hb2.mono hb1.size)); replace hs2 := hs2 w2 hbw2)
    | (go_at_call 30; refine hs2.mono ?_; clear hs2; rintro e w3 ⟨vb, rfl, hbi3, hb3⟩; (have hbw3 : Below w.heap.size w w3 := hbw2.trans (hb3.mono hbw2.size)); have c1 := hbi.conv hXl w3 hb3; have c2 := hbi3.conv hXl w3 (Below.refl _ _); have hrow3 := hrow0.below (hb2.trans (hb3.mono hb2.size)) hgl0; have hs3' := hs30 w3 g0 cap0 hbw3 hcap0 hrow3 (hvk0 w3 hbw3))
    | (go_at_call 31; refine (num2_any _ _).mono ?_; rintro e wn ⟨rfl, hwn⟩; subst hwn)
    | (go_at_call 15; refine hs3'.mono ?_; clear hs3'; rintro e w4 ⟨rfl, hb4⟩; have hbw4 : Below w.heap.size w w4 := hbw3.trans (hb4.mono hbw3.size); have hrow4 := hrow1.below (hb2.trans ((hb3.mono hb2.size).trans (hb4.mono (Nat.le_trans hb2.size hb3.size)))) hgl1; have hs4' := hs31 w4 g1 cap1 hbw4 hcap1 hrow4 (hvk1 w4 hbw4))
    | (go_at_call 15; refine hs4'.mono ?_; clear hs4'; rintro e w5 ⟨rfl, hb5⟩; have hbw5 : Below w.heap.size w w5 := hbw4.trans (hb5.mono hbw4.size); have hk5 := hk w5 hbw5)
    | (go_at_call 26; refine hk5.mono ?_; rintro e w6 ⟨rfl, hb6⟩; have hbw6 : Below w.heap.size w w6 := hbw5.trans (hb6.mono hbw5.size)))
  go_ret
  exact ⟨rfl, hbw6⟩
end Go.Proofs.YtlfofbkanifocaaDoor
