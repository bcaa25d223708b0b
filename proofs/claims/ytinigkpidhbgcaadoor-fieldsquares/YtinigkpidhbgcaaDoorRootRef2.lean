/- The reference's Minus1 in the model. -/
import Derived.Test.YtinigkpidhbgcaaDoorRootRef
namespace Go.Proofs.YtinigkpidhbgcaaDoor
open Go.RowKit
theorem Rep.to {L : Nat → Int} {x y : Nat} (h : Rep L x) (e : x % pF = y % pF) : Rep L y := ⟨h.dig, by rw [h.val, e]⟩
theorem smL_dig (x : Int) (h0 : 0 ≤ x) (h2 : x ≤ 9223372036854775807) : Dig 65535 (smL x) := by
  have e0 : ∀ j, 0 ≤ smL x j ∧ smL x j ≤ 65535 := fun j => by
    unfold smL
    split
    · omega
    · split
      · have : (65536 : Int) ^ 3 = 281474976710656 := by decide
        rw [this]; omega
      · decide
  exact ⟨by have := e0 0; omega, fun j _ _ => e0 j⟩
theorem rep_small (x : Nat) (h : x ≤ 9223372036854775807) : Rep (carryL (smL x)) x := by
  refine ⟨(carry_fine _ ((smL_dig x (by omega) (by omega)).mono (by decide))).1, ?_⟩
  rw [valR_carry, smL_val, show ∀ a b P : Int, a - b * 2 * P = a + P * (-(b * 2)) from fun a b P => by rw [Int.mul_neg, Int.mul_comm P]; omega, Int.add_mul_emod_self_left, nat_mod]
theorem rsmall_rep (x : Nat) (h : x ≤ 9223372036854775807) (w : World) : Calls Tryd.prog 37 #[.int .i64 x] w fun e w' => ∃ R, e = .returned (.agg (intsI 16 R).toArray) ∧ Rep R x ∧ Below w.heap.size w w' :=
  (rsmall_any x (by omega) (by omega) w).mono fun e w' ⟨he, hb⟩ => ⟨_, he, rep_small x h, hb⟩
set_option maxRecDepth 20000 in
set_option maxHeartbeats 2000000 in
theorem rminus1_any (w : World) : Calls Tryd.prog 44 #[] w fun e w' => ∃ R, e = .returned (.agg (intsI 16 R).toArray) ∧ Rep R iM ∧ Below w.heap.size w w' := by
  have hz := zeroR
  have c2 : ∀ W, Calls Tryd.prog 37 #[.int .i64 2] W fun e w' => ∃ R, e = .returned (.agg (intsI 16 R).toArray) ∧ Rep R 2 ∧ Below W.heap.size W w' := fun W => rsmall_rep 2 (by decide) W
  have cp : ∀ W A, Rep A 2 → Calls Tryd.prog 34 #[.agg (intsI 16 A).toArray, .int .i64 253, .int .i64 3, .int .i64 3] W fun e w' => ∃ R, e = .returned (.agg (intsI 16 R).toArray) ∧ Rep R iM ∧ Below W.heap.size W w' := fun W A hA =>
    (rpow4_any A 2 hA W).mono fun e w' ⟨R, he, hR, hb⟩ => ⟨R, he, hR.to (by rw [iM_pow]; rfl), hb⟩
  have hbW : Below w.heap.size w (w.alloc (.cells zI 46)) := (Below.refl _ _).alloc (Nat.le_refl _) _
  have hres : IRow (w.alloc (.cells zI 46)) w.heap.size 16 (fun _ => 0) := IRow.fresh w zI _ (fun j hj => zI_at j hj)
  have hsz : w.heap.size < (w.alloc (.cells zI 46)).heap.size := by simp
  have hi2 := infoRA
  have ho := oneR
  go_enter Tryd.func44, Tryd.ntmps44
  go_wp2_with (first
    | (go_at_call 37; refine (c2 _).mono ?_; clear c2; rintro e w1 ⟨R1, rfl, hR1, hb1⟩; (have hr1 := hres.below hb1 hsz); (have hs1 := Nat.lt_of_lt_of_le hsz hb1.size); (have hw1 := hbW.trans (hb1.mono hbW.size)); replace cp := cp w1 R1 hR1)
    | (go_at_call 34; refine cp.mono ?_; clear cp; rintro e w2 ⟨R, rfl, hR, hb2⟩; (have hr2 := hr1.below hb2 hs1); (have hth : w2.there w.heap.size 0 (intsI 16 R).toArray.size := by rw [intsI_size]; exact hr2.there); (have hw2 := below_next hw1 hb2))
    | (with_reducible (refine id (?_ : wpList _ _ _ _ _ _)); refine wpList_store_mid rfl 46 _ _ rfl w.heap.size 0 (intsI 16 R).toArray rfl rfl hth (hi2 R) (ho R) ?_))
  (try simp only [Exit.inBlock, Exit.then])
  refine bodyPost_ret (results_cell_mid Tryd.results44 _ _ w.heap.size 0 (intsI 16 R) _ rfl (World.rangeAt_setCells_same _ _ _ _ (by rw [intsI_len]; exact hr2.there)) Tryd.underlying46 rfl (infoRL R)) rfl ⟨R, rfl, hR, ?_⟩
  exact below_setCells (Nat.le_refl _) _ _ _ hw2
end Go.Proofs.YtinigkpidhbgcaaDoor
