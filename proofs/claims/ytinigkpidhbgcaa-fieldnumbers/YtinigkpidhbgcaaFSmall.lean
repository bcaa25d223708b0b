/- What Small of package field does in the model. -/
import Derived.Test.YtinigkpidhbgcaaNumber
namespace Go.Proofs.Ytinigkpidhbgcaa
open Go.RowKit
theorem numV_small (n : Nat) (h : n < 18446744073709551616) : (Value.agg #[.int .u64 n, .int .u64 0, .int .u64 0, .int .u64 0] : Value) = numV n :=
  numV_of n n 0 0 0 h (by decide) (by decide) (by decide) (by unfold val4; omega)
set_option maxRecDepth 20000 in
set_option maxHeartbeats 2000000 in
theorem fsmall_pos (n : Nat) (h : n ≤ 9223372036854775807) (w : World) : Calls Try.prog 33 #[.int .i64 n] w fun e w' => e = .returned (numV n) ∧ Below w.heap.size w w' := by
  have fin := Hid.mk' (numV_small n (by omega))
  have hni : ¬(n : Int) < 0 := by omega
  go_enter Try.func33, Try.ntmps33
  go_wp2
  (try simp only [Exit.inBlock, Exit.then])
  exact bodyPost_ret (results_fresh4 Try.results33 _ _ _ _ _ _ _ rfl Try.underlying46 rfl (by kernel_rfl)) rfl ⟨by rw [fin.out], (Below.refl _ _).alloc (Nat.le_refl _) _⟩
set_option maxRecDepth 20000 in
set_option maxHeartbeats 2000000 in
theorem fsmall_neg (m : Nat) (h0 : 0 < m) (h : m ≤ 9223372036854775808) (w : World) : Calls Try.prog 33 #[.int .i64 (-(m : Int))] w fun e w' => e = .returned (numV ((0 + pF - m) % pF)) ∧ Below w.heap.size w w' := by
  have hm := numV_small m (by omega)
  have cm := fun W => minus_any 0 m (by decide) (by unfold pF; omega) W
  rw [numV_zero, ← hm] at cm
  obtain ⟨N, hN⟩ : ∃ N, N = (0 + pF - m) % pF := ⟨_, rfl⟩
  rw [← hN] at cm ⊢
  obtain ⟨z0, z1, z2, z3, hz⟩ := numV_ex N
  rw [hz] at cm ⊢
  have hlt : -(m : Int) < 0 := by omega
  have hwr := Hid.mk' (show IntKind.u64.wrap (wrap64 (m : Int)) = (m : Int) by rw [IntKind.wrap_u64]; unfold wrap64; omega)
  clear hN hz hm
  go_enter Try.func33, Try.ntmps33
  go_wp2_with (go_at_call 37; rw [hwr.out]; refine (cm _).mono ?_; clear cm; rintro e w1 ⟨rfl, hb1⟩; (obtain ⟨ht1, hbw, ⟨t0, t1, t2, t3⟩, hf⟩ := behind' hb1); (have f0 := hf 0 (by decide)); (have f1 := hf 1 (by decide)); (have f2 := hf 2 (by decide)); (have f3 := hf 3 (by decide)); clear hb1 hf)
  (try simp only [Exit.inBlock, Exit.then])
  exact bodyPost_ret (results_set4 Try.results33 _ _ _ _ _ _ _ ht1 rfl Try.underlying46 rfl (by kernel_rfl)) rfl ⟨rfl, below_set4 hbw (Nat.le_refl _) _ _ _ _⟩
end Go.Proofs.Ytinigkpidhbgcaa
