/- What then, ones250 and Inverse of a Number do in the model. -/
import Derived.Test.YtinigkpidhbgcaaBoth
namespace Go.Proofs.Ytinigkpidhbgcaa
open Go.RowKit
theorem pF_pos : 0 < pF := by decide
/-- Squared so often. -/
def sqN (n k : Nat) : Nat := n ^ (2 ^ k) % pF
theorem sqN_lt (n k : Nat) : sqN n k < pF := Nat.mod_lt _ pF_pos
theorem sqN_zero (n : Nat) (h : n < pF) : sqN n 0 = n := by unfold sqN; rw [Nat.pow_zero, Nat.pow_one, Nat.mod_eq_of_lt h]
theorem sqN_step (n k : Nat) : sqN n k * sqN n k % pF = sqN n (k + 1) := by
  unfold sqN
  rw [← Nat.mul_mod, ← Nat.pow_add, Nat.pow_succ, Nat.mul_two]
theorem FourAt.numAt {w : World} {g n : Nat} (h : FourAt w g (.int .u64 (lw n 0)) (.int .u64 (lw n 1)) (.int .u64 (lw n 2)) (.int .u64 (lw n 3))) : NumAt w g n := ⟨h.c0, h.c1, h.c2, h.c3⟩
/-- A Number in memory that may be written. -/
def NumW (w : World) (g n : Nat) : Prop := FourAt w g (.int .u64 (lw n 0)) (.int .u64 (lw n 1)) (.int .u64 (lw n 2)) (.int .u64 (lw n 3))
theorem NumW.ex {w : World} {g n : Nat} (h : NumW w g n) : ∃ x0 x1 x2 x3 : Nat, numV n = .agg #[.int .u64 x0, .int .u64 x1, .int .u64 x2, .int .u64 x3] ∧ FourAt w g (.int .u64 x0) (.int .u64 x1) (.int .u64 x2) (.int .u64 x3) := ⟨_, _, _, _, rfl, h⟩
set_option maxRecDepth 20000 in
set_option maxHeartbeats 2000000 in
theorem then_any (n m k : Nat) (hn : n < pF) (hm : m < pF) (hk : k < 1000) (w : World) :
    Calls Try.prog 52 #[numV n, .int .i64 k, .func (.func 39) #[numV m] #[]] w fun e w' => e = .returned (numV (m * sqN n k % pF)) ∧ Below w.heap.size w w' := by
  have ct := fun W => times_any m (sqN n k) hm (sqN_lt n k) W
  obtain ⟨R, hR⟩ : ∃ R, R = m * sqN n k % pF := ⟨_, rfl⟩
  rw [← hR] at ct ⊢
  obtain ⟨z0, z1, z2, z3, hz⟩ := numV_ex R
  obtain ⟨m0, m1, m2, m3, hmv⟩ := numV_ex m
  rw [hz] at ct ⊢
  rw [hmv] at ct ⊢
  obtain ⟨W, hW⟩ : ∃ W, W = (w.alloc (.cells #[.int .u64 (lw n 0), .int .u64 (lw n 1), .int .u64 (lw n 2), .int .u64 (lw n 3)] 46)).alloc (.cells #[.int .u64 0, .int .u64 0, .int .u64 0, .int .u64 0] 46) := ⟨_, rfl⟩
  have HW := Hid.mk' hW
  have hWs : W.heap.size = w.heap.size + 1 + 1 := by rw [hW]; simp
  have hbW : Below w.heap.size w W := by rw [hW]; exact ((Below.refl _ _).alloc (Nat.le_refl _) _).alloc (by simp) _
  have hA : NumW W w.heap.size (sqN n 0) := by rw [sqN_zero n hn, hW]; exact (four_fresh w _ _ _ _ _).below ((Below.refl _ _).alloc (Nat.le_refl _) _) (by simp)
  have hB : FourAt W (w.heap.size + 1) (.int .u64 0) (.int .u64 0) (.int .u64 0) (.int .u64 0) := by
    have := four_fresh (w.alloc (.cells #[.int .u64 (lw n 0), .int .u64 (lw n 1), .int .u64 (lw n 2), .int .u64 (lw n 3)] 46)) (.int .u64 0) (.int .u64 0) (.int .u64 0) (.int .u64 0) 46
    rw [World.size_alloc] at this
    rw [hW]; exact this
  unfold numV
  clear hW hR hz hmv
  go_enter Try.func52, Try.ntmps52
  go_wp2
  rw [← HW.out]
  go_loopw [8] (fun i wr => ∃ q : Nat, q ≤ k ∧ i = .int .i64 q ∧ NumW wr w.heap.size (sqN n q) ∧ FourAt wr (w.heap.size + 1) (.int .u64 0) (.int .u64 0) (.int .u64 0) (.int .u64 0) ∧ Below w.heap.size w wr ∧ w.heap.size + 1 < wr.heap.size) (fun i _ => k - (intOf i).toNat)
  case atStart => exact ⟨0, Nat.zero_le _, rfl, hA, hB, hbW, by omega⟩
  case round =>
    clear hA hB hbW
    obtain ⟨q, hq, rfl, hA, hB, hb, hs⟩ := hrel
    by_cases hlt : q < k
    · have cs := times_any (sqN n q) (sqN n q) (sqN_lt n q) (sqN_lt n q) wr
      rw [sqN_step] at cs
      obtain ⟨x0, x1, x2, x3, hx, hA'⟩ := hA.ex
      have hy : ∃ y0 y1 y2 y3 : Nat, numV (sqN n (q + 1)) = .agg #[.int .u64 y0, .int .u64 y1, .int .u64 y2, .int .u64 y3] ∧ ∀ W, FourAt W w.heap.size (.int .u64 y0) (.int .u64 y1) (.int .u64 y2) (.int .u64 y3) → NumW W w.heap.size (sqN n (q + 1)) := ⟨_, _, _, _, rfl, fun _ h => h⟩
      obtain ⟨y0, y1, y2, y3, hye, hyn⟩ := hy
      rw [hx, hye] at cs
      obtain ⟨c0, c1, c2, c3, f0, f1, f2, f3⟩ := id hA'
      clear ct hx hye hA
      go_wp2_with (go_at_call 39; refine cs.mono ?_; clear cs; rintro e w1 ⟨rfl, hb1⟩; (have A1 := hA'.below hb1 (by omega)); clear c0 c1 c2 c3 f0 f1 f2 f3; obtain ⟨c0, c1, c2, c3, f0, f1, f2, f3⟩ := id A1)
      go_roundw
      case rel =>
        refine ⟨q + 1, by omega, by go_num, hyn _ (A1.set _ _ _ _), (hB.below hb1 (by omega)).far (by omega) _ _ _ _, below_set4' (hb.trans (hb1.mono hb.size)) (Nat.le_refl _) _ _ _ _, ?_⟩
        show w.heap.size + 1 < (set4 _ _ _ _ _ _).heap.size
        rw [size_set4]; have := hb1.size; omega
      case measure => simp [intOf]; omega
    · have hqe : q = k := by omega
      rw [hqe] at hA
      obtain ⟨x0, x1, x2, x3, hx, hA'⟩ := hA.ex
      have ct' := ct wr
      rw [hx] at ct'
      obtain ⟨c0, c1, c2, c3, f0, f1, f2, f3⟩ := id hA'
      clear ct hx hA
      go_wp2_with (go_at_call 39; refine ct'.mono ?_; clear ct'; rintro e w1 ⟨rfl, hb1⟩; (have B1 := hB.below hb1 (by omega)); (have ht1 := B1.there); clear c0 c1 c2 c3 f0 f1 f2 f3; obtain ⟨c0, c1, c2, c3, f0, f1, f2, f3⟩ := B1)
      (try simp only [Exit.inBlock, Exit.then])
      exact bodyPost_ret (results_set4 Try.results52 _ _ _ _ _ _ _ ht1 rfl Try.underlying46 rfl (by kernel_rfl)) rfl ⟨rfl, below_set4 (hb.trans (hb1.mono hb.size)) (by omega) _ _ _ _⟩
end Go.Proofs.Ytinigkpidhbgcaa
