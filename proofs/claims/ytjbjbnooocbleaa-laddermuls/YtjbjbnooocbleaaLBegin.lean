/- What begin and bitsDown do in the model. -/
import Derived.Test.YtjbjbnooocbleaaLRung
namespace Go.Proofs.Ytjbjbnooocbleaa
open Go.RowKit
theorem c4_one : c4 1 = [.int .u64 1, .int .u64 0, .int .u64 0, .int .u64 0] := by kernel_rfl
set_option maxRecDepth 20000 in
set_option maxHeartbeats 4000000 in
theorem begin_any (u : Nat) (w : World) :
    Calls Try.prog 36 #[numV u] w fun e w' => ∃ g, e = .returned (.pointer (some ⟨g, 0, none⟩)) ∧ w.heap.size ≤ g ∧ Below w.heap.size w w' ∧ RW w' g 0 (c8 1 0) ∧ RW w' g 8 (c8 u 1) ∧ RW w' g 16 (c4 u) := by
  have hS := fun W => fsmall_pos 1 (by decide) W
  have e1 : numV 1 = .agg #[.int .u64 1, .int .u64 0, .int .u64 0, .int .u64 0] := by kernel_rfl
  rw [e1] at hS
  clear e1
  obtain ⟨W0, hW0⟩ : ∃ W, W = w.alloc (.cells #[.int .u64 (lw u 0), .int .u64 (lw u 1), .int .u64 (lw u 2), .int .u64 (lw u 3)] 42) := ⟨_, rfl⟩
  have hb0 : Below w.heap.size w W0 := by rw [hW0]; exact (Below.refl _ _).alloc (Nat.le_refl _) _
  have f0 : FourAt W0 w.heap.size (.int .u64 (lw u 0)) (.int .u64 (lw u 1)) (.int .u64 (lw u 2)) (.int .u64 (lw u 3)) := by rw [hW0]; exact four_fresh _ _ _ _ _ _
  have hl0 : w.heap.size < W0.heap.size := by rw [hW0]; simp
  have HW := Hid.mk' hW0
  clear hW0
  rw [show numV u = .agg #[.int .u64 (lw u 0), .int .u64 (lw u 1), .int .u64 (lw u 2), .int .u64 (lw u 3)] from rfl]
  go_enter Try.func36, Try.ntmps36
  go_wp2_with (go_at_call 32; rw [← HW.out]; refine (hS _).mono ?_; clear hS HW; rintro e w1 ⟨rfl, hb1⟩; (obtain ⟨c0, c1, c2, c3, f0, f1, f2, f3⟩ := f0.below hb1 hl0); (have hlt := Nat.lt_of_lt_of_le hl0 hb1.size); (have hne : w.heap.size ≠ w1.heap.size := by omega))
  go_ret
  have hr := RW.fresh (w1.alloc (.cells #[.int .u64 1, .int .u64 0, .int .u64 0, .int .u64 0] 42)) (c8 1 0 ++ (c8 u 1 ++ c4 u)) 71
  have hs : (w1.alloc (.cells #[.int .u64 1, .int .u64 0, .int .u64 0, .int .u64 0] 42)).heap.size = w1.heap.size + 1 := by simp
  have hb2 : Below w1.heap.size w1 ((w1.alloc (.cells #[.int .u64 1, .int .u64 0, .int .u64 0, .int .u64 0] 42)).alloc (.cells (c8 1 0 ++ (c8 u 1 ++ c4 u)).toArray 71)) := ((Below.refl _ _).alloc (Nat.le_refl _) _).alloc (by simp) _
  rw [hs] at hr
  have e : (c8 1 0 ++ (c8 u 1 ++ c4 u)).toArray = #[.int .u64 1, .int .u64 0, .int .u64 0, .int .u64 0, .int .u64 0, .int .u64 0, .int .u64 0, .int .u64 0, .int .u64 (lw u 0), .int .u64 (lw u 1), .int .u64 (lw u 2), .int .u64 (lw u 3), .int .u64 1, .int .u64 0, .int .u64 0, .int .u64 0, .int .u64 (lw u 0), .int .u64 (lw u 1), .int .u64 (lw u 2), .int .u64 (lw u 3)] := by
    unfold c8; rw [c4_one, c4_zero]; rfl
  have hl : RW _ _ 0 (c8 1 0) := hr.left
  have hm : RW _ _ 8 (c8 u 1 ++ c4 u) := hr.right
  have hm1 : RW _ _ 8 (c8 u 1) := hm.left
  have hm2 : RW _ _ 16 (c4 u) := hm.right
  rw [e] at hl hm1 hm2 hb2
  have h1 := hb1.size
  exact ⟨_, rfl, by omega, (hb0.trans (hb1.mono (Nat.le_of_lt hl0))).trans (hb2.mono (by omega)), hl, hm1, hm2⟩
theorem bitsDown_any (x : Option Addr) (n c : Nat) (w : World) : Calls Try.prog 37 #[.slice x n c] w fun e w' => e = .returned (.func (.func 46) #[] #[.pointer (some ⟨w.heap.size, 0, none⟩)]) ∧ w' = w.alloc (.cells #[.slice x n c] 22) := by
  go_enter Try.func37, Try.ntmps37
  go_wp2
  go_ret
  exact ⟨rfl, rfl⟩
end Go.Proofs.Ytjbjbnooocbleaa
