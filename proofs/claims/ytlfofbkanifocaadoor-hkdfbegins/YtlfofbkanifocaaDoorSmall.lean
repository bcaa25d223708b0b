/- What the small functions of package sha do in the model: turn, turnAll, turnShift, highest and blockSize, at both widths. -/
import Derived.Test.YtlfofbkanifocaaDoorRows
import Derived.Test.YtlfofbkanifocaaDoorMath
import Derived.WalkKit
import Derived.WalkSpells
import Derived.WalkLawsBesides
import Derived.Deep.QuietTactic
import Derived.BigQuiet
namespace Go.Proofs.YtlfofbkanifocaaDoor
open Go.RowKit
theorem retInt {k : IntKind} {a b : Int} (h : a = b) : Ending.returned (.int k a) = .returned (.int k b) := by rw [h]
theorem below_drewN {B : Nat} {a w : World} (h : Below B a w) (n : Nat) : Below B a (w.drewN n) := ⟨h.os, h.tape, h.output, h.size, h.block⟩
theorem turn32_any (x n : Nat) (hx : x < 4294967296) (hn : n ≤ 32) (w : World) :
    Calls Tryd.prog 67 #[.int .u32 x, .int .u64 n, .int .u64 32] w fun e w' => e = .returned (.int .u32 (rot 32 x n)) ∧ w' = w := by
  go_enter Tryd.func67, Tryd.ntmps67
  go_wp2
  go_ret
  exact ⟨retInt (rot32_eq x n hx), rfl⟩
theorem turnAll32_any (x a b c : Nat) (hx : x < 4294967296) (ha : a ≤ 32) (hb : b ≤ 32) (hc : c ≤ 32) (w : World) :
    Calls Tryd.prog 60 #[.int .u32 x, .agg #[.int .u64 a, .int .u64 b, .int .u64 c], .int .u64 32] w fun e w' => e = .returned (.int .u32 (hi3 32 x (a, b, c))) ∧ Below w.heap.size w w' := by
  go_enter Tryd.func60, Tryd.ntmps60
  go_wp2
  go_quiet ((go_at_call 67; exact Calls.quiet_of_same (turn32_any _ _ hx (by assumption) _)))
  go_wp2
  go_ret
  refine ⟨retInt ?_, below_drewN ((Below.refl _ _).alloc (Nat.le_refl _) _) _⟩
  rw [u32_xor_nat _ _ (rot_lt 32 x a hx) (rot_lt 32 x b hx), u32_xor_nat _ _ (Nat.xor_lt_two_pow (rot_lt 32 x a hx) (rot_lt 32 x b hx)) (rot_lt 32 x c hx)]
  rfl
theorem turnShift32_any (x a b c : Nat) (hx : x < 4294967296) (ha : a ≤ 32) (hb : b ≤ 32) (hc : c ≤ 32) (w : World) :
    Calls Tryd.prog 66 #[.int .u32 x, .agg #[.int .u64 a, .int .u64 b, .int .u64 c], .int .u64 32] w fun e w' => e = .returned (.int .u32 (lo3 32 x (a, b, c))) ∧ Below w.heap.size w w' := by
  go_enter Tryd.func66, Tryd.ntmps66
  go_wp2
  go_quiet ((go_at_call 67; exact Calls.quiet_of_same (turn32_any _ _ hx (by assumption) _)))
  go_wp2
  go_ret
  refine ⟨retInt ?_, below_drewN ((Below.refl _ _).alloc (Nat.le_refl _) _) _⟩
  have e1 : (x : Int) / 2 ^ c = ((x / 2 ^ c : Nat) : Int) := by simp
  rw [e1, u32_xor_nat _ _ (rot_lt 32 x a hx) (rot_lt 32 x b hx), u32_xor_nat _ _ (Nat.xor_lt_two_pow (rot_lt 32 x a hx) (rot_lt 32 x b hx)) (Nat.lt_of_le_of_lt (Nat.div_le_self _ _) hx)]
  rfl
theorem highest32_any (x : Nat) (_hx : x < 18446744073709551616) (w : World) :
    Calls Tryd.prog 47 #[.int .u64 x, (.agg #[.int .i64 32, .int .i64 64, .int .u64 7, .int .u64 18, .int .u64 3, .int .u64 17, .int .u64 19, .int .u64 10, .int .u64 2, .int .u64 13, .int .u64 22, .int .u64 6, .int .u64 11, .int .u64 25])] w fun e w' => e = .returned (.int .u32 ((x / 2 ^ (64 - 32) : Nat) : Int)) ∧ Below w.heap.size w w' := by
  go_enter Tryd.func47, Tryd.ntmps47
  go_wp2
  go_ret
  refine ⟨retInt ?_, ((Below.refl _ _).alloc (Nat.le_refl _) _)⟩
  simp
  try omega
theorem blockSize32_any (w : World) :
    Calls Tryd.prog 48 #[(.agg #[.int .i64 32, .int .i64 64, .int .u64 7, .int .u64 18, .int .u64 3, .int .u64 17, .int .u64 19, .int .u64 10, .int .u64 2, .int .u64 13, .int .u64 22, .int .u64 6, .int .u64 11, .int .u64 25])] w fun e w' => e = .returned (.int .i64 64) ∧ Below w.heap.size w w' := by
  go_enter Tryd.func48, Tryd.ntmps48
  go_wp2
  go_ret
  exact ⟨rfl, ((Below.refl _ _).alloc (Nat.le_refl _) _)⟩
theorem turn64_any (x n : Nat) (hx : x < 18446744073709551616) (hn : n ≤ 64) (w : World) :
    Calls Tryd.prog 71 #[.int .u64 x, .int .u64 n, .int .u64 64] w fun e w' => e = .returned (.int .u64 (rot 64 x n)) ∧ w' = w := by
  go_enter Tryd.func71, Tryd.ntmps71
  go_wp2
  go_ret
  exact ⟨retInt (rot64_eq x n hx), rfl⟩
theorem turnAll64_any (x a b c : Nat) (hx : x < 18446744073709551616) (ha : a ≤ 64) (hb : b ≤ 64) (hc : c ≤ 64) (w : World) :
    Calls Tryd.prog 65 #[.int .u64 x, .agg #[.int .u64 a, .int .u64 b, .int .u64 c], .int .u64 64] w fun e w' => e = .returned (.int .u64 (hi3 64 x (a, b, c))) ∧ Below w.heap.size w w' := by
  go_enter Tryd.func65, Tryd.ntmps65
  go_wp2
  go_quiet ((go_at_call 71; exact Calls.quiet_of_same (turn64_any _ _ hx (by assumption) _)))
  go_wp2
  go_ret
  refine ⟨retInt ?_, below_drewN ((Below.refl _ _).alloc (Nat.le_refl _) _) _⟩
  rw [u64_xor_nat _ _ (rot_lt 64 x a hx) (rot_lt 64 x b hx), u64_xor_nat _ _ (Nat.xor_lt_two_pow (rot_lt 64 x a hx) (rot_lt 64 x b hx)) (rot_lt 64 x c hx)]
  rfl
theorem turnShift64_any (x a b c : Nat) (hx : x < 18446744073709551616) (ha : a ≤ 64) (hb : b ≤ 64) (hc : c ≤ 64) (w : World) :
    Calls Tryd.prog 70 #[.int .u64 x, .agg #[.int .u64 a, .int .u64 b, .int .u64 c], .int .u64 64] w fun e w' => e = .returned (.int .u64 (lo3 64 x (a, b, c))) ∧ Below w.heap.size w w' := by
  go_enter Tryd.func70, Tryd.ntmps70
  go_wp2
  go_quiet ((go_at_call 71; exact Calls.quiet_of_same (turn64_any _ _ hx (by assumption) _)))
  go_wp2
  go_ret
  refine ⟨retInt ?_, below_drewN ((Below.refl _ _).alloc (Nat.le_refl _) _) _⟩
  have e1 : (x : Int) / 2 ^ c = ((x / 2 ^ c : Nat) : Int) := by simp
  rw [e1, u64_xor_nat _ _ (rot_lt 64 x a hx) (rot_lt 64 x b hx), u64_xor_nat _ _ (Nat.xor_lt_two_pow (rot_lt 64 x a hx) (rot_lt 64 x b hx)) (Nat.lt_of_le_of_lt (Nat.div_le_self _ _) hx)]
  rfl
theorem highest64_any (x : Nat) (_hx : x < 18446744073709551616) (w : World) :
    Calls Tryd.prog 55 #[.int .u64 x, (.agg #[.int .i64 64, .int .i64 80, .int .u64 1, .int .u64 8, .int .u64 7, .int .u64 19, .int .u64 61, .int .u64 6, .int .u64 28, .int .u64 34, .int .u64 39, .int .u64 14, .int .u64 18, .int .u64 41])] w fun e w' => e = .returned (.int .u64 ((x / 2 ^ (64 - 64) : Nat) : Int)) ∧ Below w.heap.size w w' := by
  go_enter Tryd.func55, Tryd.ntmps55
  go_wp2
  go_ret
  refine ⟨retInt ?_, ((Below.refl _ _).alloc (Nat.le_refl _) _)⟩
  simp
  try omega
theorem blockSize64_any (w : World) :
    Calls Tryd.prog 48 #[(.agg #[.int .i64 64, .int .i64 80, .int .u64 1, .int .u64 8, .int .u64 7, .int .u64 19, .int .u64 61, .int .u64 6, .int .u64 28, .int .u64 34, .int .u64 39, .int .u64 14, .int .u64 18, .int .u64 41])] w fun e w' => e = .returned (.int .i64 128) ∧ Below w.heap.size w w' := by
  go_enter Tryd.func48, Tryd.ntmps48
  go_wp2
  go_ret
  exact ⟨rfl, ((Below.refl _ _).alloc (Nat.le_refl _) _)⟩
end Go.Proofs.YtlfofbkanifocaaDoor
