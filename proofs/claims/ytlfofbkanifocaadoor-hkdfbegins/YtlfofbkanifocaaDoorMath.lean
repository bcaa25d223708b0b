/- The plain functions of SHA-2 on natural numbers, and small laws on them; nothing of the program's text is imported. -/
import Derived.Laws.BitsAllLaws
import Derived.Laws.Bits64
import Derived.Laws.Bits64b
namespace Go.Proofs.YtlfofbkanifocaaDoor
open Go

/-- In what the two hashes differ: bits of a word, rounds, how much is turned and shifted. -/
structure Ru where
  m : Nat
  rounds : Nat
  s0 : Nat × Nat × Nat
  s1 : Nat × Nat × Nat
  l0 : Nat × Nat × Nat
  l1 : Nat × Nat × Nat

def rn : Ru := ⟨32, 64, (7, 18, 3), (17, 19, 10), (2, 13, 22), (6, 11, 25)⟩
def rw6 : Ru := ⟨64, 80, (1, 8, 7), (19, 61, 6), (28, 34, 39), (14, 18, 41)⟩

/-- A word's bits turned to the right. -/
def rot (m x n : Nat) : Nat := (x / 2 ^ n) ||| (x * 2 ^ (m - n) % 2 ^ m)
/-- Three turned. -/
def hi3 (m x : Nat) (n : Nat × Nat × Nat) : Nat := rot m x n.1 ^^^ rot m x n.2.1 ^^^ rot m x n.2.2
/-- Two turned, one shifted. -/
def lo3 (m x : Nat) (n : Nat × Nat × Nat) : Nat := rot m x n.1 ^^^ rot m x n.2.1 ^^^ (x / 2 ^ n.2.2)

theorem rot_lt (m x n : Nat) (hx : x < 2 ^ m) : rot m x n < 2 ^ m :=
  Nat.or_lt_two_pow (Nat.lt_of_le_of_lt (Nat.div_le_self _ _) hx) (Nat.mod_lt _ (Nat.two_pow_pos m))
theorem hi3_lt (m x : Nat) (n : Nat × Nat × Nat) (hx : x < 2 ^ m) : hi3 m x n < 2 ^ m :=
  Nat.xor_lt_two_pow (Nat.xor_lt_two_pow (rot_lt m x _ hx) (rot_lt m x _ hx)) (rot_lt m x _ hx)
theorem lo3_lt (m x : Nat) (n : Nat × Nat × Nat) (hx : x < 2 ^ m) : lo3 m x n < 2 ^ m :=
  Nat.xor_lt_two_pow (Nat.xor_lt_two_pow (rot_lt m x _ hx) (rot_lt m x _ hx)) (Nat.lt_of_le_of_lt (Nat.div_le_self _ _) hx)

theorem rot32_eq (x n : Nat) (hx : x < 4294967296) :
    bits .or .u32 ((x : Int) / 2 ^ n) ((x : Int) * 2 ^ (32 - n) % 4294967296) = ((rot 32 x n : Nat) : Int) := by
  have e1 : (x : Int) / 2 ^ n = ((x / 2 ^ n : Nat) : Int) := by simp
  have e2 : (x : Int) * 2 ^ (32 - n) % 4294967296 = ((x * 2 ^ (32 - n) % 4294967296 : Nat) : Int) := by simp
  rw [e1, e2, u32_or_nat _ _ (Nat.lt_of_le_of_lt (Nat.div_le_self _ _) hx) (Nat.mod_lt _ (by decide))]
  rfl
theorem rot64_eq (x n : Nat) (hx : x < 18446744073709551616) :
    bits .or .u64 ((x : Int) / 2 ^ n) ((x : Int) * 2 ^ (64 - n) % 18446744073709551616) = ((rot 64 x n : Nat) : Int) := by
  have e1 : (x : Int) / 2 ^ n = ((x / 2 ^ n : Nat) : Int) := by simp
  have e2 : (x : Int) * 2 ^ (64 - n) % 18446744073709551616 = ((x * 2 ^ (64 - n) % 18446744073709551616 : Nat) : Int) := by simp
  rw [e1, e2, bits_or_u64_nat _ _ (Nat.lt_of_le_of_lt (Nat.div_le_self _ _) hx) (Nat.mod_lt _ (by decide))]
  rfl
end Go.Proofs.YtlfofbkanifocaaDoor
