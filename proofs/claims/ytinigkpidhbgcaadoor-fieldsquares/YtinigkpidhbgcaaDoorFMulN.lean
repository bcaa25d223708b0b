/- mul, add and sub of the laws of layer 3, their answers under names. -/
import Derived.Test.YtinigkpidhbgcaaDoorInverts
import Derived.Test.YtinigkpidhbgcaaDoorFit
import Derived.Test.YtinigkpidhbgcaaDoorPrimeUse
import Derived.Test.YtinigkpidhbgcaaDoorNarrow
namespace Go.Proofs.YtinigkpidhbgcaaDoor
open Go.RowKit
theorem mul3_N (x y : Value) (X Y : Nat → Nat) (N : Nat) (hX : ∀ j, X j < 256) (hY : ∀ j, Y j < 256) (hN : ofB X 32 % pF * (ofB Y 32 % pF) % pF = N) (w : World) (hx : BytesIn w x 32 X) (hy : BytesIn w y 32 Y) :
    Calls Tryd.prog 12 #[x, y] w fun e w' => ∃ s, e = .returned s ∧ NewB w w' s 32 (byt N) ∧ Below w.heap.size w w' := by
  have h := mul3_any x y X Y hX hY w hx hy
  rw [hN] at h
  exact h
theorem add3_N (x y : Value) (X Y : Nat → Nat) (N : Nat) (hX : ∀ j, X j < 256) (hY : ∀ j, Y j < 256) (hN : (ofB X 32 % pF + ofB Y 32 % pF) % pF = N) (w : World) (hx : BytesIn w x 32 X) (hy : BytesIn w y 32 Y) :
    Calls Tryd.prog 13 #[x, y] w fun e w' => ∃ s, e = .returned s ∧ NewB w w' s 32 (byt N) ∧ Below w.heap.size w w' := by
  have h := add3_any x y X Y hX hY w hx hy
  rw [hN] at h
  exact h
theorem sub3_N (x y : Value) (X Y : Nat → Nat) (N : Nat) (hX : ∀ j, X j < 256) (hY : ∀ j, Y j < 256) (hN : (ofB X 32 % pF + pF - ofB Y 32 % pF) % pF = N) (w : World) (hx : BytesIn w x 32 X) (hy : BytesIn w y 32 Y) :
    Calls Tryd.prog 15 #[x, y] w fun e w' => ∃ s, e = .returned s ∧ NewB w w' s 32 (byt N) ∧ Below w.heap.size w w' := by
  have h := sub3_any x y X Y hX hY w hx hy
  rw [hN] at h
  exact h
theorem ofB_low {N : Nat} (h : N < pF) : ofB (byt N) 32 % pF = N := by rw [ofB_byt32 N (Nat.lt_trans h (by unfold pF; decide)), Nat.mod_eq_of_lt h]
theorem ofB_restF (N : Nat) : ofB (byt (N % pF)) 32 % pF = N % pF := ofB_low (Nat.mod_lt _ (by decide))
theorem laws_numsF {x y : Nat} (z : Nat) (hx : x < pF) (hy : y < pF) : x * y % pF * z % pF = x * y * z % pF ∧ x * (y * z % pF) % pF = x * y * z % pF ∧ ((x + y) % pF + z) % pF = (x + y + z) % pF ∧ (x + (y + z) % pF) % pF = (x + y + z) % pF ∧ (x * y % pF + x * z % pF) % pF = x * ((y + z) % pF) % pF ∧ ((x + y) % pF + pF - y) % pF = x ∧ (x + 0) % pF = x ∧ x * 1 % pF = x := by
  refine ⟨?_, ?_, ?_, ?_, ?_, ?_, ?_, ?_⟩
  · rw [Nat.mul_mod, Nat.mod_mod, ← Nat.mul_mod]
  · rw [Nat.mul_mod, Nat.mod_mod, ← Nat.mul_mod, Nat.mul_assoc]
  · rw [Nat.add_mod, Nat.mod_mod, ← Nat.add_mod]
  · rw [Nat.add_mod, Nat.mod_mod, ← Nat.add_mod, Nat.add_assoc]
  · rw [← Nat.add_mod, ← Nat.mul_add, Nat.mul_mod, Nat.mul_mod x ((y + z) % pF), Nat.mod_mod]
  · unfold pF at *; omega
  · rw [Nat.add_zero, Nat.mod_eq_of_lt hx]
  · rw [Nat.mul_one, Nat.mod_eq_of_lt hx]
end Go.Proofs.YtinigkpidhbgcaaDoor
