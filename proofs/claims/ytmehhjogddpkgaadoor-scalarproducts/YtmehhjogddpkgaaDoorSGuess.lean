/- Package scalar: what guess does in the model. -/
import Derived.Test.YtmehhjogddpkgaaDoorSTake
namespace Go.Proofs.YtmehhjogddpkgaaDoor
open Go.RowKit
/-- What is taken away first: the quotient by 2^252 less one, but not below 0. -/
def guessN (X : Nat → Nat) (a : Nat) : Nat := X (a + 4) * 16 + X (a + 3) / 1152921504606846976 - 1
theorem guess_bits (T U : Nat) (hT : T ≤ 1152921504606846976) (hU : U < 18446744073709551616) (h0 : ¬(T = 0 ∧ U / 1152921504606846976 = 0)) (h1 : T * 16 + U / 1152921504606846976 ≤ 18446744073709551616) :
    IntKind.u64.wrap (bits .or .u64 (IntKind.u64.wrap ((T : Int) * 16)) ((U : Int) / 1152921504606846976) - 1) = ((T * 16 + U / 1152921504606846976 - 1 : Nat) : Int) := by
  have e2 : (U : Int) / 1152921504606846976 = ((U / 1152921504606846976 : Nat) : Int) := by omega
  have hl : U / 1152921504606846976 < 16 := by omega
  rw [e2]
  generalize U / 1152921504606846976 = l at *
  by_cases hT2 : T = 1152921504606846976
  · have hl0 : l = 0 := by omega
    subst hT2 hl0
    decide
  · have e1 : IntKind.u64.wrap ((T : Int) * 16) = ((T * 16 : Nat) : Int) := by rw [IntKind.wrap_u64]; omega
    rw [e1, bits_or_u64_nat _ _ (by omega) (by omega)]
    have e3 : T * 16 ||| l = T * 16 + l := by
      have := Nat.two_pow_add_eq_or_of_lt (i := 4) (b := l) (by omega) T
      rw [Nat.mul_comm T 16]
      exact this.symm
    rw [e3, IntKind.wrap_u64]
    omega
set_option maxRecDepth 20000 in
set_option maxHeartbeats 2000000 in
theorem guess_any (g a : Nat) (X : Nat → Nat) (ha : a ≤ 4) (hX : ∀ j, X j < 18446744073709551616) (hT : X (a + 4) ≤ 1152921504606846976) (hg' : X (a + 4) * 16 + X (a + 3) / 1152921504606846976 ≤ 18446744073709551616) (w : World) (hrow : RowAt .u64 w g 0 9 X) :
    Calls Tryd.prog 32 #[.pointer (some ⟨g, 0, none⟩), .int .i64 a] w fun e w' => e = .returned (.int .u64 (guessN X a)) ∧ Below w.heap.size w w' := by
  obtain ⟨r4, -⟩ := hrow (a + 4) (by omega)
  obtain ⟨r3, -⟩ := hrow (a + 3) (by omega)
  rw [Nat.zero_add] at r4 r3
  have qw : IntKind.i64.wrap ((a : Int) + 4) = (a : Int) + 4 := by simp only [IntKind.wrap_i64]; omega
  have q1 : ((a : Int) + 4).toNat = a + 4 := by omega
  have q2 : (0 : Int) ≤ (a : Int) + 4 ∧ (a : Int) + 4 < 9 := by omega
  have pw : IntKind.i64.wrap ((a : Int) + 3) = (a : Int) + 3 := by simp only [IntKind.wrap_i64]; omega
  have p1 : ((a : Int) + 3).toNat = a + 3 := by omega
  have p2 : (0 : Int) ≤ (a : Int) + 3 ∧ (a : Int) + 3 < 9 := by omega
  have hU := hX (a + 3)
  have key := fun h0 => guess_bits (X (a + 4)) (X (a + 3)) hT hU h0 hg'
  unfold guessN
  generalize X (a + 4) = T at *
  generalize X (a + 3) = U at *
  clear hX hrow
  by_cases hc : T = 0
  · subst hc
    by_cases hd : U / 1152921504606846976 = 0
    · have hd' : (U : Int) / 1152921504606846976 = 0 := by omega
      clear key
      have hret : Ending.returned (.int .u64 0) = Ending.returned (.int .u64 ((0 * 16 + U / 1152921504606846976 - 1 : Nat) : Int)) := by rw [hd]; rfl
      have hret' := Hid.mk' hret
      clear hret hd
      go_enter Tryd.func32, Tryd.ntmps32
      go_wp2
      go_region
      go_wp2
      go_ret
      exact ⟨hret'.out, (Below.refl _ _).drew⟩
    · have hd' : ¬(U : Int) / 1152921504606846976 = 0 := by omega
      have key0 := key (fun h => hd h.2)
      rw [show IntKind.u64.wrap (((0 : Nat) : Int) * 16) = 0 by decide] at key0
      have key' := Hid.mk' key0
      clear key key0 hd
      go_enter Tryd.func32, Tryd.ntmps32
      go_wp2
      go_region
      go_wp2
      go_ret
      exact ⟨retInt key'.out, (Below.refl _ _).drew⟩
  · have hc' : ¬(T : Int) = 0 := by omega
    have key' := Hid.mk' (key (fun h => hc h.1))
    clear key hc
    go_enter Tryd.func32, Tryd.ntmps32
    go_wp2
    go_region
    go_wp2
    go_ret
    exact ⟨retInt key'.out, (Below.refl _ _).drew⟩
end Go.Proofs.YtmehhjogddpkgaaDoor
