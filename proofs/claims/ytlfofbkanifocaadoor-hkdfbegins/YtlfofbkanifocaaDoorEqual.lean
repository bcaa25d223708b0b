/- What Equal of package hkdf does in the model. -/
import Derived.Test.YtlfofbkanifocaaDoorLent
import Derived.Test.YtlfofbkanifocaaDoorKnows
namespace Go.Proofs.YtlfofbkanifocaaDoor
open Go.RowKit
/-- In what the first k bytes differ. -/
def orG (a b : Nat → Nat) : Nat → Nat
  | 0 => 0
  | k + 1 => orG a b k ||| (a k ^^^ b k)
theorem orG_lt {a b : Nat → Nat} (ha : ∀ j, a j < 256) (hb : ∀ j, b j < 256) : ∀ k, orG a b k < 256
  | 0 => Nat.zero_lt_succ _
  | k + 1 => Nat.or_lt_two_pow (n := 8) (orG_lt ha hb k) (Nat.xor_lt_two_pow (n := 8) (ha k) (hb k))
theorem or_zero {x y : Nat} : (x ||| y) = 0 ↔ x = 0 ∧ y = 0 := by
  constructor
  · intro h
    exact ⟨Nat.eq_zero_of_le_zero (h ▸ Nat.left_le_or), Nat.eq_zero_of_le_zero (h ▸ Nat.right_le_or)⟩
  · rintro ⟨rfl, rfl⟩; rfl
theorem xor_none {x y : Nat} : (x ^^^ y) = 0 ↔ x = y := by
  constructor
  · intro h
    have h2 := congrArg (fun z => z ^^^ y) h
    simp only [Nat.xor_assoc, Nat.xor_self, Nat.xor_zero, Nat.zero_xor] at h2
    exact h2
  · rintro rfl; exact Nat.xor_self x
theorem orG_zero (a b : Nat → Nat) : ∀ k, orG a b k = 0 ↔ ∀ j, j < k → a j = b j
  | 0 => ⟨fun _ j h => by omega, fun _ => rfl⟩
  | k + 1 => by
    show (orG a b k ||| (a k ^^^ b k)) = 0 ↔ _
    rw [or_zero, orG_zero a b k, xor_none]
    constructor
    · rintro ⟨h1, h2⟩ j hj
      by_cases e : j = k
      · rw [e]; exact h2
      · exact h1 j (by omega)
    · intro h
      exact ⟨fun j hj => h j (by omega), h k (by omega)⟩
theorem strB_eq {n m : Nat} {a b : Nat → Nat} (ha : ∀ j, a j < 256) (hb : ∀ j, b j < 256) : strB n a = strB m b ↔ n = m ∧ ∀ j, j < n → a j = b j := by
  constructor
  · intro h
    have h1 : ((List.range n).map fun j => UInt8.ofNat (a j)) = ((List.range m).map fun j => UInt8.ofNat (b j)) := by
      have := congrArg (fun x : ByteArray => x.data.toList) h
      simpa [strB] using this
    have hl := congrArg List.length h1
    simp at hl
    subst hl
    refine ⟨rfl, fun j hj => ?_⟩
    have h2 := congrArg (fun l : List UInt8 => l[j]?) h1
    simp [hj] at h2
    have h3 := congrArg UInt8.toNat h2
    rw [UInt8.toNat_ofNat_of_lt' (by have := ha j; simp [UInt8.size]; omega), UInt8.toNat_ofNat_of_lt' (by have := hb j; simp [UInt8.size]; omega)] at h3
    exact h3
  · rintro ⟨rfl, h⟩
    exact strB_congr h
/-- Are two lists of bytes the same? -/
def eqB (n m : Nat) (a b : Nat → Nat) : Bool := decide (n = m ∧ orG a b n = 0)
theorem eqB_str {n m : Nat} {a b : Nat → Nat} (ha : ∀ j, a j < 256) (hb : ∀ j, b j < 256) : eqB n m a b = decide (strB n a = strB m b) := by
  unfold eqB
  congr 1
  rw [strB_eq ha hb, orG_zero]
set_option maxRecDepth 20000 in
set_option maxHeartbeats 1000000 in
theorem equal_any (v1 v2 : Value) (n1 n2 : Nat) (b1 b2 : Nat → Nat) (h1 : ∀ j, b1 j < 256) (h2 : ∀ j, b2 j < 256) (w : World) (hv1 : BytesIn w v1 n1 b1) (hv2 : BytesIn w v2 n2 b2) (hn1 : n1 < 9000000000000000000) (hn2 : n2 < 9000000000000000000) :
    Calls Tryd.prog 32 #[v1, v2] w fun e w' => e = .returned (.bool (eqB n1 n2 b1 b2)) ∧ w' = w := by
  by_cases hne : n1 = n2
  · subst hne
    have key : (n1 = 0 ∧ ∃ x1 x2 c1 c2, v1 = .slice x1 0 c1 ∧ v2 = .slice x2 0 c2) ∨ (∃ g1 o1 c1 g2 o2 c2, v1 = .slice (some ⟨g1, o1, none⟩) n1 c1 ∧ v2 = .slice (some ⟨g2, o2, none⟩) n1 c2 ∧ (∀ j, j < n1 → w.cell? ⟨g1, o1 + j, none⟩ = some (.int .u8 (b1 j))) ∧ ∀ j, j < n1 → w.cell? ⟨g2, o2 + j, none⟩ = some (.int .u8 (b2 j))) := by
      by_cases h0 : n1 = 0
      · subst h0
        obtain ⟨x1, c1, e1, -⟩ := hv1.src
        obtain ⟨x2, c2, e2, -⟩ := hv2.src
        exact .inl ⟨rfl, x1, x2, c1, c2, e1, e2⟩
      · rcases hv1 with ⟨_, _, hz⟩ | ⟨g1, o1, c1, e1, _, _, r1⟩
        · exact absurd hz h0
        · rcases hv2 with ⟨_, _, hz⟩ | ⟨g2, o2, c2, e2, _, _, r2⟩
          · exact absurd hz h0
          · exact .inr ⟨g1, o1, c1, g2, o2, c2, e1, e2, r1, r2⟩
    have he : eqB n1 n1 b1 b2 = decide (orG b1 b2 n1 = 0) := by unfold eqB; simp
    rw [he]
    rcases key with ⟨rfl, x1, x2, c1, c2, rfl, rfl⟩ | ⟨g1, o1, c1, g2, o2, c2, rfl, rfl, r1, r2⟩
    · go_enter Tryd.func32, Tryd.ntmps32
      go_wp2
      go_loop [5, 15] (fun u i => u = .int .u8 0 ∧ i = .int .i64 0) (fun _ _ => 0)
      case atStart => exact ⟨rfl, rfl⟩
      case round =>
        obtain ⟨rfl, rfl⟩ := hrel
        go_wp2
        go_ret
        exact ⟨rfl, rfl⟩
    · clear hv1 hv2
      go_enter Tryd.func32, Tryd.ntmps32
      go_wp2
      go_loop [5, 15] (fun u i => ∃ k : Nat, k ≤ n1 ∧ i = .int .i64 k ∧ u = .int .u8 (orG b1 b2 k)) (fun _ i => n1 - (intOf i).toNat)
      case atStart => exact ⟨0, Nat.zero_le _, rfl, rfl⟩
      case round =>
        obtain ⟨k, hk, rfl, rfl⟩ := hrel
        by_cases hlt : k < n1
        · have q1 := r1 k hlt
          have q2 := r2 k hlt
          have hki : (0 : Int) ≤ (k : Int) ∧ (k : Int) < n1 := by omega
          clear r1 r2
          go_wp2
          go_round
          case rel =>
            refine ⟨k + 1, by omega, by go_num, ?_⟩
            rw [u8_xor_nat _ _ (h1 k) (h2 k), u8_or_nat _ _ (orG_lt h1 h2 k) (Nat.xor_lt_two_pow (n := 8) (h1 k) (h2 k))]
            rfl
          case measure => simp [intOf]; omega
        · have hke : k = n1 := by omega
          rw [hke]
          have hb : ((orG b1 b2 n1 : Int) == 0) = decide (orG b1 b2 n1 = 0) := by
            by_cases h : orG b1 b2 n1 = 0
            · simp [h]
            · have h' : ¬((orG b1 b2 n1 : Int) = 0) := by omega
              simp [h]
          clear hke hlt hk
          go_wp2
          go_ret
          exact ⟨by simp, rfl⟩
  · have he : eqB n1 n2 b1 b2 = false := by unfold eqB; simp [hne]
    rw [he]
    obtain ⟨x1, c1, rfl, -⟩ := hv1.src
    obtain ⟨x2, c2, rfl, -⟩ := hv2.src
    have hni : ¬((n1 : Int) = n2) := by omega
    clear hv1 hv2
    go_enter Tryd.func32, Tryd.ntmps32
    go_wp2
    go_ret
    exact ⟨rfl, rfl⟩
end Go.Proofs.YtlfofbkanifocaaDoor
