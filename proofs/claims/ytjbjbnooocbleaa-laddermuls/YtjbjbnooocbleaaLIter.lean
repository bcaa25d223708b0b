/- What the iterator of bitsDown does in the model. -/
import Derived.Test.YtjbjbnooocbleaaLBegin
import Derived.RangeFuncNested
import Derived.RangeFuncBound
import Derived.RangeFuncCalls
import Derived.RangeFuncLeaves
import Derived.Shelf.Abstract
import Derived.Shelf.RegionOpen
import Derived.OwnWalkIn
import Derived.TacticsInMore
import Derived.LoopNIn
import Derived.LoopIn
namespace Go.Proofs.Ytjbjbnooocbleaa
open Go.RowKit Go.Shelf
attribute [local go_sem] Oper.semAt_some
/-- The bit number i of bytes, the lowest first. -/
def bitN (ks : Nat → Nat) (i : Nat) : Bool := ks (i / 8) / 2 ^ (i % 8) % 2 == 1
theorem bit_eq (ks : Nat → Nat) (hlt : ∀ q, ks q < 256) (i : Nat) : (bits .and .u8 ((ks (i / 8) : Int) / 2 ^ (i % 8)) 1 == 1) = bitN ks i := by
  have e : ((ks (i / 8) : Int) / 2 ^ (i % 8)) = ((ks (i / 8) / 2 ^ (i % 8) : Nat) : Int) := by simp
  have hb : ks (i / 8) / 2 ^ (i % 8) < 256 := Nat.lt_of_le_of_lt (Nat.div_le_self _ _) (hlt _)
  rw [e, show (1 : Int) = ((1 : Nat) : Int) from rfl, u8_and_nat _ 1 hb (by decide), Nat.and_one_is_mod]
  unfold bitN
  generalize ks (i / 8) / 2 ^ (i % 8) = v
  rcases Nat.mod_two_eq_zero_or_one v with h | h <;> simp [h]
set_option maxRecDepth 100000 in
set_option maxHeartbeats 4000000 in
theorem iter_in (n : Nat) (l pb bb ob cap : Nat) (ks : Nat → Nat) (Inv : Nat → World → Prop)
    (hcell : ∀ j W, Inv j W → W.cell? ⟨pb, 0, none⟩ = some (.slice (some ⟨bb, ob, none⟩) 32 cap))
    (hks : ∀ j W, Inv j W → ∀ q, q < 32 → W.cell? ⟨bb, ob + q, none⟩ = some (.int .u8 (ks q)))
    (hlt : ∀ q, ks q < 256)
    (hY : ∀ j W1, j < 255 → Inv j W1 → YieldAt Fence.wide (n - 1) Try.prog l #[.bool (bitN ks (254 - j))] W1 fun e W' => e = .returned (.bool true) ∧ Inv (j + 1) W')
    (W : World) (h0 : Inv 0 W) :
    CallsIn Fence.wide n Try.prog 46 #[.func (.yield l) #[] #[], .pointer (some ⟨pb, 0, none⟩)] W fun e W' => (∃ v, e = .returned v) ∧ Inv 255 W' := by
  refine callsIn_of_wp Try.func46 rfl trivial ?_ rfl
  simp only [Try.ntmps46, List.size_toArray, List.length_cons, List.length_nil, Nat.reduceAdd, Nat.reduceSub, Array.replicate_succ, Array.replicate_zero, List.push_toArray, List.append_toArray, List.nil_append, List.cons_append]
  gi_wp2
  gi_loopw [3] (fun i wr => ∃ j : Nat, j ≤ 255 ∧ i = .int .i64 (254 - (j : Int)) ∧ Inv j wr) (fun i _ => 256 - (255 - (intOf i + 1)).toNat)
  case atStart => exact ⟨0, Nat.zero_le _, by go_num, h0⟩
  case round =>
    obtain ⟨j, hj, rfl, hI⟩ := hrel
    by_cases hj2 : j < 255
    · have c0 := hcell j wr hI
      have hi8 : (254 - (j : Int)).toNat = 254 - j := by omega
      have cc := hks j wr hI ((254 - j) / 8) (by omega)
      have hge : ¬(254 - (j : Int) < 0) := by omega
      have hbit : (bits .and .u8 ((ks ((254 - j) / 8) : Int) / 2 ^ ((254 - j) % 8)) 1 == 1) = bitN ks (254 - j) := bit_eq ks hlt (254 - j)
      obtain ⟨fn, tmps, assign, body, hy, hR⟩ := hY j wr hj2 hI
      gi_wp2
      refine ⟨(fun h => by cases h), hR.mono ?_⟩
      rintro e W' ⟨rfl, hI'⟩
      gi_wp2
      go_roundw
      case rel => exact ⟨j + 1, by omega, by go_num, hI'⟩
      case measure => simp [intOf]; omega
    · obtain rfl : j = 255 := by omega
      gi_wp2
      refine bodyPost_end (results_none rfl _ _ _) rfl ?_
      exact ⟨⟨_, rfl⟩, hI⟩
end Go.Proofs.Ytjbjbnooocbleaa
