/- What Canon, Add, Sub and Mul of the reference do in the model. -/
import Derived.Test.YtinigkpidhbgcaaDoorRefBytes
import Derived.Test.YtinigkpidhbgcaaDoorRefTimes2
namespace Go.Proofs.YtinigkpidhbgcaaDoor
open Go.RowKit
/-- The bytes of canonical limbs are those of the number mod p. -/
theorem bytL_canL (L : Nat → Int) (hL : Dig 9007199254740992 L) (j : Nat) (hj : j < 32) : bytL (canL L) j = byt (valR L 16 % (pF : Int)).toNat j := by
  obtain ⟨-, hn, hv⟩ := canL_nrm L hL
  have h1 : valR (canL L) 16 = ((ofB (fun j => if j < 32 then bytL (canL L) j else 0) 32 : Nat) : Int) := by
    rw [← valR_from _ 16]
    refine valR_congr 16 (fun i hi => ?_)
    rw [← fromL_bytL hn i hi]
    unfold fromL
    show _ = (((if 2 * i < 32 then bytL (canL L) (2 * i) else 0 : Nat) : Int) + ((if 2 * i + 1 < 32 then bytL (canL L) (2 * i + 1) else 0 : Nat) : Int) * 256)
    rw [if_pos (show 2 * i < 32 by omega), if_pos (show 2 * i + 1 < 32 by omega)]
  rw [← hv, h1, Int.toNat_natCast, byt_ofB _ (fun j => by
    show (if j < 32 then bytL (canL L) j else 0) < 256
    by_cases e : j < 32
    · rw [if_pos e]; exact bytL_lt hn j e
    · rw [if_neg e]; decide) 32 j hj, if_pos hj]
theorem Dig.mono {R S : Int} {L : Nat → Int} (h : Dig R L) (hRS : R ≤ S) : Dig S L := ⟨by have := h.low; omega, h.dig⟩
theorem from_dig (bs : Nat → Nat) (hb : ∀ j, bs j < 256) : Dig 65535 (fromL bs) := ⟨by have := fromL_dig bs hb 0; omega, fun j _ _ => fromL_dig bs hb j⟩
/-- Bytes of a reference's number that lies mod p like n. -/
theorem rbytes (L : Nat → Int) (hL : Dig 9007199254740992 L) (n : Nat) (hn : valR L 16 % (pF : Int) = ((n % pF : Nat) : Int)) (w : World) :
    Calls Tryd.prog 22 #[refV L] w fun e w' => ∃ v, e = .returned v ∧ Own w.heap.size w' v 32 (byt (n % pF)) ∧ Below w.heap.size w w' :=
  (rbytes_any L hL w).mono fun e w' ⟨v, he, ho, hb⟩ => ⟨v, he, ho.congr (fun j hj => by rw [bytL_canL L hL j hj, hn, Int.toNat_natCast]), hb⟩
theorem length_any (x y : Option Addr) (n m c d : Nat) (w : World) : Calls Tryd.prog 19 #[.slice x n c, .slice y m d] w fun e w' => e = .returned (.bool (decide (n = 32 ∧ m = 32))) ∧ w' = w := by
  by_cases h1 : n = 32
  · subst h1
    by_cases h2 : m = 32
    · subst h2
      go_enter Tryd.func19, Tryd.ntmps19
      go_wp2
      go_ret
      exact ⟨rfl, rfl⟩
    · have h2' : ¬(m : Int) = 32 := by omega
      go_enter Tryd.func19, Tryd.ntmps19
      go_wp2
      go_ret
      refine ⟨?_, rfl⟩
      simp [h2, h2']
  · have h1' : ¬(n : Int) = 32 := by omega
    go_enter Tryd.func19, Tryd.ntmps19
    go_wp2
    go_ret
    refine ⟨?_, rfl⟩
    simp [h1]
theorem nat_mod (a : Nat) : ((a : Int) % (pF : Int)) = ((a % pF : Nat) : Int) := (Int.natCast_emod a pF).symm
theorem plus_mod (bs cs : Nat → Nat) : valR (carryL (fun j => fromL bs j + fromL cs j)) 16 % (pF : Int) = (((ofB bs 32 % pF + ofB cs 32 % pF) % pF : Nat) : Int) := by
  have e : valR (fun j => fromL bs j + fromL cs j) 16 = ((ofB bs 32 + ofB cs 32 : Nat) : Int) := by
    have := valR_lin (fromL bs) (fromL cs) 1 16
    simp only [Int.one_mul] at this
    rw [this, valR_from, valR_from]; rfl
  rw [valR_carry, e, show ∀ a b P : Int, a - b * 2 * P = a + P * (-(b * 2)) from fun a b P => by rw [Int.mul_neg, Int.mul_comm P]; omega, Int.add_mul_emod_self_left, nat_mod, ← Nat.add_mod]
theorem minus_mod (bs cs : Nat → Nat) : valR (carryL (fun j => fromL bs j - fromL cs j)) 16 % (pF : Int) = (((ofB bs 32 % pF + pF - ofB cs 32 % pF) % pF : Nat) : Int) := by
  have e : valR (fun j => fromL bs j - fromL cs j) 16 = (ofB bs 32 : Int) - (ofB cs 32 : Int) := by
    have := valR_lin (fromL bs) (fromL cs) (-1) 16
    simp only [Int.neg_mul, Int.one_mul, ← Int.sub_eq_add_neg] at this
    rw [this, valR_from, valR_from]
  rw [valR_carry, e, show ∀ a b P : Int, a - b * 2 * P = a + P * (-(b * 2)) from fun a b P => by rw [Int.mul_neg, Int.mul_comm P]; omega, Int.add_mul_emod_self_left, ← nat_mod]
  have hy : ofB cs 32 % pF < pF := Nat.mod_lt _ (by decide)
  have e1 : ((ofB bs 32 % pF + pF - ofB cs 32 % pF : Nat) : Int) = ((ofB bs 32 : Int) % pF) + pF - ((ofB cs 32 : Int) % pF) := by
    rw [nat_mod, nat_mod]; omega
  rw [e1, Int.add_sub_assoc, Int.add_emod, Int.emod_emod_of_dvd _ (Int.dvd_refl _), ← Int.add_emod]
  have e2 : ((ofB bs 32 : Int) + ((pF : Int) - (ofB cs 32 : Int) % pF)) = ((ofB bs 32 : Int) - (ofB cs 32 : Int)) + (pF : Int) * (1 + (ofB cs 32 : Int) / pF) := by
    have := Int.mul_ediv_add_emod (ofB cs 32 : Int) pF
    rw [Int.mul_add, Int.mul_one]
    omega
  rw [e2, Int.add_mul_emod_self_left]
theorem times_mod (bs cs : Nat → Nat) : valR (carryL (carryL (foldT (tP (fromL bs) (fromL cs) 15 16) 16))) 16 % (pF : Int) = ((ofB bs 32 % pF * (ofB cs 32 % pF) % pF : Nat) : Int) := by
  rw [valR_carry, valR_carry, foldT_val, tP_all, valR_from, valR_from, show ∀ a b c d P : Int, a - 2 * P * d - b * 2 * P - c * 2 * P = a + P * (-(2 * d) - b * 2 - c * 2) from fun a b c d P => by
    rw [Int.mul_sub, Int.mul_sub, Int.mul_neg, Int.mul_comm P (b * 2), Int.mul_comm P (c * 2), Int.mul_comm 2 P, Int.mul_assoc P 2 d]; omega, Int.add_mul_emod_self_left, ← Int.natCast_mul, nat_mod, ← Nat.mul_mod]
end Go.Proofs.YtinigkpidhbgcaaDoor
