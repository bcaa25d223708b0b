/- rootOfQuotient of package field by numbers. -/
import Derived.Test.YtinigkpidhbgcaaDoorRootQ
import Derived.Test.YtinigkpidhbgcaaDoorOnes
namespace Go.Proofs.YtinigkpidhbgcaaDoor
open Go.RowKit
theorem lw0_mod (n : Nat) : lw n 0 % 2 = n % 2 := by unfold lw; simp only [Nat.pow_zero, Nat.div_one]; omega
theorem ofInt_w64 (a : Nat) (ha : a < 18446744073709551616) : (BitVec.ofInt 64 (a : Int)).toNat = a := by
  rw [BitVec.toNat_ofInt]
  omega
theorem u64_and1 (a : Nat) (ha : a < 18446744073709551616) : bits .and .u64 (a : Int) 1 = ((a % 2 : Nat) : Int) := by
  have hx : a &&& 1 ≤ a := Nat.and_le_left
  show IntKind.u64.wrap ((BitVec.ofInt 64 (a : Int) &&& BitVec.ofInt 64 ((1 : Nat) : Int)).toNat : Int) = _
  rw [BitVec.toNat_and, ofInt_w64 a ha, ofInt_w64 1 (by decide), IntKind.wrap_u64, ← Nat.and_one_is_mod]
  omega
set_option maxRecDepth 20000 in
theorem odd_any (n : Nat) (w : World) : Calls Tryd.prog 31 #[numV n] w fun e w' => e = .returned (.bool (n % 2 == 1)) ∧ Below w.heap.size w w' := by
  have e1 := u64_and1 (lw n 0) (lw_lt n 0)
  rw [lw0_mod] at e1
  obtain ⟨z, hz⟩ : ∃ z, z = (n % 2 == 1) := ⟨_, rfl⟩
  rw [← hz]
  unfold numV
  go_enter Tryd.func31, Tryd.ntmps31
  go_wp2
  go_ret
  refine ⟨?_, (Below.refl _ _).alloc (Nat.le_refl _) _⟩
  simp [hz]
  rcases Nat.mod_two_eq_zero_or_one n with h | h
  · have h2 : (n : Int) % 2 = 0 := by omega
    rw [h, h2]; rfl
  · have h2 : (n : Int) % 2 = 1 := by omega
    rw [h, h2]; rfl
/-- The exponent (p - 5) / 8. -/
def kP : Nat := 7237005577332262213973186563042994240829374041602535252466099000494570602493
theorem kP_eq : 8 * kP + 5 = pF := by decide
theorem rootq_any (u v : Nat) (hu : u < pF) (hv : v < pF) (w : World) (im : IM w) :
    Calls Tryd.prog 17 #[numV u, numV v] w fun e w' => e = .returned (.tuple #[numV ((rootP kP u v).getD 0), .bool (rootP kP u v).isSome]) ∧ Below w.heap.size w w' := by
  have hbs : ∀ b : Nat, b < pF → b ^ 1 % pF = b := fun b h => by rw [Nat.pow_one, Nat.mod_eq_of_lt h]
  have hl : ∀ a : Nat, a % pF < pF := fun a => Nat.mod_lt _ pF_pos
  obtain ⟨E, hE⟩ : ∃ E : Nat, 1809251394333065553493296640760748560207343510400633813116524750123642650623 = E := ⟨_, rfl⟩
  obtain ⟨kk, hkk⟩ : ∃ kk, kP = kk := ⟨_, rfl⟩
  have hsum : 1 + E * 2 ^ 2 = kk := by rw [← hE, ← hkk]; decide
  obtain ⟨v2, hv2⟩ : ∃ x, x = v * v % pF := ⟨_, rfl⟩
  obtain ⟨v3, hv3⟩ : ∃ x, x = v2 * v % pF := ⟨_, rfl⟩
  obtain ⟨a1, ha1⟩ : ∃ x, x = u * v3 % pF := ⟨_, rfl⟩
  obtain ⟨a2, ha2⟩ : ∃ x, x = a1 * v3 % pF := ⟨_, rfl⟩
  obtain ⟨b, hb⟩ : ∃ x, x = a2 * v % pF := ⟨_, rfl⟩
  obtain ⟨o, ho⟩ : ∃ x, x = b ^ E % pF := ⟨_, rfl⟩
  obtain ⟨t, ht⟩ : ∃ x, x = b ^ kk % pF := ⟨_, rfl⟩
  obtain ⟨t2, ht2⟩ : ∃ x, x = t * u % pF := ⟨_, rfl⟩
  obtain ⟨x0, hx0⟩ : ∃ x, x = t2 * v3 % pF := ⟨_, rfl⟩
  obtain ⟨xx, hxx⟩ : ∃ x, x = x0 * x0 % pF := ⟨_, rfl⟩
  obtain ⟨sq, hsq⟩ : ∃ x, x = xx * v % pF := ⟨_, rfl⟩
  obtain ⟨nu, hnu⟩ : ∃ x, x = (0 + pF - u) % pF := ⟨_, rfl⟩
  obtain ⟨xi, hxi⟩ : ∃ x, x = x0 * iM % pF := ⟨_, rfl⟩
  have lv2 : v2 < pF := by rw [hv2]; exact hl _
  have lv3 : v3 < pF := by rw [hv3]; exact hl _
  have la1 : a1 < pF := by rw [ha1]; exact hl _
  have la2 : a2 < pF := by rw [ha2]; exact hl _
  have lb : b < pF := by rw [hb]; exact hl _
  have lt : t < pF := by rw [ht]; exact hl _
  have lt2 : t2 < pF := by rw [ht2]; exact hl _
  have lx0 : x0 < pF := by rw [hx0]; exact hl _
  have lxx : xx < pF := by rw [hxx]; exact hl _
  have lsq : sq < pF := by rw [hsq]; exact hl _
  have lnu : nu < pF := by rw [hnu]; exact hl _
  have lxi : xi < pF := by rw [hxi]; exact hl _
  have hX : rootX kk u v = x0 := by
    unfold rootX
    rw [← hv2, ← hv3, ← ha1, ← ha2, ← hb, ← ht, ← ht2, ← hx0]
  have h := rootq_raw u v v2 v3 a1 a2 b o t t2 x0 xx sq nu xi hu lsq lnu lx0 lxi
    (fun W => by rw [hv2]; exact times_any v v hv hv W) (fun W => by rw [hv3]; exact times_any v2 v lv2 hv W) (fun W => by rw [ha1]; exact times_any u v3 hu lv3 W) (fun W => by rw [ha2]; exact times_any a1 v3 la1 lv3 W) (fun W => by rw [hb]; exact times_any a2 v la2 hv W)
    (fun W => by
      have h := ones250_any b W
      rw [hbs _ lb, hE, ← ho] at h
      exact h)
    (fun W => by
      have h := then_pow b E 1 2 kk hsum (by decide) W
      rw [hbs _ lb, ← ho, ← ht] at h
      exact h)
    (fun W => by rw [ht2]; exact times_any t u lt hu W) (fun W => by rw [hx0]; exact times_any t2 v3 lt2 lv3 W) (fun W => by rw [hxx]; exact times_any x0 x0 lx0 lx0 W) (fun W => by rw [hsq]; exact times_any xx v lxx hv W)
    (fun W => by rw [hnu]; exact minus_any 0 u (by decide) hu W) (fun W => by rw [hxi]; exact times_any x0 iM lx0 (by decide) W) (fun W z _ => odd_any z W) (fun W z hz => minus_any 0 z (by decide) hz W) w im
  have hP : rootP kk u v = if sq = u then some (evn x0) else if sq = nu then some (evn xi) else none := by
    unfold rootP
    rw [hX, ← hxx, ← hsq, ← hnu, ← hxi]
  rw [hkk, hP]
  refine h.mono fun e w' ⟨he, hb⟩ => ⟨he.trans ?_, hb⟩
  by_cases h1 : sq = u
  · simp only [if_pos h1]; rfl
  · simp only [if_neg h1]
    by_cases h2 : sq = nu
    · simp only [if_pos h2, decide_eq_true h2]; rfl
    · simp only [if_neg h2, decide_eq_false h2]; rfl
end Go.Proofs.YtinigkpidhbgcaaDoor
