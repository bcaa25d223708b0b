/- Ratio of the reference by numbers. -/
import Derived.Test.YtinigkpidhbgcaaDoorRRatio
import Derived.Test.YtinigkpidhbgcaaDoorRootFit
import Derived.Test.YtinigkpidhbgcaaDoorRootQA
namespace Go.Proofs.YtinigkpidhbgcaaDoor
open Go.RowKit
theorem inv_cast (a e : Nat) (h : pF - 2 = e) : a ^ e % pF = finv a % pF := by unfold finv; rw [h, Nat.mod_mod]
theorem rootY_cast (k u v e : Nat) (h : k + 1 = e) : quoR u v ^ e % pF = rootY k u v % pF := by unfold rootY; rw [h, Nat.mod_mod]
theorem quoR_lt (u v : Nat) : quoR u v < pF := Nat.mod_lt _ pF_pos
theorem rootY_lt (k u v : Nat) : rootY k u v < pF := Nat.mod_lt _ pF_pos
theorem rootZ_lt (k u v : Nat) : rootZ k u v < pF := by
  unfold rootZ
  split
  · exact rootY_lt k u v
  · exact Nat.mod_lt _ pF_pos
theorem ratio_opt (A B C : Prop) [Decidable A] [Decidable B] [Decidable C] (x : Nat) : (decide A && !(decide B && !decide C)) = (if A ∧ ¬(B ∧ ¬C) then some x else none : Option Nat).isSome ∧ (if (decide A && !(decide B && !decide C)) = true then x else 0) = (if A ∧ ¬(B ∧ ¬C) then some x else none : Option Nat).getD 0 := by
  by_cases hA : A <;> by_cases hB : B <;> by_cases hC : C <;> simp [hA, hB, hC]
theorem Rep.far' {L : Nat → Int} {x : Nat} (h : Rep L x) : ∀ j, j < 16 → -1073741824 ≤ L j ∧ L j ≤ 1073741824 := fun j hj => by have := h.bd j hj; omega
theorem rratio_any (U V : Nat → Int) (u v : Nat) (hU : Rep U u) (hV : Rep V v) (hu : u < pF) (hv : v < pF) (w : World) :
    Calls Tryd.prog 20 #[rV U, rV V] w fun e w' => ∃ R, e = .returned (.tuple #[rV R, .bool (rootR kP u v).isSome]) ∧ Rw R ((rootR kP u v).getD 0) ∧ Below w.heap.size w w' := by
  obtain ⟨kk, hkk⟩ : ∃ kk, kP = kk := ⟨_, rfl⟩
  obtain ⟨E1, hE1⟩ : ∃ E : Nat, 57896044618658097711785492504343953926634992332820282019728792003956564819947 = E := ⟨_, rfl⟩
  obtain ⟨E2, hE2⟩ : ∃ E : Nat, 7237005577332262213973186563042994240829374041602535252466099000494570602494 = E := ⟨_, rfl⟩
  have e1 : pF - 2 = E1 := by rw [← hE1]; decide
  have e2 : kk + 1 = E2 := by rw [← hE2, ← hkk]; decide
  have cI : ∀ W, Calls Tryd.prog 33 #[refV V] W fun e w' => ∃ R, e = .returned (refV R) ∧ Rep R (v ^ E1) ∧ Below W.heap.size W w' := fun W => by rw [← hE1]; exact rinverse_any V v hV W
  have cP : ∀ (Q : Nat → Int) (q : Nat), Rep Q q → ∀ W, Calls Tryd.prog 34 #[refV Q, .int .i64 252, .int .i64 14, .int .i64 4] W fun e w' => ∃ R, e = .returned (refV R) ∧ Rep R (q ^ E2) ∧ Below W.heap.size W w' := fun Q q hQ W => by rw [← hE2]; exact rpow8_any Q q hQ W
  clear hE1 hE2
  have hq : quoR u v = fmul u (finv v) := rfl
  have hql := quoR_lt u v
  have hyl := rootY_lt kk u v
  have hzl := rootZ_lt kk u v
  have hzd : rootZ kk u v = if rootY kk u v * rootY kk u v % pF = quoR u v then rootY kk u v else rootY kk u v * iM % pF := rfl
  have hRd : rootR kk u v = if rootZ kk u v * rootZ kk u v % pF = quoR u v ∧ ¬(v = 0 ∧ u ≠ 0) then some (evn (rootZ kk u v)) else none := rfl
  have hyc := rootY_cast kk u v E2 e2
  rw [hkk, hRd]
  clear hRd
  generalize rootZ kk u v = z at *
  generalize rootY kk u v = y at *
  generalize hqq : quoR u v = q at *
  have h := rratio_raw U V (finv v) q y z (fmul z z) z (fsub 0 z) (decide (fmul z z = q)) (decide (v = 0)) (decide (u = 0))
    (fun W => (cI W).mono fun e w' ⟨R, he, hR, hb⟩ => ⟨R, he, hR.cast (inv_cast v E1 e1), hb⟩)
    (fun R hR W => (rtimes_any U R hU.bd hR.bd W).mono fun e w' ⟨he, hb⟩ => ⟨_, he, by rw [hq]; exact rw_times hU.wide hR.wide, hb⟩)
    (fun Q hQ W => (cP Q q hQ W).mono fun e w' ⟨R, he, hR, hb⟩ => ⟨R, he, hR.cast hyc, hb⟩)
    (fun Y Q hY hQ W => by
      by_cases h : y * y % pF = q
      · rw [if_pos h] at hzd
        rw [hzd]
        exact (rfit_yes Y Q y q hY hQ (by rw [h, Nat.mod_eq_of_lt hql]) W).mono fun e w' ⟨he, hb⟩ => ⟨Y, he, hY, hb⟩
      · rw [if_neg h] at hzd
        rw [hzd]
        exact (rfit_no Y Q y q hY hQ (by rw [Nat.mod_eq_of_lt hql]; exact h) W).mono fun e w' ⟨R, he, hR, hb⟩ => ⟨R, he, hR.cast (by rw [Nat.mod_mod]), hb⟩)
    (fun Z hZ W => (rtimes_any Z Z hZ.bd hZ.bd W).mono fun e w' ⟨he, hb⟩ => ⟨_, he, rw_times hZ.wide hZ.wide, hb⟩)
    (fun R Q hR hQ W => rsame_rep hR hQ _ (by rw [Nat.mod_eq_of_lt (fmul_lt z z), Nat.mod_eq_of_lt hql]) W)
    (fun W => rsmall_rep 0 (by decide) W)
    (fun O hO W => rsame_rep hV hO _ (by rw [Nat.mod_eq_of_lt hv]; rfl) W)
    (fun O hO W => rsame_rep hU hO _ (by rw [Nat.mod_eq_of_lt hu]; rfl) W)
    (fun Z hZ W => (rep_bytes Z z hZ W).mono fun e w' ⟨s, he, hs, hb⟩ => ⟨s, he, by rw [Nat.mod_eq_of_lt hzl] at hs; exact BytesIn.of_own hs, hb⟩)
    (fun O Z hO hZ W => (rminus_any O Z hO.far' hZ.far' W).mono fun e w' ⟨he, hb⟩ => ⟨_, he, rep_minus hO hZ hzl, hb⟩) w
  have hf : fmul z z = z * z % pF := rfl
  have hev : (if z % 2 = 1 then fsub 0 z else z) = evn z := rfl
  rw [hf, hev] at h
  clear cI cP hzd hyc hf hev
  generalize z * z % pF = m at *
  generalize evn z = ev at *
  have ho := ratio_opt (m = q) (v = 0) (u = 0) ev
  refine h.mono fun e w' ⟨R, he, hR, hb⟩ => ⟨R, ?_, ?_, hb⟩
  · rw [he, ho.1]
  · rw [ho.2] at hR
    exact hR
end Go.Proofs.YtinigkpidhbgcaaDoor
