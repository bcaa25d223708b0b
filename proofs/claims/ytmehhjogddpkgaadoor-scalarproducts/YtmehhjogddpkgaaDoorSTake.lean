/- Package scalar: what takeAway does in the model. -/
import Derived.Test.YtmehhjogddpkgaaDoorSLoad
import Derived.Test.YtmehhjogddpkgaaDoorSMath
namespace Go.Proofs.YtmehhjogddpkgaaDoor
open Go.RowKit
/-- The package's order lies where the program's text lays it. -/
def Ord (w : World) : Prop := ∀ j, j < 4 → w.cell? ⟨0, j, none⟩ = some (.int .u64 (Lw j))
theorem Ord.lt {w : World} (h : Ord w) : 0 < w.heap.size := block_lt_of_cell (h 0 (by decide))
theorem Ord.below {B : Nat} {w w' : World} (h : Ord w) (hb : Below B w w') (hB : 0 < B) : Ord w' := fun j hj => (hb.cell (p := ⟨0, j, none⟩) hB).trans (h j hj)
theorem Ord.still {w w' : World} (h : Ord w) (hb : Below w.heap.size w w') : Ord w' := h.below hb h.lt
theorem Ord.out {g o n : Nat} {w w' : World} (h : Ord w) (hb : Out g o n w w') (hg : g ≠ 0) : Ord w' := fun j hj => (hb.cell' h.lt (Ne.symm hg)).trans (h j hj)
theorem Ord.range {w : World} (h : Ord w) : w.rangeAt 0 0 (ints .u64 4 Lw) := fun j v hv => by
  have hj : j < 4 := by have := (List.getElem?_eq_some_iff.1 hv).1; rwa [ints_len] at this
  rw [ints_at _ _ _ j hj] at hv
  rw [← hv, Nat.zero_add]; exact h j hj
theorem index4 (X : Nat → Nat) (k : Nat) (hk : k < 4) (W : World) : (Instr.index 48 (.agg (ints .u64 4 X).toArray) (.int .i64 k)).run Tryd.prog W = .ok (.int .u64 (X k)) W := by
  have h : k = 0 ∨ k = 1 ∨ k = 2 ∨ k = 3 := by omega
  rcases h with rfl | rfl | rfl | rfl <;> rfl
set_option maxRecDepth 20000 in
set_option maxHeartbeats 2000000 in
theorem take_any (g a q : Nat) (X : Nat → Nat) (ha : a ≤ 4) (hq : q < 18446744073709551616) (hX : ∀ j, X j < 18446744073709551616) (hV : q * oL ≤ pt X a 5) (w : World) (hrow0 : RowAt .u64 w g 0 9 X) (hO : Ord w) :
    Calls Tryd.prog 31 #[.pointer (some ⟨g, 0, none⟩), .int .i64 a, .int .u64 q] w fun e w' => e = .returned (.tuple #[]) ∧ ∃ Y, RowAt .u64 w' g 0 9 Y ∧ (∀ j, Y j < 18446744073709551616) ∧ (∀ j, (j < a ∨ a + 5 ≤ j) → Y j = X j) ∧ pt Y a 5 + q * oL = pt X a 5 ∧ Out g 0 9 w w' := by
  have hi4 : (Tryd.prog.info? 48).map (·.size) = some (ints .u64 4 Lw).length := by kernel_rfl
  have hOr := hO.range
  go_enter Tryd.func31, Tryd.ntmps31
  go_wp2_with (refine wpList_load_mid rfl 48 _ rfl 0 0 rfl (ints .u64 4 Lw) _ hOr Tryd.underlying48 rfl hi4 ?_)
  go_loopw [14, 6, 7] (fun i c b wr => ∃ (k C D : Nat) (Z : Nat → Nat), k ≤ 4 ∧ i = .int .i64 k ∧ c = .int .u64 C ∧ b = .int .u64 D ∧ C < 18446744073709551616 ∧ D ≤ 1 ∧ RowAt .u64 wr g 0 9 Z ∧ (∀ j, Z j < 18446744073709551616) ∧ (∀ j, (j < a ∨ a + k ≤ j) → Z j = X j) ∧ pt Z a k + q * pt Lw 0 k = pt X a k + 18446744073709551616 ^ k * (C + D) ∧ Out g 0 9 w wr) (fun i _ _ _ => 4 - (intOf i).toNat)
  case atStart => exact ⟨0, 0, 0, X, by decide, rfl, rfl, rfl, by decide, by decide, hrow0, hX, fun _ _ => rfl, by simp [pt], Out.refl _ _ _ _⟩
  case round =>
    clear hrow0 hOr
    obtain ⟨k, C, D, Z, hk, rfl, rfl, rfl, hC, hD, hrow, hZ, hZX, hinv, hout⟩ := hrel
    by_cases hlt : k < 4
    · obtain ⟨rk, rf⟩ := hrow (a + k) (by omega)
      rw [Nat.zero_add] at rk rf
      obtain ⟨h0, l0, hh0, hl0, e0, r0⟩ := mul64_ex q (Lw k) hq (Lw_lt k)
      obtain ⟨l1, k1, hl1, hk1, e1, r1⟩ := add64_ex0 l0 C hl0 hC
      obtain ⟨u, b', hu, hb', e2, r2⟩ := sub64_ex (Z (a + k)) l1 D (hZ _) hl1 hD
      have r0' := r0 wr
      have hstep := Hid.mk' (take_step hinv e0 e1 e2)
      have hix := index4 Lw k hlt
      have b1 : h0 + k1 < 18446744073709551616 := by omega
      have qw : IntKind.i64.wrap ((a : Int) + k) = (a : Int) + k := by simp only [IntKind.wrap_i64]; omega
      have q1 : ((a : Int) + k).toNat = a + k := by omega
      have q2 : (0 : Int) ≤ (a : Int) + k ∧ (a : Int) + k < 9 := by omega
      have HZX := Hid.mk' hZX
      clear e0 e1 e2 r0 hinv hV hZX
      go_wp2_with (first
        | (go_at_call 34; refine r0'.mono ?_; clear r0'; rintro e w' ⟨rfl, rfl⟩)
        | rw [r1]
        | rw [hix])
      go_region_with (rw [r2])
      go_wp2
      go_roundw
      case rel =>
        have h1 := (hrow.set (i := a + k) (by omega) (v := (u : Int)) (u := u) rfl).drew
        rw [Nat.zero_add] at h1
        have eZ : Z (a + k) = X (a + k) := HZX.out (a + k) (.inr (Nat.le_refl _))
        refine ⟨k + 1, h0 + k1, b', upd Z (a + k) u, by omega, by go_num, by go_num, rfl, b1, hb', h1, fun j => ?_, fun j hj => ?_, ?_, hout.trans ((Out.setCell w' _ (by omega) (by omega)).trans (Out.drew _))⟩
        · unfold upd; split
          · exact hu
          · exact hZ j
        · unfold upd; rw [if_neg (by omega)]; exact HZX.out j (by omega)
        · have hs := hstep.out
          have e3 : pt (upd Z (a + k) u) a k = pt Z a k := pt_congr k (fun j hj => by unfold upd; rw [if_neg (by omega)])
          have e4 : upd Z (a + k) u (a + k) = u := by unfold upd; rw [if_pos rfl]
          rw [pt, pt, pt, e3, e4, Nat.pow_succ, ← eZ, Nat.zero_add]
          exact hs
      case measure => simp [intOf]; omega
    · have hke : k = 4 := by omega
      subst hke
      obtain ⟨rk, rf⟩ := hrow (a + 4) (by omega)
      rw [Nat.zero_add] at rk rf
      have HZX := Hid.mk' hZX
      have hinv' := Hid.mk' hinv
      have hVH := Hid.mk' hV
      have qw : IntKind.i64.wrap ((a : Int) + 4) = (a : Int) + 4 := by simp only [IntKind.wrap_i64]; omega
      have q1 : ((a : Int) + 4).toNat = a + 4 := by omega
      have q2 : (0 : Int) ≤ (a : Int) + 4 ∧ (a : Int) + 4 < 9 := by omega
      clear hZX hinv hV
      have hCD : C + D ≤ Z (a + 4) := by
        have h1 := hinv'.out
        have h2 := hVH.out
        have h3 := pt_lt hZ a 4
        rw [pt, ← HZX.out (a + 4) (.inr (Nat.le_refl _))] at h2
        rw [pt_L] at h1
        simp only [Nat.reducePow] at h1 h2 h3
        generalize q * oL = T at h1 h2
        omega
      have hZa := hZ (a + 4)
      have hfin := (hrow.set (i := a + 4) (by omega) (v := (Z (a + 4) : Int) - ((C : Int) + D)) (u := Z (a + 4) - (C + D)) (by omega)).drew
      rw [Nat.zero_add] at hfin
      have hfin' := Hid.mk' hfin
      clear hfin
      go_wp2
      go_region
      go_wp2
      go_end0
      refine ⟨rfl, upd Z (a + 4) (Z (a + 4) - (C + D)), hfin'.out, fun j => ?_, fun j hj => ?_, ?_, hout.trans ((Out.setCell wr _ (by omega) (by omega)).trans (Out.drew _))⟩
      · unfold upd; split
        · omega
        · exact hZ j
      · unfold upd; rw [if_neg (by omega)]; exact HZX.out j (by omega)
      · have h1 := hinv'.out
        have e3 : pt (upd Z (a + 4) (Z (a + 4) - (C + D))) a 4 = pt Z a 4 := pt_congr 4 (fun j hj => by unfold upd; rw [if_neg (by omega)])
        have e4 : upd Z (a + 4) (Z (a + 4) - (C + D)) (a + 4) = Z (a + 4) - (C + D) := by unfold upd; rw [if_pos rfl]
        rw [pt5 X, pt5, e3, e4, ← HZX.out (a + 4) (.inr (Nat.le_refl _))]
        rw [pt_L] at h1
        simp only [Nat.reducePow] at h1 ⊢
        generalize q * oL = T at h1 ⊢
        omega
end Go.Proofs.YtmehhjogddpkgaaDoor
