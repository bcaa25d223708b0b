/- Package scalar: what rest does in the model. -/
import Derived.Test.YtmehhjogddpkgaaDoorSRestM
import Derived.WalkMore
namespace Go.Proofs.YtmehhjogddpkgaaDoor
open Go.RowKit
/-- What a step keeps. -/
theorem st_take {X Y : Nat → Nat} {a q N : Nat} (ha : a ≤ 4) (hz : ∀ j, a + 1 + 4 ≤ j → j < 9 → X j = 0) (hm : pt X 0 9 % oL = N) (hout : ∀ j, (j < a ∨ a + 5 ≤ j) → Y j = X j) (h : pt Y a 5 + q * oL = pt X a 5) :
    (∀ j, a + 1 + 4 ≤ j → j < 9 → Y j = 0) ∧ pt Y 0 9 % oL = N :=
  ⟨fun j h1 h2 => (hout j (by omega)).trans (hz j h1 h2), (pt_take ha hout h).trans hm⟩
theorem st_next {Y : Nat → Nat} {a : Nat} (hz : ∀ j, a + 1 + 4 ≤ j → j < 9 → Y j = 0) (h : pt Y a 5 < oL) : (∀ j, a + 4 ≤ j → j < 9 → Y j = 0) ∧ pt Y a 4 < oL := by
  obtain ⟨h1, h2⟩ := top_zero (X := Y) (a := a) (by omega)
  refine ⟨fun j hj h9 => ?_, by omega⟩
  by_cases e : j = a + 4
  · rw [e]; exact h1
  · exact hz j (by omega) h9
set_option maxRecDepth 20000 in
set_option maxHeartbeats 4000000 in
theorem rest_any (g : Nat) (X0 : Nat → Nat) (hX0 : ∀ j, X0 j < 18446744073709551616) (h8 : X0 8 = 0) (w : World) (hrow0 : RowAt .u64 w g 0 9 X0) (hO0 : Ord w) (hg : g ≠ 0) :
    Calls Tryd.prog 25 #[.pointer (some ⟨g, 0, none⟩)] w fun e w' => ∃ h, e = .returned (.slice (some ⟨h, 0, none⟩) 32 32) ∧ w.heap.size ≤ h ∧ h < w'.heap.size ∧ RowAt .u8 w' h 0 32 (byt (pt X0 0 9 % oL)) ∧ Out g 0 9 w w' := by
  have hgl : g < w.heap.size := block_lt_of_cell (hrow0 0 (by decide)).1
  have hst : pt X0 5 4 < oL := by
    have h1 := pt_lt hX0 5 3
    have h2 : pt X0 5 4 = pt X0 5 3 + X0 8 * 18446744073709551616 ^ 3 := rfl
    rw [h8] at h2
    simp only [Nat.reducePow] at h1 h2
    unfold oL
    omega
  obtain ⟨N, hN⟩ : ∃ N, N = pt X0 0 9 % oL := ⟨_, rfl⟩
  rw [← hN]
  have hNl : N < oL := by rw [hN]; exact Nat.mod_lt _ (by decide)
  go_enter Tryd.func25, Tryd.ntmps25
  go_wp2
  go_step3
  go_wp2
  go_step3
  go_wp2
  go_loopw [3] (fun i wr => ∃ (n : Nat) (X : Nat → Nat), n ≤ 5 ∧ i = .int .i64 ((n : Int) - 1) ∧ RowAt .u64 wr g 0 9 X ∧ (∀ j, X j < 18446744073709551616) ∧ (∀ j, n + 4 ≤ j → j < 9 → X j = 0) ∧ pt X n 4 < oL ∧ pt X 0 9 % oL = N ∧ Ord wr ∧ Out g 0 9 w wr) (fun i _ => (intOf i + 1).toNat)
  case atStart => exact ⟨5, X0, by decide, rfl, hrow0, hX0, fun j h1 h2 => absurd h2 (by omega), hst, hN.symm, hO0, Out.refl _ _ _ _⟩
  case round =>
    clear hrow0 hX0 h8 hO0 hst hN
    obtain ⟨n, X, hn, rfl, hrow, hX, hz, hlt, hmod, hO, hout⟩ := hrel
    by_cases h0 : n = 0
    · subst h0
      have hgw : g < wr.heap.size := by have := hout.size; omega
      have eN : N = pt X 0 9 := pt_fin (fun j h1 h2 => hz j (by omega) h2) hlt hmod
      have cb := wbytes_any g N wr hgw (fun j hj => by
        have := (hrow j (by omega)).1
        rw [Nat.zero_add] at this
        rw [this, eN, lw_pt hX 9 j (by omega)])
      clear hz hmod eN hlt hX hrow hNl hO
      go_wp2_with (go_at_call 33; refine cb.mono ?_; clear cb; rintro e w1 ⟨h, rfl, hh1, hh2, hr1, hb1⟩)
      rw [Exit.noGoto_ret]
      go_ret
      exact ⟨h, rfl, by have := hout.size; omega, hh2, hr1, hout.trans (Out.of_below hb1 hgw)⟩
    · obtain ⟨a, rfl⟩ : ∃ a, n = a + 1 := ⟨n - 1, by omega⟩
      have ea : (((a + 1 : Nat) : Int) - 1) = (a : Int) := by omega
      rw [ea]
      have hV := low_lt hX hlt
      obtain ⟨g1, g2, g3, g4, g5⟩ := guess_good X a hX hV
      have cg := guess_any g a X (by omega) hX g1 g2 wr hrow
      have ct := fun W (hr : RowAt .u64 W g 0 9 X) hOW => take_any g a (guessN X a) X (by omega) g3 hX g4 W hr hOW
      generalize guessN X a = q at *
      have hai : (a : Int) ≥ 0 := by omega
      have HZ := Hid.mk' hz
      have HM := Hid.mk' hmod
      clear hz hmod
      go_wp2_with (first
        | (go_at_call 32; refine cg.mono ?_; clear cg; rintro e w1 ⟨rfl, hb1⟩; (have hr1 := hrow.below hb1 (by have := hout.size; omega)); (have hO1 := hO.still hb1); (have ho1 := hout.trans (Out.of_below hb1 (by have := hout.size; omega))); replace ct := ct w1 hr1 hO1)
        | (go_at_call 31; refine ct.mono ?_; clear ct; rintro e w2 ⟨rfl, Y, hr2, hY, hYX, hpt, ho2⟩; (have hO2 := hO1.out ho2 hg); (have ho := ho1.trans ho2)))
      have hP2 : pt Y a 5 < 2 * oL := by omega
      obtain ⟨hY4, hP4⟩ := top_zero hP2
      have SY := Hid.mk' (st_take (by omega) HZ.out HM.out hYX hpt)
      have ct2 := fun W (hr : RowAt .u64 W g 0 9 Y) hOW (h : oL ≤ pt Y a 4) => take_any g a 1 Y (by omega) (by decide) hY (by rw [Nat.one_mul, ← hP4]; exact h) W hr hOW
      have hP2' := Hid.mk' hP2
      have hP4' := Hid.mk' hP4
      clear hYX hpt hV hlt g1 g2 g3 g4 g5 hX hrow hO hout hr1 hO1 ho1 hb1 ho2 HZ HM hP2 hP4 hY4
      go_loopw [4] (fun i wt => ∃ m : Nat, m ≤ 4 ∧ i = .int .i64 ((m : Int) - 1) ∧ (∀ k, m ≤ k → k < 4 → Y (a + k) = Lw k) ∧ RowAt .u64 wt g 0 9 Y ∧ Ord wt ∧ Out g 0 9 w wt) (fun i _ => (intOf i + 1).toNat)
      case atStart => exact ⟨4, by decide, rfl, fun k h1 h2 => absurd h2 (by omega), hr2, hO2, ho⟩
      case round =>
        clear hr2 hO2 ho
        obtain ⟨m, hm, rfl, heq, hr, hO, ho⟩ := hrel
        have HE := Hid.mk' heq
        clear heq
        by_cases hm0 : m = 0
        · subst hm0
          have hge : oL ≤ pt Y a 4 := Nat.le_of_eq (pt_eq (fun k hk => HE.out k (Nat.zero_le _) hk)).symm
          replace ct2 := ct2 wr hr hO hge
          clear hge
          go_wp2_with (go_at_call 31; refine ct2.mono ?_; clear ct2; rintro e w3 ⟨rfl, Z, hr3, hZ, hZY, hptZ, ho3⟩; (have hO3 := hO.out ho3 hg); (have hoZ := ho.trans ho3); (have HZY := Hid.mk' hZY); (have HPZ := Hid.mk' hptZ); clear hZY hptZ ho3)
          go_roundw
          case rel =>
            obtain ⟨s1, s2⟩ := st_take (by omega) SY.out.1 SY.out.2 HZY.out HPZ.out
            have hl : pt Z a 5 < oL := by have := HPZ.out; have := hP2'.out; omega
            obtain ⟨z1, z2⟩ := st_next s1 hl
            exact ⟨a, Z, by omega, by go_num, hr3, hZ, z1, z2, s2, hO3, hoZ⟩
          case measure => simp [intOf]
        · obtain ⟨i, rfl⟩ : ∃ i, m = i + 1 := ⟨m - 1, by omega⟩
          have ei : (((i + 1 : Nat) : Int) - 1) = (i : Int) := by omega
          rw [ei]
          obtain ⟨rg, -⟩ := hr (a + i) (by omega)
          rw [Nat.zero_add] at rg
          have ro := hO i (by omega)
          have qw : IntKind.i64.wrap ((a : Int) + i) = (a : Int) + i := by simp only [IntKind.wrap_i64]; omega
          have q1 : ((a : Int) + i).toNat = a + i := by omega
          have q2 : (0 : Int) ≤ (a : Int) + i ∧ (a : Int) + i < 9 := by omega
          have q3 : (0 : Int) ≤ (i : Int) ∧ (i : Int) < 4 := by omega
          obtain ⟨c1, c2⟩ := pt_le (m := i) hY (by omega) (fun k h1 h2 => HE.out k (by omega) h2)
          rcases Nat.lt_trichotomy (Y (a + i)) (Lw i) with hc | hc | hc
          · have hl := Hid.mk' (c1 hc)
            have hci : (Y (a + i) : Int) < (Lw i : Int) := by omega
            clear c1 c2 hc ct2
            go_wp2
            go_region
            go_wp2
            obtain ⟨z1, z2⟩ := st_next SY.out.1 (by rw [← hP4'.out]; exact hl.out)
            exact ⟨⟨a, Y, by omega, rfl, hr.drew, hY, z1, z2, SY.out.2, fun j hj => hO j hj, ho.trans (Out.drew _)⟩, by simp [intOf]⟩
          · have hci : ¬(Y (a + i) : Int) < (Lw i : Int) := by omega
            have hci2 : ¬(Lw i : Int) < (Y (a + i) : Int) := by omega
            have hc' := Hid.mk' hc
            clear c1 c2 hc ct2
            go_wp2
            go_region
            go_wp2
            go_region
            go_wp2
            go_roundw
            case rel =>
              refine ⟨i, by omega, by go_num, fun k h1 h2 => ?_, hr.drew.drew, fun j hj => hO j hj, (ho.trans (Out.drew _)).trans (Out.drew _)⟩
              by_cases e : k = i
              · rw [e]; exact hc'.out
              · exact HE.out k (by omega) h2
            case measure => simp [intOf]
          · have hci : ¬(Y (a + i) : Int) < (Lw i : Int) := by omega
            have hci2 : (Lw i : Int) < (Y (a + i) : Int) := by omega
            replace ct2 := ct2 wr.drew.drew hr.drew.drew (fun j hj => hO j hj) (c2 hc)
            clear c1 c2 hc
            have hO' : Ord wr.drew.drew := fun j hj => hO j hj
            have ho' : Out g 0 9 w wr.drew.drew := (ho.trans (Out.drew _)).trans (Out.drew _)
            go_wp2
            go_region
            go_wp2
            go_region
            go_wp2_with (go_at_call 31; refine ct2.mono ?_; clear ct2; rintro e w3 ⟨rfl, Z, hr3, hZ, hZY, hptZ, ho3⟩; (have hO3 := hO'.out ho3 hg); (have hoZ := ho'.trans ho3); (have HZY := Hid.mk' hZY); (have HPZ := Hid.mk' hptZ); clear hZY hptZ ho3)
            go_roundw
            case rel =>
              obtain ⟨s1, s2⟩ := st_take (by omega) SY.out.1 SY.out.2 HZY.out HPZ.out
              have hl : pt Z a 5 < oL := by have := HPZ.out; have := hP2'.out; omega
              obtain ⟨z1, z2⟩ := st_next s1 hl
              exact ⟨a, Z, by omega, by go_num, hr3, hZ, z1, z2, s2, hO3, hoZ⟩
            case measure => simp [intOf]
end Go.Proofs.YtmehhjogddpkgaaDoor
