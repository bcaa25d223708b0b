/- Package scalar: what Neg does in the model. -/
import Derived.Test.YtmehhjogddpkgaaDoorSApi3
namespace Go.Proofs.YtmehhjogddpkgaaDoor
open Go.RowKit
/-- The words of the order less one. -/
def Mw (j : Nat) : Nat := if j = 0 then 6346243789798364140 else if j = 1 then 1503914060200516822 else if j = 3 then 1152921504606846976 else 0
theorem Mw_lt (j : Nat) : Mw j < 18446744073709551616 := by
  unfold Mw; split
  · decide
  · split
    · decide
    · split <;> decide
theorem Mw_val : pt Mw 0 4 = oL - 1 := by kernel_rfl
theorem Mw_cells : (ints .u64 9 Mw).toArray = #[.int .u64 6346243789798364140, .int .u64 1503914060200516822, .int .u64 0, .int .u64 1152921504606846976, .int .u64 0, .int .u64 0, .int .u64 0, .int .u64 0, .int .u64 0] := rfl
theorem neg_mod (x : Nat) : (0 + (oL - 1) * x) % oL = (oL - x % oL) % oL := by
  have hx : x % oL < oL := Nat.mod_lt _ (by decide)
  have h0 : 0 < oL := by decide
  have e : ∀ q r : Nat, r < oL → (oL - 1) * (oL * q + r) % oL = (oL - r) % oL := fun q r hr => by
    have e1 : (oL - 1) * (oL * q + r) = (oL - 1) * r + oL * ((oL - 1) * q) := by
      rw [Nat.mul_add, Nat.mul_left_comm, Nat.add_comm]
    rw [e1, Nat.add_mul_mod_self_left]
    cases r with
    | zero => rw [Nat.mul_zero, Nat.zero_mod, Nat.sub_zero, Nat.mod_self]
    | succ r =>
      have e2 : (oL - 1) * (r + 1) = (oL - (r + 1)) + oL * r := by
        rw [Nat.sub_mul, Nat.mul_succ]
        have : r + 1 ≤ oL := by omega
        omega
      rw [e2, Nat.add_mul_mod_self_left]
  have h := e (x / oL) (x % oL) hx
  rw [Nat.div_add_mod] at h
  rw [Nat.zero_add]
  exact h
/-- A wide number laid into a new block, and zeros behind it. -/
def negW (w : World) (B : Nat → Nat) : World := (laidW w B).alloc (.cells zW 40)
theorem negW_below (w : World) (B : Nat → Nat) : Below w.heap.size w (negW w B) := (laidW_below w B).alloc (by rw [laidW_size]; omega) _
theorem negW_rows (w : World) (B : Nat → Nat) {g : Nat} {M : Nat → Nat} (h : RowAt .u64 w g 0 9 M) (hg : g < w.heap.size) : RowAt .u64 (negW w B) (laidW w B).heap.size 0 9 (fun _ => 0) ∧ RowAt .u64 (negW w B) g 0 9 M ∧ RowAt .u64 (negW w B) w.heap.size 0 9 B := by
  exact ⟨fresh9 (laidW w B), h.below (negW_below w B) hg, (laidW_row w B).alloc (by rw [laidW_size]; omega) _⟩
set_option maxRecDepth 20000 in
set_option maxHeartbeats 4000000 in
theorem neg_good (v : Value) (bs : Nat → Nat) (hbs : ∀ j, bs j < 256) (w : World) (hO : Ord w) (hv : BytesIn w v 32 bs) :
    Calls Tryd.prog 18 #[v] w fun e w' => ∃ s, e = .returned (.tuple #[s, .int .i64 0]) ∧ NewB w w' s 32 (byt ((oL - ofB bs 32 % oL) % oL)) ∧ Below w.heap.size w w' := by
  have cl := fun (W : World) (hW : Below w.heap.size w W) => load_any v 32 bs hbs (by decide) W (hv.still hW)
  have pB := pt_lwN (ofB_32 hbs)
  obtain ⟨xv, kv, rfl, -⟩ := hv.src
  have hB := lw_lt (ofB bs 32)
  rw [← neg_mod (ofB bs 32)]
  generalize hN : 0 + (oL - 1) * ofB bs 32 = N
  have hN' := Hid.mk' (addp_eq (show pt (fun _ => 0) 0 9 = 0 from pt_zero 9 (fun _ _ => rfl)) Mw_val pB hN)
  obtain ⟨B, hBe⟩ : ∃ X, X = lw (ofB bs 32) := ⟨_, rfl⟩
  rw [← hBe] at cl hB hN'
  unfold wideV at cl
  have o0 : w.cell? ⟨0, 0, none⟩ = some (.int .u64 6346243789798364141) := hO 0 (by decide)
  have o1 : w.cell? ⟨0, 1, none⟩ = some (.int .u64 1503914060200516822) := hO 1 (by decide)
  have o2 : w.cell? ⟨0, 2, none⟩ = some (.int .u64 0) := hO 2 (by decide)
  have o3 : w.cell? ⟨0, 3, none⟩ = some (.int .u64 1152921504606846976) := hO 3 (by decide)
  have cp := fun (W : World) (g ga gb : Nat) h1 h2 hr1 hr2 hr3 => addp_N g ga gb (fun _ => 0) Mw B N hN'.out h1 h2 (fun _ => by decide) Mw_lt hB (fun _ _ _ => rfl) W hr1 hr2 hr3
  have cr := fun (W : World) (X : Nat → Nat) g (hX : ∀ j, X j < 18446744073709551616) h8 hr hOW hg => rest_any g X hX h8 W hr hOW hg
  have hz := zeroW
  have iM := infoWA Mw
  have oM := oneW Mw
  have tM := laidW_there w Mw
  rw [Mw_cells] at iM oM tM
  have iB := infoWA B
  have oB := oneW B
  clear pB hBe hN hN' hB hv hbs
  go_enter Tryd.func18, Tryd.ntmps18
  go_wp2_with (first
    | (with_reducible (refine id (?_ : wpList _ _ _ _ _ _)); refine wpList_store_mid rfl 40 _ _ rfl w.heap.size 0 #[.int .u64 6346243789798364140, .int .u64 1503914060200516822, .int .u64 0, .int .u64 1152921504606846976, .int .u64 0, .int .u64 0, .int .u64 0, .int .u64 0, .int .u64 0] rfl rfl tM iM oM ?_; clear tM iM oM)
    | (go_at_call 24; refine Calls.mono (show Calls _ _ _ (laidW w Mw) _ from cl (laidW w Mw) (laidW_below w Mw)) ?_; clear cl; rintro e w1 ⟨rfl, hb1⟩; (have hth := laidW_there w1 B); (have rM := (laidW_row w Mw).below hb1 (by rw [laidW_size]; omega)); (have hs1 : w.heap.size < w1.heap.size := by have := hb1.size; rw [laidW_size] at this; omega); (have hw1 := (laidW_below w Mw).trans (hb1.mono (laidW_below w Mw).size)); (have hne1 : (laidW w1 B).heap.size ≠ w.heap.size := by rw [laidW_size]; omega); (have hne2 : (laidW w1 B).heap.size ≠ w1.heap.size := by rw [laidW_size]; omega); (have hge : w1.heap.size ≤ (laidW w1 B).heap.size := by rw [laidW_size]; omega))
    | (with_reducible (refine id (?_ : wpList _ _ _ _ _ _)); refine wpList_store_mid rfl 40 _ _ rfl w1.heap.size 0 (ints .u64 9 B).toArray rfl rfl hth iB oB ?_; clear hth)
    | (go_at_call 28; refine Calls.mono (show Calls _ _ _ (negW w1 B) _ from cp (negW w1 B) (laidW w1 B).heap.size w.heap.size w1.heap.size hne1 hne2 (negW_rows w1 B rM hs1).1 (negW_rows w1 B rM hs1).2.1 (negW_rows w1 B rM hs1).2.2) ?_; clear cp; rintro e w4 ⟨rfl, Y, hr4, hY, hY8, hval, ho4⟩; (have hb14 : Below w1.heap.size w1 w4 := (negW_below w1 B).trans (ho4.below hge (negW_below w1 B).size)); (have hw4 := hw1.trans (hb14.mono hw1.size)); (have HV := Hid.mk' hval); clear hval; replace cr := cr w4 Y (laidW w1 B).heap.size hY hY8 hr4 (hO.still hw4) (by omega))
    | (go_at_call 25; refine Calls.mono (show Calls _ _ #[.pointer (some ⟨(laidW w1 B).heap.size, 0, none⟩)] _ _ from cr) ?_; clear cr; rintro e w5 ⟨h, rfl, hh1, hh2, hr5, ho5⟩))
  go_ret2
  have hb5 := hw4.trans (ho5.below (B := w.heap.size) (by omega) hw4.size)
  rw [HV.out] at hr5
  exact ⟨_, rfl, ⟨h, rfl, by have := hw4.size; omega, hr5⟩, hb5⟩
end Go.Proofs.YtmehhjogddpkgaaDoor
