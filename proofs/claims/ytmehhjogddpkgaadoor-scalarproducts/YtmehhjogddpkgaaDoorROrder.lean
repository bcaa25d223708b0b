/- The reference of layer 4: what order does in the model. -/
import Derived.Test.YtmehhjogddpkgaaDoorRLess
namespace Go.Proofs.YtmehhjogddpkgaaDoor
open Go.RowKit
/-- What order holds on its way: the first sixteen bytes of the order, zeros behind. -/
def ordP (j : Nat) : Nat := if j < 16 then byt oL j else 0
theorem ordP_upd (j : Nat) (hj : j < 34) : upd ordP 31 16 j = byt oL j := by
  have h : ∀ j, j < 34 → upd ordP 31 16 j = byt oL j := by decide +kernel
  exact h j hj
theorem ordC : (ints .i64 16 ordP) = [.int .i64 237, .int .i64 211, .int .i64 245, .int .i64 92, .int .i64 26, .int .i64 99, .int .i64 18, .int .i64 88, .int .i64 214, .int .i64 156, .int .i64 247, .int .i64 162, .int .i64 222, .int .i64 249, .int .i64 222, .int .i64 20] := by kernel_rfl
theorem ordP_z (j : Nat) (h : 16 ≤ j) : ordP j = 0 := by unfold ordP; rw [if_neg (by omega)]
theorem OwnI.some {base : Nat} {w : World} {v : Value} {n : Nat} {X : Nat → Nat} (h : OwnI base w v (n + 1) X) : ∃ g cap, v = .slice (.some ⟨g, 0, none⟩) (n + 1) cap := by
  rcases h.form with ⟨_, h⟩ | ⟨g, cap, h, _⟩
  · omega
  · exact ⟨g, cap, h⟩
/-- How long a slice is. -/
def lenV : Value → Nat
  | .slice _ n _ => n
  | _ => 0
set_option maxRecDepth 20000 in
set_option maxHeartbeats 2000000 in
theorem rorder_any (w : World) : Calls Tryd.prog 30 #[] w fun e w' => ∃ g cap, e = .returned (.slice (some ⟨g, 0, none⟩) 34 cap) ∧ w.heap.size ≤ g ∧ g < w'.heap.size ∧ RowAt .i64 w' g 0 34 (byt oL) ∧ Below w.heap.size w w' := by
  have own0 : OwnI w.heap.size (w.alloc (.cells (ints .i64 16 ordP).toArray 3)) (.slice (some ⟨w.heap.size, 0, none⟩) 16 16) 16 ordP := by
    have := World.ownsRow_lit (base := w.heap.size) (e := 3) (size := 1) w (ints .i64 16 ordP).toArray 16 (Nat.le_refl _) (by decide) (by kernel_rfl)
    exact this
  rw [ordC] at own0
  go_enter Tryd.func30, Tryd.ntmps30
  go_wp2
  go_loopw [1] (fun v wr => ∃ n g cap : Nat, 16 ≤ n ∧ n ≤ 34 ∧ v = .slice (some ⟨g, 0, none⟩) n cap ∧ OwnI w.heap.size wr v n ordP ∧ Below w.heap.size w wr) (fun v _ => 34 - lenV v)
  case atStart => exact ⟨16, w.heap.size, 16, by decide, by decide, rfl, own0, (Below.refl _ _).alloc (Nat.le_refl _) _⟩
  case round =>
    clear own0
    obtain ⟨n, g, cap, h16, h34, rfl, own, hb⟩ := hrel
    by_cases hlt : n < 34
    · have hni : (n : Int) < 34 := by omega
      have hs := hb.size
      have hz : (0 : Int) = (ordP n : Int) := by rw [ordP_z n h16]; rfl
      have HZ := Hid.mk' hz
      clear hz
      go_wp2_with (at_builtin; refine wpList_append_nextI rfl (.tmp 6) (.tmp 7) rfl w.heap.size _ n ordP 0 rfl own rfl HZ.out (by omega) hs ?_; intro v' w' own' hb'; (obtain ⟨g', cap', rfl⟩ := own'.some); clear own)
      go_roundw
      case rel => exact ⟨n + 1, g', cap', by omega, by omega, rfl, own', hb.trans hb'⟩
      case measure => simp [lenV]; omega
    · have hke : n = 34 := by omega
      subst hke
      obtain ⟨g2, cap2, e, hg, hgl, hc, hr⟩ := own.form.resolve_left (fun h => by omega)
      cases e
      obtain ⟨r31, f31⟩ := hr 31 (by decide)
      rw [Nat.zero_add] at r31 f31
      clear own
      go_wp2
      go_ret
      have h1 := hr.set (i := 31) (by decide) (v := 16) (u := 16) rfl
      rw [Nat.zero_add] at h1
      exact ⟨g, cap, rfl, hg, by simpa using hgl, h1.congr (fun j hj => ordP_upd j hj), hb.setCell hg _⟩
end Go.Proofs.YtmehhjogddpkgaaDoor
