/- What num and small of the laws of layer 4 do in the model. -/
import Derived.Test.YtmehhjogddpkgaaDoorNews
namespace Go.Proofs.YtmehhjogddpkgaaDoor
open Go.RowKit
theorem num4_any (n : Int) (w : World) : Calls Tryd.prog 11 #[.int .i64 n] w fun e w' => e = .returned (.int .i64 n) ∧ w' = w := by
  go_enter Tryd.func11, Tryd.ntmps11
  go_wp2
  go_ret
  exact ⟨rfl, rfl⟩
set_option maxRecDepth 20000 in
theorem small_any (n : Nat) (hn : n < 256) (w : World) : Calls Tryd.prog 20 #[.int .u8 n] w fun e w' => ∃ s, e = .returned s ∧ NewB w w' s 32 (byt n) ∧ Below w.heap.size w w' := by
  have hmk := make_bytes w 32 32 rfl (by decide)
  obtain ⟨W, hW⟩ : ∃ W, W = w.alloc (.cells (zb 32) 5) := ⟨_, rfl⟩
  have hrow : RowAt .u8 W w.heap.size 0 32 (fun _ => 0) := by rw [hW]; exact RowAt.fresh (fun j hj => zb_at 32 j hj)
  have hb : Below w.heap.size w W := by rw [hW]; exact (Below.refl _ _).alloc (Nat.le_refl _) _
  obtain ⟨r0, f0⟩ := hrow 0 (by decide)
  have r0' : W.cell? ⟨w.heap.size, 0, none⟩ = some (.int .u8 0) := r0
  have f0' : W.frozen? ⟨w.heap.size, 0, none⟩ = false := f0
  rw [← hW] at hmk
  clear hW r0 f0
  go_enter Tryd.func20, Tryd.ntmps20
  go_wp2_with (rw [hmk])
  go_ret
  have h1 := hrow.set (i := 0) (by decide) (v := (n : Int)) (u := n) rfl
  refine ⟨_, rfl, ⟨w.heap.size, rfl, Nat.le_refl _, h1.congr (fun j hj => ?_)⟩, hb.setCell (Nat.le_refl _) _⟩
  rw [← byt_small n j hn]
  unfold upd
  rfl
end Go.Proofs.YtmehhjogddpkgaaDoor
