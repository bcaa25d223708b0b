/- What Fit, mul, add and sub of the laws of layer 3 do in the model. -/
import Derived.Test.YtinigkpidhbgcaaDoorKnow
namespace Go.Proofs.YtinigkpidhbgcaaDoor
open Go.RowKit
/-- The first bytes of any, zeros behind. -/
def fitB (n : Nat) (bs : Nat → Nat) (j : Nat) : Nat := if j < n then bs j else 0
theorem fitB_lt {n : Nat} {bs : Nat → Nat} (h : ∀ j, bs j < 256) (j : Nat) : fitB n bs j < 256 := by
  unfold fitB; split
  · exact h j
  · decide
theorem infoByte : (Tryd.prog.info? 5).map (·.size) = some 1 := by kernel_rfl
set_option maxRecDepth 20000 in
theorem fit_any (v : Value) (n : Nat) (bs : Nat → Nat) (w : World) (hv : BytesIn w v n bs) : Calls Tryd.prog 11 #[v] w fun e w' => ∃ s, e = .returned s ∧ NewB w w' s 32 (fitB n bs) ∧ Below w.heap.size w w' := by
  have hmk := make_bytes w 32 32 rfl (by decide)
  obtain ⟨W, hW⟩ : ∃ W, W = w.alloc (.cells (zb 32) 5) := ⟨_, rfl⟩
  have hrow : RowAt .u8 W w.heap.size 0 32 (fun _ => 0) := by rw [hW]; exact RowAt.fresh (fun j hj => zb_at 32 j hj)
  have hb : Below w.heap.size w W := by rw [hW]; exact (Below.refl _ _).alloc (Nat.le_refl _) _
  obtain ⟨xo, c, rfl, hxn, hnc, hsrc⟩ := hv.src
  have src := hsrc W hb
  have hth := hrow.there
  obtain ⟨m, hm⟩ : ∃ m, m = Nat.min n 32 := ⟨_, rfl⟩
  have hsp := hrow.splice 0 m bs (by rw [hm, Nat.zero_add]; exact Nat.min_le_right _ _)
  rw [← hW] at hmk
  have Hm := Hid.mk' hm
  clear hW hv hsrc hm
  go_enter Tryd.func11, Tryd.ntmps11
  go_wp2_with (first
    | rw [hmk]
    | (refine wpList_copy_bytes rfl _ _ 22 22 rfl 5 Tryd.underlying22 infoByte w.heap.size 0 32 32 xo n c rfl rfl m bs src Hm.out hth ?_))
  go_ret
  refine ⟨_, rfl, ⟨w.heap.size, rfl, Nat.le_refl _, ?_⟩, below_setCells (Nat.le_refl _) _ _ _ hb⟩
  refine hsp.congr (fun j hj => ?_)
  have := Hm.out
  unfold over fitB
  by_cases e : j < n
  · rw [if_pos ⟨Nat.zero_le _, by rw [Nat.zero_add, this]; exact Nat.lt_min.2 ⟨e, hj⟩⟩, if_pos e, Nat.sub_zero]
  · rw [if_neg (fun h => by have h2 := h.2; rw [Nat.zero_add, this] at h2; exact e (Nat.lt_min.1 h2).1), if_neg e]
set_option maxRecDepth 20000 in
theorem mul3_any (v u : Value) (bs cs : Nat → Nat) (hbs : ∀ j, bs j < 256) (hcs : ∀ j, cs j < 256) (w : World) (hv : BytesIn w v 32 bs) (hu : BytesIn w u 32 cs) :
    Calls Tryd.prog 12 #[v, u] w fun e w' => ∃ s, e = .returned s ∧ NewB w w' s 32 (byt (ofB bs 32 % pF * (ofB cs 32 % pF) % pF)) ∧ Below w.heap.size w w' := by
  have c := mul_good v u bs cs hbs hcs w hv hu
  obtain ⟨xv, kv, rfl, -⟩ := hv.src
  obtain ⟨xu, ku, rfl, -⟩ := hu.src
  clear hv hu
  go_enter Tryd.func12, Tryd.ntmps12
  go_wp2_with (go_at_call 23; refine c.mono ?_; clear c; rintro e w1 ⟨s, rfl, hn, hb1⟩)
  go_ret
  exact ⟨_, rfl, hn, hb1⟩
set_option maxRecDepth 20000 in
theorem add3_any (v u : Value) (bs cs : Nat → Nat) (hbs : ∀ j, bs j < 256) (hcs : ∀ j, cs j < 256) (w : World) (hv : BytesIn w v 32 bs) (hu : BytesIn w u 32 cs) :
    Calls Tryd.prog 13 #[v, u] w fun e w' => ∃ s, e = .returned s ∧ NewB w w' s 32 (byt ((ofB bs 32 % pF + ofB cs 32 % pF) % pF)) ∧ Below w.heap.size w w' := by
  have c := add_good v u bs cs hbs hcs w hv hu
  obtain ⟨xv, kv, rfl, -⟩ := hv.src
  obtain ⟨xu, ku, rfl, -⟩ := hu.src
  clear hv hu
  go_enter Tryd.func13, Tryd.ntmps13
  go_wp2_with (go_at_call 24; refine c.mono ?_; clear c; rintro e w1 ⟨s, rfl, hn, hb1⟩)
  go_ret
  exact ⟨_, rfl, hn, hb1⟩
set_option maxRecDepth 20000 in
theorem sub3_any (v u : Value) (bs cs : Nat → Nat) (hbs : ∀ j, bs j < 256) (hcs : ∀ j, cs j < 256) (w : World) (hv : BytesIn w v 32 bs) (hu : BytesIn w u 32 cs) :
    Calls Tryd.prog 15 #[v, u] w fun e w' => ∃ s, e = .returned s ∧ NewB w w' s 32 (byt ((ofB bs 32 % pF + pF - ofB cs 32 % pF) % pF)) ∧ Below w.heap.size w w' := by
  have c := sub_good v u bs cs hbs hcs w hv hu
  obtain ⟨xv, kv, rfl, -⟩ := hv.src
  obtain ⟨xu, ku, rfl, -⟩ := hu.src
  clear hv hu
  go_enter Tryd.func15, Tryd.ntmps15
  go_wp2_with (go_at_call 25; refine c.mono ?_; clear c; rintro e w1 ⟨s, rfl, hn, hb1⟩)
  go_ret
  exact ⟨_, rfl, hn, hb1⟩
end Go.Proofs.YtinigkpidhbgcaaDoor
