/- What mul and add of the laws of layer 4 do in the model; a condition of a region made narrower on the way. -/
import Derived.Test.YtmehhjogddpkgaaDoorSKnow
namespace Go.Proofs.YtmehhjogddpkgaaDoor
open Go.RowKit
/-- What holds under a narrower condition on the worlds holds under the wider one. -/
theorem wpAnyH_narrow {P : Program} {md : Region.Mode} {ops : Array Oper} {Q : Exit → Act → World → Prop} {S S' : World → Prop} (h : ∀ w, S' w → S w) : ∀ (fuel : Nat) (listed : Array Bool) (a : Act) (w : World), wpAnyH P md ops Q S' fuel listed a w → wpAnyH P md ops Q S fuel listed a w
  | 0, _, _, _, H => H
  | fuel + 1, _, _, _, H => ⟨H.1, fun i hi => wpOp_mono (fun a' w' h' => ⟨h w' h'.1, wpAnyH_narrow h fuel _ a' w' h'.2⟩) (H.2 i hi)⟩
set_option maxRecDepth 20000 in
set_option maxHeartbeats 2000000 in
theorem mul4_N (x y : Value) (X Y : Nat → Nat) (N : Nat) (hX : ∀ j, X j < 256) (hY : ∀ j, Y j < 256) (hN : ofB X 32 * ofB Y 32 % oL = N) (w : World) (hO : Ord w) (hx : BytesIn w x 32 X) (hy : BytesIn w y 32 Y) :
    Calls Tryd.prog 23 #[x, y] w fun e w' => ∃ s, e = .returned s ∧ NewB w w' s 32 (byt N) ∧ Below w.heap.size w w' := by
  have c0 : ∀ W, Calls Tryd.prog 20 #[.int .u8 0] W fun e w' => ∃ s, e = .returned s ∧ NewB W w' s 32 (byt 0) ∧ Below W.heap.size W w' := fun W => small_any 0 (by decide) W
  have cm := fun (W : World) z hOW h1 h2 h3 => muladd_good x y z X Y (byt 0) hX hY (byt_all 0) W hOW h1 h2 h3
  rw [ofB_byt32 0 (by decide), Nat.zero_add, hN] at cm
  obtain ⟨xv, kv, rfl, -⟩ := hx.src
  obtain ⟨xu, ku, rfl, -⟩ := hy.src
  clear hN
  go_enter Tryd.func23, Tryd.ntmps23
  go_wp2_with (first
    | (go_at_call 20; refine (c0 _).mono ?_; clear c0; rintro e w1 ⟨s1, rfl, hn1, hb1⟩; (have b1 := hn1.bytes (by decide)); obtain ⟨g1, rfl, -⟩ := hn1; replace cm := cm w1 _ (hO.still hb1) (hx.still hb1) (hy.still hb1) b1)
    | (go_at_call 16; refine cm.mono ?_; clear cm; rintro e w2 ⟨s2, rfl, hn2, hb2⟩))
  go_ret
  obtain ⟨g, rfl, hg, hr⟩ := hn2
  exact ⟨_, rfl, ⟨g, rfl, by have := hb1.size; omega, hr⟩, below_next hb1 hb2⟩
set_option maxRecDepth 20000 in
set_option maxHeartbeats 2000000 in
theorem add4_N (x y : Value) (X Y : Nat → Nat) (N : Nat) (hX : ∀ j, X j < 256) (hY : ∀ j, Y j < 256) (hN : (ofB Y 32 + ofB X 32) % oL = N) (w : World) (hO : Ord w) (hx : BytesIn w x 32 X) (hy : BytesIn w y 32 Y) :
    Calls Tryd.prog 22 #[x, y] w fun e w' => ∃ s, e = .returned s ∧ NewB w w' s 32 (byt N) ∧ Below w.heap.size w w' := by
  have c1 : ∀ W, Calls Tryd.prog 20 #[.int .u8 1] W fun e w' => ∃ s, e = .returned s ∧ NewB W w' s 32 (byt 1) ∧ Below W.heap.size W w' := fun W => small_any 1 (by decide) W
  have cm := fun (W : World) z hOW h1 h2 h3 => muladd_good x z y X (byt 1) Y hX (byt_all 1) hY W hOW h1 h2 h3
  rw [ofB_byt32 1 (by decide), Nat.mul_one, hN] at cm
  obtain ⟨xv, kv, rfl, -⟩ := hx.src
  obtain ⟨xu, ku, rfl, -⟩ := hy.src
  clear hN
  go_enter Tryd.func22, Tryd.ntmps22
  go_wp2_with (first
    | (go_at_call 20; refine (c1 _).mono ?_; clear c1; rintro e w1 ⟨s1, rfl, hn1, hb1⟩; (have b1 := hn1.bytes (by decide)); obtain ⟨g1, rfl, -⟩ := hn1; replace cm := cm w1 _ (hO.still hb1) (hx.still hb1) b1 (hy.still hb1))
    | (go_at_call 16; refine cm.mono ?_; clear cm; rintro e w2 ⟨s2, rfl, hn2, hb2⟩))
  go_ret
  obtain ⟨g, rfl, hg, hr⟩ := hn2
  exact ⟨_, rfl, ⟨g, rfl, by have := hb1.size; omega, hr⟩, below_next hb1 hb2⟩
end Go.Proofs.YtmehhjogddpkgaaDoor
