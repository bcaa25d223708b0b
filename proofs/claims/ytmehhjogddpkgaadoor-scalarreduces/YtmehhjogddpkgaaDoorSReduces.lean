/- The walk of the law ScalarReduces in the model. -/
import Derived.Test.YtmehhjogddpkgaaDoorRRed
import Derived.Test.YtmehhjogddpkgaaDoorSKnow
namespace Go.Proofs.YtmehhjogddpkgaaDoor
open Go.RowKit
theorem reduce_pair (w : World) (hO : Ord w) (x a : Value) (n : Nat) (bs : Nat → Nat) (hbs : ∀ j, bs j < 256) (hx : BytesIn w x n bs) (ha : BytesIn w a n bs) : Pair 9 10 w #[x] #[a] := by
  by_cases h : n ≤ 64
  · exact ⟨_, 0, fun W hW => (reduce_good x n bs hbs h W (hO.still hW) (hx.still hW)).mono fun e w' ⟨s, he, hn, hbw⟩ => ⟨s, he, hn.str, hbw⟩, fun W hW => (rreduce_good a n bs hbs h W (ha.still hW)).mono fun e w' ⟨s, he, hn, hbw⟩ => ⟨s, he, Str.of hn (byt_all _), hbw⟩⟩
  · obtain ⟨xx, cx, rfl, -⟩ := hx.src
    obtain ⟨xa, ca, rfl, -⟩ := ha.src
    exact ⟨_, 1, fun W _ => (reduce_bad xx n cx h W).mono fun e w' ⟨he, hw⟩ => ⟨_, he, Str.nil _, by rw [hw]; exact Below.refl _ _⟩, fun W _ => (rreduce_bad xa n ca h W).mono fun e w' ⟨he, hw⟩ => ⟨_, he, Str.nil _, by rw [hw]; exact Below.refl _ _⟩⟩
/-- Whatever two calls answer: the same. -/
def BPair (f g : FuncId) (w : World) (p : Array Value) (q : Array Value) : Prop := ∃ b : Bool, (∀ W, Below w.heap.size w W → Calls Tryd.prog f p W fun e w' => e = .returned (.bool b) ∧ Below W.heap.size W w') ∧ (∀ W, Below w.heap.size w W → Calls Tryd.prog g q W fun e w' => e = .returned (.bool b) ∧ Below W.heap.size W w')
theorem canonical_pair (w : World) (hO : Ord w) (x a : Value) (n : Nat) (bs : Nat → Nat) (hbs : ∀ j, bs j < 256) (hx : BytesIn w x n bs) (ha : BytesIn w a n bs) : BPair 12 13 w #[x] #[a] := by
  by_cases h : n = 32
  · subst h
    exact ⟨_, fun W hW => canonical_good x bs hbs W (hO.still hW) (hx.still hW), fun W hW => rcanonical_good a bs hbs W (ha.still hW)⟩
  · obtain ⟨xx, cx, rfl, -⟩ := hx.src
    obtain ⟨xa, ca, rfl, -⟩ := ha.src
    exact ⟨false, fun W _ => (canonical_bad xx n cx h W).mono fun e w' ⟨he, hw⟩ => ⟨he, by rw [hw]; exact Below.refl _ _⟩, fun W _ => (rcanonical_bad xa n ca h W).mono fun e w' ⟨he, hw⟩ => ⟨he, by rw [hw]; exact Below.refl _ _⟩⟩
set_option maxRecDepth 20000 in
set_option maxHeartbeats 4000000 in
theorem scalarReduces_any (a : Value) (n : Nat) (bs : Nat → Nat) (hbs : ∀ j, bs j < 256) (w : World) (hO : Ord w) (ha : BytesIn w a n bs) (hn : n < 140737488355000) :
    Calls Tryd.prog 3 #[a] w fun e w' => e = .returned (.bool true) ∧ Below w.heap.size w w' := by
  have cl := lent_any a n bs w ha hn
  have hk := fun W hOW => knows4_any W hOW
  have hst := fun W g cap (hc : n + 2 ≤ cap) (hr : RowAt .u8 W g 0 (n + 2) (cat n bs room)) (hW : Below w.heap.size w W) => stays_any g cap n a bs hbs W hn hc hr (ha.still hW)
  have hred := fun W x (hW : Below w.heap.size w W) hx => reduce_pair W (hO.still hW) x a n bs hbs hx (ha.still hW)
  have hcan := fun W x (hW : Below w.heap.size w W) hx => canonical_pair W (hO.still hW) x a n bs hbs hx (ha.still hW)
  obtain ⟨xa, ca, rfl, -⟩ := ha.src
  clear ha hbs
  go_enter Tryd.func3, Tryd.ntmps3
  go_wp2_with (first
    | (go_at_call 8; refine cl.mono ?_; clear cl; rintro e w1 ⟨g1, k1, rfl, hk1, hg1, hr1, hb1⟩; (have hg1l := block_lt_of_cell (hr1 0 (by omega)).1); (obtain ⟨SA, ea, pa1, pa2⟩ := hred w1 _ hb1 (lent_bytes hr1 hk1)); (obtain ⟨b, pc1, pc2⟩ := hcan w1 _ hb1 (lent_bytes hr1 hk1)); clear hred hcan; replace pa1 := pa1 w1 (Below.refl _ _))
    | (go_at_call 9; refine pa1.mono ?_; clear pa1; rintro e w2 ⟨v2, rfl, t2, hb2⟩; (obtain ⟨x2, n2, c2, rfl⟩ := t2.form); replace pa2 := pa2 w2 hb2)
    | (go_at_call 10; refine pa2.mono ?_; clear pa2; rintro e w3 ⟨v3, rfl, t3, hb3⟩; (obtain ⟨x3, n3, c3, rfl⟩ := t3.form); (have h13 := below_next hb2 hb3); (have q1 := (t2.still hb3).conv w3 (Below.refl _ _)); (have q2 := t3.conv w3 (Below.refl _ _)); replace pc1 := pc1 w3 h13; clear t2 t3 hb2 hb3)
    | (go_at_call 11; refine (num4_any _ _).mono ?_; rintro e wn ⟨rfl, hwn⟩; subst hwn)
    | (go_at_call 12; refine pc1.mono ?_; clear pc1; rintro e w4 ⟨rfl, hb4⟩; replace h13 := below_next h13 hb4; replace pc2 := pc2 w4 h13; clear hb4)
    | (go_at_call 13; refine pc2.mono ?_; clear pc2; rintro e w5 ⟨rfl, hb5⟩; replace h13 := below_next h13 hb5; (have hw5 := below_next hb1 h13); replace hst := hst w5 g1 k1 hk1 (hr1.below h13 hg1l) hw5; clear hb5)
    | (go_at_call 14; refine hst.mono ?_; clear hst; rintro e w6 ⟨rfl, hb6⟩; (have hw6 := below_next hw5 hb6); replace hk := hk w6 (hO.still hw6))
    | (go_at_call 15; refine hk.mono ?_; clear hk; rintro e w7 ⟨rfl, hb7⟩))
  go_ret
  exact ⟨rfl, below_next hw6 hb7⟩
end Go.Proofs.YtmehhjogddpkgaaDoor
