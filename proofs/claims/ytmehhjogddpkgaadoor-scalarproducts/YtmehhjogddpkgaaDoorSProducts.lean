/- The walk of the law ScalarProducts in the model. -/
import Derived.Test.YtmehhjogddpkgaaDoorRMul
import Derived.Test.YtmehhjogddpkgaaDoorSKnow
namespace Go.Proofs.YtmehhjogddpkgaaDoor
open Go.RowKit
theorem muladd_pair (w : World) (hO : Ord w) (x y z a b c : Value) (n m p : Nat) (ds bs cs : Nat → Nat) (hds : ∀ j, ds j < 256) (hbs : ∀ j, bs j < 256) (hcs : ∀ j, cs j < 256) (hx : BytesIn w x n ds) (hy : BytesIn w y m bs) (hz : BytesIn w z p cs) (ha : BytesIn w a n ds) (hb : BytesIn w b m bs) (hc : BytesIn w c p cs) : Pair 16 17 w #[x, y, z] #[a, b, c] := by
  by_cases h : n = 32 ∧ m = 32 ∧ p = 32
  · obtain ⟨rfl, rfl, rfl⟩ := h
    exact ⟨_, 0, fun W hW => (muladd_good x y z ds bs cs hds hbs hcs W (hO.still hW) (hx.still hW) (hy.still hW) (hz.still hW)).mono fun e w' ⟨s, he, hn, hbw⟩ => ⟨s, he, hn.str, hbw⟩, fun W hW => (rmuladd_good a b c ds bs cs hds hbs hcs W (ha.still hW) (hb.still hW) (hc.still hW)).mono fun e w' ⟨s, he, hn, hbw⟩ => ⟨s, he, Str.of hn (byt_all _), hbw⟩⟩
  · obtain ⟨xx, kx, rfl, -⟩ := hx.src
    obtain ⟨xy, ky, rfl, -⟩ := hy.src
    obtain ⟨xz, kz, rfl, -⟩ := hz.src
    obtain ⟨xa, ka, rfl, -⟩ := ha.src
    obtain ⟨xb, kb, rfl, -⟩ := hb.src
    obtain ⟨xc, kc, rfl, -⟩ := hc.src
    exact ⟨_, 1, fun W _ => (muladd_bad xx xy xz n m p kx ky kz h W).mono fun e w' ⟨he, hw⟩ => ⟨_, he, Str.nil _, by rw [hw]; exact Below.refl _ _⟩, fun W _ => (rmuladd_bad xa xb xc n m p ka kb kc h W).mono fun e w' ⟨he, hw⟩ => ⟨_, he, Str.nil _, by rw [hw]; exact Below.refl _ _⟩⟩
set_option maxRecDepth 20000 in
set_option maxHeartbeats 4000000 in
theorem scalarProducts_any (a b c : Value) (n m p : Nat) (ds bs cs : Nat → Nat) (hds : ∀ j, ds j < 256) (hbs : ∀ j, bs j < 256) (hcs : ∀ j, cs j < 256) (w : World) (hO : Ord w) (ha : BytesIn w a n ds) (hb : BytesIn w b m bs) (hc : BytesIn w c p cs) (hn : n < 140737488355000) (hm : m < 140737488355000) (hp : p < 140737488355000) :
    Calls Tryd.prog 4 #[a, b, c] w fun e w' => e = .returned (.bool true) ∧ Below w.heap.size w w' := by
  have cl1 := lent_any a n ds w ha hn
  have cl2 := fun W (h : Below w.heap.size w W) => lent_any b m bs W (hb.still h) hm
  have cl3 := fun W (h : Below w.heap.size w W) => lent_any c p cs W (hc.still h) hp
  have hk := fun W hOW => knows4_any W hOW
  have st1 := fun W g cap (hc : n + 2 ≤ cap) (hr : RowAt .u8 W g 0 (n + 2) (cat n ds room)) (hW : Below w.heap.size w W) => stays_any g cap n a ds hds W hn hc hr (ha.still hW)
  have st2 := fun W g cap (hc : m + 2 ≤ cap) (hr : RowAt .u8 W g 0 (m + 2) (cat m bs room)) (hW : Below w.heap.size w W) => stays_any g cap m b bs hbs W hm hc hr (hb.still hW)
  have st3 := fun W g cap (hq : p + 2 ≤ cap) (hr : RowAt .u8 W g 0 (p + 2) (cat p cs room)) (hW : Below w.heap.size w W) => stays_any g cap p c cs hcs W hp hq hr (hc.still hW)
  have hmul := fun W x y z (hW : Below w.heap.size w W) hx hy hz => muladd_pair W (hO.still hW) x y z a b c n m p ds bs cs hds hbs hcs hx hy hz (ha.still hW) (hb.still hW) (hc.still hW)
  obtain ⟨xa, ka, rfl, -⟩ := ha.src
  obtain ⟨xb, kb, rfl, -⟩ := hb.src
  obtain ⟨xc, kc, rfl, -⟩ := hc.src
  clear ha hb hc hds hbs hcs
  go_enter Tryd.func4, Tryd.ntmps4
  go_wp2_with (first
    | (go_at_call 8; refine cl1.mono ?_; clear cl1; rintro e w1 ⟨g1, k1, rfl, hk1, hg1, hr1, hb1⟩; (have hl1 := block_lt_of_cell (hr1 0 (by omega)).1); replace cl2 := cl2 w1 hb1)
    | (go_at_call 8; refine cl2.mono ?_; clear cl2; rintro e w2 ⟨g2, k2, rfl, hk2, hg2, hr2, hb2⟩; (have hl2 := block_lt_of_cell (hr2 0 (by omega)).1); replace hr1 := hr1.below hb2 hl1; replace hl1 := Nat.lt_of_lt_of_le hl1 hb2.size; (have hw := below_next hb1 hb2); clear hb1 hb2; replace cl3 := cl3 w2 hw)
    | (go_at_call 8; refine cl3.mono ?_; clear cl3; rintro e w3 ⟨g3, k3, rfl, hk3, hg3, hr3, hb3⟩; (have hl3 := block_lt_of_cell (hr3 0 (by omega)).1); replace hr1 := hr1.below hb3 hl1; replace hl1 := Nat.lt_of_lt_of_le hl1 hb3.size; replace hr2 := hr2.below hb3 hl2; replace hl2 := Nat.lt_of_lt_of_le hl2 hb3.size; replace hw := below_next hw hb3; clear hb3; (obtain ⟨SA, ea, pa1, pa2⟩ := hmul w3 _ _ _ hw (lent_bytes hr1 hk1) (lent_bytes hr2 hk2) (lent_bytes hr3 hk3)); clear hmul; replace pa1 := pa1 w3 (Below.refl _ _))
    | (go_at_call 16; refine pa1.mono ?_; clear pa1; rintro e w4 ⟨v4, rfl, t4, hb4⟩; (obtain ⟨x4, n4, c4, rfl⟩ := t4.form); replace pa2 := pa2 w4 hb4)
    | (go_at_call 17; refine pa2.mono ?_; clear pa2; rintro e w5 ⟨v5, rfl, t5, hb5⟩; (obtain ⟨x5, n5, c5, rfl⟩ := t5.form); (have h35 := below_next hb4 hb5); (have q1 := (t4.still hb5).conv w5 (Below.refl _ _)); (have q2 := t5.conv w5 (Below.refl _ _)); replace hr1 := hr1.below h35 hl1; replace hr2 := hr2.below h35 hl2; replace hr3 := hr3.below h35 hl3; replace hl1 := Nat.lt_of_lt_of_le hl1 h35.size; replace hl2 := Nat.lt_of_lt_of_le hl2 h35.size; replace hl3 := Nat.lt_of_lt_of_le hl3 h35.size; replace hw := below_next hw h35; replace st1 := st1 w5 g1 k1 hk1 hr1 hw; clear t4 t5 hb4 hb5 h35)
    | (go_at_call 11; refine (num4_any _ _).mono ?_; rintro e wn ⟨rfl, hwn⟩; subst hwn)
    | (go_at_call 14; refine st1.mono ?_; clear st1; rintro e w6 ⟨rfl, hb6⟩; replace hr2 := hr2.below hb6 hl2; replace hr3 := hr3.below hb6 hl3; replace hl3 := Nat.lt_of_lt_of_le hl3 hb6.size; replace hw := below_next hw hb6; replace st2 := st2 w6 g2 k2 hk2 hr2 hw; clear hb6)
    | (go_at_call 14; refine st2.mono ?_; clear st2; rintro e w7 ⟨rfl, hb7⟩; replace hr3 := hr3.below hb7 hl3; replace hw := below_next hw hb7; replace st3 := st3 w7 g3 k3 hk3 hr3 hw; clear hb7)
    | (go_at_call 14; refine st3.mono ?_; clear st3; rintro e w8 ⟨rfl, hb8⟩; replace hw := below_next hw hb8; replace hk := hk w8 (hO.still hw); clear hb8)
    | (go_at_call 15; refine hk.mono ?_; clear hk; rintro e w9 ⟨rfl, hb9⟩))
  go_ret
  exact ⟨rfl, below_next hw hb9⟩
end Go.Proofs.YtmehhjogddpkgaaDoor
