/- The walk of the law FieldProducts in the model. -/
import Derived.Test.YtinigkpidhbgcaaSums
namespace Go.Proofs.Ytinigkpidhbgcaa
open Go.RowKit
set_option maxRecDepth 20000 in
set_option maxHeartbeats 4000000 in
theorem fieldProducts_any (a b : Value) (n m : Nat) (bs cs : Nat → Nat) (hbs : ∀ j, bs j < 256) (hcs : ∀ j, cs j < 256) (w : World) (ha : BytesIn w a n bs) (hb : BytesIn w b m cs) (hn : n < 140737488355000) (hm : m < 140737488355000) :
    Calls Try.prog 4 #[a, b] w fun e w' => e = .returned (.bool true) ∧ Below w.heap.size w w' := by
  have cl1 := lent_any a n bs w ha hn
  have cl2 := fun W (h : Below w.heap.size w W) => lent_any b m cs W (hb.still h) hm
  have hk := fun W => knows3_any W
  have hst := fun W g cap (hc : n + 2 ≤ cap) (hr : RowAt .u8 W g 0 (n + 2) (cat n bs room)) (hW : Below w.heap.size w W) => stays_any g cap n a bs hbs W hn hc hr (ha.still hW)
  have hst2 := fun W g cap (hc : m + 2 ≤ cap) (hr : RowAt .u8 W g 0 (m + 2) (cat m cs room)) (hW : Below w.heap.size w W) => stays_any g cap m b cs hcs W hm hc hr (hb.still hW)
  have hadd := fun W x y (hW : Below w.heap.size w W) hx hy => mul_pair W x y a b n m bs cs hbs hcs hx hy (ha.still hW) (hb.still hW)
  obtain ⟨xa, ca, rfl, -⟩ := ha.src
  obtain ⟨xb, cb, rfl, -⟩ := hb.src
  clear ha hb
  go_enter Try.func4, Try.ntmps4
  go_wp2_with (first
    | (go_at_call 10; refine cl1.mono ?_; clear cl1; rintro e w1 ⟨g1, k1, rfl, hk1, hg1, hr1, hb1⟩; replace cl2 := cl2 w1 hb1)
    | (go_at_call 10; refine cl2.mono ?_; clear cl2; rintro e w2 ⟨g2, k2, rfl, hk2, hg2, hr2, hb2⟩; (have hr1' := hr1.below hb2 (block_lt_of_cell (hr1 0 (by omega)).1)); (have hbw2 := hb1.trans (hb2.mono hb1.size)); (obtain ⟨SA, ea, pa1, pa2⟩ := hadd w2 _ _ hbw2 (lent_bytes hr1' hk1) (lent_bytes hr2 hk2)); clear hadd hr1 hb1 hb2)
    | (go_at_call 20; refine (pa1 w2 (Below.refl _ _)).mono ?_; clear pa1; rintro e w3 ⟨c, rfl, sc, hb3⟩; obtain ⟨⟨cx, cn, cc, rfl⟩, hc⟩ := sc)
    | (go_at_call 21; refine (pa2 w3 hb3).mono ?_; clear pa2; rintro e w8 ⟨d, rfl, sd, hb4⟩; obtain ⟨⟨dx, dn, dc, rfl⟩, hd⟩ := sd; (have h28 := hb3.trans (hb4.mono hb3.size)); replace hc := hc w8 hb4; replace hd := hd w8 (Below.refl _ _); (have hbw8 := hbw2.trans (h28.mono hbw2.size)); (have r18 := hr1'.below h28 (block_lt_of_cell (hr1' 0 (by omega)).1)); (have r28 := hr2.below h28 (block_lt_of_cell (hr2 0 (by omega)).1)); replace hst := hst w8 g1 k1 hk1 r18 hbw8; clear hr1' hr2 r18 hb3 hb4)
    | (go_at_call 17; refine (num3_any _ _).mono ?_; rintro e wn ⟨rfl, hwn⟩; subst hwn)
    | (go_at_call 18; refine hst.mono ?_; clear hst; rintro e w9 ⟨rfl, hb9⟩; (have hbw9 := hbw8.trans (hb9.mono hbw8.size)); replace hst2 := hst2 w9 g2 k2 hk2 (r28.below hb9 (block_lt_of_cell (r28 0 (by omega)).1)) hbw9)
    | (go_at_call 18; refine hst2.mono ?_; clear hst2; rintro e w10 ⟨rfl, hb10⟩; (have hbw10 := hbw9.trans (hb10.mono hbw9.size)))
    | (go_at_call 19; refine (hk _).mono ?_; rintro e w11 ⟨rfl, hb11⟩; (have hbw11 := hbw10.trans (hb11.mono hbw10.size))))
  go_ret
  exact ⟨rfl, hbw11⟩
end Go.Proofs.Ytinigkpidhbgcaa
