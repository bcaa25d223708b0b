/- The walk of the law FieldSums in the model. -/
import Derived.Test.YtinigkpidhbgcaaKnow
import Derived.Test.YtinigkpidhbgcaaRefApi
import Derived.Test.YtinigkpidhbgcaaLent
namespace Go.Proofs.Ytinigkpidhbgcaa
open Go.RowKit
theorem lent_bytes {W : World} {g cap n : Nat} {bs : Nat → Nat} (hr : RowAt .u8 W g 0 (n + 2) (cat n bs room)) (hc : n + 2 ≤ cap) : BytesIn W (.slice (some ⟨g, 0, none⟩) n cap) n bs :=
  .inr ⟨g, 0, cap, rfl, block_lt_of_cell (hr 0 (by omega)).1, by omega, fun j hj => by have := (hr j (by omega)).1; rwa [cat_left hj] at this⟩
theorem ans_str {W : World} {v : Value} {n : Nat} {X : Nat → Nat} (h : BytesIn W v n X) (hX : ∀ j, X j < 256) : ∃ xo c, v = .slice xo n c ∧ ∀ W', Below W.heap.size W W' → (convert 22 9 v).run Try.prog W' = .ok (.string (strB n X)) W' := by
  have hc := h.conv hX
  obtain ⟨xo, c, rfl, -⟩ := h.src
  exact ⟨xo, c, rfl, hc⟩
/-- Bytes of an answer: a slice, its string in every later world. -/
structure Str (W : World) (v : Value) (S : ByteArray) : Prop where
  form : ∃ xo n c, v = .slice xo n c
  conv : ∀ W', Below W.heap.size W W' → (convert 22 9 v).run Try.prog W' = .ok (.string S) W'
theorem Str.of {W : World} {v : Value} {n : Nat} {X : Nat → Nat} (h : BytesIn W v n X) (hX : ∀ j, X j < 256) : Str W v (strB n X) := by
  obtain ⟨xo, c, rfl, hc⟩ := ans_str h hX
  exact ⟨⟨xo, n, c, rfl⟩, hc⟩
theorem Str.still {W W2 : World} {v : Value} {S : ByteArray} (h : Str W v S) (hb : Below W.heap.size W W2) : Str W2 v S := ⟨h.form, fun W' h2 => h.conv W' (hb.trans (h2.mono hb.size))⟩
theorem Str.nil (W : World) : Str W (.slice none 0 0) (strB 0 (fun _ => 0)) := ⟨⟨none, 0, 0, rfl⟩, fun W' _ => conv_nil W'⟩
/-- Whatever two calls of a pair of bytes answer: the same string, the same error. -/
def Pair (f g : FuncId) (w : World) (p : Array Value) (q : Array Value) : Prop := ∃ (S : ByteArray) (er : Int), (∀ W, Below w.heap.size w W → Calls Try.prog f p W fun e w' => ∃ v, e = .returned (.tuple #[v, .int .i64 er]) ∧ Str w' v S ∧ Below W.heap.size W w') ∧ (∀ W, Below w.heap.size w W → Calls Try.prog g q W fun e w' => ∃ v, e = .returned (.tuple #[v, .int .i64 er]) ∧ Str w' v S ∧ Below W.heap.size W w')
theorem NewB.str {w w' : World} {v : Value} {N : Nat} (h : NewB w w' v 32 (byt N)) : Str w' v (strB 32 (byt N)) := Str.of (h.bytes (by decide)) (byt_all N)
theorem add_pair (w : World) (x y a b : Value) (n m : Nat) (bs cs : Nat → Nat) (hbs : ∀ j, bs j < 256) (hcs : ∀ j, cs j < 256) (hx : BytesIn w x n bs) (hy : BytesIn w y m cs) (ha : BytesIn w a n bs) (hb : BytesIn w b m cs) : Pair 11 12 w #[x, y] #[a, b] := by
  by_cases h : n = 32 ∧ m = 32
  · obtain ⟨rfl, rfl⟩ := h
    exact ⟨_, 0, fun W hW => (add_good x y bs cs hbs hcs W (hx.still hW) (hy.still hW)).mono fun e w' ⟨s, he, hn, hbw⟩ => ⟨s, he, hn.str, hbw⟩, fun W hW => (radd_good a b bs cs hbs hcs W (ha.still hW) (hb.still hW)).mono fun e w' ⟨s, he, hn, hbw⟩ => ⟨s, he, Str.of hn (byt_all _), hbw⟩⟩
  · obtain ⟨xa, ca, rfl, -⟩ := ha.src
    obtain ⟨xb, cb, rfl, -⟩ := hb.src
    exact ⟨_, 1, fun W hW => (add_bad x y n m bs cs hbs hcs W (hx.still hW) (hy.still hW) h).mono fun e w' ⟨he, hbw⟩ => ⟨_, he, Str.nil _, hbw⟩, fun W hW => (radd_bad xa xb n m ca cb W h).mono fun e w' ⟨he, hw⟩ => ⟨_, he, Str.nil _, by rw [hw]; exact Below.refl _ _⟩⟩
theorem sub_pair (w : World) (x y a b : Value) (n m : Nat) (bs cs : Nat → Nat) (hbs : ∀ j, bs j < 256) (hcs : ∀ j, cs j < 256) (hx : BytesIn w x n bs) (hy : BytesIn w y m cs) (ha : BytesIn w a n bs) (hb : BytesIn w b m cs) : Pair 13 14 w #[x, y] #[a, b] := by
  by_cases h : n = 32 ∧ m = 32
  · obtain ⟨rfl, rfl⟩ := h
    exact ⟨_, 0, fun W hW => (sub_good x y bs cs hbs hcs W (hx.still hW) (hy.still hW)).mono fun e w' ⟨s, he, hn, hbw⟩ => ⟨s, he, hn.str, hbw⟩, fun W hW => (rsub_good a b bs cs hbs hcs W (ha.still hW) (hb.still hW)).mono fun e w' ⟨s, he, hn, hbw⟩ => ⟨s, he, Str.of hn (byt_all _), hbw⟩⟩
  · obtain ⟨xa, ca, rfl, -⟩ := ha.src
    obtain ⟨xb, cb, rfl, -⟩ := hb.src
    exact ⟨_, 1, fun W hW => (sub_bad x y n m bs cs hbs hcs W (hx.still hW) (hy.still hW) h).mono fun e w' ⟨he, hbw⟩ => ⟨_, he, Str.nil _, hbw⟩, fun W hW => (rsub_bad xa xb n m ca cb W h).mono fun e w' ⟨he, hw⟩ => ⟨_, he, Str.nil _, by rw [hw]; exact Below.refl _ _⟩⟩
theorem mul_pair (w : World) (x y a b : Value) (n m : Nat) (bs cs : Nat → Nat) (hbs : ∀ j, bs j < 256) (hcs : ∀ j, cs j < 256) (hx : BytesIn w x n bs) (hy : BytesIn w y m cs) (ha : BytesIn w a n bs) (hb : BytesIn w b m cs) : Pair 20 21 w #[x, y] #[a, b] := by
  by_cases h : n = 32 ∧ m = 32
  · obtain ⟨rfl, rfl⟩ := h
    exact ⟨_, 0, fun W hW => (mul_good x y bs cs hbs hcs W (hx.still hW) (hy.still hW)).mono fun e w' ⟨s, he, hn, hbw⟩ => ⟨s, he, hn.str, hbw⟩, fun W hW => (rmul_good a b bs cs hbs hcs W (ha.still hW) (hb.still hW)).mono fun e w' ⟨s, he, hn, hbw⟩ => ⟨s, he, Str.of hn (byt_all _), hbw⟩⟩
  · obtain ⟨xa, ca, rfl, -⟩ := ha.src
    obtain ⟨xb, cb, rfl, -⟩ := hb.src
    exact ⟨_, 1, fun W hW => (mul_bad x y n m bs cs hbs hcs W (hx.still hW) (hy.still hW) h).mono fun e w' ⟨he, hbw⟩ => ⟨_, he, Str.nil _, hbw⟩, fun W hW => (rmul_bad xa xb n m ca cb W h).mono fun e w' ⟨he, hw⟩ => ⟨_, he, Str.nil _, by rw [hw]; exact Below.refl _ _⟩⟩
theorem canon_pair (w : World) (x a : Value) (n : Nat) (bs : Nat → Nat) (hbs : ∀ j, bs j < 256) (hx : BytesIn w x n bs) (ha : BytesIn w a n bs) : Pair 15 16 w #[x] #[a] := by
  by_cases h : n = 32
  · subst h
    exact ⟨_, 0, fun W hW => (canon_good x bs hbs W (hx.still hW)).mono fun e w' ⟨s, he, hn, hbw⟩ => ⟨s, he, hn.str, hbw⟩, fun W hW => (rcanon_good a bs hbs W (ha.still hW)).mono fun e w' ⟨s, he, hn, hbw⟩ => ⟨s, he, Str.of hn (byt_all _), hbw⟩⟩
  · obtain ⟨xa, ca, rfl, -⟩ := ha.src
    exact ⟨_, 1, fun W hW => (canon_bad x n bs hbs W (hx.still hW) h).mono fun e w' ⟨he, hbw⟩ => ⟨_, he, Str.nil _, hbw⟩, fun W hW => (rcanon_bad xa n ca W h).mono fun e w' ⟨he, hw⟩ => ⟨_, he, Str.nil _, by rw [hw]; exact Below.refl _ _⟩⟩
set_option maxRecDepth 20000 in
set_option maxHeartbeats 4000000 in
theorem fieldSums_any (a b : Value) (n m : Nat) (bs cs : Nat → Nat) (hbs : ∀ j, bs j < 256) (hcs : ∀ j, cs j < 256) (w : World) (ha : BytesIn w a n bs) (hb : BytesIn w b m cs) (hn : n < 140737488355000) (hm : m < 140737488355000) :
    Calls Try.prog 3 #[a, b] w fun e w' => e = .returned (.bool true) ∧ Below w.heap.size w w' := by
  have cl1 := lent_any a n bs w ha hn
  have cl2 := fun W (h : Below w.heap.size w W) => lent_any b m cs W (hb.still h) hm
  have hk := fun W => knows3_any W
  have hst := fun W g cap (hc : n + 2 ≤ cap) (hr : RowAt .u8 W g 0 (n + 2) (cat n bs room)) (hW : Below w.heap.size w W) => stays_any g cap n a bs hbs W hn hc hr (ha.still hW)
  have hst2 := fun W g cap (hc : m + 2 ≤ cap) (hr : RowAt .u8 W g 0 (m + 2) (cat m cs room)) (hW : Below w.heap.size w W) => stays_any g cap m b cs hcs W hm hc hr (hb.still hW)
  have hadd := fun W x y (hW : Below w.heap.size w W) hx hy => add_pair W x y a b n m bs cs hbs hcs hx hy (ha.still hW) (hb.still hW)
  have hsub := fun W x y (hW : Below w.heap.size w W) hx hy => sub_pair W x y a b n m bs cs hbs hcs hx hy (ha.still hW) (hb.still hW)
  have hcan := fun W x (hW : Below w.heap.size w W) hx => canon_pair W x a n bs hbs hx (ha.still hW)
  obtain ⟨xa, ca, rfl, -⟩ := ha.src
  obtain ⟨xb, cb, rfl, -⟩ := hb.src
  clear ha hb
  go_enter Try.func3, Try.ntmps3
  go_wp2_with (first
    | (go_at_call 10; refine cl1.mono ?_; clear cl1; rintro e w1 ⟨g1, k1, rfl, hk1, hg1, hr1, hb1⟩; replace cl2 := cl2 w1 hb1)
    | (go_at_call 10; refine cl2.mono ?_; clear cl2; rintro e w2 ⟨g2, k2, rfl, hk2, hg2, hr2, hb2⟩; (have hr1' := hr1.below hb2 (block_lt_of_cell (hr1 0 (by omega)).1)); (have hbw2 := hb1.trans (hb2.mono hb1.size)); (obtain ⟨SA, ea, pa1, pa2⟩ := hadd w2 _ _ hbw2 (lent_bytes hr1' hk1) (lent_bytes hr2 hk2)); (obtain ⟨SS, es, ps1, ps2⟩ := hsub w2 _ _ hbw2 (lent_bytes hr1' hk1) (lent_bytes hr2 hk2)); (obtain ⟨SC, ec, pc1, pc2⟩ := hcan w2 _ hbw2 (lent_bytes hr1' hk1)); clear hadd hsub hcan hr1 hb1 hb2)
    | (go_at_call 11; refine (pa1 w2 (Below.refl _ _)).mono ?_; clear pa1; rintro e w3 ⟨c, rfl, sc, hb3⟩; obtain ⟨⟨cx, cn, cc, rfl⟩, hc⟩ := sc)
    | (go_at_call 12; refine (pa2 w3 hb3).mono ?_; clear pa2; rintro e w4 ⟨d, rfl, sd, hb4⟩; obtain ⟨⟨dx, dn, dc, rfl⟩, hd⟩ := sd; (have h24 := hb3.trans (hb4.mono hb3.size)))
    | (go_at_call 13; refine (ps1 w4 h24).mono ?_; clear ps1; rintro e w5 ⟨g, rfl, sg, hb5⟩; obtain ⟨⟨gx, gn, gc, rfl⟩, hg⟩ := sg; (have h25 := h24.trans (hb5.mono h24.size)))
    | (go_at_call 14; refine (ps2 w5 h25).mono ?_; clear ps2; rintro e w6 ⟨i, rfl, si, hb6⟩; obtain ⟨⟨ix, iN, ic, rfl⟩, hi⟩ := si; (have h26 := h25.trans (hb6.mono h25.size)))
    | (go_at_call 15; refine (pc1 w6 h26).mono ?_; clear pc1; rintro e w7 ⟨k, rfl, sk, hb7⟩; obtain ⟨⟨kx, kn, kc, rfl⟩, hkk⟩ := sk; (have h27 := h26.trans (hb7.mono h26.size)))
    | (go_at_call 16; refine (pc2 w7 h27).mono ?_; clear pc2; rintro e w8 ⟨mm, rfl, sm, hb8⟩; obtain ⟨⟨mx, mn, mc, rfl⟩, hmm⟩ := sm; (have h28 := h27.trans (hb8.mono h27.size)); (have h78 := hb8); (have h68 := hb7.trans (h78.mono hb7.size)); (have h58 := hb6.trans (h68.mono hb6.size)); (have h48 := hb5.trans (h58.mono hb5.size)); (have h38 := hb4.trans (h48.mono hb4.size)); replace hc := hc w8 h38; replace hd := hd w8 h48; replace hg := hg w8 h58; replace hi := hi w8 h68; replace hkk := hkk w8 h78; replace hmm := hmm w8 (Below.refl _ _); (have hbw8 := hbw2.trans (h28.mono hbw2.size)); (have r18 := hr1'.below h28 (block_lt_of_cell (hr1' 0 (by omega)).1)); (have r28 := hr2.below h28 (block_lt_of_cell (hr2 0 (by omega)).1)); replace hst := hst w8 g1 k1 hk1 r18 hbw8; clear hr1' hr2 r18 hb3 hb4 hb5 hb6 hb7 hb8 h24 h25 h26 h27 h78 h68 h58 h48 h38)
    | (go_at_call 17; refine (num3_any _ _).mono ?_; rintro e wn ⟨rfl, hwn⟩; subst hwn)
    | (go_at_call 18; refine hst.mono ?_; clear hst; rintro e w9 ⟨rfl, hb9⟩; (have hbw9 := hbw8.trans (hb9.mono hbw8.size)); replace hst2 := hst2 w9 g2 k2 hk2 (r28.below hb9 (block_lt_of_cell (r28 0 (by omega)).1)) hbw9)
    | (go_at_call 18; refine hst2.mono ?_; clear hst2; rintro e w10 ⟨rfl, hb10⟩; (have hbw10 := hbw9.trans (hb10.mono hbw9.size)))
    | (go_at_call 19; refine (hk _).mono ?_; rintro e w11 ⟨rfl, hb11⟩; (have hbw11 := hbw10.trans (hb11.mono hbw10.size))))
  go_ret
  exact ⟨rfl, hbw11⟩
end Go.Proofs.Ytinigkpidhbgcaa
