/- The reference of layer 4: what rest does in the model. -/
import Derived.Test.YtmehhjogddpkgaaDoorROrder
namespace Go.Proofs.YtmehhjogddpkgaaDoor
open Go.RowKit
theorem bit_of (M s : Nat) (hs : s < 8) : M / 2 ^ s = 2 * (M / 2 ^ (s + 1)) + M % 256 / 2 ^ s % 2 := by
  have h : s = 0 ∨ s = 1 ∨ s = 2 ∨ s = 3 ∨ s = 4 ∨ s = 5 ∨ s = 6 ∨ s = 7 := by omega
  rcases h with rfl | rfl | rfl | rfl | rfl | rfl | rfl | rfl <;> simp only [Nat.reducePow, Nat.reduceAdd] <;> omega
theorem next_bit (D : Nat → Nat) (hD : ∀ j, D j < 256) (n i s : Nat) (hi : i < n) (hs : s < 8) : ofB D n / 2 ^ (8 * i + s) = 2 * (ofB D n / 2 ^ (8 * i + (s + 1))) + D i / 2 ^ s % 2 := by
  have e := byt_ofB D hD n i hi
  unfold byt at e
  rw [← e, Nat.pow_add, Nat.pow_add, ← Nat.div_div_eq_div_mul, ← Nat.div_div_eq_div_mul, ← pow_b]
  exact bit_of _ s hs
theorem twice_mod (A c : Nat) : (2 * A + c) % oL = (2 * (A % oL) + c) % oL := by
  rw [Nat.add_mod, Nat.mul_mod]
  rw [Nat.add_mod (2 * (A % oL)), Nat.mul_mod 2 (A % oL), Nat.mod_mod]
theorem dbl_step {P a b z c : Nat} {v : Nat} (h : a + P * c = b) (hv : v = 2 * z + c) : a + P * (v % 256) + P * 256 * (v / 256) = b + 2 * (P * z) := by
  have e : v % 256 + 256 * (v / 256) = v := Nat.mod_add_div v 256
  have e2 : P * (v % 256) + P * 256 * (v / 256) = P * v := by rw [Nat.mul_assoc, ← Nat.mul_add, e]
  have e3 : P * v = 2 * (P * z) + P * c := by rw [hv, Nat.mul_add, Nat.mul_left_comm]
  omega
theorem bit_and (d s : Nat) (hd : d < 256) : bits .and .i64 ((d : Int) / 2 ^ s) 1 = ((d / 2 ^ s % 2 : Nat) : Int) := by
  have e : (d : Int) / 2 ^ s = ((d / 2 ^ s : Nat) : Int) := by simp
  rw [e]
  exact i64_and1 _ (by have := Nat.div_le_self d (2 ^ s); omega)
theorem dbl_fin {x r c C y : Nat} (h : x + 256 ^ 34 * C = 2 * y + c) (hy : y = r) (hr : r < oL) (hc : c ≤ 1) (hC : C ≤ 1) (hx : x < 256 ^ 34) : x = 2 * r + c := by
  subst hy
  have : C = 0 ∨ C = 1 := by omega
  unfold oL at hr
  simp only [Nat.reducePow] at h hx
  omega
theorem rless_ge (ga gb ca cb : Nat) (X Y : Nat → Nat) (hX : ∀ j, X j < 256) (hY : ∀ j, Y j < 256) (x y : Nat) (hx : ofB X 34 = x) (hy : ofB Y 34 = y) (h : y ≤ x) (w : World) (ha : RowAt .i64 w ga 0 34 X) (hb : RowAt .i64 w gb 0 34 Y) :
    Calls Tryd.prog 29 #[.slice (some ⟨ga, 0, none⟩) 34 ca, .slice (some ⟨gb, 0, none⟩) 34 cb] w fun e w' => ∃ Z : Nat → Nat, e = .returned (.tuple #[.slice (some ⟨w.heap.size, 0, none⟩) 34 34, .bool true]) ∧ RowAt .i64 w' w.heap.size 0 34 Z ∧ (∀ j, Z j < 256) ∧ ofB Z 34 = x - y ∧ Below w.heap.size w w' :=
  (rless_any ga gb ca cb X Y hX hY w ha hb).mono fun e w' ⟨Z, b, hb1, he, hr, hZ, hv, hbel⟩ => by
    have hl := ofB_lt Z hZ 34
    have hb0 : b = 0 := by
      rcases (by omega : b = 0 ∨ b = 1) with h0 | h0
      · exact h0
      · subst h0; rw [hx, hy] at hv; omega
    subst hb0
    exact ⟨Z, he, hr, hZ, by rw [hx, hy] at hv; omega, hbel⟩
theorem rless_lt (ga gb ca cb : Nat) (X Y : Nat → Nat) (hX : ∀ j, X j < 256) (hY : ∀ j, Y j < 256) (x y : Nat) (hx : ofB X 34 = x) (hy : ofB Y 34 = y) (h : x < y) (w : World) (ha : RowAt .i64 w ga 0 34 X) (hb : RowAt .i64 w gb 0 34 Y) :
    Calls Tryd.prog 29 #[.slice (some ⟨ga, 0, none⟩) 34 ca, .slice (some ⟨gb, 0, none⟩) 34 cb] w fun e w' => e = .returned (.tuple #[.slice (some ⟨w.heap.size, 0, none⟩) 34 34, .bool false]) ∧ Below w.heap.size w w' :=
  (rless_any ga gb ca cb X Y hX hY w ha hb).mono fun e w' ⟨Z, b, hb1, he, hr, hZ, hv, hbel⟩ => by
    have hb0 : b = 1 := by
      rcases (by omega : b = 0 ∨ b = 1) with h0 | h0
      · subst h0; rw [hx, hy] at hv; omega
      · exact h0
    subst hb0
    exact ⟨he, hbel⟩
/-- A number in 34 digits. -/
structure Dg (w : World) (g r : Nat) (Z : Nat → Nat) : Prop where
  row : RowAt .i64 w g 0 34 Z
  dig : ∀ j, Z j < 256
  val : ofB Z 34 = r
theorem Dg.below {B : Nat} {w w' : World} {g r : Nat} {Z : Nat → Nat} (h : Dg w g r Z) (hb : Below B w w') (hB : g < B) : Dg w' g r Z := ⟨h.row.below hb hB, h.dig, h.val⟩
theorem ord_val : ofB (byt oL) 34 = oL := by rw [ofB_byt]; decide
set_option maxRecDepth 20000 in
set_option maxHeartbeats 8000000 in
theorem rrest_at (xo : Option Addr) (n cd : Nat) (D : Nat → Nat) (hD : ∀ j, D j < 256) (hn : n ≤ 1000) (w : World) (hd : ∀ W, Below w.heap.size w W → ∀ j, j < n → ∃ gd, xo = some ⟨gd, 0, none⟩ ∧ W.cell? ⟨gd, j, none⟩ = some (.int .i64 (D j))) :
    Calls Tryd.prog 26 #[.slice xo n cd] w fun e w' => ∃ v, e = .returned v ∧ BytesIn w' v 32 (byt (ofB D n % oL)) ∧ Below w.heap.size w w' := by
  have hmk := make_ints w 34 34 rfl (by decide)
  obtain ⟨W, hW⟩ : ∃ W, W = w.alloc (.cells (zi 34) 3) := ⟨_, rfl⟩
  have hbW : Below w.heap.size w W := by rw [hW]; exact (Below.refl _ _).alloc (Nat.le_refl _) _
  have hWs : W.heap.size = w.heap.size + 1 := by rw [hW]; simp
  have hx0 : RowAt .i64 W w.heap.size 0 34 (fun _ => 0) := by rw [hW]; exact RowAt.fresh (fun j hj => zi_at 34 j hj)
  rw [← hW] at hmk
  clear hW
  have co := rorder_any W
  have cless := fun (W' : World) ga gb cb X Y hX hY h1 h2 => rless_any ga gb 34 cb X Y hX hY W' h1 h2
  have hlen : ((n : Int) - 1) = (n : Int) - 1 := rfl
  have hw1 : IntKind.i64.wrap ((n : Int) - 1) = (n : Int) - 1 := by simp only [IntKind.wrap_i64]; omega
  obtain ⟨N, hN⟩ : ∃ N, N = ofB D n := ⟨_, rfl⟩
  have hNl : N < 256 ^ n := by rw [hN]; exact ofB_lt D hD n
  rw [← hN]
  have HN := Hid.mk' hN
  have HNl := Hid.mk' hNl
  obtain ⟨rr, hrr⟩ : ∃ rr, rr = N % oL := ⟨_, rfl⟩
  rw [← hrr]
  have HRR := Hid.mk' hrr
  clear hN hNl hlen hrr
  go_enter Tryd.func26, Tryd.ntmps26
  go_wp2_with (first
    | rw [hmk]
    | (go_at_call 30; refine co.mono ?_; clear co; rintro e w1 ⟨gl, cl, rfl, hgl, hgls, hrl, hb1⟩))
  have hw1' := hbW.trans (hb1.mono (by omega))
  have hz34 : ofB (fun _ => 0) 34 = 0 := by decide
  have d0 : Dg w1 w.heap.size 0 (fun _ => 0) := ⟨hx0.below hb1 (by omega), fun _ => Nat.zero_lt_succ _, hz34⟩
  clear hx0 hz34
  go_loopw [5, 3] (fun i x wr => ∃ (p gx : Nat) (Z : Nat → Nat), p ≤ n ∧ i = .int .i64 ((p : Int) - 1) ∧ x = .slice (some ⟨gx, 0, none⟩) 34 34 ∧ Dg wr gx (N / 256 ^ p % oL) Z ∧ RowAt .i64 wr gl 0 34 (byt oL) ∧ w.heap.size ≤ gx ∧ gx ≠ gl ∧ gx < wr.heap.size ∧ gl < wr.heap.size ∧ Below w.heap.size w wr) (fun i _ _ => (intOf i + 1).toNat)
  case atStart =>
    refine ⟨n, w.heap.size, fun _ => 0, Nat.le_refl _, by first | rfl | go_num, rfl, ?_, hrl, Nat.le_refl _, by omega, by have := hw1'.size; have := hb1.size; omega, hgls, hw1'⟩
    rw [Nat.div_eq_of_lt HNl.out, Nat.zero_mod]; exact d0
  case round =>
    clear d0 hrl hw1' hb1 hmk hbW
    obtain ⟨p, gx, Z, hp, rfl, rfl, dg, hrl, hgx, hne, hgs, hls, hb⟩ := hrel
    by_cases hp0 : p = 0
    · subst hp0
      rw [Nat.pow_zero, Nat.div_one] at dg
      rw [← HRR.out] at dg
      rw [show (((0 : Nat) : Int) - 1) = -1 from rfl]
      have hZr : ∀ j, j < 34 → Z j = byt rr j := fun j hj => by rw [← dg.val]; exact (byt_ofB Z dg.dig 34 j hj).symm
      have HZ := Hid.mk' hZr
      have drow := dg.row
      obtain ⟨B, hB⟩ : ∃ B, B = wr.heap.size := ⟨_, rfl⟩
      have hBw : w.heap.size ≤ B := by rw [hB]; exact hb.size
      have hgB : gx < B := by omega
      have hB2 : B ≤ wr.heap.size := by omega
      clear hZr hB dg
      go_wp2
      go_loopw [13, 12] (fun i o wt => ∃ k : Nat, k ≤ 32 ∧ i = .int .i64 k ∧ Own B wt o k (byt rr) ∧ RowAt .i64 wt gx 0 34 Z ∧ B ≤ wt.heap.size ∧ Below w.heap.size w wt) (fun i _ _ => 32 - (intOf i).toNat)
      case atStart => exact ⟨0, by decide, rfl, Own.nil _ _ _, drow, hB2, hb⟩
      case round =>
        clear hb hgs hls hrl drow hB2
        obtain ⟨k, hk, rfl, own, hrow, hs, hb⟩ := hrel
        by_cases hkl : k < 32
        · obtain ⟨rk, -⟩ := hrow k (by omega)
          rw [Nat.zero_add, HZ.out k (by omega)] at rk
          have hbl := byt_lt rr k
          go_wp2_with (at_builtin; refine wpList_append_next rfl (.tmp 65) (.tmp 71) rfl B _ k (byt rr) _ rfl own rfl rfl (by omega) hs ?_; intro v' w' own' hb'; (have hrow' := hrow.below hb' hgB); (have hs' := Nat.le_trans hs hb'.size); (have hbw' := hb.trans (hb'.mono hBw)); clear own hb')
          go_roundw
          case rel => exact ⟨k + 1, by omega, by go_num, own', hrow', hs', hbw'⟩
          case measure => simp [intOf]; omega
        · have hke : k = 32 := by omega
          subst hke
          have hin := BytesIn.of_own own
          clear own
          go_wp2
          go_ret
          exact ⟨_, rfl, hin, hb⟩
    · obtain ⟨i, rfl⟩ : ∃ i, p = i + 1 := ⟨p - 1, by omega⟩
      have ei : (((i + 1 : Nat) : Int) - 1) = (i : Int) := by omega
      rw [ei]
      have hii : (0 : Int) ≤ (i : Int) := by omega
      go_wp2
      go_loopw [6, 3] (fun b x wt => ∃ (q gy : Nat) (Y : Nat → Nat), q ≤ 8 ∧ b = .int .i64 ((q : Int) - 1) ∧ x = .slice (some ⟨gy, 0, none⟩) 34 34 ∧ Dg wt gy (N / 2 ^ (8 * i + q) % oL) Y ∧ RowAt .i64 wt gl 0 34 (byt oL) ∧ w.heap.size ≤ gy ∧ gy ≠ gl ∧ gy < wt.heap.size ∧ gl < wt.heap.size ∧ Below w.heap.size w wt) (fun b _ _ => (intOf b + 1).toNat)
      case atStart =>
        refine ⟨8, gx, Z, by decide, rfl, rfl, ?_, hrl, hgx, hne, hgs, hls, hb⟩
        rw [pow_b] at dg; exact dg
      case round =>
        clear dg hrl hgx hne hgs hls hb
        obtain ⟨q, gy, Y, hq, rfl, rfl, dg, hrl, hgy, hne, hgs, hls, hb⟩ := hrel
        by_cases hq0 : q = 0
        · subst hq0
          rw [Nat.add_zero, ← pow_b] at dg
          have dg' := Hid.mk' dg
          clear dg
          go_wp2
          exact ⟨⟨i, gy, Y, by omega, rfl, rfl, dg'.out, hrl, hgy, hne, hgs, hls, hb⟩, by simp [intOf]⟩
        · obtain ⟨s, rfl⟩ : ∃ s, q = s + 1 := ⟨q - 1, by omega⟩
          have es : (((s + 1 : Nat) : Int) - 1) = (s : Int) := by omega
          rw [es]
          have hss : (0 : Int) ≤ (s : Int) := by omega
          obtain ⟨gd, rfl, rd⟩ := hd wr hb i (by omega)
          have hin : (0 : Int) ≤ (i : Int) ∧ (i : Int) < n := by omega
          have hbit := bit_and (D i) s (hD i)
          obtain ⟨c0, hc0⟩ : ∃ c0, c0 = D i / 2 ^ s % 2 := ⟨_, rfl⟩
          have hc1 : c0 ≤ 1 := by omega
          have hnb := next_bit D hD n i s (by omega) (by omega)
          rw [← hc0] at hnb hbit
          rw [← HN.out] at hnb
          have HB := Hid.mk' hbit
          have HNB := Hid.mk' hnb
          obtain ⟨r, hr⟩ : ∃ r, r = N / 2 ^ (8 * i + (s + 1)) % oL := ⟨_, rfl⟩
          have hrl' : r < oL := by rw [hr]; exact Nat.mod_lt _ (by decide)
          rw [← hr] at dg
          have HR := Hid.mk' hr
          clear hbit hnb hc0 hr
          go_wp2
          rw [HB.out]
          go_loopw [8, 7] (fun k c wu => ∃ (k' C : Nat) (X : Nat → Nat), k' ≤ 34 ∧ k = .int .i64 k' ∧ c = .int .i64 C ∧ C ≤ 1 ∧ RowAt .i64 wu gy 0 34 X ∧ (∀ j, X j < 256) ∧ (∀ j, k' ≤ j → X j = Y j) ∧ ofB X k' + 256 ^ k' * C = 2 * ofB Y k' + c0 ∧ RowAt .i64 wu gl 0 34 (byt oL) ∧ gy < wu.heap.size ∧ gl < wu.heap.size ∧ Below w.heap.size w wu) (fun k _ _ => 34 - (intOf k).toNat)
          case atStart => exact ⟨0, c0, Y, by decide, rfl, rfl, hc1, dg.row, dg.dig, fun _ _ => rfl, by simp [ofB], hrl, hgs, hls, hb⟩
          case round =>
            clear hrl hgs hls hb rd
            obtain ⟨k, C, X, hk, rfl, rfl, hC, hrow, hX, hXY, hinv, hrl, hgs, hls, hb⟩ := hrel
            have HXY := Hid.mk' hXY
            have HI := Hid.mk' hinv
            clear hXY hinv
            by_cases hkl : k < 34
            · obtain ⟨rk, fk⟩ := hrow k hkl
              rw [Nat.zero_add] at rk fk
              have hXk := hX k
              obtain ⟨v, hv⟩ : ∃ v, v = 2 * X k + C := ⟨_, rfl⟩
              have hvi : 2 * (X k : Int) + (C : Int) = (v : Int) := by omega
              have ha := i64_and255 v (by omega)
              have hs8 := dbl_step HI.out (show v = 2 * Y k + C by rw [hv, HXY.out k (Nat.le_refl _)])
              have HS := Hid.mk' hs8
              have hdv : (v : Int) / 256 = ((v / 256 : Nat) : Int) := by omega
              have hv1 : v / 256 ≤ 1 := by omega
              have hvm : v % 256 < 256 := Nat.mod_lt _ (by decide)
              have hvl : v < 512 := by omega
              have HDV := Hid.mk' hdv
              clear hs8 hv hdv
              go_wp2
              have h1 := hrow.set (i := k) hkl (v := (v : Int) % 256) (u := v % 256) (by omega)
              rw [Nat.zero_add] at h1
              refine ⟨⟨k + 1, v / 256, upd X k (v % 256), by omega, by go_num, by rw [HDV.out], hv1, h1, fun j => ?_, fun j hj => ?_, ?_, hrl.far (by show gy ≠ gl; exact hne) _, by simpa using hgs, by simpa using hls, hb.setCell hgy _⟩, by simp [intOf]; omega⟩
              · unfold upd; split
                · exact hvm
                · exact hX j
              · unfold upd; rw [if_neg (by omega)]; exact HXY.out j (by omega)
              · rw [ofB, ofB, ofB_upd, show upd X k (v % 256) k = v % 256 by unfold upd; rw [if_pos rfl], Nat.pow_succ]
                have := HS.out
                omega
            · have hke : k = 34 := by omega
              subst hke
              have hfin := dbl_fin HI.out dg.val hrl' hc1 hC (ofB_lt X hX 34)
              have HF := Hid.mk' (twice_mod (N / 2 ^ (8 * i + (s + 1))) c0)
              have hge := fun h => rless_ge gy gl 34 cl X (byt oL) hX (byt_all oL) (2 * r + c0) oL hfin ord_val h wr hrow hrl
              have hlt := fun h => rless_lt gy gl 34 cl X (byt oL) hX (byt_all oL) (2 * r + c0) oL hfin ord_val h wr hrow hrl
              have hval : N / 2 ^ (8 * i + s) % oL = (2 * r + c0) % oL := by rw [HNB.out, HF.out, HR.out]
              have HV := Hid.mk' hval
              have HFI := Hid.mk' hfin
              clear hval hfin
              by_cases hc : oL ≤ 2 * r + c0
              · replace hge := hge hc
                have hm : (2 * r + c0) % oL = 2 * r + c0 - oL := by rw [Nat.mod_eq_sub_mod hc, Nat.mod_eq_of_lt (by omega)]
                have HM := Hid.mk' hm
                clear hlt hm
                go_wp2_with (go_at_call 29; refine hge.mono ?_; clear hge; rintro e w2 ⟨Z2, rfl, hr2, hZ2, hv2, hb2⟩)
                exact ⟨⟨s, wr.heap.size, Z2, by omega, rfl, rfl, ⟨hr2, hZ2, by rw [HV.out, HM.out]; exact hv2⟩, hrl.below hb2 hls, hb.size, by omega, block_lt_of_cell (hr2 0 (by decide)).1, Nat.lt_of_lt_of_le hls hb2.size, below_next hb hb2⟩, by simp [intOf]⟩
              · replace hlt := hlt (by omega)
                have hm : (2 * r + c0) % oL = 2 * r + c0 := Nat.mod_eq_of_lt (by omega)
                have HM := Hid.mk' hm
                clear hge hm
                go_wp2_with (go_at_call 29; refine hlt.mono ?_; clear hlt; rintro e w2 ⟨rfl, hb2⟩)
                exact ⟨⟨s, gy, X, by omega, rfl, rfl, ⟨hrow.below hb2 hgs, hX, by rw [HV.out, HM.out]; exact HFI.out⟩, hrl.below hb2 hls, hgy, hne, Nat.lt_of_lt_of_le hgs hb2.size, Nat.lt_of_lt_of_le hls hb2.size, below_next hb hb2⟩, by simp [intOf]⟩
theorem rrest_own {base : Nat} (v : Value) (n : Nat) (D : Nat → Nat) (hD : ∀ j, D j < 256) (hn : n ≤ 1000) (w : World) (hv : OwnI base w v n D) :
    Calls Tryd.prog 26 #[v] w fun e w' => ∃ s, e = .returned s ∧ BytesIn w' s 32 (byt (ofB D n % oL)) ∧ Below w.heap.size w w' := by
  rcases hv.form with ⟨rfl, rfl⟩ | ⟨g, cap, rfl, _, hg, _, hr⟩
  · exact rrest_at none 0 0 D hD hn w (fun _ _ j hj => absurd hj (Nat.not_lt_zero j))
  · exact rrest_at _ n cap D hD hn w (fun W hW j hj => ⟨g, rfl, by have := (hr.below hW hg j hj).1; rwa [Nat.zero_add] at this⟩)
theorem rrest_row (g n cap : Nat) (D : Nat → Nat) (hD : ∀ j, D j < 256) (hn : n ≤ 1000) (w : World) (hr : RowAt .i64 w g 0 n D) (hg : g < w.heap.size) :
    Calls Tryd.prog 26 #[.slice (some ⟨g, 0, none⟩) n cap] w fun e w' => ∃ s, e = .returned s ∧ BytesIn w' s 32 (byt (ofB D n % oL)) ∧ Below w.heap.size w w' :=
  rrest_at _ n cap D hD hn w (fun W hW j hj => ⟨g, rfl, by have := (hr.below hW hg j hj).1; rwa [Nat.zero_add] at this⟩)
end Go.Proofs.YtmehhjogddpkgaaDoor
