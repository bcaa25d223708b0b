/- The walk of the law ShaPieces in the model, at both widths. -/
import Derived.Test.YtlfofbkanifocaaDoorWalk1
import Derived.Test.YtlfofbkanifocaaDoorHashM
namespace Go.Proofs.YtlfofbkanifocaaDoor
open Go.RowKit
theorem own_out {b o m : Nat} {w w' : World} {base : Nat} {v : Value} {n : Nat} {X : Nat → Nat} (h : Own base w v n X) (hO : Out b o m w w') (hb : b < base) : Own base w' v n X :=
  World.ownsRow.kept (row := some b) h ⟨hO.os, hO.tape, hO.output, hO.size, fun k hk hr => hO.block k hk (fun e => hr (by rw [e]))⟩ (.inr (fun e => by have := (World.ownsRow.lt h b e).1; omega))
theorem own_out2 {b o m : Nat} {w w' : World} {base : Nat} {v : Value} {n : Nat} {X : Nat → Nat} (h : Own base w v n X) (hO : Out b o m w w') (hb : v.ownBlock ≠ some b) : Own base w' v n X :=
  World.ownsRow.kept (row := some b) h ⟨hO.os, hO.tape, hO.output, hO.size, fun k hk hr => hO.block k hk (fun e => hr (by rw [e]))⟩ (.inr hb)
/-- How many bytes the first i pieces have. -/
def sumN (pn : Nat → Nat) : Nat → Nat
  | 0 => 0
  | i + 1 => sumN pn i + pn i
/-- The first i pieces, one behind the other. -/
def allB (pn : Nat → Nat) (pb : Nat → Nat → Nat) : Nat → Nat → Nat
  | 0 => fun _ => 0
  | i + 1 => cat (sumN pn i) (allB pn pb i) (pb i)
theorem sumN_le (pn : Nat → Nat) {i j : Nat} (h : i ≤ j) : sumN pn i ≤ sumN pn j := by
  induction h with
  | refl => exact Nat.le_refl _
  | step _ ih => exact Nat.le_trans ih (Nat.le_add_right _ _)
theorem allB_lt {pn : Nat → Nat} {pb : Nat → Nat → Nat} (h : ∀ i j, pb i j < 256) : ∀ i j, allB pn pb i j < 256
  | 0, _ => Nat.zero_lt_succ _
  | i + 1, j => cat_lt (allB_lt h i) (h i) j
/-- A slice of slices of bytes in what is there. -/
structure PiecesIn (w : World) (xo : Option Addr) (cnt : Nat) (pv : Nat → Value) (pn : Nat → Nat) (pb : Nat → Nat → Nat) : Prop where
  cell : ∀ q, q < cnt → ∃ lb lo, xo = some ⟨lb, lo, none⟩ ∧ ∀ i, i < cnt → w.cell? ⟨lb, lo + i, none⟩ = some (pv i)
  each : ∀ i, i < cnt → BytesIn w (pv i) (pn i) (pb i)
  byte : ∀ i j, pb i j < 256
theorem RowAt.any {K : IntKind} {w : World} {b o n : Nat} {X : Nat → Nat} {v : Int} (h : RowAt K w b o n X) (i : Nat) (hi : i < n) (hv : 0 ≤ v) : RowAt K (w.setCell ⟨b, o + i, none⟩ (.int K v)) b o n (upd X i v.toNat) := h.set hi (Int.toNat_of_nonneg hv).symm
theorem RowAt.any0 {K : IntKind} {w : World} {b n : Nat} {X : Nat → Nat} {v : Int} (h : RowAt K w b 0 n X) (i : Nat) (hi : i < n) (hv : 0 ≤ v) : ∃ Y, RowAt K (w.setCell ⟨b, i, none⟩ (.int K v)) b 0 n Y := by
  have h1 := h.any i hi hv
  rw [Nat.zero_add] at h1
  exact ⟨_, h1⟩
theorem BytesIn.of_own {base : Nat} {w : World} {v : Value} {n : Nat} {X : Nat → Nat} (h : Own base w v n X) : BytesIn w v n X := by
  rcases h.form with ⟨rfl, rfl⟩ | ⟨g, cap, rfl, _, hl, hc, hr⟩
  · exact .inl ⟨none, rfl, rfl⟩
  · exact .inr ⟨g, 0, cap, rfl, hl, hc, fun j hj => (hr j hj).1⟩
theorem Made256.low {w w' : World} {g n B : Nat} {bs : Nat → Nat} (h : Made256 w g n bs) (hb : Below B w w') (hg : g < B) : Made256 w' g n bs := by
  obtain ⟨s, R, h1, h2, h3, h4⟩ := h.eng
  have c : ∀ q, w'.cell? ⟨g, q, none⟩ = w.cell? ⟨g, q, none⟩ := fun q => hb.cell (p := ⟨g, q, none⟩) hg
  have f : ∀ q, w'.frozen? ⟨g, q, none⟩ = w.frozen? ⟨g, q, none⟩ := fun q => hb.frozen (p := ⟨g, q, none⟩) hg
  exact ⟨(c 0).trans h.bits, s, R, ⟨fun j hj => ⟨(c _).trans (h1.st j hj).1, (f _).trans (h1.st j hj).2⟩, fun j hj => ⟨(c _).trans (h1.rest j hj).1, (f _).trans (h1.rest j hj).2⟩, (c _).trans h1.cnt, (f _).trans h1.cntf⟩, h2, h3, h4⟩
set_option maxRecDepth 20000 in
set_option maxHeartbeats 8000000 in
theorem pieces256_any (xo : Option Addr) (cnt cap : Nat) (pv : Nat → Value) (pn : Nat → Nat) (pb : Nat → Nat → Nat) (w : World) (hT : Tab w cubeK squareK) (hP : PiecesIn w xo cnt pv pn pb) (hcnt : cnt ≤ 1048576) (hsum : sumN pn cnt ≤ 1048576) :
    Calls Tryd.prog 6 #[.bool false, .slice xo cnt cap] w fun e w' => e = .returned (.bool true) ∧ Below w.heap.size w w' := by
  have h3 := hT.size
  have hnew := fun W (h : Below w.heap.size w W) => newMade256 W (hT.below h h3) (fun _ => 0)
  have hk := fun W (h : Below w.heap.size w W) => knows_any W (hT.below h h3)
  have hn1 := hnew w (Below.refl _ _)
  go_enter Tryd.func6, Tryd.ntmps6
  go_wp2_with (first
    | (go_at_call 19; refine hn1.mono ?_; clear hn1; rintro e w1 ⟨gh, rfl, hgh, hMh, hb1⟩; have hn2 := hnew w1 hb1)
    | (go_at_call 19; refine hn2.mono ?_; clear hn2; rintro e w2 ⟨go, rfl, hgo, hMo, hb2⟩; (have hbw2 : Below w.heap.size w w2 := hb1.trans (hb2.mono hb1.size)); have hk2 := hk w2 hbw2)
    | (go_at_call 16; refine hk2.mono ?_; clear hk2; rintro e w3 ⟨rfl, hb3⟩))
  have hMh3 := (hMh.below hb2).below hb3
  have hMo3 := hMo.below hb3
  have hbw3 : Below w.heap.size w w3 := hbw2.trans (hb3.mono hbw2.size)
  have hlh := hMh3.lt
  have hlo := hMo3.lt
  have hne : gh ≠ go := by have := hMh.lt; omega
  have hgo' : w.heap.size ≤ go := by have := hb1.size; omega
  clear hMh hMo hb1 hb2 hb3 hbw2 hnew hk hgo
  have hs3 := hbw3.size
  obtain ⟨bs0, hbs0⟩ : ∃ B, B = w3.heap.size := ⟨_, rfl⟩
  go_loopw [8, 9] (fun al i wr => ∃ q : Nat, q ≤ cnt ∧ i = .int .i64 q ∧ Own w3.heap.size wr al (sumN pn q) (allB pn pb q) ∧ Made256 wr gh (sumN pn q) (allB pn pb q) ∧ (∃ ob, Made256 wr go q ob) ∧ Below w.heap.size w wr ∧ w3.heap.size ≤ wr.heap.size) (fun _ i _ => cnt - (intOf i).toNat)
  case atStart => exact ⟨0, Nat.zero_le _, rfl, Own.nil _ _ _, hMh3, ⟨_, hMo3⟩, hbw3, Nat.le_refl _⟩
  case round =>
    clear hMh3 hMo3 hbw3
    obtain ⟨q, hq, rfl, own, hMh, ⟨ob, hMo⟩, hbw, hsz⟩ := hrel
    by_cases hlt : q < cnt
    · obtain ⟨lb, lo, rfl, hcell⟩ := hP.cell q hlt
      have hBq := hP.each q hlt
      have hbyte := hP.byte q
      obtain ⟨n, hn⟩ : ∃ n, n = pn q := ⟨_, rfl⟩
      obtain ⟨T, hTe⟩ : ∃ T, T = sumN pn q := ⟨_, rfl⟩
      obtain ⟨A, hA⟩ : ∃ A, A = allB pn pb q := ⟨_, rfl⟩
      obtain ⟨pbq, hpbq⟩ : ∃ b, b = pb q := ⟨_, rfl⟩
      have hAl : ∀ j, A j < 256 := by rw [hA]; exact allB_lt hP.byte q
      have hTn : T + n ≤ 1048576 := by
        have h1 : sumN pn (q + 1) ≤ sumN pn cnt := sumN_le pn hlt
        have h2 : sumN pn (q + 1) = sumN pn q + pn q := rfl
        omega
      have HN : Hid (sumN pn (q + 1) = T + n ∧ allB pn pb (q + 1) = cat T A pbq) := (⟨by rw [hTe, hn]; rfl, by rw [hTe, hA, hpbq]; rfl⟩ : sumN pn (q + 1) = T + n ∧ allB pn pb (q + 1) = cat T A pbq)
      rw [← hn, ← hpbq] at hBq
      rw [← hpbq] at hbyte
      rw [← hTe, ← hA] at own hMh
      have hc0 := hcell q hlt
      have hcl : lb < w.heap.size := block_lt_of_cell hc0
      obtain ⟨xp, cp, hpv, hxn, hncp, hsrc⟩ := hBq.src
      rw [hpv] at hc0 hBq
      have rc : ∀ W, Below w.heap.size w W → W.cell? ⟨lb, lo + q, none⟩ = some (.slice xp n cp) := fun W h => (h.cell (p := ⟨lb, lo + q, none⟩) hcl).trans hc0
      have hlent := lent_any (.slice xp n cp) n pbq wr (hBq.keep hbw) (by omega)
      have hgh' := hMh.lt
      have hgo2 := hMo.lt
      have hqi : (0 : Int) ≤ (q : Int) ∧ (q : Int) < cnt := by omega
      have r0 := rc wr hbw
      have hnum := num_any 0
      clear hn hTe hA hpbq hpv hcell
      go_wp2_with (first
        | (go_at_call 12; refine hlent.mono ?_; clear hlent; rintro e w1 ⟨gx, cx, rfl, hcx, hgx, hrx, hb1⟩; (have hbw1 : Below w.heap.size w w1 := hbw.trans (hb1.mono hbw.size)); have hgxl : gx < w1.heap.size := block_lt_of_cell (hrx 0 (by omega)).1; have hw := hwrite256_any gh T n (.slice (some ⟨gx, 0, none⟩) n cx) A (cat n pbq room) (cat_lt hbyte room_lt) w1 (hMh.below hb1) (hT.below hbw1 h3) (by omega) (.inr ⟨gx, 0, cx, rfl, by omega, by omega, fun j hj => (hrx j (by omega)).1⟩) (by omega); have hsz1 := hb1.size)
        | (go_at_call 22; refine hw.mono ?_; clear hw; rintro e w2 ⟨rfl, hMh2, hO2⟩; (have hbw2 : Below w.heap.size w w2 := hbw1.trans (hO2.below hgh (by omega))); have r2 := rc w2 hbw2; have hrx2 := hO2.row hrx (by omega); have hst := stays_any gx cx n (.slice xp n cp) pbq hbyte w2 (by omega) hcx hrx2 (hBq.keep hbw2); have hsz2 := hO2.size)
        | (go_at_call 21; refine (hnum _).mono ?_; rintro e wn ⟨rfl, hwn⟩; subst hwn)
        | (go_at_call 15; refine hst.mono ?_; clear hst; rintro e w4 ⟨rfl, hb4⟩))
      have hbw4 : Below w.heap.size w w4 := hbw2.trans (hb4.mono hbw2.size)
      have hMh4 : Made256 w4 gh (T + n) (cat T A pbq) := (hMh2.congr (fun j hj => by
        by_cases e : j < T
        · rw [cat_left e, cat_left e]
        · unfold cat
          rw [if_neg e, if_neg e, if_pos (by omega)])).below hb4
      have hMo4 : Made256 w4 go q ob := ((hMo.below hb1).out hO2 (by omega)).below hb4
      have own4 : Own w3.heap.size w4 u8 T A := (own_out (own.below hb1) hO2 hlh).below hb4
      have hrx4 : RowAt .u8 w4 gx 0 n (cat n pbq room) := fun j hj => (hrx2.below hb4 (by omega)) j (by omega)
      have hox : u8.ownBlock ≠ some gx := fun e => by have := (World.ownsRow.lt own gx e).2; omega
      have hsz4 : w3.heap.size ≤ w4.heap.size := by have := hb4.size; omega
      have hgx4 : gx < w4.heap.size := by have := hb4.size; omega
      have hgxw : w.heap.size ≤ gx := by have := hbw.size; omega
      have hgxh : gh ≠ gx := by omega
      have hgxo : go ≠ gx := by omega
      have hgxb : w3.heap.size ≤ gx := by omega
      have hd33 : decide ((q : Int) < (cnt : Int)) = true := decide_eq_true (by omega)
      try rw [hd33]
      clear hd33 hb4 hO2 hrx2 hMh2 hbw2 hbw1 hMh hMo own hrx hb1 hbw r0 r2 hsz1 hsz2 hgh' hgo2 hnum hP
      go_loopw [11] (fun kk wk => ∃ k : Nat, k ≤ n ∧ kk = .int .i64 k ∧ (∃ X, RowAt .u8 wk gx 0 n X) ∧ Out gx 0 n w4 wk) (fun kk _ => n - (intOf kk).toNat)
      case atStart => exact ⟨0, Nat.zero_le _, rfl, ⟨_, hrx4⟩, Out.refl _ _ _ _⟩
      case round =>
        clear hrx4
        obtain ⟨k, hk, rfl, ⟨X, hX⟩, hO⟩ := hrel
        by_cases hlk : k < n
        · obtain ⟨rk, rf⟩ := hX k hlk
          rw [Nat.zero_add] at rk rf
          have hki : (0 : Int) ≤ (k : Int) ∧ (k : Int) < n := by omega
          go_wp2
          go_roundw
          case rel => exact ⟨k + 1, by omega, by go_num, hX.any0 k hlk (by omega), hO.trans (Out.setCell _ _ (Nat.zero_le _) (by omega))⟩
          case measure => simp [intOf]; omega
        · obtain ⟨y, hy⟩ : ∃ y : Nat, y = q % 256 := ⟨_, rfl⟩
          have hyi : (q : Int) % 256 = (y : Int) := by omega
          have hyl : y < 256 := by omega
          obtain ⟨wk, hwk⟩ : ∃ W, W = wr := ⟨_, rfl⟩
          subst hwk
          have hszk := hO.size
          have hMhk := hMh4.out hO hgxh
          have hMok := hMo4.out hO hgxo
          have hbk : Below w.heap.size w wk := hbw4.trans (hO.below hgxw (by omega))
          have ownk : Own w3.heap.size wk u8 T A := own_out2 own4 hO hox
          have hbk1 : Below w.heap.size w (wk.alloc (.cells #[.int .u8 (y : Int)] 5)) := hbk.alloc hbk.size _
          have hup : Below wk.heap.size wk (wk.alloc (.cells #[.int .u8 (y : Int)] 5)) := (Below.refl _ _).alloc (Nat.le_refl _) _
          have hw5 := hwrite256_any go q 1 (.slice (some ⟨wk.heap.size, 0, none⟩) 1 1) ob (fun _ => y) (fun _ => hyl) (wk.alloc (.cells #[.int .u8 (y : Int)] 5)) (hMok.below hup) (hT.below hbk1 h3) (by omega) (.inr ⟨wk.heap.size, 0, 1, rfl, by have := hMok.lt; omega, Nat.le_refl _, fun j hj => by
            have : j = 0 := by omega
            subst this
            simp⟩) (by omega)
          have hghk := hMhk.lt
          have hgok := hMok.lt
          have hwant : ∀ (W : World) (v : Value), Below w.heap.size w W → BytesIn W v (T + n) (cat T A pbq) → Calls Tryd.prog 14 #[v] W fun e w' => ∃ v', e = .returned v' ∧ Own W.heap.size w' v' 32 (outB 32 (specS rn cubeK squareK (T + n) (cat T A pbq))) ∧ Below W.heap.size W w' := fun W v _ hv => rSum256_any v (T + n) (cat T A pbq) (cat_lt hAl hbyte) W hv (by omega)
          have hwant2 : ∀ (W : World) (v : Value), Below w.heap.size w W → BytesIn W v (T + n) (cat T A pbq) → Calls Tryd.prog 18 #[v] W fun e w' => ∃ v', e = .returned v' ∧ Own W.heap.size w' v' 64 (outB 64 (specS rw6 cubeK squareK (T + n) (cat T A pbq))) ∧ Below W.heap.size W w' := fun W v _ hv => rSum512_any v (T + n) (cat T A pbq) (cat_lt hAl hbyte) W hv (by omega)
          have hhs := fun (W : World) (hM : Made256 W gh (T + n) (cat T A pbq)) (hb : Below w.heap.size w W) => hsum256_any gh (T + n) (cat T A pbq) W hM (hT.below hb h3) (by omega)
          obtain ⟨Y, hY⟩ : ∃ Y, Y = outB 32 (specS rn cubeK squareK (T + n) (cat T A pbq)) := ⟨_, rfl⟩
          have hYl : ∀ j, Y j < 256 := fun j => by rw [hY]; exact outB_lt _ _ _
          rw [← hY] at hhs hwant
          have r5 := rc
          have hd58 : decide ((k : Int) < (n : Int)) = false := decide_eq_false (by omega)
          clear hY hX hO hMh4 hMo4 own4 hbw4 hMok hy
          go_wp2_with (first
            | (go_at_call 22; refine hw5.mono ?_; clear hw5; rintro e w5 ⟨rfl, hMo5, hO5⟩; (have hbw5 : Below w.heap.size w w5 := hbk1.trans (hO5.below hgo' (by simp; omega))); have own5 := own_out (ownk.below hup) hO5 hlo; have hMh5 := (hMhk.below hup).out hO5 hne; replace r5 := rc w5 hbw5; have src5 := hsrc w5 hbw5; have hsz5 := hO5.size; simp only [World.size_alloc] at hsz5)
            | (at_builtin; refine wpList_append_bytes rfl (.tmp 74) (.tmp 78) rfl w3.heap.size u8 T A rfl own5 xp n cp pbq rfl src5 hxn (by omega) (by omega) ?_; intro v6 w6 own6 grow6; (have hb6 : Below w3.heap.size w5 w6 := Own.grown (Below.refl _ _) grow6 own5 (Nat.le_refl _) (by omega)); (have hbw6 : Below w.heap.size w w6 := hbw5.trans (hb6.mono hs3)); have hMh6 := hMh5.low hb6 hlh; have hMo6 := hMo5.low hb6 hlo; have hw6 := hwant w6 v6 hbw6 (BytesIn.of_own own6); have hsz6 := hb6.size)
            | (go_at_call 14; refine hw6.mono ?_; clear hw6; rintro e w7 ⟨vw, rfl, ownw, hb7⟩; (obtain ⟨gw, cw, hvw, hgw, hgwl, hcw, hrw⟩ : ∃ g cap, vw = .slice (some ⟨g, 0, none⟩) 32 cap ∧ w6.heap.size ≤ g ∧ g < w7.heap.size ∧ 32 ≤ cap ∧ RowAt .u8 w7 g 0 32 Y := ownw.form.resolve_left (fun h => by omega)); subst hvw; (have hb67 : Below w6.heap.size w6 w7 := hb7); (have hbw7 : Below w.heap.size w w7 := hbw6.trans (hb67.mono hbw6.size)); have hh7 := hhs w7 (hMh6.below hb67) hbw7)
            | (go_at_call 23; refine hh7.mono ?_; clear hh7; rintro e w8 ⟨ga, rfl, hga, hra, hb8⟩; have c1 := conv_bytes w8 ga 0 32 32 Y hYl (fun j hj => (hra j hj).1); have c2 := conv_bytes w8 gw 0 32 cw Y hYl (fun j hj => ((hrw.below hb8 hgwl) j hj).1)))
          have hb68 : Below w6.heap.size w6 w8 := hb67.trans (hb8.mono hb67.size)
          have hga6 : w6.heap.size ≤ ga := by have := hb67.size; omega
          have hga8 : ga < w8.heap.size := block_lt_of_cell (hra 0 (by decide)).1
          have hs68 := hb68.size
          try rw [hd58]
          clear hd58 c1 c2 hb8 hb7 hbw7 hrw hhs hwant hwant2 hMh5 hMo5 own5 src5 hb6 grow6 hO5 hMhk hbk hbk1 hup ownk hlk hk
          go_loopw [14] (fun kk wz => ∃ k : Nat, k ≤ 32 ∧ kk = .int .i64 k ∧ (∃ X, RowAt .u8 wz ga 0 32 X) ∧ Out ga 0 32 w8 wz) (fun kk _ => 32 - (intOf kk).toNat)
          case atStart => exact ⟨0, Nat.zero_le _, rfl, ⟨_, hra⟩, Out.refl _ _ _ _⟩
          case round =>
            clear hra
            obtain ⟨z, hz, rfl, ⟨X, hX⟩, hO⟩ := hrel
            by_cases hlz : z < 32
            · obtain ⟨rk, rf⟩ := hX z hlz
              rw [Nat.zero_add] at rk rf
              have hzi : (0 : Int) ≤ (z : Int) ∧ (z : Int) < 32 := by omega
              go_wp2
              go_roundw
              case rel => exact ⟨z + 1, by omega, by go_num, hX.any0 z hlz (by decide), hO.trans (Out.setCell _ _ (Nat.zero_le _) (by omega))⟩
              case measure => simp [intOf]; omega
            · have hbz : Below w6.heap.size w6 wr := hb68.trans (hO.below hga6 (by omega))
              go_wp2
              go_roundw
              case rel =>
                have hsz' := hbz.size
                have hN := HN.out
                rw [← hN.1, ← hN.2] at own6 hMh6
                exact ⟨q + 1, by omega, by go_num, own6.below hbz, hMh6.below hbz, ⟨_, hMo6.below hbz⟩, hbw6.trans (hbz.mono hbw6.size), by omega⟩
              case measure => simp [intOf]; omega
    · have hqe : q = cnt := by omega
      go_wp2
      go_ret
      exact ⟨rfl, hbw⟩
theorem Made512.low {w w' : World} {g n B : Nat} {bs : Nat → Nat} (h : Made512 w g n bs) (hb : Below B w w') (hg : g < B) : Made512 w' g n bs := by
  obtain ⟨s, R, h1, h2, h3, h4⟩ := h.eng
  have c : ∀ q, w'.cell? ⟨g, q, none⟩ = w.cell? ⟨g, q, none⟩ := fun q => hb.cell (p := ⟨g, q, none⟩) hg
  have f : ∀ q, w'.frozen? ⟨g, q, none⟩ = w.frozen? ⟨g, q, none⟩ := fun q => hb.frozen (p := ⟨g, q, none⟩) hg
  exact ⟨(c 0).trans h.bits, s, R, ⟨fun j hj => ⟨(c _).trans (h1.st j hj).1, (f _).trans (h1.st j hj).2⟩, fun j hj => ⟨(c _).trans (h1.rest j hj).1, (f _).trans (h1.rest j hj).2⟩, (c _).trans h1.cnt, (f _).trans h1.cntf⟩, h2, h3, h4⟩
set_option maxRecDepth 20000 in
set_option maxHeartbeats 8000000 in
theorem pieces512_any (xo : Option Addr) (cnt cap : Nat) (pv : Nat → Value) (pn : Nat → Nat) (pb : Nat → Nat → Nat) (w : World) (hT : Tab w cubeK squareK) (hP : PiecesIn w xo cnt pv pn pb) (hcnt : cnt ≤ 1048576) (hsum : sumN pn cnt ≤ 1048576) :
    Calls Tryd.prog 6 #[.bool true, .slice xo cnt cap] w fun e w' => e = .returned (.bool true) ∧ Below w.heap.size w w' := by
  have h3 := hT.size
  have hnew := fun W (h : Below w.heap.size w W) => newMade512 W (hT.below h h3) (fun _ => 0)
  have hk := fun W (h : Below w.heap.size w W) => knows_any W (hT.below h h3)
  have hn1 := hnew w (Below.refl _ _)
  go_enter Tryd.func6, Tryd.ntmps6
  go_wp2_with (first
    | (go_at_call 19; refine hn1.mono ?_; clear hn1; rintro e w1 ⟨gh, rfl, hgh, hMh, hb1⟩; have hn2 := hnew w1 hb1)
    | (go_at_call 19; refine hn2.mono ?_; clear hn2; rintro e w2 ⟨go, rfl, hgo, hMo, hb2⟩; (have hbw2 : Below w.heap.size w w2 := hb1.trans (hb2.mono hb1.size)); have hk2 := hk w2 hbw2)
    | (go_at_call 16; refine hk2.mono ?_; clear hk2; rintro e w3 ⟨rfl, hb3⟩))
  have hMh3 := (hMh.below hb2).below hb3
  have hMo3 := hMo.below hb3
  have hbw3 : Below w.heap.size w w3 := hbw2.trans (hb3.mono hbw2.size)
  have hlh := hMh3.lt
  have hlo := hMo3.lt
  have hne : gh ≠ go := by have := hMh.lt; omega
  have hgo' : w.heap.size ≤ go := by have := hb1.size; omega
  clear hMh hMo hb1 hb2 hb3 hbw2 hnew hk hgo
  have hs3 := hbw3.size
  obtain ⟨bs0, hbs0⟩ : ∃ B, B = w3.heap.size := ⟨_, rfl⟩
  go_loopw [8, 9] (fun al i wr => ∃ q : Nat, q ≤ cnt ∧ i = .int .i64 q ∧ Own w3.heap.size wr al (sumN pn q) (allB pn pb q) ∧ Made512 wr gh (sumN pn q) (allB pn pb q) ∧ (∃ ob, Made512 wr go q ob) ∧ Below w.heap.size w wr ∧ w3.heap.size ≤ wr.heap.size) (fun _ i _ => cnt - (intOf i).toNat)
  case atStart => exact ⟨0, Nat.zero_le _, rfl, Own.nil _ _ _, hMh3, ⟨_, hMo3⟩, hbw3, Nat.le_refl _⟩
  case round =>
    clear hMh3 hMo3 hbw3
    obtain ⟨q, hq, rfl, own, hMh, ⟨ob, hMo⟩, hbw, hsz⟩ := hrel
    by_cases hlt : q < cnt
    · obtain ⟨lb, lo, rfl, hcell⟩ := hP.cell q hlt
      have hBq := hP.each q hlt
      have hbyte := hP.byte q
      obtain ⟨n, hn⟩ : ∃ n, n = pn q := ⟨_, rfl⟩
      obtain ⟨T, hTe⟩ : ∃ T, T = sumN pn q := ⟨_, rfl⟩
      obtain ⟨A, hA⟩ : ∃ A, A = allB pn pb q := ⟨_, rfl⟩
      obtain ⟨pbq, hpbq⟩ : ∃ b, b = pb q := ⟨_, rfl⟩
      have hAl : ∀ j, A j < 256 := by rw [hA]; exact allB_lt hP.byte q
      have hTn : T + n ≤ 1048576 := by
        have h1 : sumN pn (q + 1) ≤ sumN pn cnt := sumN_le pn hlt
        have h2 : sumN pn (q + 1) = sumN pn q + pn q := rfl
        omega
      have HN : Hid (sumN pn (q + 1) = T + n ∧ allB pn pb (q + 1) = cat T A pbq) := (⟨by rw [hTe, hn]; rfl, by rw [hTe, hA, hpbq]; rfl⟩ : sumN pn (q + 1) = T + n ∧ allB pn pb (q + 1) = cat T A pbq)
      rw [← hn, ← hpbq] at hBq
      rw [← hpbq] at hbyte
      rw [← hTe, ← hA] at own hMh
      have hc0 := hcell q hlt
      have hcl : lb < w.heap.size := block_lt_of_cell hc0
      obtain ⟨xp, cp, hpv, hxn, hncp, hsrc⟩ := hBq.src
      rw [hpv] at hc0 hBq
      have rc : ∀ W, Below w.heap.size w W → W.cell? ⟨lb, lo + q, none⟩ = some (.slice xp n cp) := fun W h => (h.cell (p := ⟨lb, lo + q, none⟩) hcl).trans hc0
      have hlent := lent_any (.slice xp n cp) n pbq wr (hBq.keep hbw) (by omega)
      have hgh' := hMh.lt
      have hgo2 := hMo.lt
      have hqi : (0 : Int) ≤ (q : Int) ∧ (q : Int) < cnt := by omega
      have r0 := rc wr hbw
      have hnum := num_any 0
      clear hn hTe hA hpbq hpv hcell
      go_wp2_with (first
        | (go_at_call 12; refine hlent.mono ?_; clear hlent; rintro e w1 ⟨gx, cx, rfl, hcx, hgx, hrx, hb1⟩; (have hbw1 : Below w.heap.size w w1 := hbw.trans (hb1.mono hbw.size)); have hgxl : gx < w1.heap.size := block_lt_of_cell (hrx 0 (by omega)).1; have hw := hwrite512_any gh T n (.slice (some ⟨gx, 0, none⟩) n cx) A (cat n pbq room) (cat_lt hbyte room_lt) w1 (hMh.below hb1) (hT.below hbw1 h3) (by omega) (.inr ⟨gx, 0, cx, rfl, by omega, by omega, fun j hj => (hrx j (by omega)).1⟩) (by omega); have hsz1 := hb1.size)
        | (go_at_call 22; refine hw.mono ?_; clear hw; rintro e w2 ⟨rfl, hMh2, hO2⟩; (have hbw2 : Below w.heap.size w w2 := hbw1.trans (hO2.below hgh (by omega))); have r2 := rc w2 hbw2; have hrx2 := hO2.row hrx (by omega); have hst := stays_any gx cx n (.slice xp n cp) pbq hbyte w2 (by omega) hcx hrx2 (hBq.keep hbw2); have hsz2 := hO2.size)
        | (go_at_call 21; refine (hnum _).mono ?_; rintro e wn ⟨rfl, hwn⟩; subst hwn)
        | (go_at_call 15; refine hst.mono ?_; clear hst; rintro e w4 ⟨rfl, hb4⟩))
      have hbw4 : Below w.heap.size w w4 := hbw2.trans (hb4.mono hbw2.size)
      have hMh4 : Made512 w4 gh (T + n) (cat T A pbq) := (hMh2.congr (fun j hj => by
        by_cases e : j < T
        · rw [cat_left e, cat_left e]
        · unfold cat
          rw [if_neg e, if_neg e, if_pos (by omega)])).below hb4
      have hMo4 : Made512 w4 go q ob := ((hMo.below hb1).out hO2 (by omega)).below hb4
      have own4 : Own w3.heap.size w4 u8 T A := (own_out (own.below hb1) hO2 hlh).below hb4
      have hrx4 : RowAt .u8 w4 gx 0 n (cat n pbq room) := fun j hj => (hrx2.below hb4 (by omega)) j (by omega)
      have hox : u8.ownBlock ≠ some gx := fun e => by have := (World.ownsRow.lt own gx e).2; omega
      have hsz4 : w3.heap.size ≤ w4.heap.size := by have := hb4.size; omega
      have hgx4 : gx < w4.heap.size := by have := hb4.size; omega
      have hgxw : w.heap.size ≤ gx := by have := hbw.size; omega
      have hgxh : gh ≠ gx := by omega
      have hgxo : go ≠ gx := by omega
      have hgxb : w3.heap.size ≤ gx := by omega
      have hd33 : decide ((q : Int) < (cnt : Int)) = true := decide_eq_true (by omega)
      try rw [hd33]
      clear hd33 hb4 hO2 hrx2 hMh2 hbw2 hbw1 hMh hMo own hrx hb1 hbw r0 r2 hsz1 hsz2 hgh' hgo2 hnum hP
      go_loopw [11] (fun kk wk => ∃ k : Nat, k ≤ n ∧ kk = .int .i64 k ∧ (∃ X, RowAt .u8 wk gx 0 n X) ∧ Out gx 0 n w4 wk) (fun kk _ => n - (intOf kk).toNat)
      case atStart => exact ⟨0, Nat.zero_le _, rfl, ⟨_, hrx4⟩, Out.refl _ _ _ _⟩
      case round =>
        clear hrx4
        obtain ⟨k, hk, rfl, ⟨X, hX⟩, hO⟩ := hrel
        by_cases hlk : k < n
        · obtain ⟨rk, rf⟩ := hX k hlk
          rw [Nat.zero_add] at rk rf
          have hki : (0 : Int) ≤ (k : Int) ∧ (k : Int) < n := by omega
          go_wp2
          go_roundw
          case rel => exact ⟨k + 1, by omega, by go_num, hX.any0 k hlk (by omega), hO.trans (Out.setCell _ _ (Nat.zero_le _) (by omega))⟩
          case measure => simp [intOf]; omega
        · obtain ⟨y, hy⟩ : ∃ y : Nat, y = q % 256 := ⟨_, rfl⟩
          have hyi : (q : Int) % 256 = (y : Int) := by omega
          have hyl : y < 256 := by omega
          obtain ⟨wk, hwk⟩ : ∃ W, W = wr := ⟨_, rfl⟩
          subst hwk
          have hszk := hO.size
          have hMhk := hMh4.out hO hgxh
          have hMok := hMo4.out hO hgxo
          have hbk : Below w.heap.size w wk := hbw4.trans (hO.below hgxw (by omega))
          have ownk : Own w3.heap.size wk u8 T A := own_out2 own4 hO hox
          have hbk1 : Below w.heap.size w (wk.alloc (.cells #[.int .u8 (y : Int)] 5)) := hbk.alloc hbk.size _
          have hup : Below wk.heap.size wk (wk.alloc (.cells #[.int .u8 (y : Int)] 5)) := (Below.refl _ _).alloc (Nat.le_refl _) _
          have hw5 := hwrite512_any go q 1 (.slice (some ⟨wk.heap.size, 0, none⟩) 1 1) ob (fun _ => y) (fun _ => hyl) (wk.alloc (.cells #[.int .u8 (y : Int)] 5)) (hMok.below hup) (hT.below hbk1 h3) (by omega) (.inr ⟨wk.heap.size, 0, 1, rfl, by have := hMok.lt; omega, Nat.le_refl _, fun j hj => by
            have : j = 0 := by omega
            subst this
            simp⟩) (by omega)
          have hghk := hMhk.lt
          have hgok := hMok.lt
          have hwant : ∀ (W : World) (v : Value), Below w.heap.size w W → BytesIn W v (T + n) (cat T A pbq) → Calls Tryd.prog 14 #[v] W fun e w' => ∃ v', e = .returned v' ∧ Own W.heap.size w' v' 32 (outB 32 (specS rn cubeK squareK (T + n) (cat T A pbq))) ∧ Below W.heap.size W w' := fun W v _ hv => rSum256_any v (T + n) (cat T A pbq) (cat_lt hAl hbyte) W hv (by omega)
          have hwant2 : ∀ (W : World) (v : Value), Below w.heap.size w W → BytesIn W v (T + n) (cat T A pbq) → Calls Tryd.prog 18 #[v] W fun e w' => ∃ v', e = .returned v' ∧ Own W.heap.size w' v' 64 (outB 64 (specS rw6 cubeK squareK (T + n) (cat T A pbq))) ∧ Below W.heap.size W w' := fun W v _ hv => rSum512_any v (T + n) (cat T A pbq) (cat_lt hAl hbyte) W hv (by omega)
          have hhs := fun (W : World) (hM : Made512 W gh (T + n) (cat T A pbq)) (hb : Below w.heap.size w W) => hsum512_any gh (T + n) (cat T A pbq) W hM (hT.below hb h3) (by omega)
          obtain ⟨Y, hY⟩ : ∃ Y, Y = outB 64 (specS rw6 cubeK squareK (T + n) (cat T A pbq)) := ⟨_, rfl⟩
          have hYl : ∀ j, Y j < 256 := fun j => by rw [hY]; exact outB_lt _ _ _
          rw [← hY] at hhs hwant2
          have r5 := rc
          have hd58 : decide ((k : Int) < (n : Int)) = false := decide_eq_false (by omega)
          clear hY hX hO hMh4 hMo4 own4 hbw4 hMok hy
          go_wp2_with (first
            | (go_at_call 22; refine hw5.mono ?_; clear hw5; rintro e w5 ⟨rfl, hMo5, hO5⟩; (have hbw5 : Below w.heap.size w w5 := hbk1.trans (hO5.below hgo' (by simp; omega))); have own5 := own_out (ownk.below hup) hO5 hlo; have hMh5 := (hMhk.below hup).out hO5 hne; replace r5 := rc w5 hbw5; have src5 := hsrc w5 hbw5; have hsz5 := hO5.size; simp only [World.size_alloc] at hsz5)
            | (at_builtin; refine wpList_append_bytes rfl (.tmp 74) (.tmp 78) rfl w3.heap.size u8 T A rfl own5 xp n cp pbq rfl src5 hxn (by omega) (by omega) ?_; intro v6 w6 own6 grow6; (have hb6 : Below w3.heap.size w5 w6 := Own.grown (Below.refl _ _) grow6 own5 (Nat.le_refl _) (by omega)); (have hbw6 : Below w.heap.size w w6 := hbw5.trans (hb6.mono hs3)); have hMh6 := hMh5.low hb6 hlh; have hMo6 := hMo5.low hb6 hlo; have hw6 := hwant w6 v6 hbw6 (BytesIn.of_own own6); have hsz6 := hb6.size)
            | (go_at_call 14; refine hw6.mono ?_; clear hw6; rintro e w6b ⟨vw, rfl, ownw, hb7⟩; have hw7 := hwant2 w6b v6 (hbw6.trans (hb7.mono hbw6.size)) ((BytesIn.of_own own6).keep hb7))
            | (go_at_call 18; refine hw7.mono ?_; clear hw7; rintro e w7 ⟨vw, rfl, ownw, hb7b⟩; (obtain ⟨gw, cw, hvw, hgw, hgwl, hcw, hrw⟩ : ∃ g cap, vw = .slice (some ⟨g, 0, none⟩) 64 cap ∧ w6b.heap.size ≤ g ∧ g < w7.heap.size ∧ 64 ≤ cap ∧ RowAt .u8 w7 g 0 64 Y := ownw.form.resolve_left (fun h => by omega)); subst hvw; (have hb67 : Below w6.heap.size w6 w7 := hb7.trans (hb7b.mono hb7.size)); (have hbw7 : Below w.heap.size w w7 := hbw6.trans (hb67.mono hbw6.size)); have hh7 := hhs w7 (hMh6.below hb67) hbw7)
            | (go_at_call 23; refine hh7.mono ?_; clear hh7; rintro e w8 ⟨ga, rfl, hga, hra, hb8⟩; have c1 := conv_bytes w8 ga 0 64 64 Y hYl (fun j hj => (hra j hj).1); have c2 := conv_bytes w8 gw 0 64 cw Y hYl (fun j hj => ((hrw.below hb8 hgwl) j hj).1)))
          have hb68 : Below w6.heap.size w6 w8 := hb67.trans (hb8.mono hb67.size)
          have hga6 : w6.heap.size ≤ ga := by have := hb67.size; omega
          have hga8 : ga < w8.heap.size := block_lt_of_cell (hra 0 (by decide)).1
          have hs68 := hb68.size
          try rw [hd58]
          clear hd58 c1 c2 hb8 hb7 hbw7 hrw hhs hwant hwant2 hMh5 hMo5 own5 src5 hb6 grow6 hO5 hMhk hbk hbk1 hup ownk hlk hk
          go_loopw [14] (fun kk wz => ∃ k : Nat, k ≤ 64 ∧ kk = .int .i64 k ∧ (∃ X, RowAt .u8 wz ga 0 64 X) ∧ Out ga 0 64 w8 wz) (fun kk _ => 64 - (intOf kk).toNat)
          case atStart => exact ⟨0, Nat.zero_le _, rfl, ⟨_, hra⟩, Out.refl _ _ _ _⟩
          case round =>
            clear hra
            obtain ⟨z, hz, rfl, ⟨X, hX⟩, hO⟩ := hrel
            by_cases hlz : z < 64
            · obtain ⟨rk, rf⟩ := hX z hlz
              rw [Nat.zero_add] at rk rf
              have hzi : (0 : Int) ≤ (z : Int) ∧ (z : Int) < 64 := by omega
              go_wp2
              go_roundw
              case rel => exact ⟨z + 1, by omega, by go_num, hX.any0 z hlz (by decide), hO.trans (Out.setCell _ _ (Nat.zero_le _) (by omega))⟩
              case measure => simp [intOf]; omega
            · have hbz : Below w6.heap.size w6 wr := hb68.trans (hO.below hga6 (by omega))
              go_wp2
              go_roundw
              case rel =>
                have hsz' := hbz.size
                have hN := HN.out
                rw [← hN.1, ← hN.2] at own6 hMh6
                exact ⟨q + 1, by omega, by go_num, own6.below hbz, hMh6.below hbz, ⟨_, hMo6.below hbz⟩, hbw6.trans (hbz.mono hbw6.size), by omega⟩
              case measure => simp [intOf]; omega
    · have hqe : q = cnt := by omega
      go_wp2
      go_ret
      exact ⟨rfl, hbw⟩
end Go.Proofs.YtlfofbkanifocaaDoor
