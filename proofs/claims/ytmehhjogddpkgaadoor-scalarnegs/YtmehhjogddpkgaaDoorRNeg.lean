/- The reference of layer 4: what Neg does in the model. -/
import Derived.Test.YtmehhjogddpkgaaDoorRRed
namespace Go.Proofs.YtmehhjogddpkgaaDoor
open Go.RowKit
theorem rneg_bad (xv : Option Addr) (n kv : Nat) (hn : ¬n = 32) (w : World) : Calls Tryd.prog 19 #[.slice xv n kv] w fun e w' => e = .returned (.tuple #[.slice none 0 0, .int .i64 1]) ∧ w' = w := by
  have hni : ¬(n : Int) = 32 := by omega
  clear hn
  go_enter Tryd.func19, Tryd.ntmps19
  go_wp2
  go_ret2
  exact ⟨rfl, rfl⟩
/-- Are the first k bytes zeros? -/
def zerosB (r k : Nat) : Bool := decide (∀ j, j < k → byt r j = 0)
theorem zerosB_true {r k : Nat} (h : ∀ j, j < k → byt r j = 0) : zerosB r k = true := decide_eq_true h
theorem zerosB_false {r k : Nat} (h : ¬∀ j, j < k → byt r j = 0) : zerosB r k = false := decide_eq_false h
theorem zerosB_succ (r k : Nat) : zerosB r (k + 1) = (zerosB r k && decide (byt r k = 0)) := by
  unfold zerosB
  rw [← Bool.decide_and]
  exact decide_eq_decide.2 ⟨fun h => ⟨fun j hj => h j (by omega), h k (by omega)⟩, fun h j hj => by
    by_cases e : j = k
    · rw [e]; exact h.2
    · exact h.1 j (by omega)⟩
theorem zeros_of {r : Nat} (hr : r < oL) (h : ∀ j, j < 32 → byt r j = 0) : r = 0 := by
  refine byt_inj (Nat.lt_trans hr (by unfold oL; decide)) (by decide) (fun j hj => ?_)
  rw [h j hj]
  unfold byt; rw [Nat.zero_div, Nat.zero_mod]
set_option maxRecDepth 20000 in
set_option maxHeartbeats 4000000 in
theorem rneg_good (v : Value) (bs : Nat → Nat) (hbs : ∀ j, bs j < 256) (w : World) (hv : BytesIn w v 32 bs) :
    Calls Tryd.prog 19 #[v] w fun e w' => ∃ s, e = .returned (.tuple #[s, .int .i64 0]) ∧ BytesIn w' s 32 (byt ((oL - ofB bs 32 % oL) % oL)) ∧ Below w.heap.size w w' := by
  have cr := rreduce_good v 32 bs hbs (by decide) w hv
  obtain ⟨xv, kv, rfl, -⟩ := hv.src
  have hrl : ofB bs 32 % oL < oL := Nat.mod_lt _ (by decide)
  obtain ⟨r, hr⟩ : ∃ r, r = ofB bs 32 % oL := ⟨_, rfl⟩
  rw [← hr] at cr hrl ⊢
  obtain ⟨m, hm⟩ : ∃ m, m = (oL - r) % oL := ⟨_, rfl⟩
  rw [← hm]
  have HM := Hid.mk' hm
  have co := fun W => rorder_any W
  have cl := fun (W : World) ga gb ca X h1 h2 h3 h4 h5 => rless_ge ga gb ca 34 (byt oL) X (byt_all oL) h1 oL r ord_val h2 h3 W h4 h5
  have cs := fun (W : World) g (D : Nat → Nat) h1 h2 h3 => rrest_row g 34 34 D h1 (by decide) W h2 h3
  clear hr hm hv hbs
  go_enter Tryd.func19, Tryd.ntmps19
  go_wp2_with (first
    | (go_at_call 10; refine cr.mono ?_; clear cr; rintro e w1 ⟨s1, rfl, b1, hb1⟩; (obtain ⟨x1, c1, rfl, -⟩ := b1.src); (have hmk := make_ints w1 34 34 rfl (by decide)))
    | rw [hmk])
  obtain ⟨bb, ob, rfl, hbb, hcb⟩ : ∃ bb ob, x1 = some ⟨bb, ob, none⟩ ∧ bb < w1.heap.size ∧ ∀ j, j < 32 → w1.cell? ⟨bb, ob + j, none⟩ = some (.int .u8 (byt r j)) := by
    rcases b1 with ⟨xo, h, h0⟩ | ⟨bb, ob, cap, h, h1, h2, h3⟩
    · omega
    · cases h; exact ⟨bb, ob, rfl, h1, h3⟩
  obtain ⟨W, hW⟩ : ∃ W, W = w1.alloc (.cells (zi 34) 3) := ⟨_, rfl⟩
  have hbW : Below w1.heap.size w1 W := by rw [hW]; exact (Below.refl _ _).alloc (Nat.le_refl _) _
  have hx0 : RowAt .i64 W w1.heap.size 0 34 (fun _ => 0) := by rw [hW]; exact RowAt.fresh (fun j hj => zi_at 34 j hj)
  have hWs : w1.heap.size < W.heap.size := by rw [hW]; simp
  rw [← hW]
  clear hW hmk
  go_loopw [8, 7] (fun i z wr => ∃ k : Nat, k ≤ 32 ∧ i = .int .i64 k ∧ z = .bool (zerosB r k) ∧ RowAt .i64 wr w1.heap.size 0 34 (fun j => if j < k then byt r j else 0) ∧ w1.heap.size < wr.heap.size ∧ Below w1.heap.size w1 wr) (fun i _ _ => 32 - (intOf i).toNat)
  case atStart => exact ⟨0, by decide, rfl, by rw [zerosB_true (k := 0) (fun j hj => absurd hj (Nat.not_lt_zero j))], hx0.congr (fun j _ => by simp), hWs, hbW⟩
  case round =>
    clear hx0 hbW hWs
    obtain ⟨k, hk, rfl, rfl, hrow, hsz, hb⟩ := hrel
    by_cases hlt : k < 32
    · have rk := (hb.cell (p := ⟨bb, ob + k, none⟩) hbb).trans (hcb k hlt)
      obtain ⟨rx, fx⟩ := hrow k (by omega)
      rw [Nat.zero_add] at rx fx
      have hbl := byt_lt r k
      have h1 := hrow.set (i := k) (by omega) (v := (byt r k : Int)) (u := byt r k) rfl
      rw [Nat.zero_add] at h1
      have hrow' : RowAt .i64 (wr.setCell ⟨w1.heap.size, k, none⟩ (.int .i64 (byt r k))) w1.heap.size 0 34 (fun j => if j < k + 1 then byt r j else 0) := h1.congr (fun j hj => by
        unfold upd
        by_cases e : j = k
        · rw [if_pos e, if_pos (by omega), e]
        · rw [if_neg e]
          show (if j < k then byt r j else 0) = _
          by_cases e2 : j < k
          · rw [if_pos e2, if_pos (by omega)]
          · rw [if_neg e2, if_neg (by omega)])
      have hne : bb ≠ w1.heap.size := by omega
      have rk' : (wr.setCell ⟨w1.heap.size, k, none⟩ (.int .i64 (byt r k))).cell? ⟨bb, ob + k, none⟩ = some (.int .u8 (byt r k)) := by
        rw [World.cell?_setCell_other _ _ _ _ (fun e => by injection e with e1 _; omega)]; exact rk
      have hdec : ∀ z, zerosB r k = z → zerosB r (k + 1) = (z && decide (byt r k = 0)) := fun z hz => by rw [← hz]; exact zerosB_succ r k
      have HR := Hid.mk' hrow'
      clear h1 hrow' hcb cs cl co
      have hb' := hb.setCell (p := ⟨w1.heap.size, k, none⟩) (Nat.le_refl _) (.int .i64 (byt r k))
      cases hz : zerosB r k
      · have hd := Hid.mk' (hdec _ hz)
        clear hdec hz
        go_wp2
        go_roundw
        case rel => exact ⟨k + 1, by omega, by go_num, by rw [hd.out]; rfl, HR.out, by simpa using hsz, hb'⟩
        case measure => simp [intOf]; omega
      · have hd := Hid.mk' (hdec _ hz)
        clear hdec hz
        go_wp2
        go_roundw
        case rel => exact ⟨k + 1, by omega, by go_num, by rw [hd.out]; by_cases h : byt r k = 0 <;> simp [h], HR.out, by simpa using hsz, hb'⟩
        case measure => simp [intOf]; omega
    · have hke : k = 32 := by omega
      subst hke
      by_cases h0 : r = 0
      · have hz : zerosB r 32 = true := zerosB_true (fun j _ => by rw [h0]; unfold byt; rw [Nat.zero_div, Nat.zero_mod])
        rw [hz]
        have hmr : m = r := by rw [HM.out, h0]; decide
        have b2 := b1.still hb
        rw [← hmr] at b2
        have B2 := Hid.mk' b2
        clear hz hmr b2 h0 cs cl co hcb
        go_wp2
        go_ret2
        exact ⟨_, rfl, B2.out, below_next hb1 hb⟩
      · have hz : zerosB r 32 = false := zerosB_false (fun h => h0 (zeros_of hrl h))
        rw [hz]
        have hD : ∀ j, (fun j => if j < 32 then byt r j else 0) j < 256 := fun j => by
          show (if j < 32 then byt r j else 0) < 256
          split
          · exact byt_lt _ _
          · decide
        have hval : ofB (fun j => if j < 32 then byt r j else 0) 34 = r := by
          have e : ofB (fun j => if j < 32 then byt r j else 0) 34 = ofB (fun j => if j < 32 then byt r j else 0) 32 := rfl
          rw [e, ofB_congr (b := byt r) 32 (fun j hj => by show (if j < 32 then byt r j else 0) = _; rw [if_pos hj]), ofB_byt32 r (Nat.lt_trans hrl (by unfold oL; decide))]
        replace cl := fun (W : World) ga ca (h4 : RowAt .i64 W ga 0 34 (byt oL)) h5 => cl W ga w1.heap.size ca _ hD hval (Nat.le_of_lt hrl) h4 h5
        clear hz h0 hcb hval hD b1
        go_wp2_with (first
          | (go_at_call 30; refine (co _).mono ?_; clear co; rintro e w2 ⟨gl, kl, rfl, hgl, hgs, hrl2, hb2⟩; replace cl := cl w2 gl kl hrl2 (hrow.below hb2 hsz))
          | (go_at_call 29; refine cl.mono ?_; clear cl; rintro e w3 ⟨Z, rfl, hr3, hZ, hv3, hb3⟩; replace cs := cs w3 w2.heap.size Z hZ hr3 (block_lt_of_cell (hr3 0 (by decide)).1); rw [hv3, ← HM.out] at cs)
          | (go_at_call 26; refine cs.mono ?_; clear cs; rintro e w4 ⟨s4, rfl, b4, hb4⟩))
        go_ret2
        exact ⟨_, rfl, b4, below_next (below_next (below_next (below_next hb1 hb) hb2) hb3) hb4⟩
end Go.Proofs.YtmehhjogddpkgaaDoor
