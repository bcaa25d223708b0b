/- What the methods Plus, Minus and Times of a Number, From and Bytes do in the model. -/
import Derived.Test.YtinigkpidhbgcaaLimbs
import Derived.Test.YtinigkpidhbgcaaBts
namespace Go.Proofs.Ytinigkpidhbgcaa
open Go.RowKit
theorem behind3 {w w1 : World} {A B : Obj} {a b c d : Value} {t : TypeId} (h : Below (((w.alloc A).alloc B).alloc (.cells #[a, b, c, d] t)).heap.size (((w.alloc A).alloc B).alloc (.cells #[a, b, c, d] t)) w1) : w1.there (w.heap.size + 1 + 1) 0 4 ∧ Below w.heap.size w w1 ∧
    (w1.cell? ⟨w.heap.size + 1 + 1, 0, none⟩ = some a ∧ w1.cell? ⟨w.heap.size + 1 + 1, 1, none⟩ = some b ∧ w1.cell? ⟨w.heap.size + 1 + 1, 2, none⟩ = some c ∧ w1.cell? ⟨w.heap.size + 1 + 1, 3, none⟩ = some d) ∧ ∀ j, j < 4 → w1.frozen? ⟨w.heap.size + 1 + 1, j, none⟩ = false := by
  have hs : ((w.alloc A).alloc B).heap.size = w.heap.size + 1 + 1 := by simp
  have := behind' h
  rw [hs] at this
  obtain ⟨h1, h2, h3, h4⟩ := this
  exact ⟨h1, (((Below.refl w.heap.size w).alloc (Nat.le_refl _) A).alloc (by simp) B).trans (h2.mono (by omega)), h3, h4⟩
theorem numAt_boxes (w : World) (x y : Nat) (C : Obj) (t : TypeId) : NumAt (((w.alloc (.cells #[.int .u64 (lw x 0), .int .u64 (lw x 1), .int .u64 (lw x 2), .int .u64 (lw x 3)] t)).alloc (.cells #[.int .u64 (lw y 0), .int .u64 (lw y 1), .int .u64 (lw y 2), .int .u64 (lw y 3)] t)).alloc C) w.heap.size x ∧ NumAt (((w.alloc (.cells #[.int .u64 (lw x 0), .int .u64 (lw x 1), .int .u64 (lw x 2), .int .u64 (lw x 3)] t)).alloc (.cells #[.int .u64 (lw y 0), .int .u64 (lw y 1), .int .u64 (lw y 2), .int .u64 (lw y 3)] t)).alloc C) (w.heap.size + 1) y := by
  have h1 : ∀ (u : World) (n : Nat), NumAt (u.alloc (.cells #[.int .u64 (lw n 0), .int .u64 (lw n 1), .int .u64 (lw n 2), .int .u64 (lw n 3)] t)) u.heap.size n := fun u n => by constructor <;> simp
  refine ⟨((h1 w x).below ((Below.refl _ _).alloc (Nat.le_refl _) _) (by simp)).below ((Below.refl _ _).alloc (Nat.le_refl _) _) (by simp; omega), ?_⟩
  have h2 := h1 (w.alloc (.cells #[.int .u64 (lw x 0), .int .u64 (lw x 1), .int .u64 (lw x 2), .int .u64 (lw x 3)] t)) y
  have hs : (w.alloc (.cells #[.int .u64 (lw x 0), .int .u64 (lw x 1), .int .u64 (lw x 2), .int .u64 (lw x 3)] t)).heap.size = w.heap.size + 1 := by simp
  rw [hs] at h2
  exact h2.below ((Below.refl _ _).alloc (Nat.le_refl _) C) (by simp)
set_option maxRecDepth 20000 in
set_option maxHeartbeats 2000000 in
theorem plus_any (x y : Nat) (hx : x < pF) (hy : y < pF) (w : World) :
    Calls Try.prog 35 #[numV x, numV y] w fun e w' => e = .returned (numV ((x + y) % pF)) ∧ Below w.heap.size w w' := by
  obtain ⟨hX, hY⟩ := numAt_boxes w x y (.cells #[.int .u64 0, .int .u64 0, .int .u64 0, .int .u64 0] 46) 46
  have hs := sum_any w.heap.size (w.heap.size + 1) x y hx hy _ hX hY
  obtain ⟨N, hN⟩ : ∃ N, N = (x + y) % pF := ⟨_, rfl⟩
  rw [← hN] at hs ⊢
  obtain ⟨z0, z1, z2, z3, hz⟩ := numV_ex N
  rw [hz] at hs ⊢
  unfold numV
  clear hX hY hN hz
  go_enter Try.func35, Try.ntmps35
  go_wp2_with (go_at_call 48; refine hs.mono ?_; clear hs; rintro e w1 ⟨rfl, hb1⟩; (obtain ⟨ht1, hbw, ⟨t0, t1, t2, t3⟩, hf⟩ := behind3 hb1); (have f0 := hf 0 (by decide)); (have f1 := hf 1 (by decide)); (have f2 := hf 2 (by decide)); (have f3 := hf 3 (by decide)); clear hb1 hf)
  (try simp only [Exit.inBlock, Exit.then])
  exact bodyPost_ret (results_set4 Try.results35 _ _ _ _ _ _ _ ht1 rfl Try.underlying46 rfl (by kernel_rfl)) rfl ⟨rfl, below_set4 hbw (by omega) _ _ _ _⟩
set_option maxRecDepth 20000 in
set_option maxHeartbeats 2000000 in
theorem minus_any (x y : Nat) (hx : x < pF) (hy : y < pF) (w : World) :
    Calls Try.prog 37 #[numV x, numV y] w fun e w' => e = .returned (numV ((x + pF - y) % pF)) ∧ Below w.heap.size w w' := by
  obtain ⟨hX, hY⟩ := numAt_boxes w x y (.cells #[.int .u64 0, .int .u64 0, .int .u64 0, .int .u64 0] 46) 46
  have hs := difference_any w.heap.size (w.heap.size + 1) x y hx hy _ hX hY
  obtain ⟨N, hN⟩ : ∃ N, N = (x + pF - y) % pF := ⟨_, rfl⟩
  rw [← hN] at hs ⊢
  obtain ⟨z0, z1, z2, z3, hz⟩ := numV_ex N
  rw [hz] at hs ⊢
  unfold numV
  clear hX hY hN hz
  go_enter Try.func37, Try.ntmps37
  go_wp2_with (go_at_call 49; refine hs.mono ?_; clear hs; rintro e w1 ⟨rfl, hb1⟩; (obtain ⟨ht1, hbw, ⟨t0, t1, t2, t3⟩, hf⟩ := behind3 hb1); (have f0 := hf 0 (by decide)); (have f1 := hf 1 (by decide)); (have f2 := hf 2 (by decide)); (have f3 := hf 3 (by decide)); clear hb1 hf)
  (try simp only [Exit.inBlock, Exit.then])
  exact bodyPost_ret (results_set4 Try.results37 _ _ _ _ _ _ _ ht1 rfl Try.underlying46 rfl (by kernel_rfl)) rfl ⟨rfl, below_set4 hbw (by omega) _ _ _ _⟩
set_option maxRecDepth 20000 in
set_option maxHeartbeats 2000000 in
theorem times_any (x y : Nat) (hx : x < pF) (hy : y < pF) (w : World) :
    Calls Try.prog 39 #[numV x, numV y] w fun e w' => e = .returned (numV (x * y % pF)) ∧ Below w.heap.size w w' := by
  obtain ⟨hX, hY⟩ := numAt_boxes w x y (.cells #[.int .u64 0, .int .u64 0, .int .u64 0, .int .u64 0] 46) 46
  have hs := product_any w.heap.size (w.heap.size + 1) x y hx hy _ hX hY
  obtain ⟨N, hN⟩ : ∃ N, N = x * y % pF := ⟨_, rfl⟩
  rw [← hN] at hs ⊢
  obtain ⟨z0, z1, z2, z3, hz⟩ := numV_ex N
  rw [hz] at hs ⊢
  unfold numV
  clear hX hY hN hz
  go_enter Try.func39, Try.ntmps39
  go_wp2_with (go_at_call 50; refine hs.mono ?_; clear hs; rintro e w1 ⟨rfl, hb1⟩; (obtain ⟨ht1, hbw, ⟨t0, t1, t2, t3⟩, hf⟩ := behind3 hb1); (have f0 := hf 0 (by decide)); (have f1 := hf 1 (by decide)); (have f2 := hf 2 (by decide)); (have f3 := hf 3 (by decide)); clear hb1 hf)
  (try simp only [Exit.inBlock, Exit.then])
  exact bodyPost_ret (results_set4 Try.results39 _ _ _ _ _ _ _ ht1 rfl Try.underlying46 rfl (by kernel_rfl)) rfl ⟨rfl, below_set4 hbw (by omega) _ _ _ _⟩
set_option maxRecDepth 20000 in
set_option maxHeartbeats 2000000 in
theorem bytes_any (n : Nat) (w : World) :
    Calls Try.prog 31 #[numV n] w fun e w' => ∃ g, e = .returned (.slice (some ⟨g, 0, none⟩) 32 32) ∧ w.heap.size ≤ g ∧ RowAt .u8 w' g 0 32 (byt n) ∧ Below w.heap.size w w' := by
  obtain ⟨W, hW⟩ : ∃ W, W = w.alloc (.cells #[.int .u64 (lw n 0), .int .u64 (lw n 1), .int .u64 (lw n 2), .int .u64 (lw n 3)] 46) := ⟨_, rfl⟩
  have hN : NumAt W w.heap.size n := by rw [hW]; constructor <;> simp
  have hWs : W.heap.size = w.heap.size + 1 := by rw [hW]; simp
  have hbW : Below w.heap.size w W := by rw [hW]; exact (Below.refl _ _).alloc (Nat.le_refl _) _
  have hlw : ∀ (wr : World), Below (w.heap.size + 1) W wr → ∀ a, a < 4 → wr.cell? ⟨w.heap.size, a, none⟩ = some (.int .u64 (lw n a)) := fun wr hb a ha => by
    have h := hN.below hb (by omega)
    match a, ha with
    | 0, _ => exact h.c0
    | 1, _ => exact h.c1
    | 2, _ => exact h.c2
    | 3, _ => exact h.c3
  have hmk := make_bytes W 32 32 rfl (by decide)
  have HW := Hid.mk' hW
  have hb0 : Below (w.heap.size + 1) W (W.alloc (.cells (zb 32) 5)) := (Below.refl _ _).alloc (by omega) _
  have hrow0 : RowAt .u8 (W.alloc (.cells (zb 32) 5)) (w.heap.size + 1) 0 32 (fun _ => 0) := by rw [← hWs]; exact RowAt.fresh (fun j hj => zb_at 32 j hj)
  unfold numV
  clear hW hN
  go_enter Try.func31, Try.ntmps31
  go_wp2_with (rw [← HW.out]; rw [hmk])
  go_loopw [8] (fun i wr => ∃ k : Nat, k ≤ 32 ∧ i = .int .i64 k ∧ RowAt .u8 wr (w.heap.size + 1) 0 32 (fun j => if j < k then byt n j else 0) ∧ Below (w.heap.size + 1) W wr) (fun i _ => 32 - (intOf i).toNat)
  case atStart => exact ⟨0, Nat.zero_le _, rfl, hrow0.congr (fun j _ => by simp), hb0⟩
  case round =>
    clear hrow0 hb0 hmk
    obtain ⟨k, hk, rfl, hrow, hb⟩ := hrel
    by_cases hlt : k < 32
    · obtain ⟨rk, rf⟩ := hrow k hlt
      rw [Nat.zero_add] at rk rf
      have hc := hlw wr hb (k / 8) (by omega)
      have rk0 : wr.cell? ⟨w.heap.size + 1, k, none⟩ = some (.int .u8 0) := by simpa using rk
      clear hlw rk
      go_wp2
      go_roundw
      case rel =>
        have h1 := hrow.set (i := k) hlt (v := (lw n (k / 8) : Int) / 2 ^ (k % 8 * 8) % 256) (u := byt n k) (word_byte_int n k)
        rw [Nat.zero_add] at h1
        refine ⟨k + 1, by omega, by go_num, h1.congr (fun j hj => ?_), hb.setCell (Nat.le_refl _) _⟩
        unfold upd
        by_cases e : j = k
        · rw [if_pos e, if_pos (by omega), e]
        · rw [if_neg e]
          show (if j < k then byt n j else 0) = _
          by_cases e2 : j < k
          · rw [if_pos e2, if_pos (by omega)]
          · rw [if_neg e2, if_neg (by omega)]
      case measure => simp [intOf]; omega
    · go_wp2
      go_ret
      exact ⟨w.heap.size + 1, rfl, by omega, hrow.congr (fun j hj => by rw [if_pos (by omega)]), hbW.trans (hb.mono (by omega))⟩
theorem results_cell_tmp {P : Program} {fn : Func} {p q : Tmp} {ty : TypeId} (h : fn.results = #[.cell p ty, .tmp q]) (tmps : Array Value) (w : World) (g o : Nat) (cs : List Value) (d : TypeDesc)
    (hp : tmps.getD p undef = .pointer (some ⟨g, o, none⟩)) (hc : w.rangeAt g o cs)
    (hu : P.underlying ty = some d) (hd : d.isRow = true) (hi : (P.info? ty).map (·.size) = some cs.length) :
    (results fn tmps).run P w = .ok (.tuple #[.agg cs.toArray, tmps.getD q undef]) w := by
  have hp' : tmps[p]?.getD undef = .pointer (some ⟨g, o, none⟩) := by simpa using hp
  simp [results, h, hp', asAddr, run_loadVar_mid w g o ty cs d hc hu hd hi]
theorem numV_zero : numV 0 = .agg #[.int .u64 0, .int .u64 0, .int .u64 0, .int .u64 0] := by kernel_rfl
set_option maxRecDepth 20000 in
set_option maxHeartbeats 2000000 in
theorem from_other (xo : Option Addr) (n c : Nat) (hn : n ≠ 32) (w : World) :
    Calls Try.prog 30 #[.slice xo n c] w fun e w' => e = .returned (.tuple #[numV 0, .int .i64 1]) ∧ Below w.heap.size w w' := by
  have hni : ¬(n : Int) = 32 := by omega
  rw [numV_zero]
  go_enter Try.func30, Try.ntmps30
  go_wp2
  (try simp only [Exit.inBlock, Exit.then])
  exact bodyPost_ret (results_cell_tmp Try.results30 _ _ w.heap.size 0 [.int .u64 0, .int .u64 0, .int .u64 0, .int .u64 0] _ rfl (range_fresh4 w _ _ _ _ _) Try.underlying46 rfl (by kernel_rfl)) rfl ⟨rfl, (Below.refl _ _).alloc (Nat.le_refl _) _⟩
set_option maxRecDepth 20000 in
set_option maxHeartbeats 2000000 in
theorem from_32 (bb ob c : Nat) (bs : Nat → Nat) (hbs : ∀ j, bs j < 256) (w : World) (hbl : bb < w.heap.size) (hc : ∀ j, j < 32 → w.cell? ⟨bb, ob + j, none⟩ = some (.int .u8 (bs j))) :
    Calls Try.prog 30 #[.slice (some ⟨bb, ob, none⟩) 32 c] w fun e w' => e = .returned (.tuple #[numV (ofB bs 32 % pF), .int .i64 0]) ∧ Below w.heap.size w w' := by
  obtain ⟨W, hW⟩ : ∃ W, W = w.alloc (.cells #[.int .u64 0, .int .u64 0, .int .u64 0, .int .u64 0] 46) := ⟨_, rfl⟩
  have hWs : W.heap.size = w.heap.size + 1 := by rw [hW]; simp
  have hbW : Below w.heap.size w W := by rw [hW]; exact (Below.refl _ _).alloc (Nat.le_refl _) _
  have HW := Hid.mk' hW
  have hrow0 : RowAt .u64 (W.alloc (.cells #[.int .u64 0, .int .u64 0, .int .u64 0, .int .u64 0] 44)) (w.heap.size + 1) 0 4 (lw (ofB bs 0)) := by
    rw [← hWs]
    have hz : ∀ a, lw (ofB bs 0) a = 0 := fun a => by unfold lw ofB; rw [Nat.zero_div, Nat.zero_mod]
    exact RowAt.fresh (fun j hj => by rw [hz]; exact match j, hj with | 0, _ => rfl | 1, _ => rfl | 2, _ => rfl | 3, _ => rfl)
  have hb0 : Below (w.heap.size + 1) W (W.alloc (.cells #[.int .u64 0, .int .u64 0, .int .u64 0, .int .u64 0] 44)) := (Below.refl _ _).alloc (by omega) _
  have hset : ∀ W', Calls Try.prog 46 #[.int .u64 (lw (ofB bs 32) 0), .int .u64 (lw (ofB bs 32) 1), .int .u64 (lw (ofB bs 32) 2), .int .u64 (lw (ofB bs 32) 3), .int .u64 0] W' fun e w' => e = .returned (numV (ofB bs 32 % pF)) ∧ Below W'.heap.size W' w' := fun W' => by
    have := settle_any (lw (ofB bs 32) 0) (lw (ofB bs 32) 1) (lw (ofB bs 32) 2) (lw (ofB bs 32) 3) 0 (lw_lt _ _) (lw_lt _ _) (lw_lt _ _) (lw_lt _ _) (by decide) W'
    rw [lw_val _ (ofB_lt bs hbs 32), Nat.mul_zero, Nat.add_zero] at this
    exact this
  obtain ⟨N, hN⟩ : ∃ N, N = ofB bs 32 % pF := ⟨_, rfl⟩
  rw [← hN] at hset ⊢
  obtain ⟨z0, z1, z2, z3, hz⟩ := numV_ex N
  rw [hz] at hset ⊢
  clear hW hN hz
  go_enter Try.func30, Try.ntmps30
  go_wp2
  rw [← HW.out]
  go_loopw [13] (fun i wr => ∃ k : Nat, k ≤ 32 ∧ i = .int .i64 k ∧ RowAt .u64 wr (w.heap.size + 1) 0 4 (lw (ofB bs k)) ∧ Below (w.heap.size + 1) W wr) (fun i _ => 32 - (intOf i).toNat)
  case atStart => exact ⟨0, Nat.zero_le _, rfl, hrow0, hb0⟩
  case round =>
    clear hrow0 hb0
    obtain ⟨k, hk, rfl, hrow, hb⟩ := hrel
    by_cases hlt : k < 32
    · obtain ⟨rk, rf⟩ := hrow (k / 8) (by omega)
      rw [Nat.zero_add] at rk rf
      have hck : wr.cell? ⟨bb, ob + k, none⟩ = some (.int .u8 (bs k)) := ((hbW.trans (hb.mono (by omega))).cell (p := ⟨bb, ob + k, none⟩) hbl).trans (hc k hlt)
      have hor := or_byte (lw (ofB bs k) (k / 8)) (bs k) k (lw_lt _ _) (hbs k)
      have hbk := hbs k
      clear hc hset
      go_wp2
      go_roundw
      case rel =>
        have h1 := hrow.set (i := k / 8) (by omega) (v := ((lw (ofB bs k) (k / 8) ||| bs k * 2 ^ (k % 8 * 8) : Nat) : Int)) rfl
        rw [Nat.zero_add] at h1
        refine ⟨k + 1, by omega, by go_num, h1.congr (fun j hj => ?_), hb.setCell (Nat.le_refl _) _⟩
        rw [word_more bs hbs k j]
        unfold upd
        by_cases e : j = k / 8
        · rw [if_pos e, if_pos e, e]
        · rw [if_neg e, if_neg e]
      case measure => simp [intOf]; omega
    · have hke : k = 32 := by omega
      rw [hke] at hrow
      have d0 := (hrow 0 (by decide)).1
      have d1 := (hrow 1 (by decide)).1
      have d2 := (hrow 2 (by decide)).1
      have d3 := (hrow 3 (by decide)).1
      rw [Nat.zero_add] at d0 d1 d2 d3
      have hsr := hset wr
      obtain ⟨v0, hv0⟩ : ∃ v, v = lw (ofB bs 32) 0 := ⟨_, rfl⟩
      obtain ⟨v1, hv1⟩ : ∃ v, v = lw (ofB bs 32) 1 := ⟨_, rfl⟩
      obtain ⟨v2, hv2⟩ : ∃ v, v = lw (ofB bs 32) 2 := ⟨_, rfl⟩
      obtain ⟨v3, hv3⟩ : ∃ v, v = lw (ofB bs 32) 3 := ⟨_, rfl⟩
      rw [← hv0] at d0
      rw [← hv1] at d1
      rw [← hv2] at d2
      rw [← hv3] at d3
      rw [← hv0, ← hv1, ← hv2, ← hv3] at hsr
      clear hset hrow hc hke hv0 hv1 hv2 hv3
      have hbr : Below (w.heap.size + 1) (w.alloc (.cells #[.int .u64 0, .int .u64 0, .int .u64 0, .int .u64 0] 46)) wr := by rw [← HW.out]; exact hb
      go_wp2_with (go_at_call 46; refine hsr.mono ?_; clear hsr; rintro e w1 ⟨rfl, hb1⟩; (obtain ⟨ht1, hbw, ⟨t0, t1, t2, t3⟩, hf⟩ := behind' (w := w) (by rw [World.size_alloc]; exact hbr.trans (hb1.mono (by have := hbr.size; rw [World.size_alloc] at this; exact this))); (have f0 := hf 0 (by decide)); (have f1 := hf 1 (by decide)); (have f2 := hf 2 (by decide)); (have f3 := hf 3 (by decide)); clear hb1 hf))
      (try simp only [Exit.inBlock, Exit.then])
      exact bodyPost_ret (results_cell_tmp Try.results30 _ _ w.heap.size 0 [.int .u64 z0, .int .u64 z1, .int .u64 z2, .int .u64 z3] _ rfl (World.rangeAt_setCells_same w1 w.heap.size 0 [.int .u64 z0, .int .u64 z1, .int .u64 z2, .int .u64 z3] ht1) Try.underlying46 rfl (by kernel_rfl)) rfl ⟨rfl, below_set4 hbw (Nat.le_refl _) _ _ _ _⟩
end Go.Proofs.Ytinigkpidhbgcaa
