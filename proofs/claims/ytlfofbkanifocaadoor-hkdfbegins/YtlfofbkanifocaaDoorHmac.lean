/- What padded, tag, blockOf and Hmac of package hkdf do in the model. -/
import Derived.Test.YtlfofbkanifocaaDoorHashM
namespace Go.Proofs.YtlfofbkanifocaaDoor
open Go.RowKit
theorem row_fresh (K : IntKind) (w : World) (n : Nat) (X : Nat → Nat) (t : TypeId) : RowAt K (w.alloc (.cells (ints K n X).toArray t)) w.heap.size 0 n X := RowAt.fresh (fun j hj => by rw [List.getElem?_toArray, ints_at _ _ _ j hj])
/-- Lists of bytes, one behind the other: so many, their cells from the head of block gp on; all their bytes. -/
def Parts (w : World) (gp cnt m : Nat) (t : Nat → Nat) : Prop := ∃ (pvs : Nat → Value) (L : Nat → Nat), L 0 = 0 ∧ L cnt = m ∧ ∀ i, i < cnt → w.cell? ⟨gp, i, none⟩ = some (pvs i) ∧ L i ≤ L (i + 1) ∧ L (i + 1) ≤ m ∧ BytesIn w (pvs i) (L (i + 1) - L i) (fun j => t (L i + j))
theorem BytesIn.still {w w' : World} {v : Value} {n : Nat} {bs : Nat → Nat} (h : BytesIn w v n bs) (hb : Below w.heap.size w w') : BytesIn w' v n bs := by
  rcases h with h | ⟨bb, ob, cap, rfl, h1, h2, h3⟩
  · exact .inl h
  · exact .inr ⟨bb, ob, cap, rfl, Nat.lt_of_lt_of_le h1 hb.size, h2, fun j hj => (hb.cell (p := ⟨bb, ob + j, none⟩) h1).trans (h3 j hj)⟩
theorem Parts.below {w w' : World} {gp cnt m : Nat} {t : Nat → Nat} (h : Parts w gp cnt m t) (hb : Below w.heap.size w w') : Parts w' gp cnt m t := by
  obtain ⟨pvs, L, h0, h1, h2⟩ := h
  exact ⟨pvs, L, h0, h1, fun i hi => ⟨(hb.cell (p := ⟨gp, i, none⟩) (block_lt_of_cell (h2 i hi).1)).trans (h2 i hi).1, (h2 i hi).2.1, (h2 i hi).2.2.1, (h2 i hi).2.2.2.still hb⟩⟩
theorem parts_one (w : World) (v : Value) (n : Nat) (bs : Nat → Nat) (ty : TypeId) (h : BytesIn w v n bs) : Parts (w.alloc (.cells #[v] ty)) w.heap.size 1 n bs := by
  refine ⟨fun _ => v, fun i => if i = 0 then 0 else n, rfl, rfl, fun i hi => ?_⟩
  have : i = 0 := by omega
  subst this
  refine ⟨by simp, Nat.zero_le _, Nat.le_refl _, ?_⟩
  have := h.still ((Below.refl _ _).alloc (Nat.le_refl _) (.cells #[v] ty))
  simpa using this
/-- The first k bytes under a pad. -/
def xorG (kv : Nat → Nat) (p k : Nat) : Nat → Nat := fun j => if j < k then kv j ^^^ p else kv j
theorem xorG_step (kv : Nat → Nat) (p k j : Nat) : upd (xorG kv p k) k (kv k ^^^ p) j = xorG kv p (k + 1) j := by
  unfold upd xorG
  by_cases e : j = k
  · subst e; rw [if_pos rfl, if_pos (by omega)]
  · rw [if_neg e]
    by_cases e2 : j < k
    · rw [if_pos e2, if_pos (by omega)]
    · rw [if_neg e2, if_neg (by omega)]
/-- The hash of a key's block under a pad, and of bytes behind it. -/
def padH (kv : Nat → Nat) (p m : Nat) (t : Nat → Nat) : Nat → Nat := outB 32 (specS rn cubeK squareK (64 + m) (cat 64 (fun j => kv j ^^^ p) t))
set_option maxRecDepth 20000 in
set_option maxHeartbeats 2000000 in
theorem hpadded_any (kv : Nat → Nat) (hkv : ∀ j, kv j < 256) (p : Nat) (hp : p < 256) (gp cnt cap m : Nat) (t : Nat → Nat) (ht : ∀ j, t j < 256) (hm : m < 2305843009213693000) (w : World) (hT : Tab w cubeK squareK) (hP : Parts w gp cnt m t) (hcnt : cnt < 1000000) :
    Calls Tryd.prog 57 #[.agg (ints .u8 64 kv).toArray, .int .u8 p, .slice (some ⟨gp, 0, none⟩) cnt cap] w
      fun e w' => ∃ g, e = .returned (.slice (some ⟨g, 0, none⟩) 32 32) ∧ w.heap.size ≤ g ∧ RowAt .u8 w' g 0 32 (padH kv p m t) ∧ Below w.heap.size w w' := by
  have h3 := hT.size
  have hnew := fun W (h : Below w.heap.size w W) => newMade256 W (hT.below h h3) (cat 64 (fun j => kv j ^^^ p) t)
  have hrow0 := row_fresh .u8 w 64 kv 68
  obtain ⟨pvs, L, hL0, hLm, hcell⟩ := hP
  go_enter Tryd.func57, Tryd.ntmps57
  go_wp2
  go_loopw [11] (fun i wr => ∃ k : Nat, k ≤ 64 ∧ i = .int .i64 k ∧ RowAt .u8 wr w.heap.size 0 64 (xorG kv p k) ∧ Below w.heap.size w wr) (fun i _ => 64 - (intOf i).toNat)
  case atStart => exact ⟨0, Nat.zero_le _, rfl, hrow0.congr (fun j _ => by simp [xorG]), (Below.refl _ _).alloc (Nat.le_refl _) _⟩
  case round =>
    clear hrow0
    obtain ⟨k, hk, rfl, hrow, hb⟩ := hrel
    by_cases hlt : k < 64
    · obtain ⟨rk, rf⟩ := hrow k hlt
      rw [Nat.zero_add] at rk rf
      have ek : xorG kv p k k = kv k := by simp [xorG]
      rw [ek] at rk
      clear hnew hcell
      go_wp2
      go_roundw
      case rel =>
        have h1 := hrow.set (i := k) hlt (v := bits .xor .u8 (kv k : Int) (p : Int)) (u := kv k ^^^ p) (u8_xor_nat _ _ (hkv k) hp)
        rw [Nat.zero_add] at h1
        exact ⟨k + 1, by omega, by go_num, h1.congr (fun j _ => xorG_step kv p k j), hb.setCell (Nat.le_refl _) _⟩
      case measure => simp [intOf]; omega
    · have hke : k = 64 := by omega
      rw [hke] at hrow
      clear hke
      have hn := hnew wr hb
      have hwl : w.heap.size < wr.heap.size := block_lt_of_cell (hrow 0 (by decide)).1
      clear hnew
      go_wp2_with (first
        | (go_at_call 19; refine hn.mono ?_; clear hn; rintro e w1 ⟨g, rfl, hg, hM, hb1⟩; (have hbw1 : Below w.heap.size w w1 := hb.trans (hb1.mono hb.size)); have hs1 := hb1.size; have hw1 := hwrite256_any g 0 64 (.slice (some ⟨w.heap.size, 0, none⟩) 64 64) _ (fun j => kv j ^^^ p) (fun j => Nat.xor_lt_two_pow (n := 8) (hkv j) hp) w1 hM (hT.below hbw1 h3) (by omega) (.inr ⟨w.heap.size, 0, 64, rfl, by omega, Nat.le_refl _, fun j hj => by have h := ((hrow.below hb1 hwl) j hj).1; rw [h]; simp [xorG, hj]⟩) (by decide))
        | (go_at_call 22; refine hw1.mono ?_; clear hw1; rintro e w2 ⟨rfl, hM2, hO2⟩))
      have hbw2 : Below w.heap.size w w2 := hbw1.trans (hO2.below (by omega) (by omega))
      obtain ⟨B, hB⟩ : ∃ B, B = cat 64 (fun j => kv j ^^^ p) t := ⟨_, rfl⟩
      have hM3 : Made256 w2 g (64 + L 0) B := by
        rw [hL0, hB]
        exact hM2.congr (fun j hj => by
          rw [show cat 0 (cat 64 (fun j => kv j ^^^ p) t) (fun j => kv j ^^^ p) j = kv j ^^^ p by unfold cat; simp]
          rw [cat_left (by omega)])
      have HB : Hid (padH kv p m t = outB 32 (specS rn cubeK squareK (64 + m) B)) := (by rw [hB]; rfl : padH kv p m t = outB 32 (specS rn cubeK squareK (64 + m) B))
      have hBr : ∀ j, B (64 + j) = t j := fun j => by rw [hB]; exact cat_right j
      have hd : decide ((k : Int) < 64) = false := decide_eq_false (by omega)
      rw [hd]
      clear hd hM2 hM hO2 hbw1 hb1 hrow hb hlt hk hB
      go_loopw [27] (fun i wq => ∃ q : Nat, q ≤ cnt ∧ i = .int .i64 q ∧ Made256 wq g (64 + L q) B ∧ Below w.heap.size w wq) (fun i _ => cnt - (intOf i).toNat)
      case atStart => exact ⟨0, Nat.zero_le _, rfl, hM3, hbw2⟩
      case round =>
        clear hM3 hbw2
        obtain ⟨q, hq, rfl, hMq, hbq⟩ := hrel
        have hsq := hbq.size
        by_cases hlt : q < cnt
        · obtain ⟨c1, c2, c3, c4⟩ := hcell q hlt
          have rq : wr.cell? ⟨gp, q, none⟩ = some (pvs q) := (hbq.cell (p := ⟨gp, q, none⟩) (block_lt_of_cell c1)).trans c1
          have hw := hwrite256_any g (64 + L q) (L (q + 1) - L q) (pvs q) B (fun j => t (L q + j)) (fun j => ht _) wr hMq (hT.below hbq h3) (by omega) (c4.away hbq (by omega)) (by omega)
          have hgl := hMq.lt
          obtain ⟨pv, hpv⟩ : ∃ pv, pv = pvs q := ⟨_, rfl⟩
          rw [← hpv] at rq hw
          have hqi : (0 : Int) ≤ (q : Int) ∧ (q : Int) < cnt := by omega
          clear hpv hcell
          go_wp2_with (go_at_call 22; refine hw.mono ?_; rintro e w3 ⟨rfl, hM3, hO3⟩)
          go_roundw
          case rel =>
            have hM4 : Made256 w3 g (64 + L (q + 1)) B := by
              rw [show 64 + L (q + 1) = 64 + L q + (L (q + 1) - L q) by omega]
              exact hM3.congr (fun j hj => by
                by_cases e : j < 64 + L q
                · rw [cat_left e]
                · unfold cat
                  rw [if_neg e]
                  show t (L q + (j - (64 + L q))) = B j
                  rw [← hBr]
                  congr 1; omega)
            exact ⟨q + 1, by omega, by go_num, hM4, hbq.trans (hO3.below (by omega) (by omega))⟩
          case measure => simp [intOf]; omega
        · have hqe : q = cnt := by omega
          rw [hqe, hLm] at hMq
          clear hqe
          have hsum := hsum256_any g (64 + m) B wr hMq (hT.below hbq h3) (by omega)
          go_wp2_with (go_at_call 23; refine hsum.mono ?_; rintro e w4 ⟨ga, rfl, hga, hrow, hb4⟩)
          go_ret
          rw [HB.out]
          exact ⟨ga, rfl, by omega, hrow, hbq.trans (hb4.mono hbq.size)⟩
theorem padH_lt (kv : Nat → Nat) (p m : Nat) (t : Nat → Nat) (j : Nat) : padH kv p m t j < 256 := Nat.mod_lt _ (by decide)
theorem info64 : (Tryd.prog.info? 68).map (·.size) = some 64 := by kernel_rfl
/-- A tag: of a key's block and of bytes. -/
def tagH (kv : Nat → Nat) (m : Nat) (t : Nat → Nat) : Nat → Nat := padH kv 92 32 (padH kv 54 m t)
theorem tagH_lt (kv : Nat → Nat) (m : Nat) (t : Nat → Nat) (j : Nat) : tagH kv m t j < 256 := padH_lt _ _ _ _ _
set_option maxRecDepth 20000 in
set_option maxHeartbeats 2000000 in
theorem tag_any (kv : Nat → Nat) (hkv : ∀ j, kv j < 256) (gp cnt cap m : Nat) (t : Nat → Nat) (ht : ∀ j, t j < 256) (hm : m < 2305843009213693000) (w : World) (hT : Tab w cubeK squareK) (hP : Parts w gp cnt m t) (hcnt : cnt < 1000000) :
    Calls Tryd.prog 43 #[.agg (ints .u8 64 kv).toArray, .slice (some ⟨gp, 0, none⟩) cnt cap] w
      fun e w' => ∃ g, e = .returned (.slice (some ⟨g, 0, none⟩) 32 32) ∧ w.heap.size ≤ g ∧ RowAt .u8 w' g 0 32 (tagH kv m t) ∧ Below w.heap.size w w' := by
  have h3 := hT.size
  have hrow0 := row_fresh .u8 w 64 kv 68
  have hbw : Below w.heap.size w (w.alloc (.cells (ints .u8 64 kv).toArray 68)) := (Below.refl _ _).alloc (Nat.le_refl _) _
  obtain ⟨W, hW⟩ : ∃ W, W = w.alloc (.cells (ints .u8 64 kv).toArray 68) := ⟨_, rfl⟩
  have HW : Hid (W = w.alloc (.cells (ints .u8 64 kv).toArray 68)) := hW
  have hWs : w.heap.size < W.heap.size := by rw [hW]; simp
  rw [← hW] at hrow0 hbw
  have hd : Below W.heap.size W W.drew := (Below.refl _ _).drew
  have hbd : Below w.heap.size w W.drew := hbw.trans (hd.mono (by omega))
  have hr : ∀ w' : World, Below W.heap.size W w' → w'.rangeAt w.heap.size 0 (ints .u8 64 kv) := fun w' h => (hrow0.below h hWs).range
  have hi' : (Tryd.prog.info? 68).map (·.size) = some (ints .u8 64 kv).length := by rw [ints_len]; exact info64
  have c1 := hpadded_any kv hkv 54 (by decide) gp cnt cap m t ht hm W.drew (hT.below hbd h3) (hP.below hbd) hcnt
  have c2 : ∀ (W5 : World) (ga : Nat), Below W.heap.size W W5 → RowAt .u8 W5 ga 0 32 (padH kv 54 m t) → Calls Tryd.prog 57 #[.agg (ints .u8 64 kv).toArray, .int .u8 92, .slice (some ⟨W5.heap.size, 0, none⟩) 1 1] (W5.alloc (.cells #[.slice (some ⟨ga, 0, none⟩) 32 32] 22)) fun e w' => ∃ g, e = .returned (.slice (some ⟨g, 0, none⟩) 32 32) ∧ (W5.alloc (.cells #[.slice (some ⟨ga, 0, none⟩) 32 32] 22)).heap.size ≤ g ∧ RowAt .u8 w' g 0 32 (tagH kv m t) ∧ Below (W5.alloc (.cells #[.slice (some ⟨ga, 0, none⟩) 32 32] 22)).heap.size (W5.alloc (.cells #[.slice (some ⟨ga, 0, none⟩) 32 32] 22)) w' := fun W5 ga hb hrow => by
    have hb2 : Below w.heap.size w (W5.alloc (.cells #[.slice (some ⟨ga, 0, none⟩) 32 32] 22)) := (hbw.trans (hb.mono (by omega))).alloc (by have := hb.size; omega) _
    exact hpadded_any kv hkv 92 (by decide) W5.heap.size 1 1 32 _ (padH_lt _ _ _ _) (by decide) _ (hT.below hb2 h3) (parts_one W5 _ 32 _ _ (.inr ⟨ga, 0, 32, rfl, block_lt_of_cell (hrow 0 (by decide)).1, Nat.le_refl _, fun j hj => (hrow j hj).1⟩)) (by decide)
  obtain ⟨X, hX⟩ : ∃ X, X = padH kv 54 m t := ⟨_, rfl⟩
  rw [← hX] at c1 c2
  clear hW hX hT hP
  go_enter Tryd.func43, Tryd.ntmps43
  go_wp2
  rw [← HW.out]
  refine wp_region_held_drew (S := fun w2 => Below W.heap.size W w2) (by kernel_rfl) hd (fun hHeld => ?_)
  refine wpAnyH_take (i := 0) (v := .agg (ints .u8 64 kv).toArray) rfl (by kernel_rfl) (by kernel_rfl) (by kernel_rfl) (fun _ _ _ h => h) (yieldsIf_load_mid (by rfl) 68 _ rfl w.heap.size 0 rfl _ _ hr Tryd.underlying68 rfl hi') hHeld ?_
  refine wpAnyH_take (i := 1) (v := .agg (ints .u8 64 kv).toArray) rfl (by kernel_rfl) (by kernel_rfl) (by kernel_rfl) (fun _ _ _ h => h) (yieldsIf_load_mid (by rfl) 68 _ rfl w.heap.size 0 rfl _ _ hr Tryd.underlying68 rfl hi') hHeld ?_
  refine wpAnyH_take (i := 2) (v := .slice (some ⟨gp, 0, none⟩) cnt cap) rfl (by kernel_rfl) (by kernel_rfl) (by kernel_rfl) (fun _ _ _ h => h) (Or.inl ⟨by rfl, fun w2 _ => by go_simp⟩) hHeld ?_
  refine wpAnyH_ready (rs := [3]) (by kernel_rfl) (by simp) ?_
  refine AllReadyH.cons rfl (fun K hK => ?_) AllReadyH.nil
  go_simp
  go_at_call 57
  refine c1.mono ?_
  rintro e w5 ⟨ga, rfl, hga, hrow, hb5⟩
  have hbn := below_next hd hb5
  go_simp
  refine hK.out _ _ hbn (fun hHeld2 => ?_)
  clear hK K
  refine wpAnyH_ready (rs := [4]) (by kernel_rfl) (by simp) ?_
  refine AllReadyH.cons rfl (fun K hK => ?_) AllReadyH.nil
  go_simp
  refine hK.out _ _ (hbn.alloc hbn.size _) (fun hHeld3 => ?_)
  clear hK K
  refine wpAnyH_ready (rs := [5]) (by kernel_rfl) (by simp) ?_
  refine AllReadyH.cons rfl (fun K hK => ?_) AllReadyH.nil
  go_simp
  go_at_call 57
  refine (c2 w5 ga hbn hrow).mono ?_
  rintro e w6 ⟨gb, rfl, hgb, hrowb, hb6⟩
  have hbm := below_next (hbn.alloc hbn.size _) hb6
  go_simp
  refine hK.out _ _ hbm (fun hHeld4 => ?_)
  clear hK K
  refine wpAnyH_take (i := 6) (v := .slice (some ⟨gb, 0, none⟩) 32 32) rfl (by kernel_rfl) (by kernel_rfl) (by kernel_rfl) (fun _ _ _ h => h) (Or.inl ⟨by rfl, fun w2 _ => by go_simp⟩) hHeld4 ?_
  refine wpAnyH_done (by kernel_rfl) ?_ _
  go_simp
  go_wp2
  go_ret
  have hz := hbn.size
  simp only [World.size_alloc] at hgb
  exact ⟨gb, rfl, by omega, hrowb, hbw.trans (hbm.mono (by omega))⟩
theorem zero64 (w : World) : Sem.run Tryd.prog (zeroValue 68) w = .ok (.agg (zb 64)) w := by kernel_rfl
/-- A key as one block. -/
def keyB (n : Nat) (bs : Nat → Nat) : Nat → Nat := fun j => if n ≤ 64 then (if j < n then bs j else 0) else (if j < 32 then outB 32 (specS rn cubeK squareK n bs) j else 0)
theorem keyB_lt {n : Nat} {bs : Nat → Nat} (h : ∀ j, bs j < 256) : ∀ j, keyB n bs j < 256 := fun j => by
  unfold keyB
  split
  · split
    · exact h j
    · decide
  · split
    · exact Nat.mod_lt _ (by decide)
    · decide
/-- Bytes laid over a new block of 64 zeros. -/
theorem lay64 (W0 : World) (n : Nat) (bs : Nat → Nat) (hn : n ≤ 64) :
    RowAt .u8 ((W0.alloc (.cells (zb 64) 68)).setCells W0.heap.size 0 (ints .u8 n bs)) W0.heap.size 0 64 (fun j => if j < n then bs j else 0) := by
  have h0 : RowAt .u8 (W0.alloc (.cells (zb 64) 68)) W0.heap.size 0 64 (fun _ => 0) := RowAt.fresh (fun j hj => zb_at 64 j hj)
  have h1 := h0.splice 0 n bs (by omega)
  rw [Nat.add_zero] at h1
  refine h1.congr (fun j hj => ?_)
  unfold over
  by_cases e : j < n
  · rw [if_pos ⟨Nat.zero_le _, by omega⟩, if_pos e, Nat.sub_zero]
  · rw [if_neg (by omega), if_neg e]
theorem there64 (W0 : World) : (W0.alloc (.cells (zb 64) 68)).there W0.heap.size 0 64 := fun j hj => by
  have h0 : RowAt .u8 (W0.alloc (.cells (zb 64) 68)) W0.heap.size 0 64 (fun _ => 0) := RowAt.fresh (fun j hj => zb_at 64 j hj)
  exact ⟨by rw [(h0 j hj).1]; rfl, (h0 j hj).2⟩
end Go.Proofs.YtlfofbkanifocaaDoor
