/- What padded of the reference does in the model, at both widths: the text and its padding. -/
import Derived.Test.YtlfofbkanifocaaDoorApp
import Derived.Test.YtlfofbkanifocaaDoorTop
namespace Go.Proofs.YtlfofbkanifocaaDoor
open Go.RowKit
theorem padG_at (N c : Nat) : ∀ i j, i ≤ 8 → 9 ≤ N → j < N → padG N c i j = if N - i ≤ j then c * 8 / 2 ^ (8 * (N - 1 - j)) % 256 else if j = 0 then 128 else 0
  | 0, j, _, _, hj => by
    rw [if_neg (by omega)]
    unfold padG upd
    rfl
  | i + 1, j, hi, hN, hj => by
    unfold padG upd
    by_cases e : j = N - 1 - i
    · rw [if_pos e, if_pos (by omega), show N - 1 - j = i by omega]
    · rw [if_neg e, padG_at N c i j (by omega) hN hj]
      by_cases e2 : N - i ≤ j
      · rw [if_pos e2, if_pos (by omega)]
      · rw [if_neg e2, if_neg (show ¬(N - (i + 1) ≤ j) by omega)]
theorem BytesIn.src {w : World} {v : Value} {n : Nat} {bs : Nat → Nat} (h : BytesIn w v n bs) : ∃ xo c, v = .slice xo n c ∧ (xo = none → c = 0) ∧ n ≤ c ∧ ∀ w', Below w.heap.size w w' → Src w' xo n bs := by
  rcases h with ⟨xo, rfl, rfl⟩ | ⟨bb, ob, cap, rfl, h1, h2, h3⟩
  · exact ⟨xo, 0, rfl, fun _ => rfl, Nat.le_refl _, fun _ _ => .inl rfl⟩
  · exact ⟨_, cap, rfl, (fun h => by cases h), h2, fun w' hb => .inr ⟨bb, ob, rfl, fun j hj => (hb.cell (p := ⟨bb, ob + j, none⟩) h1).trans (h3 j hj)⟩⟩
theorem BytesIn.keep {w w' : World} {v : Value} {n : Nat} {bs : Nat → Nat} (h : BytesIn w v n bs) (hb : Below w.heap.size w w') : BytesIn w' v n bs := by
  rcases h with h | ⟨bb, ob, cap, rfl, h1, h2, h3⟩
  · exact .inl h
  · exact .inr ⟨bb, ob, cap, rfl, Nat.lt_of_lt_of_le h1 hb.size, h2, fun j hj => (hb.cell (p := ⟨bb, ob + j, none⟩) h1).trans (h3 j hj)⟩
theorem padN32_ge (c : Nat) : 9 ≤ padN rn c := by
  show 9 ≤ 1 + (4 * 32 - 1 - 32 / 4 - c % (2 * 32)) % (2 * 32) + 32 / 4
  omega
theorem padF32_first (c : Nat) : padF rn c 0 = 128 := by
  have h := padN32_ge c
  unfold padF
  rw [padG_at _ c 8 0 (Nat.le_refl _) (by omega) (by omega), if_neg (by omega), if_pos rfl]
theorem padF32_mid (c t : Nat) (h0 : 0 < t) (ht : t + 8 < padN rn c) : padF rn c t = 0 := by
  unfold padF
  rw [padG_at _ c 8 t (Nat.le_refl _) (by omega) (by omega), if_neg (by omega), if_neg (by omega)]
theorem padF32_last (c i t : Nat) (hi : i < 8) (ht : t + 1 + i = padN rn c) : padF rn c t = c * 8 / 2 ^ (8 * i) % 256 := by
  have h := padN32_ge c
  unfold padF
  rw [padG_at _ c 8 t (Nat.le_refl _) (by omega) (by omega), if_pos (by omega), show padN rn c - 1 - t = i by omega]
set_option maxRecDepth 20000 in
set_option maxHeartbeats 2000000 in
theorem padded32_any (g0 g1 g2 g3 : Nat) (v : Value) (n : Nat) (bs : Nat → Nat) (w : World) (hv : BytesIn w v n bs) (hn : n < 140737488355000) :
    Calls Tryd.prog 53 #[(.agg #[.int .i64 32, .int .i64 64, .int .i64 64, .slice (some ⟨g0, 0, none⟩) 3 3, .slice (some ⟨g1, 0, none⟩) 3 3, .slice (some ⟨g2, 0, none⟩) 3 3, .slice (some ⟨g3, 0, none⟩) 3 3]), v] w fun e w' => ∃ v', e = .returned v' ∧ Own w.heap.size w' v' (n + padN rn n) (cat n bs (padF rn n)) ∧ Below w.heap.size w w' := by
  obtain ⟨xo, cx, rfl, hxn, -, hsrc⟩ := hv.src
  clear hv
  obtain ⟨F, hF⟩ : ∃ F, F = cat n bs (padF rn n) := ⟨_, rfl⟩
  have HF : Hid (F = cat n bs (padF rn n)) := hF
  obtain ⟨Z, hZ⟩ : ∃ Z, Z = (4 * 32 - 1 - 8 - n % 64) % 64 := ⟨_, rfl⟩
  have hN : padN rn n = 1 + Z + 8 := by rw [hZ]; rfl
  have F0 : ∀ j, j < n → F j = bs j := fun j hj => by rw [hF, cat_left hj]
  have F1 : F n = 128 := by rw [hF]; unfold cat; rw [if_neg (by omega), Nat.sub_self]; exact padF32_first n
  have F2 : ∀ k, k < Z → F (n + 1 + k) = 0 := fun k hk => by rw [hF, Nat.add_assoc, cat_right]; exact padF32_mid n _ (by omega) (by omega)
  have F3 : ∀ k, k + 8 < 8 → F (n + 1 + Z + k) = 0 := fun k hk => by rw [hF, Nat.add_assoc, Nat.add_assoc, cat_right]; exact padF32_mid n _ (by omega) (by omega)
  have F4 : ∀ k i, i < 8 → k + 1 + i = 8 → F (n + 1 + Z + k) = n * 8 / 2 ^ (8 * i) % 256 := fun k i hi hk => by rw [hF, Nat.add_assoc, Nat.add_assoc, cat_right]; exact padF32_last n i _ hi (by omega)
  rw [hN, ← hF]
  have hbZ : Below w.heap.size w (w.alloc (.cells #[.int .i64 32, .int .i64 64, .int .i64 64, .slice (some ⟨g0, 0, none⟩) 3 3, .slice (some ⟨g1, 0, none⟩) 3 3, .slice (some ⟨g2, 0, none⟩) 3 3, .slice (some ⟨g3, 0, none⟩) 3 3] 64)) := (Below.refl _ _).alloc (Nat.le_refl _) _
  have hzb := zbox32 w g0 g1 g2 g3
  obtain ⟨W, hW⟩ : ∃ W, W = w.alloc (.cells #[.int .i64 32, .int .i64 64, .int .i64 64, .slice (some ⟨g0, 0, none⟩) 3 3, .slice (some ⟨g1, 0, none⟩) 3 3, .slice (some ⟨g2, 0, none⟩) 3 3, .slice (some ⟨g3, 0, none⟩) 3 3] 64) := ⟨_, rfl⟩
  have HW : Hid (W = w.alloc (.cells #[.int .i64 32, .int .i64 64, .int .i64 64, .slice (some ⟨g0, 0, none⟩) 3 3, .slice (some ⟨g1, 0, none⟩) 3 3, .slice (some ⟨g2, 0, none⟩) 3 3, .slice (some ⟨g3, 0, none⟩) 3 3] 64)) := hW
  have hWs : W.heap.size = w.heap.size + 1 := by rw [hW]; simp
  rw [← hW] at hbZ hzb
  have hW0 : w.heap.size + 1 ≤ W.heap.size := by omega
  have src0 : Src (W.alloc (.cells #[] 5)) xo n F := by
    rcases hsrc _ (hbZ.alloc (by omega) (.cells #[] 5)) with h | ⟨bb, ob, h1, h2⟩
    · exact .inl h
    · exact .inr ⟨bb, ob, h1, fun j hj => by rw [F0 j hj]; exact h2 j hj⟩
  clear hF hW hsrc F0
  go_enter Tryd.func53, Tryd.ntmps53
  go_wp2_with (first
    | (at_builtin; rw [← HW.out]; go_loud (refine wpList_append_empty rfl (.tmp 8) (.tmp 9) rfl (w.heap.size + 1) F (w.heap.size + 1) hWs rfl xo n cx rfl src0 hxn (by omega) hW0 ?_); intro v1 w1 own1 hb1; have hs1 := hb1.size; clear src0)
    | (at_builtin; refine wpList_append_next rfl (.tmp 10) (.tmp 11) rfl (w.heap.size + 1) v1 n F _ rfl own1 rfl (by rw [F1]; rfl) (by omega) (by omega) ?_; intro v2 w2 own2 hb2; replace hb2 := hb1.trans hb2; clear own1 hb1 hs1))
  have hzw : ∀ wr, Below (w.heap.size + 1) W wr → wr.cell? ⟨w.heap.size, 1, none⟩ = some (.int .i64 64) := fun wr h => (h.cell (p := ⟨w.heap.size, 1, none⟩) (Nat.lt_succ_self _)).trans hzb.2.1
  go_loopw [5] (fun v wr => ∃ k : Nat, k ≤ Z ∧ Own (w.heap.size + 1) wr v (n + 1 + k) F ∧ Below (w.heap.size + 1) W wr) (fun v _ => n + 1 + Z - lenV v)
  case atStart => exact ⟨0, Nat.zero_le _, own2, hb2⟩
  case round =>
    clear own2 hb2
    obtain ⟨k, hk, own, hb⟩ := hrel
    obtain ⟨L, hL⟩ : ∃ L, L = n + 1 + k := ⟨_, rfl⟩
    have HL : Hid (L = n + 1 + k) := hL
    rw [← hL] at own
    rcases own.form with ⟨-, h0⟩ | ⟨g, cap, rfl, -, -, -, -⟩
    · omega
    have hs := hb.size
    have hz1 := hzw _ hb
    have hLb : L < 140737488355300 := by omega
    by_cases hlt : k < Z
    · have hc : ((L : Int) + 8) % 64 ≠ 0 := by omega
      have hFL : Hid ((0 : Int) = (F L : Int)) := (by rw [hL, F2 k hlt]; rfl : (0 : Int) = (F L : Int))
      clear hL hZ hN
      go_wp2_with (at_builtin; go_loud (refine wpList_append_next rfl (.tmp 23) (.tmp 24) rfl (w.heap.size + 1) _ L F _ rfl own rfl hFL.out (by omega) (by omega) ?_); intro v3 w3 own3 hb3)
      rcases own3.form with ⟨-, h0⟩ | ⟨g3, cap3, rfl, -, -, -, -⟩
      · omega
      go_roundw
      case rel => exact ⟨k + 1, by omega, own3.start (by have := HL.out; omega), hb.trans hb3⟩
      case measure => have := HL.out; simp [lenV]; omega
    · have hc : ((L : Int) + 8) % 64 = 0 := by omega
      have hkZ : k = Z := by omega
      rw [hkZ] at hL
      have HLZ : Hid (L = n + 1 + Z) := hL
      clear hL hkZ hZ
      go_wp2
      clear hz1 hc
      go_loopw [5, 7] (fun v i wq => ∃ k : Nat, k ≤ 8 ∧ i = .int .i64 (8 - 1 - (k : Int)) ∧ Own (w.heap.size + 1) wq v (L + k) F ∧ Below (w.heap.size + 1) W wq) (fun v _ _ => L + 8 - lenV v)
      case atStart => exact ⟨0, Nat.zero_le _, by go_num, own, hb⟩
      case round =>
        clear own hb hs hlt hk
        obtain ⟨q, hq, rfl, own, hb⟩ := hrel
        have hs := hb.size
        rcases own.form with ⟨-, h0⟩ | ⟨g, cap, rfl, -, -, -, -⟩
        · have := HLZ.out; omega
        by_cases hlt : q < 8
        · obtain ⟨i, hi⟩ : ∃ i : Nat, i = 8 - 1 - q := ⟨_, rfl⟩
          have hii : (8 - 1 - (q : Int)) = (i : Int) := by omega
          have hi8 : i < 8 := by omega
          rw [hii]
          have hF8 : 8 ≤ i → (0 : Int) = (F (L + q) : Int) := fun h => by rw [HLZ.out, F3 q (by omega)]; rfl
          have hF7 : i < 8 → (((n * 8 / 2 ^ (8 * i) % 256 : Nat)) : Int) = (F (L + q) : Int) := fun h => by rw [HLZ.out, F4 q i h (by omega)]
          have HI : Hid (i = 8 - 1 - q) := hi
          clear hi hii
          by_cases h8 : 8 ≤ i
          · omega
          · have hF : Hid ((((n * 8 / 2 ^ (8 * i) % 256 : Nat)) : Int) = (F (L + q) : Int)) := hF7 (by omega)
            clear hF7 hF8
            go_wp2_with (at_builtin; go_loud (refine wpList_append_next rfl (.tmp 43) (.tmp 50) rfl (w.heap.size + 1) _ (L + q) F _ rfl own rfl (by rw [← hF.out]; simp) (by omega) (by omega) ?_); intro v3 w3 own3 hb3)
            rcases own3.form with ⟨-, h0⟩ | ⟨g3, cap3, rfl, -, -, -, -⟩
            · omega
            go_roundw
            case rel => exact ⟨q + 1, by omega, by have := HI.out; go_num, own3.start (by omega), hb.trans hb3⟩
            case measure => simp [lenV]; omega
        · have hqe : q = 8 := by omega
          go_wp2
          go_ret
          refine ⟨_, rfl, ?_, ?_⟩
          · exact own_base (own.start (by have := HLZ.out; omega)) (by omega)
          · exact hbZ.trans (hb.mono (by omega))
theorem padN64_ge (c : Nat) : 9 ≤ padN rw6 c := by
  show 9 ≤ 1 + (4 * 64 - 1 - 64 / 4 - c % (2 * 64)) % (2 * 64) + 64 / 4
  omega
theorem padF64_first (c : Nat) : padF rw6 c 0 = 128 := by
  have h := padN64_ge c
  unfold padF
  rw [padG_at _ c 8 0 (Nat.le_refl _) (by omega) (by omega), if_neg (by omega), if_pos rfl]
theorem padF64_mid (c t : Nat) (h0 : 0 < t) (ht : t + 8 < padN rw6 c) : padF rw6 c t = 0 := by
  unfold padF
  rw [padG_at _ c 8 t (Nat.le_refl _) (by omega) (by omega), if_neg (by omega), if_neg (by omega)]
theorem padF64_last (c i t : Nat) (hi : i < 8) (ht : t + 1 + i = padN rw6 c) : padF rw6 c t = c * 8 / 2 ^ (8 * i) % 256 := by
  have h := padN64_ge c
  unfold padF
  rw [padG_at _ c 8 t (Nat.le_refl _) (by omega) (by omega), if_pos (by omega), show padN rw6 c - 1 - t = i by omega]
set_option maxRecDepth 20000 in
set_option maxHeartbeats 2000000 in
theorem padded64_any (g0 g1 g2 g3 : Nat) (v : Value) (n : Nat) (bs : Nat → Nat) (w : World) (hv : BytesIn w v n bs) (hn : n < 140737488355000) :
    Calls Tryd.prog 53 #[(.agg #[.int .i64 64, .int .i64 128, .int .i64 80, .slice (some ⟨g0, 0, none⟩) 3 3, .slice (some ⟨g1, 0, none⟩) 3 3, .slice (some ⟨g2, 0, none⟩) 3 3, .slice (some ⟨g3, 0, none⟩) 3 3]), v] w fun e w' => ∃ v', e = .returned v' ∧ Own w.heap.size w' v' (n + padN rw6 n) (cat n bs (padF rw6 n)) ∧ Below w.heap.size w w' := by
  obtain ⟨xo, cx, rfl, hxn, -, hsrc⟩ := hv.src
  clear hv
  obtain ⟨F, hF⟩ : ∃ F, F = cat n bs (padF rw6 n) := ⟨_, rfl⟩
  have HF : Hid (F = cat n bs (padF rw6 n)) := hF
  obtain ⟨Z, hZ⟩ : ∃ Z, Z = (4 * 64 - 1 - 16 - n % 128) % 128 := ⟨_, rfl⟩
  have hN : padN rw6 n = 1 + Z + 16 := by rw [hZ]; rfl
  have F0 : ∀ j, j < n → F j = bs j := fun j hj => by rw [hF, cat_left hj]
  have F1 : F n = 128 := by rw [hF]; unfold cat; rw [if_neg (by omega), Nat.sub_self]; exact padF64_first n
  have F2 : ∀ k, k < Z → F (n + 1 + k) = 0 := fun k hk => by rw [hF, Nat.add_assoc, cat_right]; exact padF64_mid n _ (by omega) (by omega)
  have F3 : ∀ k, k + 8 < 16 → F (n + 1 + Z + k) = 0 := fun k hk => by rw [hF, Nat.add_assoc, Nat.add_assoc, cat_right]; exact padF64_mid n _ (by omega) (by omega)
  have F4 : ∀ k i, i < 8 → k + 1 + i = 16 → F (n + 1 + Z + k) = n * 8 / 2 ^ (8 * i) % 256 := fun k i hi hk => by rw [hF, Nat.add_assoc, Nat.add_assoc, cat_right]; exact padF64_last n i _ hi (by omega)
  rw [hN, ← hF]
  have hbZ : Below w.heap.size w (w.alloc (.cells #[.int .i64 64, .int .i64 128, .int .i64 80, .slice (some ⟨g0, 0, none⟩) 3 3, .slice (some ⟨g1, 0, none⟩) 3 3, .slice (some ⟨g2, 0, none⟩) 3 3, .slice (some ⟨g3, 0, none⟩) 3 3] 64)) := (Below.refl _ _).alloc (Nat.le_refl _) _
  have hzb := zbox64 w g0 g1 g2 g3
  obtain ⟨W, hW⟩ : ∃ W, W = w.alloc (.cells #[.int .i64 64, .int .i64 128, .int .i64 80, .slice (some ⟨g0, 0, none⟩) 3 3, .slice (some ⟨g1, 0, none⟩) 3 3, .slice (some ⟨g2, 0, none⟩) 3 3, .slice (some ⟨g3, 0, none⟩) 3 3] 64) := ⟨_, rfl⟩
  have HW : Hid (W = w.alloc (.cells #[.int .i64 64, .int .i64 128, .int .i64 80, .slice (some ⟨g0, 0, none⟩) 3 3, .slice (some ⟨g1, 0, none⟩) 3 3, .slice (some ⟨g2, 0, none⟩) 3 3, .slice (some ⟨g3, 0, none⟩) 3 3] 64)) := hW
  have hWs : W.heap.size = w.heap.size + 1 := by rw [hW]; simp
  rw [← hW] at hbZ hzb
  have hW0 : w.heap.size + 1 ≤ W.heap.size := by omega
  have src0 : Src (W.alloc (.cells #[] 5)) xo n F := by
    rcases hsrc _ (hbZ.alloc (by omega) (.cells #[] 5)) with h | ⟨bb, ob, h1, h2⟩
    · exact .inl h
    · exact .inr ⟨bb, ob, h1, fun j hj => by rw [F0 j hj]; exact h2 j hj⟩
  clear hF hW hsrc F0
  go_enter Tryd.func53, Tryd.ntmps53
  go_wp2_with (first
    | (at_builtin; rw [← HW.out]; go_loud (refine wpList_append_empty rfl (.tmp 8) (.tmp 9) rfl (w.heap.size + 1) F (w.heap.size + 1) hWs rfl xo n cx rfl src0 hxn (by omega) hW0 ?_); intro v1 w1 own1 hb1; have hs1 := hb1.size; clear src0)
    | (at_builtin; refine wpList_append_next rfl (.tmp 10) (.tmp 11) rfl (w.heap.size + 1) v1 n F _ rfl own1 rfl (by rw [F1]; rfl) (by omega) (by omega) ?_; intro v2 w2 own2 hb2; replace hb2 := hb1.trans hb2; clear own1 hb1 hs1))
  have hzw : ∀ wr, Below (w.heap.size + 1) W wr → wr.cell? ⟨w.heap.size, 1, none⟩ = some (.int .i64 128) := fun wr h => (h.cell (p := ⟨w.heap.size, 1, none⟩) (Nat.lt_succ_self _)).trans hzb.2.1
  go_loopw [5] (fun v wr => ∃ k : Nat, k ≤ Z ∧ Own (w.heap.size + 1) wr v (n + 1 + k) F ∧ Below (w.heap.size + 1) W wr) (fun v _ => n + 1 + Z - lenV v)
  case atStart => exact ⟨0, Nat.zero_le _, own2, hb2⟩
  case round =>
    clear own2 hb2
    obtain ⟨k, hk, own, hb⟩ := hrel
    obtain ⟨L, hL⟩ : ∃ L, L = n + 1 + k := ⟨_, rfl⟩
    have HL : Hid (L = n + 1 + k) := hL
    rw [← hL] at own
    rcases own.form with ⟨-, h0⟩ | ⟨g, cap, rfl, -, -, -, -⟩
    · omega
    have hs := hb.size
    have hz1 := hzw _ hb
    have hLb : L < 140737488355300 := by omega
    by_cases hlt : k < Z
    · have hc : ((L : Int) + 16) % 128 ≠ 0 := by omega
      have hFL : Hid ((0 : Int) = (F L : Int)) := (by rw [hL, F2 k hlt]; rfl : (0 : Int) = (F L : Int))
      clear hL hZ hN
      go_wp2_with (at_builtin; go_loud (refine wpList_append_next rfl (.tmp 23) (.tmp 24) rfl (w.heap.size + 1) _ L F _ rfl own rfl hFL.out (by omega) (by omega) ?_); intro v3 w3 own3 hb3)
      rcases own3.form with ⟨-, h0⟩ | ⟨g3, cap3, rfl, -, -, -, -⟩
      · omega
      go_roundw
      case rel => exact ⟨k + 1, by omega, own3.start (by have := HL.out; omega), hb.trans hb3⟩
      case measure => have := HL.out; simp [lenV]; omega
    · have hc : ((L : Int) + 16) % 128 = 0 := by omega
      have hkZ : k = Z := by omega
      rw [hkZ] at hL
      have HLZ : Hid (L = n + 1 + Z) := hL
      clear hL hkZ hZ
      go_wp2
      clear hz1 hc
      go_loopw [5, 7] (fun v i wq => ∃ k : Nat, k ≤ 16 ∧ i = .int .i64 (16 - 1 - (k : Int)) ∧ Own (w.heap.size + 1) wq v (L + k) F ∧ Below (w.heap.size + 1) W wq) (fun v _ _ => L + 16 - lenV v)
      case atStart => exact ⟨0, Nat.zero_le _, by go_num, own, hb⟩
      case round =>
        clear own hb hs hlt hk
        obtain ⟨q, hq, rfl, own, hb⟩ := hrel
        have hs := hb.size
        rcases own.form with ⟨-, h0⟩ | ⟨g, cap, rfl, -, -, -, -⟩
        · have := HLZ.out; omega
        by_cases hlt : q < 16
        · obtain ⟨i, hi⟩ : ∃ i : Nat, i = 16 - 1 - q := ⟨_, rfl⟩
          have hii : (16 - 1 - (q : Int)) = (i : Int) := by omega
          have hi8 : i < 16 := by omega
          rw [hii]
          have hF8 : 8 ≤ i → (0 : Int) = (F (L + q) : Int) := fun h => by rw [HLZ.out, F3 q (by omega)]; rfl
          have hF7 : i < 8 → (((n * 8 / 2 ^ (8 * i) % 256 : Nat)) : Int) = (F (L + q) : Int) := fun h => by rw [HLZ.out, F4 q i h (by omega)]
          have HI : Hid (i = 16 - 1 - q) := hi
          clear hi hii
          by_cases h8 : 8 ≤ i
          · have hF : Hid ((0 : Int) = (F (L + q) : Int)) := hF8 h8
            clear hF7 hF8
            go_wp2_with (at_builtin; refine wpList_append_next rfl (.tmp 40) (.tmp 41) rfl (w.heap.size + 1) _ (L + q) F _ rfl own rfl hF.out (by omega) (by omega) ?_; intro v3 w3 own3 hb3)
            rcases own3.form with ⟨-, h0⟩ | ⟨g3, cap3, rfl, -, -, -, -⟩
            · omega
            go_roundw
            case rel => exact ⟨q + 1, by omega, by have := HI.out; go_num, own3.start (by omega), hb.trans hb3⟩
            case measure => simp [lenV]; omega
          · have hF : Hid ((((n * 8 / 2 ^ (8 * i) % 256 : Nat)) : Int) = (F (L + q) : Int)) := hF7 (by omega)
            clear hF7 hF8
            go_wp2_with (at_builtin; go_loud (refine wpList_append_next rfl (.tmp 43) (.tmp 50) rfl (w.heap.size + 1) _ (L + q) F _ rfl own rfl (by rw [← hF.out]; simp) (by omega) (by omega) ?_); intro v3 w3 own3 hb3)
            rcases own3.form with ⟨-, h0⟩ | ⟨g3, cap3, rfl, -, -, -, -⟩
            · omega
            go_roundw
            case rel => exact ⟨q + 1, by omega, by have := HI.out; go_num, own3.start (by omega), hb.trans hb3⟩
            case measure => simp [lenV]; omega
        · have hqe : q = 16 := by omega
          go_wp2
          go_ret
          refine ⟨_, rfl, ?_, ?_⟩
          · exact own_base (own.start (by have := HLZ.out; omega)) (by omega)
          · exact hbZ.trans (hb.mono (by omega))
end Go.Proofs.YtlfofbkanifocaaDoor
