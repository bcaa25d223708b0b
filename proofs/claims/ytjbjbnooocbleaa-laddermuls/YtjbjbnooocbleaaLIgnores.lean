/- The law LadderIgnores. -/
import Derived.Test.YtjbjbnooocbleaaLClamps
namespace Go.Proofs.Ytjbjbnooocbleaa
open Go.RowKit
theorem bitN_congr {a b : Nat → Nat} (h : ∀ j, j < 32 → a j = b j) {i : Nat} (hi : i ≤ 254) : bitN a i = bitN b i := by
  unfold bitN; rw [h (i / 8) (by omega)]
theorem climbL_congr {a b : Nat → Nat} (h : ∀ j, j < 32 → a j = b j) (u : Nat) : ∀ j, climbL u a j = climbL u b j
  | 0 => rfl
  | j + 1 => by unfold climbL; rw [climbL_congr h u j, bitN_congr h (by omega)]
theorem mulL_congr {a b : Nat → Nat} (h : ∀ j, j < 32 → a j = b j) (u : Nat) : mulL a u = mulL b u := by
  unfold mulL; rw [climbL_congr h u 255]
theorem xor_low : ∀ l : Nat, l < 8 → ∀ b : Nat, b < 256 → (b ^^^ l) / 8 * 8 = b / 8 * 8 := by decide +kernel
theorem xor_lowl : ∀ l : Nat, l < 8 → ∀ b : Nat, b < 256 → b ^^^ l < 256 := by decide +kernel
theorem xor_high : ∀ l : Nat, l < 4 → ∀ b : Nat, b < 256 → (b ^^^ (64 * l)) % 64 + 64 = b % 64 + 64 := by decide +kernel
theorem xor_highl : ∀ l : Nat, l < 4 → ∀ b : Nat, b < 256 → b ^^^ (64 * l) < 256 := by decide +kernel
theorem xor_128 : ∀ b : Nat, b < 256 → (b ^^^ 128) % 128 = b % 128 ∧ b ^^^ 128 < 256 := by decide +kernel
theorem and_7 : ∀ b : Nat, b < 256 → b &&& 7 < 8 := by decide +kernel
theorem and_192 : ∀ b : Nat, b < 256 → b &&& 192 = 64 * (b / 64) := by decide +kernel
theorem loB_byt {N : Nat} (h : N < pF) : ofB (loB (byt N)) 32 % pF = N := by
  have e : ∀ j, j < 32 → loB (byt N) j = byt N j := fun j _ => by
    unfold loB
    by_cases h31 : j = 31
    · rw [if_pos h31, h31]
      refine Nat.mod_eq_of_lt ?_
      unfold byt
      have : N / 256 ^ 31 < 128 := Nat.div_lt_of_lt_mul (Nat.lt_of_lt_of_le h (by decide))
      exact Nat.lt_of_le_of_lt (Nat.mod_le _ _) this
    · rw [if_neg h31]
  rw [ofB_congr 32 e, ofB_byt32 N (Nat.lt_trans h (by decide)), Nat.mod_eq_of_lt h]
theorem loB_idem {a b : Nat → Nat} (h : ∀ j, j < 32 → loB a j = loB b j) : ofB (loB a) 32 % pF = ofB (loB b) 32 % pF := by rw [ofB_congr 32 h]
theorem NewB.src {w w' : World} {g : Nat} {X : Nat → Nat} (hr : RowAt .u8 w' g 0 32 X) (_h : w = w) : BytesIn w' (.slice (some ⟨g, 0, none⟩) 32 32) 32 X := .inr ⟨g, 0, 32, rfl, block_lt_of_cell (hr 0 (by decide)).1, Nat.le_refl _, fun j hj => (hr j hj).1⟩
/-- One place of a new row changed. -/
theorem set_one {w w1 : World} {g b : Nat} {X : Nat → Nat} (hr : RowAt .u8 w1 g 0 32 X) (hb : Below b w w1) (hg : b ≤ g) (i c : Nat) (hi : i < 32) : ∃ V, V = w1.setCell ⟨g, i, none⟩ (.int .u8 (c : Int)) ∧ RowAt .u8 V g 0 32 (upd X i c) ∧ Below b w V := by
  have r := hr.set (i := i) hi (v := (c : Int)) rfl
  rw [Nat.zero_add] at r
  exact ⟨_, rfl, r, below_setCells hg [_] i _ hb⟩
theorem cap_src {w : World} {g cap : Nat} {X : Nat → Nat} (hr : RowAt .u8 w g 0 32 X) (hc : 32 ≤ cap) : BytesIn w (.slice (some ⟨g, 0, none⟩) 32 cap) 32 X := .inr ⟨g, 0, cap, rfl, block_lt_of_cell (hr 0 (by decide)).1, hc, fun j hj => (hr j hj).1⟩
theorem src_of {w : World} {g : Nat} {X : Nat → Nat} (hr : RowAt .u8 w g 0 32 X) : Src (w.alloc (.cells #[] 5)) (some ⟨g, 0, none⟩) 32 X :=
  .inr ⟨g, 0, rfl, fun j hj => (((Below.refl w.heap.size w).alloc (Nat.le_refl _) (.cells #[] 5)).cell (p := ⟨g, 0 + j, none⟩) (block_lt_of_cell (hr j hj).1)).trans (hr j hj).1⟩
theorem put1 (c : Nat) : ∀ (w w1 : World) (g : Nat) (X : Nat → Nat), RowAt .u8 w1 g 0 32 X → Below w.heap.size w w1 → w.heap.size ≤ g → ∃ V, V = w1.setCell ⟨g, 31, none⟩ (.int .u8 (c : Int)) ∧ RowAt .u8 V g 0 32 (upd X 31 c) ∧ Below w.heap.size w V := fun w w1 g X hr hb hg => set_one hr hb hg 31 c (by decide)
theorem put2 (c d : Nat) : ∀ (w w1 : World) (g : Nat) (X : Nat → Nat), RowAt .u8 w1 g 0 32 X → Below w.heap.size w w1 → w.heap.size ≤ g → ∃ V, V = (w1.setCell ⟨g, 0, none⟩ (.int .u8 (c : Int))).setCell ⟨g, 31, none⟩ (.int .u8 (d : Int)) ∧ RowAt .u8 V g 0 32 (upd (upd X 0 c) 31 d) ∧ Below w.heap.size w V := fun w w1 g X hr hb hg => by
  obtain ⟨V, rfl, h1, h2⟩ := set_one hr hb hg 0 c (by decide)
  exact set_one h1 h2 hg 31 d (by decide)
set_option maxRecDepth 20000 in
set_option maxHeartbeats 8000000 in
theorem ladderIgnores_any (v u : Value) (n m : Nat) (bs cs : Nat → Nat) (hbs : ∀ j, bs j < 256) (hcs : ∀ j, cs j < 256) (z2 z3 : Int) (hz2 : (Lit.int .u8 z2).wf = true) (hz3 : (Lit.int .u8 z3).wf = true) (w : World) (hv : BytesIn w v n bs) (hu : BytesIn w u m cs) : Calls Try.prog 6 #[v, u, .int .u8 z2, .int .u8 z3] w fun e w' => e = .returned (.bool true) ∧ Below w.heap.size w w' := by
  obtain ⟨l2, rfl, hl2⟩ : ∃ l : Nat, z2 = (l : Int) ∧ l < 256 := ⟨z2.toNat, by simp [Lit.wf, IntKind.min, IntKind.max, IntKind.signed, IntKind.bits] at hz2; omega, by simp [Lit.wf, IntKind.min, IntKind.max, IntKind.signed, IntKind.bits] at hz2; omega⟩
  obtain ⟨l3, rfl, hl3⟩ : ∃ l : Nat, z3 = (l : Int) ∧ l < 256 := ⟨z3.toNat, by simp [Lit.wf, IntKind.min, IntKind.max, IntKind.signed, IntKind.bits] at hz3; omega, by simp [Lit.wf, IntKind.min, IntKind.max, IntKind.signed, IntKind.bits] at hz3; omega⟩
  clear hz2 hz3
  have hF1 := fit_any v n bs w hv
  have hF2 := fun W hb => fit_any u m cs W (hu.still hb)
  have hK := fun W => knows_any W
  have hkl := fitB_lt (n := n) hbs
  have hul := fitB_lt (n := m) hcs
  generalize fitB n bs = kk at *
  generalize fitB m cs = uu at *
  obtain ⟨N, hN⟩ : ∃ N, N = ofB (loB uu) 32 % pF := ⟨_, rfl⟩
  have hNl : N < pF := by rw [hN]; exact Nat.mod_lt _ (by decide)
  obtain ⟨M, hM⟩ : ∃ M, M = mulL (clB kk) N := ⟨_, rfl⟩
  -- the changed key
  have ha7 := and_7 l2 hl2
  have e7 : bits .and .u8 (l2 : Int) 7 = ((l2 &&& 7 : Nat) : Int) := u8_and_nat l2 7 hl2 (by decide)
  have e192 : bits .and .u8 (l3 : Int) 192 = ((l3 &&& 192 : Nat) : Int) := u8_and_nat l3 192 hl3 (by decide)
  have h192 := and_192 l3 hl3
  obtain ⟨x0, hx0⟩ : ∃ x, x = kk 0 ^^^ (l2 &&& 7) := ⟨_, rfl⟩
  obtain ⟨x1, hx1⟩ : ∃ x, x = kk 31 ^^^ (l3 &&& 192) := ⟨_, rfl⟩
  have ex0 : bits .xor .u8 (kk 0 : Int) ((l2 &&& 7 : Nat) : Int) = (x0 : Int) := by rw [hx0]; exact u8_xor_nat _ _ (hkl 0) (by omega)
  have ex1 : bits .xor .u8 (kk 31 : Int) ((l3 &&& 192 : Nat) : Int) = (x1 : Int) := by rw [hx1]; exact u8_xor_nat _ _ (hkl 31) (by rw [h192]; omega)
  have hx0l : x0 < 256 ∧ x0 / 8 * 8 = kk 0 / 8 * 8 := by rw [hx0]; exact ⟨xor_lowl _ ha7 _ (hkl 0), xor_low _ ha7 _ (hkl 0)⟩
  have hx1l : x1 < 256 ∧ x1 % 64 + 64 = kk 31 % 64 + 64 := by rw [hx1, h192]; exact ⟨xor_highl _ (by omega) _ (hkl 31), xor_high _ (by omega) _ (hkl 31)⟩
  have hcl : ∀ j, j < 32 → clB (upd (upd kk 0 x0) 31 x1) j = clB kk j := fun j hj => by
    unfold clB upd
    by_cases h0 : j = 0
    · simp [h0, hx0l.2]
    · by_cases h31 : j = 31
      · simp [h31, hx1l.2]
      · simp [h0, h31]
  have hkl2 : ∀ j, upd (upd kk 0 x0) 31 x1 j < 256 := fun j => by
    unfold upd
    split
    · exact hx1l.1
    · split
      · exact hx0l.1
      · exact hkl j
  -- the changed point
  obtain ⟨y1, hy1⟩ : ∃ y, y = uu 31 ^^^ 128 := ⟨_, rfl⟩
  have ey1 : bits .xor .u8 (uu 31 : Int) 128 = (y1 : Int) := by rw [hy1]; exact u8_xor_nat _ 128 (hul 31) (by decide)
  have hy1l : y1 % 128 = uu 31 % 128 ∧ y1 < 256 := by rw [hy1]; exact xor_128 _ (hul 31)
  have hlo : ∀ j, j < 32 → loB (upd uu 31 y1) j = loB uu j := fun j hj => by
    unfold loB upd
    by_cases h31 : j = 31
    · simp [h31, hy1l.1]
    · simp [h31]
  have hul2 : ∀ j, upd uu 31 y1 j < 256 := fun j => by
    unfold upd
    split
    · exact hy1l.2
    · exact hul j
  obtain ⟨q1, hq1⟩ : ∃ q, q = uu 31 % 128 := ⟨_, rfl⟩
  have eq1 : bits .and .u8 (uu 31 : Int) 127 = (q1 : Int) := by rw [hq1]; exact and_127 _ (hul 31)
  have hq3 : ∀ j, j < 32 → upd uu 31 q1 j = loB uu j := fun j _ => by
    unfold loB upd; rw [hq1]
  have hul3 : ∀ j, upd uu 31 q1 j < 256 := fun j => by
    unfold upd; rw [hq1]
    have := hul 31
    split
    · omega
    · exact hul j
  have cM : ∀ a b W X Y, (∀ j, X j < 256) → (∀ j, Y j < 256) → BytesIn W a 32 X → BytesIn W b 32 Y → mulL (clB X) (ofB (loB Y) 32 % pF) = M → Calls Try.prog 14 #[a, b] W fun e w' => ∃ s, e = .returned (.tuple #[s, .int .i64 0]) ∧ NewB W w' s 32 (byt M) ∧ Below W.heap.size W w' := fun a b W X Y hX hY h1 h2 hm => by
    have := lmul_good a b X Y hX hY W h1 h2
    rwa [hm] at this
  have m1 : mulL (clB kk) (ofB (loB uu) 32 % pF) = M := by rw [← hN, hM]
  have m2 : mulL (clB (upd (upd kk 0 x0) 31 x1)) (ofB (loB (upd uu 31 y1)) 32 % pF) = M := by rw [mulL_congr hcl, loB_idem hlo, ← hN, hM]
  have m3 : mulL (clB kk) (ofB (loB (byt N)) 32 % pF) = M := by rw [loB_byt hNl, hM]
  have cC : ∀ a W, BytesIn W a 32 (upd uu 31 q1) → Calls Try.prog 21 #[a] W fun e w' => ∃ s, e = .returned (.tuple #[s, .int .i64 0]) ∧ NewB W w' s 32 (byt N) ∧ Below W.heap.size W w' := fun a W h => by
    have := canon_good a (upd uu 31 q1) hul3 W h
    rw [ofB_congr 32 hq3, ← hN] at this
    exact this
  clear hN hM hx0 hx1 hy1 hq1 ha7 h192 hx0l hx1l hy1l hcl hlo hq3
  obtain ⟨xv, cv, rfl, -, -, -⟩ := hv.src
  obtain ⟨xu, cu, rfl, -, -, -⟩ := hu.src
  go_enter Try.func6, Try.ntmps6
  go_wp2_with (first
    | (go_at_call 20; refine hF1.mono ?_; clear hF1; rintro e w1 ⟨s1, rfl, ⟨gk, rfl, hgk, rk⟩, hb1⟩)
    | (go_at_call 20; refine (hF2 _ hb1).mono ?_; clear hF2; rintro e w2 ⟨s2, rfl, ⟨gu, rfl, hgu, ru⟩, hb2⟩; (replace rk := rk.below hb2 (block_lt_of_cell (rk 0 (by decide)).1)); (have c1 := cM _ _ w2 kk uu hkl hul (NewB.src rk (Eq.refl w2)) (NewB.src ru (Eq.refl w2)) m1); (have hbw2 := below_next hb1 hb2); clear hb1 hb2)
    | (go_at_call 14; refine c1.mono ?_; clear c1; rintro e w3 ⟨s3, rfl, hs3, hb3⟩; (replace rk := rk.below hb3 (block_lt_of_cell (rk 0 (by decide)).1)); (replace ru := ru.below hb3 (block_lt_of_cell (ru 0 (by decide)).1)); (have hbw3 := below_next hbw2 hb3); clear hb3 hbw2; (have sA := Str.of (hs3.bytes (by decide)) (byt_all M)); (obtain ⟨g3, rfl, -, -⟩ := hs3); (have src0 := src_of rk); (have z0 := put2 x0 x1))
    | (at_builtin; refine wpList_append_empty rfl (.tmp 29) (.tmp 30) rfl w3.heap.size kk _ rfl rfl (some ⟨gk, 0, none⟩) 32 32 rfl src0 (fun h => by cases h) (by omega) (Nat.le_refl _) ?_; intro v4 w4 own4 hb4; clear src0; (obtain ⟨g4, cap4, hv4, hg4, hgl4, hcap4, row4⟩ : ∃ g cap, v4 = .slice (some ⟨g, 0, none⟩) 32 cap ∧ w3.heap.size ≤ g ∧ g < w4.heap.size ∧ 32 ≤ cap ∧ RowAt .u8 w4 g 0 32 kk := own4.form.resolve_left (fun h => by omega)); subst hv4; clear own4; (have c0 := (row4 0 (by decide)).1); (have f0 := (row4 0 (by decide)).2); (have c31 := (row4 31 (by decide)).1); (have f31 := (row4 31 (by decide)).2); rw [Nat.zero_add] at c0 f0 c31 f31; (obtain ⟨V4, hV4, rx, hbV4⟩ := z0 _ _ _ _ row4 hb4 hg4); (have HV4 := Hid.mk' hV4); (have hs4 : Hid (V4.heap.size = w4.heap.size) := Hid.mk' (by rw [hV4]; simp)); clear hV4 z0 row4 hb4; (replace rk := rk.below hbV4 (block_lt_of_cell (rk 0 (by decide)).1)); (replace ru := ru.below hbV4 (block_lt_of_cell (ru 0 (by decide)).1)); (replace sA := sA.still hbV4); (have hbw4 := below_next hbw3 hbV4); clear hbw3; (have src1 := src_of ru); (have z1 := put1 y1))
    | (at_builtin; rw [← HV4.out]; refine wpList_append_empty rfl (.tmp 48) (.tmp 49) rfl V4.heap.size uu _ hs4.out rfl (some ⟨gu, 0, none⟩) 32 32 rfl src1 (fun h => by cases h) (by omega) (Nat.le_refl _) ?_; intro v5 w5 own5 hb5; clear src1 HV4 c0 f0 c31 f31; (obtain ⟨g5, cap5, hv5, hg5, hgl5, hcap5, row5⟩ : ∃ g cap, v5 = .slice (some ⟨g, 0, none⟩) 32 cap ∧ V4.heap.size ≤ g ∧ g < w5.heap.size ∧ 32 ≤ cap ∧ RowAt .u8 w5 g 0 32 uu := own5.form.resolve_left (fun h => by omega)); subst hv5; clear own5; (have c31 := (row5 31 (by decide)).1); (have f31 := (row5 31 (by decide)).2); rw [Nat.zero_add] at c31 f31; (obtain ⟨V5, hV5, ry, hbV5⟩ := z1 _ _ _ _ row5 hb5 hg5); (have HV5 := Hid.mk' hV5); (have hs5 : Hid (V5.heap.size = w5.heap.size) := Hid.mk' (by rw [hV5]; simp)); clear hV5 z1 row5 hb5; (replace rk := rk.below hbV5 (block_lt_of_cell (rk 0 (by decide)).1)); (replace ru := ru.below hbV5 (block_lt_of_cell (ru 0 (by decide)).1)); (replace rx := rx.below hbV5 (block_lt_of_cell (rx 0 (by decide)).1)); (replace sA := sA.still hbV5); (have hbw5 := below_next hbw4 hbV5); clear hbw4 hbV4; (have src2 := src_of ru); (have z2 := put1 q1))
    | (at_builtin; rw [← HV5.out]; refine wpList_append_empty rfl (.tmp 57) (.tmp 58) rfl V5.heap.size uu _ hs5.out rfl (some ⟨gu, 0, none⟩) 32 32 rfl src2 (fun h => by cases h) (by omega) (Nat.le_refl _) ?_; intro v6 w6 own6 hb6; clear src2 HV5 c31 f31; (obtain ⟨g6, cap6, hv6, hg6, hgl6, hcap6, row6⟩ : ∃ g cap, v6 = .slice (some ⟨g, 0, none⟩) 32 cap ∧ V5.heap.size ≤ g ∧ g < w6.heap.size ∧ 32 ≤ cap ∧ RowAt .u8 w6 g 0 32 uu := own6.form.resolve_left (fun h => by omega)); subst hv6; clear own6; (have c31 := (row6 31 (by decide)).1); (have f31 := (row6 31 (by decide)).2); rw [Nat.zero_add] at c31 f31; (obtain ⟨V6, hV6, rz, hbV6⟩ := z2 _ _ _ _ row6 hb6 hg6); (have HV6 := Hid.mk' hV6); clear hV6 z2 row6 hb6 hbV5; (replace rk := rk.below hbV6 (block_lt_of_cell (rk 0 (by decide)).1)); (replace rx := rx.below hbV6 (block_lt_of_cell (rx 0 (by decide)).1)); (replace ry := ry.below hbV6 (block_lt_of_cell (ry 0 (by decide)).1)); (replace sA := sA.still hbV6); (have hbw6 := below_next hbw5 hbV6); clear hbw5 hbV6; (have cc := cC _ V6 (cap_src rz hcap6)))
    | (go_at_call 21; rw [← HV6.out]; refine cc.mono ?_; clear cc cC HV6 c31 f31; rintro e w7 ⟨s7, rfl, hs7, hb7⟩; (replace rk := rk.below hb7 (block_lt_of_cell (rk 0 (by decide)).1)); (replace rx := rx.below hb7 (block_lt_of_cell (rx 0 (by decide)).1)); (replace ry := ry.below hb7 (block_lt_of_cell (ry 0 (by decide)).1)); (replace sA := sA.still hb7); (have hbw7 := below_next hbw6 hb7); clear hbw6 hb7; (obtain ⟨g7, rfl, -, r7⟩ := hs7); (have c2 := cM _ _ w7 _ _ hkl2 hul2 (cap_src rx hcap4) (cap_src ry hcap5) m2))
    | (go_at_call 14; refine c2.mono ?_; clear c2; rintro e w8 ⟨s8, rfl, hs8, hb8⟩; (replace rk := rk.below hb8 (block_lt_of_cell (rk 0 (by decide)).1)); (replace r7 := r7.below hb8 (block_lt_of_cell (r7 0 (by decide)).1)); (replace sA := sA.still hb8); (have hbw8 := below_next hbw7 hb8); clear hbw7 hb8; (have sB := Str.of (hs8.bytes (by decide)) (byt_all M)); (obtain ⟨g8, rfl, -, -⟩ := hs8); (have c3 := cM _ _ w8 _ _ hkl (byt_all N) (NewB.src rk (Eq.refl w8)) (NewB.src r7 (Eq.refl w8)) m3); clear cM)
    | (go_at_call 14; refine c3.mono ?_; clear c3; rintro e w9 ⟨s9, rfl, hs9, hb9⟩; (replace sA := sA.still hb9); (replace sB := sB.still hb9); (have hbw9 := below_next hbw8 hb9); clear hbw8 hb9; (have sC := Str.of (hs9.bytes (by decide)) (byt_all M)); (obtain ⟨g9, rfl, -, -⟩ := hs9); (have qA := sA.conv w9 (Below.refl _ _)); (have qB := sB.conv w9 (Below.refl _ _)); (have qC := sC.conv w9 (Below.refl _ _)); clear sA sB sC)
    | (go_at_call 11; refine (num5_any _ _).mono ?_; rintro e wn ⟨rfl, hwn⟩; subst hwn)
    | (go_at_call 13; refine (hK _).mono ?_; clear hK; rintro e w10 ⟨rfl, hb10⟩))
  go_ret
  exact ⟨rfl, below_next hbw9 hb10⟩
end Go.Proofs.Ytjbjbnooocbleaa
