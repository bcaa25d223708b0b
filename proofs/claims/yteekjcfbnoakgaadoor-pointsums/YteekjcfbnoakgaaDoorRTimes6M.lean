/- What the proof stands on: RTimes6, RRatio, REnc6. -/
import Derived.Test.YteekjcfbnoakgaaDoorLimbsM
import Derived.Test.YteekjcfbnoakgaaDoorRPlus6M
namespace Go.Proofs.YteekjcfbnoakgaaDoor
open Go.RowKit
theorem bit8_eq (ks : Nat → Nat) (hlt : ∀ q, ks q < 256) (i : Nat) : (bits .and .u8 ((ks (i / 8) : Int) / 2 ^ (i % 8)) 1 == 1) = decide (ks (i / 8) / 2 ^ (i % 8) % 2 = 1) := by
  have e : ((ks (i / 8) : Int) / 2 ^ (i % 8)) = ((ks (i / 8) / 2 ^ (i % 8) : Nat) : Int) := by simp
  have hb : ks (i / 8) / 2 ^ (i % 8) < 256 := Nat.lt_of_le_of_lt (Nat.div_le_self _ _) (hlt _)
  rw [e, show (1 : Int) = ((1 : Nat) : Int) from rfl, u8_and_nat _ 1 hb (by decide), Nat.and_one_is_mod]
  generalize ks (i / 8) / 2 ^ (i % 8) = v
  rcases Nat.mod_two_eq_zero_or_one v with h | h <;> simp [h]
set_option maxRecDepth 20000 in
set_option maxHeartbeats 4000000 in
theorem rtimes6_bad (r : P4) (v : Value) (n : Nat) (ks : Nat → Nat) (w : World) (hv : BytesIn w v n ks) (hn : n ≠ 32) :
    Calls Tryd.prog 21 #[r.V, v] w fun e w' => ∃ t : P4, e = .returned (.tuple #[t.V, .int .i64 1]) ∧ t.Rep zeroN ∧ Below w.heap.size w w' := by
  have hzq := zeroQ
  have cz : ∀ W, Calls Tryd.prog 39 #[] W fun e w' => ∃ t : P4, e = .returned (.agg (q64 t.X t.Y t.Z t.T).toArray) ∧ t.Rep zeroN ∧ Below W.heap.size W w' := fun W => rzero_any W
  generalize zeroN = zn at *
  obtain ⟨xv, kv, rfl, -⟩ := hv.src
  have h1 : ¬((n : Int) = 32) := by omega
  obtain ⟨V1, e1, b1⟩ : ∃ V, w.alloc (.cells (q64 r.X r.Y r.Z r.T).toArray 38) = V ∧ Below w.heap.size w V := ⟨_, rfl, (Below.refl _ _).alloc (Nat.le_refl _) _⟩
  obtain ⟨W, g4, e4, hg4, b4, h4⟩ := freshQ V1
  have t1 : V1.heap.size = w.heap.size + 1 := by rw [← e1]; simp
  have HW : Hid (W = (w.alloc (.cells (q64 r.X r.Y r.Z r.T).toArray 38)).alloc (.cells zQ 38)) := Hid.mk' (by rw [← e4, ← e1])
  have q4 : Hid (w.heap.size + 1 = g4) := Hid.mk' (by omega)
  have w4 : w.heap.size ≤ g4 := by omega
  have hbW : Below w.heap.size w W := below_next b1 b4
  clear e1 e4 hg4 b1 b4 t1 V1 hv hn
  rw [show r.V = .agg (q64 r.X r.Y r.Z r.T).toArray from rfl]
  go_enter Tryd.func21, Tryd.ntmps21
  go_wp2_with (first
    | (go_at_call 39; rw [← HW.out, q4.out]; refine (cz _).mono ?_; clear cz HW q4; rintro e w3 ⟨t, rfl, ht, hb3⟩; (replace h4 := h4.still hb3); (replace hbW := below_next hbW hb3); clear hb3; (have t6 : w3.there g4 0 (q64 t.X t.Y t.Z t.T).toArray.size := there64 h4))
    | (with_reducible (refine id (?_ : wpList _ _ _ _ _ _)); refine wpList_store_mid rfl 38 _ _ rfl g4 0 (q64 t.X t.Y t.Z t.T).toArray rfl rfl t6 (infoQA _ _ _ _) (oneQ _ _ _ _) ?_))
  (try simp only [Exit.inBlock, Exit.then])
  exact bodyPost_ret (results_cell_tmp Tryd.results21 _ _ g4 0 (q64 t.X t.Y t.Z t.T) _ rfl (h4.stored (q64 t.X t.Y t.Z t.T) (q64_same _ _ _ _ _ _ _ _)).range Tryd.underlying38 rfl (infoQ _ _ _ _)) rfl ⟨t, rfl, ht, below_setCells w4 _ _ _ hbW⟩
set_option maxRecDepth 20000 in
set_option maxHeartbeats 8000000 in
theorem rtimes6_good {r : P4} {p : N4} (hr : r.Rep p) (v : Value) (ks : Nat → Nat) (hks : ∀ j, ks j < 256) (w : World) (hv : BytesIn w v 32 ks) :
    Calls Tryd.prog 21 #[r.V, v] w fun e w' => ∃ t : P4, e = .returned (.tuple #[t.V, .int .i64 0]) ∧ t.Rep (mulN dN p ks 256) ∧ Below w.heap.size w w' := by
  have hz := zeroR
  have hzq := zeroQ
  have cD : ∀ W, Calls Tryd.prog 26 #[] W fun e w' => ∃ R, e = .returned (.agg (i16 R).toArray) ∧ Rw R dN ∧ Below W.heap.size W w' := fun W => rD_any W
  have cz : ∀ W, Calls Tryd.prog 39 #[] W fun e w' => ∃ t : P4, e = .returned (.agg (q64 t.X t.Y t.Z t.T).toArray) ∧ t.Rep zeroN ∧ Below W.heap.size W w' := fun W => rzero_any W
  have cP : ∀ (D : Nat → Int), Rw D dN → ∀ (s t : P4) (x y : N4), s.Rep x → t.Rep y → ∀ W, Calls Tryd.prog 25 #[.agg (q64 s.X s.Y s.Z s.T).toArray, .agg (q64 t.X t.Y t.Z t.T).toArray, .agg (i16 D).toArray] W fun e w' => ∃ u : P4, e = .returned (.agg (q64 u.X u.Y u.Z u.T).toArray) ∧ u.Rep (addN dN x y) ∧ Below W.heap.size W w' := fun D hD s t x y hs ht W => rplus6_any hs ht hD W
  obtain ⟨m0, hm0⟩ : ∃ m : Nat → N4, m = mulN dN p ks := ⟨_, rfl⟩
  have hm1 : m0 0 = zeroN := by rw [hm0]; rfl
  have hmS0 : ∀ j, m0 (j + 1) = if ks ((255 - j) / 8) / 2 ^ ((255 - j) % 8) % 2 = 1 then addN dN (addN dN (m0 j) (m0 j)) p else addN dN (m0 j) (m0 j) := fun j => by rw [hm0]; rfl
  rw [← hm0]
  clear hm0
  rw [← hm1] at cz
  clear hm1
  generalize dN = dd at *
  have hmS := Hid.mk' hmS0
  clear hmS0
  obtain ⟨bb, ob, cap, hsl, hlb, hcap, hc⟩ : ∃ bb ob cap, v = .slice (some ⟨bb, ob, none⟩) 32 cap ∧ bb < w.heap.size ∧ 32 ≤ cap ∧ ∀ j, j < 32 → w.cell? ⟨bb, ob + j, none⟩ = some (.int .u8 (ks j)) := hv.resolve_left (fun ⟨_, _, h⟩ => by omega)
  subst hsl
  obtain ⟨V1, g2, e1, hg2, b1, hp⟩ : ∃ V g, w.alloc (.cells (q64 r.X r.Y r.Z r.T).toArray 38) = V ∧ w.heap.size = g ∧ Below w.heap.size w V ∧ RW V g 0 (q64 r.X r.Y r.Z r.T) := ⟨_, _, rfl, rfl, (Below.refl _ _).alloc (Nat.le_refl _) _, RW.fresh w _ _⟩
  obtain ⟨W, g4, e4, hg4, b4, h4⟩ := freshQ V1
  have t1 : V1.heap.size = w.heap.size + 1 := by rw [← e1]; simp
  have HW : Hid (W = (w.alloc (.cells (q64 r.X r.Y r.Z r.T).toArray 38)).alloc (.cells zQ 38)) := Hid.mk' (by rw [← e4, ← e1])
  have q2 : Hid (w.heap.size = g2) := Hid.mk' hg2
  have q4 : Hid (w.heap.size + 1 = g4) := Hid.mk' (by omega)
  have w4 : w.heap.size ≤ g4 := by omega
  have n24 : g2 ≠ g4 := by omega
  replace hp := hp.still b4
  have hbW : Below w.heap.size w W := below_next b1 b4
  clear e1 e4 hg2 hg4 b1 b4 t1 V1 hv
  rw [show r.V = .agg (q64 r.X r.Y r.Z r.T).toArray from rfl]
  go_enter Tryd.func21, Tryd.ntmps21
  go_upto_region 5 with (first
    | (go_at_call 26; rw [← HW.out, q4.out, q2.out]; refine (cD _).mono ?_; clear cD HW q2 q4; rintro e w3 ⟨D, rfl, hD, hb3⟩; (have l2 := hp.lt); (have l4 := h4.lt); (replace hp := hp.still hb3); (replace h4 := h4.still hb3); (replace hbW := below_next hbW hb3); (have n26 : g2 ≠ w3.heap.size := Nat.ne_of_lt (Nat.lt_of_lt_of_le l2 hb3.size)); (have n46 : g4 ≠ w3.heap.size := Nat.ne_of_lt (Nat.lt_of_lt_of_le l4 hb3.size)); (have w6 : w.heap.size ≤ w3.heap.size := hbW.size); clear hb3 l2 l4; (have z3 := freshR' w3); (have t3 := freshRt w3 D); (obtain ⟨V3, hV3⟩ : ∃ V, V = (w3.alloc (.cells zI 36)).setCells w3.heap.size 0 (i16 D) := ⟨_, rfl⟩); (have hd : RW V3 w3.heap.size 0 (i16 D) := by rw [hV3]; exact z3.stored (i16 D) (by rw [i16_len, i16_len])); (have b3 : Below w3.heap.size w3 V3 := by rw [hV3]; exact below_setCells (Nat.le_refl _) _ _ _ ((Below.refl _ _).alloc (Nat.le_refl _) _)); (have H3 := Hid.mk' hV3); clear hV3 z3; (replace hp := hp.still b3); (replace h4 := h4.still b3); (replace hbW := below_next hbW b3); clear b3)
    | (with_reducible (refine id (?_ : wpList _ _ _ _ _ _)); refine wpList_store_mid rfl 36 _ _ rfl w3.heap.size 0 (i16 D).toArray rfl rfl t3 (infoIA D) (oneI D) ?_; rw [List.toList_toArray, ← H3.out]; clear t3 H3)
    | (go_at_call 39; refine (cz _).mono ?_; clear cz; rintro e w5 ⟨t0, rfl, ht0, hb5⟩; (have l2 := hp.lt); (have l4 := h4.lt); (have l6 := hd.lt); (replace hp := hp.still hb5); (replace h4 := h4.still hb5); (replace hd := hd.still hb5); (replace hbW := below_next hbW hb5); (have n27 : g2 ≠ w5.heap.size := Nat.ne_of_lt (Nat.lt_of_lt_of_le l2 hb5.size)); (have n47 : g4 ≠ w5.heap.size := Nat.ne_of_lt (Nat.lt_of_lt_of_le l4 hb5.size)); (have n67 : w3.heap.size ≠ w5.heap.size := Nat.ne_of_lt (Nat.lt_of_lt_of_le l6 hb5.size)); (have w7 : w.heap.size ≤ w5.heap.size := hbW.size); clear hb5 l2 l4 l6; (have z5 := freshQ' w5); (have t5 : (w5.alloc (.cells zQ 38)).there w5.heap.size 0 (q64 t0.X t0.Y t0.Z t0.T).toArray.size := there64 z5); (obtain ⟨V5, hV5⟩ : ∃ V, V = (w5.alloc (.cells zQ 38)).setCells w5.heap.size 0 (q64 t0.X t0.Y t0.Z t0.T) := ⟨_, rfl⟩); (have ho : RW V5 w5.heap.size 0 (q64 t0.X t0.Y t0.Z t0.T) := by rw [hV5]; exact z5.stored (q64 t0.X t0.Y t0.Z t0.T) (q64_same _ _ _ _ _ _ _ _)); (have b5 : Below w5.heap.size w5 V5 := by rw [hV5]; exact below_setCells (Nat.le_refl _) _ _ _ ((Below.refl _ _).alloc (Nat.le_refl _) _)); (have H5 := Hid.mk' hV5); clear hV5 z5; (replace hp := hp.still b5); (replace h4 := h4.still b5); (replace hd := hd.still b5); (replace hbW := below_next hbW b5); clear b5)
    | (with_reducible (refine id (?_ : wpList _ _ _ _ _ _)); refine wpList_store_mid rfl 38 _ _ rfl w5.heap.size 0 (q64 t0.X t0.Y t0.Z t0.T).toArray rfl rfl t5 (infoQA _ _ _ _) (oneQ _ _ _ _) ?_; rw [List.toList_toArray, ← H5.out]; clear t5 H5))
  dsimp only [Act.put]
  generalize w3.heap.size = g6 at *
  generalize w5.heap.size = g7 at *
  go_wp2
  go_loopw [8] (fun i wr => ∃ (j : Nat) (t : P4), j ≤ 256 ∧ i = .int .i64 (255 - (j : Int)) ∧ t.Rep (m0 j) ∧ RW wr g2 0 (q64 r.X r.Y r.Z r.T) ∧ RW wr g4 0 (q64 (fun _ => 0) (fun _ => 0) (fun _ => 0) (fun _ => 0)) ∧ RW wr g6 0 (i16 D) ∧ RW wr g7 0 (q64 t.X t.Y t.Z t.T) ∧ Below w.heap.size w wr) (fun i _ => 257 - (256 - (intOf i + 1)).toNat)
  case atStart => exact ⟨0, t0, Nat.zero_le _, by go_num, ht0, hp, h4, hd, ho, hbW⟩
  case round =>
    obtain ⟨j, t, hj, rfl, ht, kp, k4, kd, ko, kb⟩ := hrel
    clear hp h4 hd ho hbW ht0
    replace cP := cP D hD
    by_cases hj2 : j < 256
    · have hnx := hmS.out j
      have cc := (kb.cell (p := ⟨bb, ob + (255 - j) / 8, none⟩) hlb).trans (hc ((255 - j) / 8) (by omega))
      have hi8 : (255 - (j : Int)).toNat = 255 - j := by omega
      have hge : ¬(255 - (j : Int) < 0) := by omega
      have hbit := bit8_eq ks hks (255 - j)
      have c1 := cP t t _ _ ht ht
      have c2 := fun (u : P4) (hu : u.Rep (addN dd (m0 j) (m0 j))) => cP u r _ _ hu hr
      clear cP hmS
      by_cases hb : ks ((255 - j) / 8) / 2 ^ ((255 - j) % 8) % 2 = 1
      · rw [if_pos hb] at hnx
        rw [decide_eq_true hb] at hbit
        have Hn := Hid.mk' hnx
        clear hnx hb
        go_wp2_with (first
          | (refine wpList_load_mid rfl 38 _ rfl g7 0 rfl (q64 t.X t.Y t.Z t.T) _ ko.range Tryd.underlying38 rfl (infoQ _ _ _ _) ?_)
          | (refine wpList_load_mid rfl 38 _ rfl g7 0 rfl (q64 u.X u.Y u.Z u.T) _ ko2.range Tryd.underlying38 rfl (infoQ _ _ _ _) ?_)
          | (refine wpList_load_mid rfl 38 _ rfl g2 0 rfl (q64 r.X r.Y r.Z r.T) _ kp.range Tryd.underlying38 rfl (infoQ _ _ _ _) ?_)
          | (refine wpList_load_mid rfl 36 _ rfl g6 0 rfl (i16 D) _ kd.range Tryd.underlying36 rfl (infoI _) ?_)
          | (go_at_call 25; refine (c1 _).mono ?_; clear c1; rintro e w9 ⟨u, rfl, hu, hb9⟩; (replace kp := kp.still hb9); (replace k4 := k4.still hb9); (replace kd := kd.still hb9); (replace ko := ko.still hb9); (replace kb := below_next kb hb9); clear hb9 cc; (have tA : w9.there g7 0 (q64 u.X u.Y u.Z u.T).toArray.size := there64 ko); (obtain ⟨V9, hV9⟩ : ∃ V, V = w9.setCells g7 0 (q64 u.X u.Y u.Z u.T) := ⟨_, rfl⟩); (have ko2 := ko.stored (q64 u.X u.Y u.Z u.T) (q64_same _ _ _ _ _ _ _ _)); clear ko; (replace kp := kp.far g7 0 (q64 u.X u.Y u.Z u.T) (.inl n27)); (replace k4 := k4.far g7 0 (q64 u.X u.Y u.Z u.T) (.inl n47)); (replace kd := kd.far g7 0 (q64 u.X u.Y u.Z u.T) (.inl n67)); (replace kb := below_setCells w7 (q64 u.X u.Y u.Z u.T) 0 _ kb); rw [← hV9] at ko2 kp k4 kd kb; (have HA := Hid.mk' hV9); clear hV9; (have cc := (kb.cell (p := ⟨bb, ob + (255 - j) / 8, none⟩) hlb).trans (hc ((255 - j) / 8) (by omega))))
          | (with_reducible (refine id (?_ : wpList _ _ _ _ _ _)); refine wpList_store_mid rfl 38 _ _ rfl g7 0 (q64 u.X u.Y u.Z u.T).toArray rfl rfl tA (infoQA _ _ _ _) (oneQ _ _ _ _) ?_; rw [List.toList_toArray, ← HA.out]; clear tA HA)
          | (go_at_call 25; refine (c2 u hu _).mono ?_; clear c2; rintro e w10 ⟨x, rfl, hx, hb10⟩; (replace kp := kp.still hb10); (replace k4 := k4.still hb10); (replace kd := kd.still hb10); (replace ko2 := ko2.still hb10); (replace kb := below_next kb hb10); clear hb10 cc; (have tB : w10.there g7 0 (q64 x.X x.Y x.Z x.T).toArray.size := there64 ko2); (obtain ⟨V10, hV10⟩ : ∃ V, V = w10.setCells g7 0 (q64 x.X x.Y x.Z x.T) := ⟨_, rfl⟩); (have ko3 := ko2.stored (q64 x.X x.Y x.Z x.T) (q64_same _ _ _ _ _ _ _ _)); clear ko2; (replace kp := kp.far g7 0 (q64 x.X x.Y x.Z x.T) (.inl n27)); (replace k4 := k4.far g7 0 (q64 x.X x.Y x.Z x.T) (.inl n47)); (replace kd := kd.far g7 0 (q64 x.X x.Y x.Z x.T) (.inl n67)); (replace kb := below_setCells w7 (q64 x.X x.Y x.Z x.T) 0 _ kb); rw [← hV10] at ko3 kp k4 kd kb; (have HB := Hid.mk' hV10); clear hV10)
          | (with_reducible (refine id (?_ : wpList _ _ _ _ _ _)); refine wpList_store_mid rfl 38 _ _ rfl g7 0 (q64 x.X x.Y x.Z x.T).toArray rfl rfl tB (infoQA _ _ _ _) (oneQ _ _ _ _) ?_; rw [List.toList_toArray, ← HB.out]; clear tB HB))
        go_roundw
        case rel => exact ⟨j + 1, x, by omega, by go_num, by rw [Hn.out]; exact hx, kp, k4, kd, ko3, kb⟩
        case measure => simp [intOf]; omega
      · rw [if_neg hb] at hnx
        rw [decide_eq_false hb] at hbit
        have Hn := Hid.mk' hnx
        clear hnx hb c2
        go_wp2_with (first
          | (refine wpList_load_mid rfl 38 _ rfl g7 0 rfl (q64 t.X t.Y t.Z t.T) _ ko.range Tryd.underlying38 rfl (infoQ _ _ _ _) ?_)
          | (refine wpList_load_mid rfl 36 _ rfl g6 0 rfl (i16 D) _ kd.range Tryd.underlying36 rfl (infoI _) ?_)
          | (go_at_call 25; refine (c1 _).mono ?_; clear c1; rintro e w9 ⟨u, rfl, hu, hb9⟩; (replace kp := kp.still hb9); (replace k4 := k4.still hb9); (replace kd := kd.still hb9); (replace ko := ko.still hb9); (replace kb := below_next kb hb9); clear hb9 cc; (have tA : w9.there g7 0 (q64 u.X u.Y u.Z u.T).toArray.size := there64 ko); (obtain ⟨V9, hV9⟩ : ∃ V, V = w9.setCells g7 0 (q64 u.X u.Y u.Z u.T) := ⟨_, rfl⟩); (have ko2 := ko.stored (q64 u.X u.Y u.Z u.T) (q64_same _ _ _ _ _ _ _ _)); clear ko; (replace kp := kp.far g7 0 (q64 u.X u.Y u.Z u.T) (.inl n27)); (replace k4 := k4.far g7 0 (q64 u.X u.Y u.Z u.T) (.inl n47)); (replace kd := kd.far g7 0 (q64 u.X u.Y u.Z u.T) (.inl n67)); (replace kb := below_setCells w7 (q64 u.X u.Y u.Z u.T) 0 _ kb); rw [← hV9] at ko2 kp k4 kd kb; (have HA := Hid.mk' hV9); clear hV9; (have cc := (kb.cell (p := ⟨bb, ob + (255 - j) / 8, none⟩) hlb).trans (hc ((255 - j) / 8) (by omega))))
          | (with_reducible (refine id (?_ : wpList _ _ _ _ _ _)); refine wpList_store_mid rfl 38 _ _ rfl g7 0 (q64 u.X u.Y u.Z u.T).toArray rfl rfl tA (infoQA _ _ _ _) (oneQ _ _ _ _) ?_; rw [List.toList_toArray, ← HA.out]; clear tA HA))
        go_roundw
        case rel => exact ⟨j + 1, u, by omega, by go_num, by rw [Hn.out]; exact hu, kp, k4, kd, ko2, kb⟩
        case measure => simp [intOf]; omega
    · obtain rfl : j = 256 := by omega
      have t4 : wr.there g4 0 (q64 t.X t.Y t.Z t.T).toArray.size := there64 k4
      go_wp2_with (first
        | (refine wpList_load_mid rfl 38 _ rfl g7 0 rfl (q64 t.X t.Y t.Z t.T) _ ko.range Tryd.underlying38 rfl (infoQ _ _ _ _) ?_)
        | (with_reducible (refine id (?_ : wpList _ _ _ _ _ _)); refine wpList_store_mid rfl 38 _ _ rfl g4 0 (q64 t.X t.Y t.Z t.T).toArray rfl rfl t4 (infoQA _ _ _ _) (oneQ _ _ _ _) ?_))
      (try simp only [Exit.inBlock, Exit.then])
      exact bodyPost_ret (results_cell_tmp Tryd.results21 _ _ g4 0 (q64 t.X t.Y t.Z t.T) _ rfl (k4.stored (q64 t.X t.Y t.Z t.T) (q64_same _ _ _ _ _ _ _ _)).range Tryd.underlying38 rfl (infoQ _ _ _ _)) rfl ⟨t, rfl, ht, below_setCells w4 _ _ _ kb⟩
end Go.Proofs.YteekjcfbnoakgaaDoor
namespace Go.Proofs.YteekjcfbnoakgaaDoor
open Go.RowKit
theorem byt0_mod (n : Nat) : byt n 0 % 2 = n % 2 := by unfold byt; simp only [Nat.pow_zero, Nat.div_one]; omega
theorem rem2_odd {n : Nat} (h : (n % 2 == 1) = true) : ((byt n 0 : Nat) : Int) % 2 = 1 := by
  have h1 := byt0_mod n
  have h2 : n % 2 = 1 := by simpa using h
  omega
theorem rem2_even {n : Nat} (h : (n % 2 == 1) = false) : ¬(((byt n 0 : Nat) : Int) % 2 = 1) := by
  have h1 := byt0_mod n
  have h2 : ¬(n % 2 = 1) := by simpa using h
  omega
abbrev qx1x4 : Oper := { dst := some 6, op := Op.alloc 36, type := 0, pos := "ref.go:177", after := #[], guard := none }
abbrev qx1x2 : Oper := { dst := some 10, op := Op.call { callee := Callee.value (Operand.func 53), args := #[Operand.tmp 9], argTypes := #[36] }, type := 36, pos := "ref.go:177", after := #[{ on := 1, ground := Ground.data }], guard := none }
abbrev qx1x3 : Oper := { dst := some 11, op := Op.call { callee := Callee.value (Operand.func 43), args := #[Operand.tmp 8, Operand.tmp 10], argTypes := #[36, 36] }, type := 36, pos := "ref.go:177", after := #[{ on := 0, ground := Ground.data }, { on := 2, ground := Ground.data }, { on := 2, ground := Ground.chain }], guard := none }
abbrev qx1x5 : Oper := { dst := none, op := Op.store 36 (Operand.tmp 6) (Operand.tmp 11), type := 0, pos := "ref.go:177", after := #[{ on := 4, ground := Ground.data }, { on := 3, ground := Ground.data }, { on := 3, ground := Ground.chain }, { on := 0, ground := Ground.phase }, { on := 1, ground := Ground.phase }, { on := 2, ground := Ground.phase }, { on := 3, ground := Ground.phase }, { on := 4, ground := Ground.phase }], guard := none }
abbrev qxax2 : Oper := { dst := some 19, op := Op.call { callee := Callee.value (Operand.func 43), args := #[Operand.tmp 17, Operand.tmp 18], argTypes := #[36, 36] }, type := 36, pos := "ref.go:180", after := #[{ on := 0, ground := Ground.data }, { on := 1, ground := Ground.data }], guard := none }
abbrev qxax4 : Oper := { dst := some 21, op := Op.call { callee := Callee.value (Operand.func 47), args := #[Operand.tmp 19, Operand.tmp 20], argTypes := #[36, 36] }, type := 4, pos := "ref.go:180", after := #[{ on := 2, ground := Ground.data }, { on := 3, ground := Ground.data }, { on := 2, ground := Ground.chain }], guard := none }
abbrev qxbx2 : Oper := { dst := some 19, op := Op.call { callee := Callee.value (Operand.func 43), args := #[Operand.tmp 17, Operand.tmp 18], argTypes := #[36, 36] }, type := 36, pos := "ref.go:180", after := #[{ on := 0, ground := Ground.data }, { on := 1, ground := Ground.data }], guard := none }
abbrev qxbx4 : Oper := { dst := some 21, op := Op.call { callee := Callee.value (Operand.func 47), args := #[Operand.tmp 19, Operand.tmp 20], argTypes := #[36, 36] }, type := 4, pos := "ref.go:180", after := #[{ on := 2, ground := Ground.data }, { on := 3, ground := Ground.data }, { on := 2, ground := Ground.chain }], guard := none }
abbrev qxbx8 : Oper := { dst := some 25, op := Op.call { callee := Callee.value (Operand.func 42), args := #[Operand.const (Value.int IntKind.i64 0)], argTypes := #[3] }, type := 36, pos := "ref.go:180", after := #[{ on := 6, ground := Ground.chain }, { on := 6, ground := Ground.guard }], guard := some (6, false) }
abbrev qxbx9 : Oper := { dst := some 26, op := Op.call { callee := Callee.value (Operand.func 47), args := #[Operand.tmp 24, Operand.tmp 25], argTypes := #[36, 36] }, type := 4, pos := "ref.go:180", after := #[{ on := 7, ground := Ground.data }, { on := 8, ground := Ground.data }, { on := 8, ground := Ground.chain }, { on := 6, ground := Ground.guard }], guard := some (6, false) }
abbrev qxcx2 : Oper := { dst := some 19, op := Op.call { callee := Callee.value (Operand.func 43), args := #[Operand.tmp 17, Operand.tmp 18], argTypes := #[36, 36] }, type := 36, pos := "ref.go:180", after := #[{ on := 0, ground := Ground.data }, { on := 1, ground := Ground.data }], guard := none }
abbrev qxcx4 : Oper := { dst := some 21, op := Op.call { callee := Callee.value (Operand.func 47), args := #[Operand.tmp 19, Operand.tmp 20], argTypes := #[36, 36] }, type := 4, pos := "ref.go:180", after := #[{ on := 2, ground := Ground.data }, { on := 3, ground := Ground.data }, { on := 2, ground := Ground.chain }], guard := none }
abbrev qxcx8 : Oper := { dst := some 25, op := Op.call { callee := Callee.value (Operand.func 42), args := #[Operand.const (Value.int IntKind.i64 0)], argTypes := #[3] }, type := 36, pos := "ref.go:180", after := #[{ on := 6, ground := Ground.chain }, { on := 6, ground := Ground.guard }], guard := some (6, false) }
abbrev qxcx9 : Oper := { dst := some 26, op := Op.call { callee := Callee.value (Operand.func 47), args := #[Operand.tmp 24, Operand.tmp 25], argTypes := #[36, 36] }, type := 4, pos := "ref.go:180", after := #[{ on := 7, ground := Ground.data }, { on := 8, ground := Ground.data }, { on := 8, ground := Ground.chain }, { on := 6, ground := Ground.guard }], guard := some (6, false) }
abbrev qxcx12 : Oper := { dst := some 29, op := Op.call { callee := Callee.value (Operand.func 42), args := #[Operand.const (Value.int IntKind.i64 0)], argTypes := #[3] }, type := 36, pos := "ref.go:180", after := #[{ on := 10, ground := Ground.chain }, { on := 10, ground := Ground.guard }], guard := some (10, true) }
abbrev qxcx13 : Oper := { dst := some 30, op := Op.call { callee := Callee.value (Operand.func 47), args := #[Operand.tmp 28, Operand.tmp 29], argTypes := #[36, 36] }, type := 4, pos := "ref.go:180", after := #[{ on := 11, ground := Ground.data }, { on := 12, ground := Ground.data }, { on := 12, ground := Ground.chain }, { on := 10, ground := Ground.guard }], guard := some (10, true) }
abbrev qxdx2 : Oper := { dst := some 19, op := Op.call { callee := Callee.value (Operand.func 43), args := #[Operand.tmp 17, Operand.tmp 18], argTypes := #[36, 36] }, type := 36, pos := "ref.go:180", after := #[{ on := 0, ground := Ground.data }, { on := 1, ground := Ground.data }], guard := none }
abbrev qxdx4 : Oper := { dst := some 21, op := Op.call { callee := Callee.value (Operand.func 47), args := #[Operand.tmp 19, Operand.tmp 20], argTypes := #[36, 36] }, type := 4, pos := "ref.go:180", after := #[{ on := 2, ground := Ground.data }, { on := 3, ground := Ground.data }, { on := 2, ground := Ground.chain }], guard := none }
abbrev qxdx8 : Oper := { dst := some 25, op := Op.call { callee := Callee.value (Operand.func 42), args := #[Operand.const (Value.int IntKind.i64 0)], argTypes := #[3] }, type := 36, pos := "ref.go:180", after := #[{ on := 6, ground := Ground.chain }, { on := 6, ground := Ground.guard }], guard := some (6, false) }
abbrev qxdx9 : Oper := { dst := some 26, op := Op.call { callee := Callee.value (Operand.func 47), args := #[Operand.tmp 24, Operand.tmp 25], argTypes := #[36, 36] }, type := 4, pos := "ref.go:180", after := #[{ on := 7, ground := Ground.data }, { on := 8, ground := Ground.data }, { on := 8, ground := Ground.chain }, { on := 6, ground := Ground.guard }], guard := some (6, false) }
abbrev qxdx12 : Oper := { dst := some 29, op := Op.call { callee := Callee.value (Operand.func 42), args := #[Operand.const (Value.int IntKind.i64 0)], argTypes := #[3] }, type := 36, pos := "ref.go:180", after := #[{ on := 10, ground := Ground.chain }, { on := 10, ground := Ground.guard }], guard := some (10, true) }
abbrev qxdx13 : Oper := { dst := some 30, op := Op.call { callee := Callee.value (Operand.func 47), args := #[Operand.tmp 28, Operand.tmp 29], argTypes := #[36, 36] }, type := 4, pos := "ref.go:180", after := #[{ on := 11, ground := Ground.data }, { on := 12, ground := Ground.data }, { on := 12, ground := Ground.chain }, { on := 10, ground := Ground.guard }], guard := some (10, true) }
set_option maxRecDepth 20000 in
set_option maxHeartbeats 16000000 in
theorem rratio_raw (U V : Nat → Int) (vi q y z zz zc nz : Nat) (b1 b2 b3 : Bool)
    (kI : ∀ W, Calls Tryd.prog 53 #[.agg (i16 V).toArray] W fun e w' => ∃ R, e = .returned (.agg (i16 R).toArray) ∧ Rep R vi ∧ Below W.heap.size W w')
    (kQ : ∀ R, Rep R vi → ∀ W, Calls Tryd.prog 43 #[.agg (i16 U).toArray, .agg (i16 R).toArray] W fun e w' => ∃ R, e = .returned (.agg (i16 R).toArray) ∧ Rep R q ∧ Below W.heap.size W w')
    (kP : ∀ Q, Rep Q q → ∀ W, Calls Tryd.prog 70 #[.agg (i16 Q).toArray, .int .i64 252, .int .i64 14, .int .i64 4] W fun e w' => ∃ R, e = .returned (.agg (i16 R).toArray) ∧ Rep R y ∧ Below W.heap.size W w')
    (kF : ∀ Y Q, Rep Y y → Rep Q q → ∀ W, Calls Tryd.prog 71 #[.agg (i16 Y).toArray, .agg (i16 Q).toArray] W fun e w' => ∃ R, e = .returned (.agg (i16 R).toArray) ∧ Rep R z ∧ Below W.heap.size W w')
    (kT : ∀ Z, Rep Z z → ∀ W, Calls Tryd.prog 43 #[.agg (i16 Z).toArray, .agg (i16 Z).toArray] W fun e w' => ∃ R, e = .returned (.agg (i16 R).toArray) ∧ Rep R zz ∧ Below W.heap.size W w')
    (kS1 : ∀ R Q, Rep R zz → Rep Q q → ∀ W, Calls Tryd.prog 47 #[.agg (i16 R).toArray, .agg (i16 Q).toArray] W fun e w' => e = .returned (.bool b1) ∧ Below W.heap.size W w')
    (kO : ∀ W, Calls Tryd.prog 42 #[.int .i64 0] W fun e w' => ∃ R, e = .returned (.agg (i16 R).toArray) ∧ Rep R 0 ∧ Below W.heap.size W w')
    (kS2 : ∀ O, Rep O 0 → ∀ W, Calls Tryd.prog 47 #[.agg (i16 V).toArray, .agg (i16 O).toArray] W fun e w' => e = .returned (.bool b2) ∧ Below W.heap.size W w')
    (kS3 : ∀ O, Rep O 0 → ∀ W, Calls Tryd.prog 47 #[.agg (i16 U).toArray, .agg (i16 O).toArray] W fun e w' => e = .returned (.bool b3) ∧ Below W.heap.size W w')
    (kB : ∀ Z, Rep Z z → ∀ W, Calls Tryd.prog 41 #[.agg (i16 Z).toArray] W fun e w' => ∃ s, e = .returned s ∧ BytesIn w' s 32 (byt zc) ∧ Below W.heap.size W w')
    (kM : ∀ O Z, Rep O 0 → Rep Z z → ∀ W, Calls Tryd.prog 45 #[.agg (i16 O).toArray, .agg (i16 Z).toArray] W fun e w' => ∃ R, e = .returned (.agg (i16 R).toArray) ∧ Rw R nz ∧ Below W.heap.size W w')
    (w : World) :
    Calls Tryd.prog 44 #[rV U, rV V] w fun e w' => ∃ R, e = .returned (.tuple #[rV R, .bool (b1 && !(b2 && !b3))]) ∧ Rw R (if (b1 && !(b2 && !b3)) = true then (if zc % 2 = 1 then nz else z) else 0) ∧ Below w.heap.size w w' := by
  have hz := zeroR
  obtain ⟨V1, g2, e1, hg2, c1, hU⟩ : ∃ V g, w.alloc (.cells (i16 U).toArray 36) = V ∧ w.heap.size = g ∧ Below w.heap.size w V ∧ RW V g 0 (i16 U) := ⟨_, _, rfl, rfl, (Below.refl _ _).alloc (Nat.le_refl _) _, RW.fresh w _ _⟩
  obtain ⟨V2, g3, e2, hg3, c2, hV⟩ : ∃ V' g, V1.alloc (.cells (i16 V).toArray 36) = V' ∧ V1.heap.size = g ∧ Below V1.heap.size V1 V' ∧ RW V' g 0 (i16 V) := ⟨_, _, rfl, rfl, (Below.refl _ _).alloc (Nat.le_refl _) _, RW.fresh V1 _ _⟩
  obtain ⟨W, g4, e3, hg4, c3, h4⟩ := freshR V2
  have t1 : V1.heap.size = w.heap.size + 1 := by rw [← e1]; simp
  have t2' : V2.heap.size = V1.heap.size + 1 := by rw [← e2]; simp
  have HW : Hid (W = ((w.alloc (.cells (i16 U).toArray 36)).alloc (.cells (i16 V).toArray 36)).alloc (.cells zI 36)) := Hid.mk' (by rw [← e3, ← e2, ← e1])
  have q2 : Hid (w.heap.size = g2) := Hid.mk' hg2
  have q3 : Hid (w.heap.size + 1 = g3) := Hid.mk' (by omega)
  have q4 : Hid (w.heap.size + 1 + 1 = g4) := Hid.mk' (by omega)
  replace hU := (hU.still c2).still c3
  replace hV := hV.still c3
  have hbW : Below w.heap.size w W := (c1.trans (c2.mono (by omega))).trans (c3.mono (by omega))
  have w4 : w.heap.size ≤ g4 := by omega
  have n24 : g2 ≠ g4 := by omega
  have n34 : g3 ≠ g4 := by omega
  clear e1 e2 e3 hg2 hg3 hg4 c1 c2 c3 t1 t2' V1 V2
  obtain ⟨ok, hok⟩ : ∃ ok, ok = (b1 && !(b2 && !b3)) := ⟨_, rfl⟩
  obtain ⟨res, hres⟩ : ∃ r, r = (if ok = true then (if zc % 2 = 1 then nz else z) else 0) := ⟨_, rfl⟩
  rw [← hok, ← hres]
  have Hok := Hid.mk' hok
  have Hres := Hid.mk' hres
  clear hok hres
  rw [show rV U = .agg (i16 U).toArray from rfl, show rV V = .agg (i16 V).toArray from rfl]
  go_enter Tryd.func44, Tryd.ntmps44
  go_upto_region 1 with (fail)
  rw [← HW.out, q4.out, q3.out, q2.out]
  clear HW q2 q3 q4
  go_cut [6] from 8 (fun s6 wc => ∃ g106 Q, s6 = .pointer (some ⟨g106, 0, none⟩) ∧ Rep Q q ∧ Below W.heap.size W wc ∧ W.heap.size ≤ g106 ∧ RW wc g106 0 (i16 Q))
  case first =>
    clear kP kF kT kS1 kO kS2 kS3 kB kM
    have hdrew : Below W.heap.size W W.drew := (Below.refl _ _).drew
    replace hU := hU.still hdrew
    replace hV := hV.still hdrew
    replace h4 := h4.still hdrew
    refine wp_region_noPanic ?_
    refine wp_region_held_drew (S := fun w' => Below W.drew.heap.size W.drew w') (by kernel_rfl) (Below.refl _ _) (fun hS => ?_)
    generalize W.drew = Vx1_ at *
    refine wpAnyH_take (i := 0) (oi := { dst := some 8, op := Op.load 36 (Operand.tmp 2), type := 36, pos := "ref.go:177", after := #[], guard := none }) (v := rV U) rfl (by kernel_rfl) (by kernel_rfl) (by kernel_rfl) (fun _ _ _ h => h) (yieldsIf_load_mid (by rfl) 36 _ rfl g2 0 rfl (i16 U) _ (fun _ h => (hU.still h).range) Tryd.underlying36 rfl (infoI _)) hS ?_
    (try simp only [Act.put, List.setIfInBounds_toArray, List.set_cons_zero, List.set_cons_succ])
    refine wpAnyH_take (i := 1) (oi := { dst := some 9, op := Op.load 36 (Operand.tmp 3), type := 36, pos := "ref.go:177", after := #[], guard := none }) (v := rV V) rfl (by kernel_rfl) (by kernel_rfl) (by kernel_rfl) (fun _ _ _ h => h) (yieldsIf_load_mid (by rfl) 36 _ rfl g3 0 rfl (i16 V) _ (fun _ h => (hV.still h).range) Tryd.underlying36 rfl (infoI _)) hS ?_
    (try simp only [Act.put, List.setIfInBounds_toArray, List.set_cons_zero, List.set_cons_succ])
    refine wpAnyH_ready (rs := [2, 4]) (by kernel_rfl) (by simp) ?_
    refine AllReadyH.cons (o := qx1x2) rfl (fun K hK => ?_) (AllReadyH.cons (o := qx1x4) rfl (fun K hK => ?_) (AllReadyH.nil))
    · unfold qx1x2
      go_simp
      (go_at_call 53; refine (kI _).mono ?_; rintro e wx1_1 ⟨R1, rfl, hR1, hbx1_1⟩)
      (try go_simp)
      have hSx1_1 := below_next hS hbx1_1
      refine hK.out _ _ hSx1_1 (fun h => ?_)
      clear h hK K hbx1_1
      (try simp only [Act.put, List.setIfInBounds_toArray, List.set_cons_zero, List.set_cons_succ])
      refine wpAnyH_ready (rs := [3, 4]) (by kernel_rfl) (by simp) ?_
      refine AllReadyH.cons (o := qx1x3) rfl (fun K hK => ?_) (AllReadyH.cons (o := qx1x4) rfl (fun K hK => ?_) (AllReadyH.nil))
      · unfold qx1x3
        go_simp
        (go_at_call 43; refine (kQ R1 hR1 _).mono ?_; rintro e wx1_2 ⟨Q, rfl, hQ, hbx1_2⟩)
        (try go_simp)
        have hSx1_2 := below_next hSx1_1 hbx1_2
        refine hK.out _ _ hSx1_2 (fun h => ?_)
        clear h hK K hbx1_2
        (try simp only [Act.put, List.setIfInBounds_toArray, List.set_cons_zero, List.set_cons_succ])
        refine wpAnyH_ready (rs := [4]) (by kernel_rfl) (by simp) ?_
        refine AllReadyH.cons (o := qx1x4) rfl (fun K hK => ?_) (AllReadyH.nil)
        unfold qx1x4
        go_simp
        obtain ⟨wx1_3, gx1_3, hwx1_3, hgx1_3, hbx1_3, rx1_3⟩ := freshR wx1_2
        rw [hwx1_3, hgx1_3]
        have hSx1_3 := below_next hSx1_2 hbx1_3
        have Gx1_3 : Vx1_.heap.size ≤ gx1_3 := by have := hSx1_2.size; omega
        refine hK.out _ _ hSx1_3 (fun h => ?_)
        clear h hK K hbx1_3 hwx1_3 hgx1_3
        (try simp only [Act.put, List.setIfInBounds_toArray, List.set_cons_zero, List.set_cons_succ])
        refine wpAnyH_ready (rs := [5]) (by kernel_rfl) (by simp) ?_
        refine AllReadyH.cons (o := qx1x5) rfl (fun K hK => ?_) (AllReadyH.nil)
        unfold qx1x5
        rw [if_pos (by rfl)]
        refine ref_store _ _ rfl gx1_3 (fun _ => 0) Q rfl rfl rx1_3 hSx1_3 Gx1_3 (fun wx1_4 r0 hSx1_4 => ?_)
        refine hK.out _ _ hSx1_4 (fun h => ?_)
        clear h hK K rx1_3
        have rx1_3 := r0
        clear r0
        (try dsimp only [Act.put])
        refine wpAnyH_done (by kernel_rfl) ?_ _
        refine NoPanic.normal ?_
        go_wp2
        go_meet
        case rel => exact ⟨gx1_3, Q, rfl, hQ, below_next hdrew hSx1_4, Nat.le_trans hdrew.size Gx1_3, rx1_3⟩
      · unfold qx1x4
        go_simp
        obtain ⟨wx1_5, gx1_5, hwx1_5, hgx1_5, hbx1_5, rx1_5⟩ := freshR wx1_1
        rw [hwx1_5, hgx1_5]
        have hSx1_5 := below_next hSx1_1 hbx1_5
        have Gx1_5 : Vx1_.heap.size ≤ gx1_5 := by have := hSx1_1.size; omega
        refine hK.out _ _ hSx1_5 (fun h => ?_)
        clear h hK K hbx1_5 hwx1_5 hgx1_5
        (try simp only [Act.put, List.setIfInBounds_toArray, List.set_cons_zero, List.set_cons_succ])
        refine wpAnyH_ready (rs := [3]) (by kernel_rfl) (by simp) ?_
        refine AllReadyH.cons (o := qx1x3) rfl (fun K hK => ?_) (AllReadyH.nil)
        unfold qx1x3
        go_simp
        (go_at_call 43; refine (kQ R1 hR1 _).mono ?_; rintro e wx1_6 ⟨Q, rfl, hQ, hbx1_6⟩)
        (try go_simp)
        have hSx1_6 := below_next hSx1_5 hbx1_6
        replace rx1_5 := rx1_5.still hbx1_6
        refine hK.out _ _ hSx1_6 (fun h => ?_)
        clear h hK K hbx1_6
        (try simp only [Act.put, List.setIfInBounds_toArray, List.set_cons_zero, List.set_cons_succ])
        refine wpAnyH_ready (rs := [5]) (by kernel_rfl) (by simp) ?_
        refine AllReadyH.cons (o := qx1x5) rfl (fun K hK => ?_) (AllReadyH.nil)
        unfold qx1x5
        rw [if_pos (by rfl)]
        refine ref_store _ _ rfl gx1_5 (fun _ => 0) Q rfl rfl rx1_5 hSx1_6 Gx1_5 (fun wx1_7 r0 hSx1_7 => ?_)
        refine hK.out _ _ hSx1_7 (fun h => ?_)
        clear h hK K rx1_5
        have rx1_5 := r0
        clear r0
        (try dsimp only [Act.put])
        refine wpAnyH_done (by kernel_rfl) ?_ _
        refine NoPanic.normal ?_
        go_wp2
        go_meet
        case rel => exact ⟨gx1_5, Q, rfl, hQ, below_next hdrew hSx1_7, Nat.le_trans hdrew.size Gx1_5, rx1_5⟩
    · unfold qx1x4
      go_simp
      obtain ⟨wx1_8, gx1_8, hwx1_8, hgx1_8, hbx1_8, rx1_8⟩ := freshR Vx1_
      rw [hwx1_8, hgx1_8]
      have hSx1_8 := below_next hS hbx1_8
      have Gx1_8 : Vx1_.heap.size ≤ gx1_8 := by have := hS.size; omega
      refine hK.out _ _ hSx1_8 (fun h => ?_)
      clear h hK K hbx1_8 hwx1_8 hgx1_8
      (try simp only [Act.put, List.setIfInBounds_toArray, List.set_cons_zero, List.set_cons_succ])
      refine wpAnyH_ready (rs := [2]) (by kernel_rfl) (by simp) ?_
      refine AllReadyH.cons (o := qx1x2) rfl (fun K hK => ?_) (AllReadyH.nil)
      unfold qx1x2
      go_simp
      (go_at_call 53; refine (kI _).mono ?_; rintro e wx1_9 ⟨R1, rfl, hR1, hbx1_9⟩)
      (try go_simp)
      have hSx1_9 := below_next hSx1_8 hbx1_9
      replace rx1_8 := rx1_8.still hbx1_9
      refine hK.out _ _ hSx1_9 (fun h => ?_)
      clear h hK K hbx1_9
      (try simp only [Act.put, List.setIfInBounds_toArray, List.set_cons_zero, List.set_cons_succ])
      refine wpAnyH_ready (rs := [3]) (by kernel_rfl) (by simp) ?_
      refine AllReadyH.cons (o := qx1x3) rfl (fun K hK => ?_) (AllReadyH.nil)
      unfold qx1x3
      go_simp
      (go_at_call 43; refine (kQ R1 hR1 _).mono ?_; rintro e wx1_10 ⟨Q, rfl, hQ, hbx1_10⟩)
      (try go_simp)
      have hSx1_10 := below_next hSx1_9 hbx1_10
      replace rx1_8 := rx1_8.still hbx1_10
      refine hK.out _ _ hSx1_10 (fun h => ?_)
      clear h hK K hbx1_10
      (try simp only [Act.put, List.setIfInBounds_toArray, List.set_cons_zero, List.set_cons_succ])
      refine wpAnyH_ready (rs := [5]) (by kernel_rfl) (by simp) ?_
      refine AllReadyH.cons (o := qx1x5) rfl (fun K hK => ?_) (AllReadyH.nil)
      unfold qx1x5
      rw [if_pos (by rfl)]
      refine ref_store _ _ rfl gx1_8 (fun _ => 0) Q rfl rfl rx1_8 hSx1_10 Gx1_8 (fun wx1_11 r0 hSx1_11 => ?_)
      refine hK.out _ _ hSx1_11 (fun h => ?_)
      clear h hK K rx1_8
      have rx1_8 := r0
      clear r0
      (try dsimp only [Act.put])
      refine wpAnyH_done (by kernel_rfl) ?_ _
      refine NoPanic.normal ?_
      go_wp2
      go_meet
      case rel => exact ⟨gx1_8, Q, rfl, hQ, below_next hdrew hSx1_11, Nat.le_trans hdrew.size Gx1_8, rx1_8⟩
  case rest =>
  obtain ⟨g106, Q, rfl, hQ, hb106, G106, h106⟩ := hcut
  have lt4 := h4.lt
  replace hU := hU.still hb106
  replace hV := hV.still hb106
  replace h4 := h4.still hb106
  obtain ⟨U1, hU1⟩ : ∃ W, W = wc := ⟨_, rfl⟩
  rw [← hU1]
  rw [← hU1] at hU hV h4 h106 hb106
  replace hbW : Below w.heap.size w U1 := below_next hbW hb106
  have n4_106 : g106 ≠ g4 := by omega
  clear hU1 hb106 G106 lt4
  go_upto_region 2 with (fail)
  go_cut [7] from 8 (fun s7 wc => ∃ g107 Y, s7 = .pointer (some ⟨g107, 0, none⟩) ∧ Rep Y y ∧ Below U1.heap.size U1 wc ∧ U1.heap.size ≤ g107 ∧ RW wc g107 0 (i16 Y))
  case first =>
    clear kI kQ kF kT kS1 kO kS2 kS3 kB kM
    have r1 := h106.range
    replace kP := kP Q hQ
    go_wp2_with (first
      | (refine wpList_load_mid rfl 36 _ rfl g106 0 rfl (i16 Q) _ r1 Tryd.underlying36 rfl (infoI Q) ?_)
      | (go_at_call 70; refine (kP _).mono ?_; clear kP r1; rintro e w9 ⟨Y, rfl, hY, hb9⟩; (have th := freshR' w9); (have th' := freshRt w9 Y))
      | (with_reducible (refine id (?_ : wpList _ _ _ _ _ _)); refine wpList_store_mid rfl 36 _ _ rfl w9.heap.size 0 (i16 Y).toArray rfl rfl th' (infoIA Y) (oneI Y) ?_))
    go_meet
    case rel => exact ⟨w9.heap.size, Y, rfl, hY, below_setCells hb9.size _ _ _ (hb9.alloc hb9.size _), hb9.size, th.stored (i16 Y) (by rw [i16_len, i16_len])⟩
  case rest =>
  obtain ⟨g107, Y, rfl, hY, hb107, G107, h107⟩ := hcut
  have lt4 := h4.lt
  have lt6 := h106.lt
  have lt2 := hU.lt
  have lt3 := hV.lt
  replace hU := hU.still hb107
  replace hV := hV.still hb107
  replace h4 := h4.still hb107
  replace h106 := h106.still hb107
  obtain ⟨U2, hU2⟩ : ∃ W, W = wc := ⟨_, rfl⟩
  rw [← hU2]
  rw [← hU2] at hU hV h4 h106 h107 hb107
  replace hbW : Below w.heap.size w U2 := below_next hbW hb107
  have n4_107 : g107 ≠ g4 := by omega
  have n67 : g106 ≠ g107 := by omega
  have n27 : g2 ≠ g107 := by omega
  have n37 : g3 ≠ g107 := by omega
  have w107 : w.heap.size ≤ g107 := Nat.le_trans (Nat.le_trans w4 (Nat.le_of_lt lt4)) G107
  clear lt6 lt2 lt3
  clear hU2 hb107 G107 lt4
  go_upto_region 3 with (fail)
  replace kF := kF Y Q hY hQ
  have r6 := h106.range
  have r7 := h107.range
  go_upto_region 4 with (first
    | (refine wpList_load_mid rfl 36 _ rfl g107 0 rfl (i16 Y) _ r7 Tryd.underlying36 rfl (infoI Y) ?_)
    | (refine wpList_load_mid rfl 36 _ rfl g106 0 rfl (i16 Q) _ r6 Tryd.underlying36 rfl (infoI Q) ?_)
    | (go_at_call 71; refine (kF _).mono ?_; clear kF r6 r7; rintro e w3 ⟨Z, rfl, hZ, hb3⟩; (replace hU := hU.still hb3); (replace hV := hV.still hb3); (replace h4 := h4.still hb3); (replace h106 := h106.still hb3); (replace h107 := h107.still hb3); (replace hbW := below_next hbW hb3); clear hb3; (have t7 : w3.there g107 0 (i16 Z).toArray.size := by have := h107.there; rw [i16_len] at this; rw [List.size_toArray, i16_len]; exact this); (obtain ⟨V3, hV3⟩ : ∃ V, V = w3.setCells g107 0 (i16 Z) := ⟨_, rfl⟩); (replace h107 := h107.stored (i16 Z) (by rw [i16_len, i16_len])); (replace hU := hU.far g107 0 (i16 Z) (.inl n27)); (replace hV := hV.far g107 0 (i16 Z) (.inl n37)); (replace h106 := h106.far g107 0 (i16 Z) (.inl n67)); (replace h4 := h4.far g107 0 (i16 Z) (.inl n4_107.symm)); (replace hbW := below_setCells w107 (i16 Z) 0 _ hbW); rw [← hV3] at h107 hU hV h106 h4 hbW; (have H3 := Hid.mk' hV3); clear hV3)
    | (with_reducible (refine id (?_ : wpList _ _ _ _ _ _)); refine wpList_store_mid rfl 36 _ _ rfl g107 0 (i16 Z).toArray rfl rfl t7 (infoIA Z) (oneI Z) ?_; rw [List.toList_toArray, ← H3.out]; clear t7 H3))
  (try dsimp only [Act.put])
  replace kT := kT Z hZ
  clear kI kQ kP hY
  go_cut [33] from 8 (fun s33 wc => s33 = .bool (!ok) ∧ Below V3.heap.size V3 wc)
  case first =>
    clear kB kM Hres
    cases b1 with
    | false =>
      have hdrew : Below V3.heap.size V3 V3.drew := (Below.refl _ _).drew
      replace hU := hU.still hdrew
      replace hV := hV.still hdrew
      replace h106 := h106.still hdrew
      replace h107 := h107.still hdrew
      refine wp_region_noPanic ?_
      refine wp_region_held_drew (S := fun w' => Below V3.drew.heap.size V3.drew w') (by kernel_rfl) (Below.refl _ _) (fun hS => ?_)
      generalize V3.drew = Vxa_ at *
      refine wpAnyH_take (i := 0) (oi := { dst := some 17, op := Op.load 36 (Operand.tmp 7), type := 36, pos := "ref.go:180", after := #[], guard := none }) (v := rV Z) rfl (by kernel_rfl) (by kernel_rfl) (by kernel_rfl) (fun _ _ _ h => h) (yieldsIf_load_mid (by rfl) 36 _ rfl g107 0 rfl (i16 Z) _ (fun _ h => (h107.still h).range) Tryd.underlying36 rfl (infoI _)) hS ?_
      (try simp only [Act.put, List.setIfInBounds_toArray, List.set_cons_zero, List.set_cons_succ])
      refine wpAnyH_take (i := 1) (oi := { dst := some 18, op := Op.load 36 (Operand.tmp 7), type := 36, pos := "ref.go:180", after := #[], guard := none }) (v := rV Z) rfl (by kernel_rfl) (by kernel_rfl) (by kernel_rfl) (fun _ _ _ h => h) (yieldsIf_load_mid (by rfl) 36 _ rfl g107 0 rfl (i16 Z) _ (fun _ h => (h107.still h).range) Tryd.underlying36 rfl (infoI _)) hS ?_
      (try simp only [Act.put, List.setIfInBounds_toArray, List.set_cons_zero, List.set_cons_succ])
      refine wpAnyH_take (i := 3) (oi := { dst := some 20, op := Op.load 36 (Operand.tmp 6), type := 36, pos := "ref.go:180", after := #[], guard := none }) (v := rV Q) rfl (by kernel_rfl) (by kernel_rfl) (by kernel_rfl) (fun _ _ _ h => h) (yieldsIf_load_mid (by rfl) 36 _ rfl g106 0 rfl (i16 Q) _ (fun _ h => (h106.still h).range) Tryd.underlying36 rfl (infoI _)) hS ?_
      (try simp only [Act.put, List.setIfInBounds_toArray, List.set_cons_zero, List.set_cons_succ])
      refine wpAnyH_ready (rs := [2]) (by kernel_rfl) (by simp) ?_
      refine AllReadyH.cons (o := qxax2) rfl (fun K hK => ?_) (AllReadyH.nil)
      unfold qxax2
      go_simp
      (go_at_call 43; refine (kT _).mono ?_; clear kT; rintro e wxa_1 ⟨R1, rfl, hR1, hbxa_1⟩; replace kS1 := kS1 R1 Q hR1 hQ)
      (try go_simp)
      have hSxa_1 := below_next hS hbxa_1
      refine hK.out _ _ hSxa_1 (fun h => ?_)
      clear h hK K hbxa_1
      (try simp only [Act.put, List.setIfInBounds_toArray, List.set_cons_zero, List.set_cons_succ])
      refine wpAnyH_ready (rs := [4]) (by kernel_rfl) (by simp) ?_
      refine AllReadyH.cons (o := qxax4) rfl (fun K hK => ?_) (AllReadyH.nil)
      unfold qxax4
      go_simp
      (go_at_call 47; refine (kS1 _).mono ?_; clear kS1; rintro e wxa_2 ⟨rfl, hbxa_2⟩)
      (try go_simp)
      have hSxa_2 := below_next hSxa_1 hbxa_2
      refine hK.out _ _ hSxa_2 (fun h => ?_)
      clear h hK K hbxa_2
      (try simp only [Act.put, List.setIfInBounds_toArray, List.set_cons_zero, List.set_cons_succ])
      refine wpAnyH_take (i := 5) (oi := { dst := some 22, op := Op.unOp UnOp.not 4 (Operand.tmp 21), type := 4, pos := "ref.go:180", after := #[{ on := 4, ground := Ground.data }], guard := none }) (v := ?vxa_3) rfl (by kernel_rfl) (by kernel_rfl) (by kernel_rfl) (fun _ _ _ h => h) (Or.inl ⟨by rfl, ?hxa_3⟩) hSxa_2 ?rxa_3
      case hxa_3 =>
        intro w hSw
        go_simp
        try with_reducible rfl
      (try simp only [Act.put, List.setIfInBounds_toArray, List.set_cons_zero, List.set_cons_succ])
      refine wpAnyH_take (i := 6) (oi := { dst := some 23, op := Op.move (Operand.tmp 22), type := 4, pos := "ref.go:180", after := #[{ on := 5, ground := Ground.data }, { on := 4, ground := Ground.chain }], guard := none }) (v := ?vxa_4) rfl (by kernel_rfl) (by kernel_rfl) (by kernel_rfl) (fun _ _ _ h => h) (Or.inl ⟨by rfl, ?hxa_4⟩) hSxa_2 ?rxa_4
      case hxa_4 =>
        intro w hSw
        go_simp
        try with_reducible rfl
      (try simp only [Act.put, List.setIfInBounds_toArray, List.set_cons_zero, List.set_cons_succ])
      refine wpAnyH_take (i := 7) (oi := { dst := some 24, op := Op.load 36 (Operand.tmp 3), type := 36, pos := "ref.go:180", after := #[{ on := 6, ground := Ground.guard }], guard := some (6, false) }) (v := undef) rfl (by kernel_rfl) (by kernel_rfl) (by kernel_rfl) (fun _ _ _ h => h) (Or.inr ⟨by rfl, rfl⟩) hSxa_2 ?_
      (try simp only [Act.put, List.setIfInBounds_toArray, List.set_cons_zero, List.set_cons_succ])
      refine wpAnyH_take (i := 8) (oi := { dst := some 25, op := Op.call { callee := Callee.value (Operand.func 42), args := #[Operand.const (Value.int IntKind.i64 0)], argTypes := #[3] }, type := 36, pos := "ref.go:180", after := #[{ on := 6, ground := Ground.chain }, { on := 6, ground := Ground.guard }], guard := some (6, false) }) (v := undef) rfl (by kernel_rfl) (by kernel_rfl) (by kernel_rfl) (fun _ _ _ h => h) (Or.inr ⟨by rfl, rfl⟩) hSxa_2 ?_
      (try simp only [Act.put, List.setIfInBounds_toArray, List.set_cons_zero, List.set_cons_succ])
      refine wpAnyH_take (i := 9) (oi := { dst := some 26, op := Op.call { callee := Callee.value (Operand.func 47), args := #[Operand.tmp 24, Operand.tmp 25], argTypes := #[36, 36] }, type := 4, pos := "ref.go:180", after := #[{ on := 7, ground := Ground.data }, { on := 8, ground := Ground.data }, { on := 8, ground := Ground.chain }, { on := 6, ground := Ground.guard }], guard := some (6, false) }) (v := undef) rfl (by kernel_rfl) (by kernel_rfl) (by kernel_rfl) (fun _ _ _ h => h) (Or.inr ⟨by rfl, rfl⟩) hSxa_2 ?_
      (try simp only [Act.put, List.setIfInBounds_toArray, List.set_cons_zero, List.set_cons_succ])
      refine wpAnyH_take (i := 10) (oi := { dst := some 27, op := Op.move (Operand.tmp 26), type := 4, pos := "ref.go:180", after := #[{ on := 9, ground := Ground.data }, { on := 9, ground := Ground.chain }, { on := 6, ground := Ground.guard }], guard := some (6, false) }) (v := undef) rfl (by kernel_rfl) (by kernel_rfl) (by kernel_rfl) (fun _ _ _ h => h) (Or.inr ⟨by rfl, rfl⟩) hSxa_2 ?_
      (try simp only [Act.put, List.setIfInBounds_toArray, List.set_cons_zero, List.set_cons_succ])
      refine wpAnyH_take (i := 11) (oi := { dst := some 28, op := Op.load 36 (Operand.tmp 2), type := 36, pos := "ref.go:180", after := #[{ on := 10, ground := Ground.guard }], guard := some (10, true) }) (v := undef) rfl (by kernel_rfl) (by kernel_rfl) (by kernel_rfl) (fun _ _ _ h => h) (Or.inr ⟨by rfl, rfl⟩) hSxa_2 ?_
      (try simp only [Act.put, List.setIfInBounds_toArray, List.set_cons_zero, List.set_cons_succ])
      refine wpAnyH_take (i := 12) (oi := { dst := some 29, op := Op.call { callee := Callee.value (Operand.func 42), args := #[Operand.const (Value.int IntKind.i64 0)], argTypes := #[3] }, type := 36, pos := "ref.go:180", after := #[{ on := 10, ground := Ground.chain }, { on := 10, ground := Ground.guard }], guard := some (10, true) }) (v := undef) rfl (by kernel_rfl) (by kernel_rfl) (by kernel_rfl) (fun _ _ _ h => h) (Or.inr ⟨by rfl, rfl⟩) hSxa_2 ?_
      (try simp only [Act.put, List.setIfInBounds_toArray, List.set_cons_zero, List.set_cons_succ])
      refine wpAnyH_take (i := 13) (oi := { dst := some 30, op := Op.call { callee := Callee.value (Operand.func 47), args := #[Operand.tmp 28, Operand.tmp 29], argTypes := #[36, 36] }, type := 4, pos := "ref.go:180", after := #[{ on := 11, ground := Ground.data }, { on := 12, ground := Ground.data }, { on := 12, ground := Ground.chain }, { on := 10, ground := Ground.guard }], guard := some (10, true) }) (v := undef) rfl (by kernel_rfl) (by kernel_rfl) (by kernel_rfl) (fun _ _ _ h => h) (Or.inr ⟨by rfl, rfl⟩) hSxa_2 ?_
      (try simp only [Act.put, List.setIfInBounds_toArray, List.set_cons_zero, List.set_cons_succ])
      refine wpAnyH_take (i := 14) (oi := { dst := some 31, op := Op.unOp UnOp.not 4 (Operand.tmp 30), type := 4, pos := "ref.go:180", after := #[{ on := 13, ground := Ground.data }, { on := 10, ground := Ground.guard }], guard := some (10, true) }) (v := undef) rfl (by kernel_rfl) (by kernel_rfl) (by kernel_rfl) (fun _ _ _ h => h) (Or.inr ⟨by rfl, rfl⟩) hSxa_2 ?_
      (try simp only [Act.put, List.setIfInBounds_toArray, List.set_cons_zero, List.set_cons_succ])
      refine wpAnyH_take (i := 15) (oi := { dst := some 32, op := Op.pick (Operand.tmp 27) (Operand.tmp 31) (Operand.const (Value.bool false)), type := 4, pos := "ref.go:180", after := #[{ on := 10, ground := Ground.data }, { on := 14, ground := Ground.data }, { on := 6, ground := Ground.guard }], guard := some (6, false) }) (v := undef) rfl (by kernel_rfl) (by kernel_rfl) (by kernel_rfl) (fun _ _ _ h => h) (Or.inr ⟨by rfl, rfl⟩) hSxa_2 ?_
      (try simp only [Act.put, List.setIfInBounds_toArray, List.set_cons_zero, List.set_cons_succ])
      refine wpAnyH_take (i := 16) (oi := { dst := some 33, op := Op.pick (Operand.tmp 23) (Operand.const (Value.bool true)) (Operand.tmp 32), type := 4, pos := "ref.go:180", after := #[{ on := 6, ground := Ground.data }, { on := 15, ground := Ground.data }], guard := none }) (v := ?vxa_5) rfl (by kernel_rfl) (by kernel_rfl) (by kernel_rfl) (fun _ _ _ h => h) (Or.inl ⟨by rfl, ?hxa_5⟩) hSxa_2 ?rxa_5
      case hxa_5 =>
        intro w hSw
        go_simp
        try with_reducible rfl
      (try simp only [Act.put, List.setIfInBounds_toArray, List.set_cons_zero, List.set_cons_succ])
      refine wpAnyH_done (by kernel_rfl) ?_ _
      refine NoPanic.normal ?_
      go_wp2
      go_meet
      case rel => exact ⟨by rw [Hok.out]; rfl, below_next hdrew hSxa_2⟩
    | true =>
      cases b2 with
      | false =>
        have hdrew : Below V3.heap.size V3 V3.drew := (Below.refl _ _).drew
        replace hU := hU.still hdrew
        replace hV := hV.still hdrew
        replace h106 := h106.still hdrew
        replace h107 := h107.still hdrew
        refine wp_region_noPanic ?_
        refine wp_region_held_drew (S := fun w' => Below V3.drew.heap.size V3.drew w') (by kernel_rfl) (Below.refl _ _) (fun hS => ?_)
        generalize V3.drew = Vxb_ at *
        refine wpAnyH_take (i := 0) (oi := { dst := some 17, op := Op.load 36 (Operand.tmp 7), type := 36, pos := "ref.go:180", after := #[], guard := none }) (v := rV Z) rfl (by kernel_rfl) (by kernel_rfl) (by kernel_rfl) (fun _ _ _ h => h) (yieldsIf_load_mid (by rfl) 36 _ rfl g107 0 rfl (i16 Z) _ (fun _ h => (h107.still h).range) Tryd.underlying36 rfl (infoI _)) hS ?_
        (try simp only [Act.put, List.setIfInBounds_toArray, List.set_cons_zero, List.set_cons_succ])
        refine wpAnyH_take (i := 1) (oi := { dst := some 18, op := Op.load 36 (Operand.tmp 7), type := 36, pos := "ref.go:180", after := #[], guard := none }) (v := rV Z) rfl (by kernel_rfl) (by kernel_rfl) (by kernel_rfl) (fun _ _ _ h => h) (yieldsIf_load_mid (by rfl) 36 _ rfl g107 0 rfl (i16 Z) _ (fun _ h => (h107.still h).range) Tryd.underlying36 rfl (infoI _)) hS ?_
        (try simp only [Act.put, List.setIfInBounds_toArray, List.set_cons_zero, List.set_cons_succ])
        refine wpAnyH_take (i := 3) (oi := { dst := some 20, op := Op.load 36 (Operand.tmp 6), type := 36, pos := "ref.go:180", after := #[], guard := none }) (v := rV Q) rfl (by kernel_rfl) (by kernel_rfl) (by kernel_rfl) (fun _ _ _ h => h) (yieldsIf_load_mid (by rfl) 36 _ rfl g106 0 rfl (i16 Q) _ (fun _ h => (h106.still h).range) Tryd.underlying36 rfl (infoI _)) hS ?_
        (try simp only [Act.put, List.setIfInBounds_toArray, List.set_cons_zero, List.set_cons_succ])
        refine wpAnyH_ready (rs := [2]) (by kernel_rfl) (by simp) ?_
        refine AllReadyH.cons (o := qxbx2) rfl (fun K hK => ?_) (AllReadyH.nil)
        unfold qxbx2
        go_simp
        (go_at_call 43; refine (kT _).mono ?_; clear kT; rintro e wxb_1 ⟨R1, rfl, hR1, hbxb_1⟩; replace kS1 := kS1 R1 Q hR1 hQ)
        (try go_simp)
        have hSxb_1 := below_next hS hbxb_1
        refine hK.out _ _ hSxb_1 (fun h => ?_)
        clear h hK K hbxb_1
        (try simp only [Act.put, List.setIfInBounds_toArray, List.set_cons_zero, List.set_cons_succ])
        refine wpAnyH_ready (rs := [4]) (by kernel_rfl) (by simp) ?_
        refine AllReadyH.cons (o := qxbx4) rfl (fun K hK => ?_) (AllReadyH.nil)
        unfold qxbx4
        go_simp
        (go_at_call 47; refine (kS1 _).mono ?_; clear kS1; rintro e wxb_2 ⟨rfl, hbxb_2⟩)
        (try go_simp)
        have hSxb_2 := below_next hSxb_1 hbxb_2
        refine hK.out _ _ hSxb_2 (fun h => ?_)
        clear h hK K hbxb_2
        (try simp only [Act.put, List.setIfInBounds_toArray, List.set_cons_zero, List.set_cons_succ])
        refine wpAnyH_take (i := 5) (oi := { dst := some 22, op := Op.unOp UnOp.not 4 (Operand.tmp 21), type := 4, pos := "ref.go:180", after := #[{ on := 4, ground := Ground.data }], guard := none }) (v := ?vxb_3) rfl (by kernel_rfl) (by kernel_rfl) (by kernel_rfl) (fun _ _ _ h => h) (Or.inl ⟨by rfl, ?hxb_3⟩) hSxb_2 ?rxb_3
        case hxb_3 =>
          intro w hSw
          go_simp
          try with_reducible rfl
        (try simp only [Act.put, List.setIfInBounds_toArray, List.set_cons_zero, List.set_cons_succ])
        refine wpAnyH_take (i := 6) (oi := { dst := some 23, op := Op.move (Operand.tmp 22), type := 4, pos := "ref.go:180", after := #[{ on := 5, ground := Ground.data }, { on := 4, ground := Ground.chain }], guard := none }) (v := ?vxb_4) rfl (by kernel_rfl) (by kernel_rfl) (by kernel_rfl) (fun _ _ _ h => h) (Or.inl ⟨by rfl, ?hxb_4⟩) hSxb_2 ?rxb_4
        case hxb_4 =>
          intro w hSw
          go_simp
          try with_reducible rfl
        (try simp only [Act.put, List.setIfInBounds_toArray, List.set_cons_zero, List.set_cons_succ])
        refine wpAnyH_take (i := 7) (oi := { dst := some 24, op := Op.load 36 (Operand.tmp 3), type := 36, pos := "ref.go:180", after := #[{ on := 6, ground := Ground.guard }], guard := some (6, false) }) (v := rV V) rfl (by kernel_rfl) (by kernel_rfl) (by kernel_rfl) (fun _ _ _ h => h) (yieldsIf_load_mid (by rfl) 36 _ rfl g3 0 rfl (i16 V) _ (fun _ h => (hV.still h).range) Tryd.underlying36 rfl (infoI _)) hSxb_2 ?_
        (try simp only [Act.put, List.setIfInBounds_toArray, List.set_cons_zero, List.set_cons_succ])
        refine wpAnyH_ready (rs := [8]) (by kernel_rfl) (by simp) ?_
        refine AllReadyH.cons (o := qxbx8) rfl (fun K hK => ?_) (AllReadyH.nil)
        unfold qxbx8
        go_simp
        (go_at_call 42; refine (kO _).mono ?_; rintro e wxb_5 ⟨O1, rfl, hO1, hbxb_5⟩)
        (try go_simp)
        have hSxb_5 := below_next hSxb_2 hbxb_5
        refine hK.out _ _ hSxb_5 (fun h => ?_)
        clear h hK K hbxb_5
        (try simp only [Act.put, List.setIfInBounds_toArray, List.set_cons_zero, List.set_cons_succ])
        refine wpAnyH_ready (rs := [9]) (by kernel_rfl) (by simp) ?_
        refine AllReadyH.cons (o := qxbx9) rfl (fun K hK => ?_) (AllReadyH.nil)
        unfold qxbx9
        go_simp
        (go_at_call 47; refine (kS2 O1 hO1 _).mono ?_; clear kS2; rintro e wxb_6 ⟨rfl, hbxb_6⟩)
        (try go_simp)
        have hSxb_6 := below_next hSxb_5 hbxb_6
        refine hK.out _ _ hSxb_6 (fun h => ?_)
        clear h hK K hbxb_6
        (try simp only [Act.put, List.setIfInBounds_toArray, List.set_cons_zero, List.set_cons_succ])
        refine wpAnyH_take (i := 10) (oi := { dst := some 27, op := Op.move (Operand.tmp 26), type := 4, pos := "ref.go:180", after := #[{ on := 9, ground := Ground.data }, { on := 9, ground := Ground.chain }, { on := 6, ground := Ground.guard }], guard := some (6, false) }) (v := ?vxb_7) rfl (by kernel_rfl) (by kernel_rfl) (by kernel_rfl) (fun _ _ _ h => h) (Or.inl ⟨by rfl, ?hxb_7⟩) hSxb_6 ?rxb_7
        case hxb_7 =>
          intro w hSw
          go_simp
          try with_reducible rfl
        (try simp only [Act.put, List.setIfInBounds_toArray, List.set_cons_zero, List.set_cons_succ])
        refine wpAnyH_take (i := 11) (oi := { dst := some 28, op := Op.load 36 (Operand.tmp 2), type := 36, pos := "ref.go:180", after := #[{ on := 10, ground := Ground.guard }], guard := some (10, true) }) (v := undef) rfl (by kernel_rfl) (by kernel_rfl) (by kernel_rfl) (fun _ _ _ h => h) (Or.inr ⟨by rfl, rfl⟩) hSxb_6 ?_
        (try simp only [Act.put, List.setIfInBounds_toArray, List.set_cons_zero, List.set_cons_succ])
        refine wpAnyH_take (i := 12) (oi := { dst := some 29, op := Op.call { callee := Callee.value (Operand.func 42), args := #[Operand.const (Value.int IntKind.i64 0)], argTypes := #[3] }, type := 36, pos := "ref.go:180", after := #[{ on := 10, ground := Ground.chain }, { on := 10, ground := Ground.guard }], guard := some (10, true) }) (v := undef) rfl (by kernel_rfl) (by kernel_rfl) (by kernel_rfl) (fun _ _ _ h => h) (Or.inr ⟨by rfl, rfl⟩) hSxb_6 ?_
        (try simp only [Act.put, List.setIfInBounds_toArray, List.set_cons_zero, List.set_cons_succ])
        refine wpAnyH_take (i := 13) (oi := { dst := some 30, op := Op.call { callee := Callee.value (Operand.func 47), args := #[Operand.tmp 28, Operand.tmp 29], argTypes := #[36, 36] }, type := 4, pos := "ref.go:180", after := #[{ on := 11, ground := Ground.data }, { on := 12, ground := Ground.data }, { on := 12, ground := Ground.chain }, { on := 10, ground := Ground.guard }], guard := some (10, true) }) (v := undef) rfl (by kernel_rfl) (by kernel_rfl) (by kernel_rfl) (fun _ _ _ h => h) (Or.inr ⟨by rfl, rfl⟩) hSxb_6 ?_
        (try simp only [Act.put, List.setIfInBounds_toArray, List.set_cons_zero, List.set_cons_succ])
        refine wpAnyH_take (i := 14) (oi := { dst := some 31, op := Op.unOp UnOp.not 4 (Operand.tmp 30), type := 4, pos := "ref.go:180", after := #[{ on := 13, ground := Ground.data }, { on := 10, ground := Ground.guard }], guard := some (10, true) }) (v := undef) rfl (by kernel_rfl) (by kernel_rfl) (by kernel_rfl) (fun _ _ _ h => h) (Or.inr ⟨by rfl, rfl⟩) hSxb_6 ?_
        (try simp only [Act.put, List.setIfInBounds_toArray, List.set_cons_zero, List.set_cons_succ])
        refine wpAnyH_take (i := 15) (oi := { dst := some 32, op := Op.pick (Operand.tmp 27) (Operand.tmp 31) (Operand.const (Value.bool false)), type := 4, pos := "ref.go:180", after := #[{ on := 10, ground := Ground.data }, { on := 14, ground := Ground.data }, { on := 6, ground := Ground.guard }], guard := some (6, false) }) (v := ?vxb_8) rfl (by kernel_rfl) (by kernel_rfl) (by kernel_rfl) (fun _ _ _ h => h) (Or.inl ⟨by rfl, ?hxb_8⟩) hSxb_6 ?rxb_8
        case hxb_8 =>
          intro w hSw
          go_simp
          try with_reducible rfl
        (try simp only [Act.put, List.setIfInBounds_toArray, List.set_cons_zero, List.set_cons_succ])
        refine wpAnyH_take (i := 16) (oi := { dst := some 33, op := Op.pick (Operand.tmp 23) (Operand.const (Value.bool true)) (Operand.tmp 32), type := 4, pos := "ref.go:180", after := #[{ on := 6, ground := Ground.data }, { on := 15, ground := Ground.data }], guard := none }) (v := ?vxb_9) rfl (by kernel_rfl) (by kernel_rfl) (by kernel_rfl) (fun _ _ _ h => h) (Or.inl ⟨by rfl, ?hxb_9⟩) hSxb_6 ?rxb_9
        case hxb_9 =>
          intro w hSw
          go_simp
          try with_reducible rfl
        (try simp only [Act.put, List.setIfInBounds_toArray, List.set_cons_zero, List.set_cons_succ])
        refine wpAnyH_done (by kernel_rfl) ?_ _
        refine NoPanic.normal ?_
        go_wp2
        go_meet
        case rel => exact ⟨by rw [Hok.out]; rfl, below_next hdrew hSxb_6⟩
      | true =>
        cases b3 with
        | false =>
          have hdrew : Below V3.heap.size V3 V3.drew := (Below.refl _ _).drew
          replace hU := hU.still hdrew
          replace hV := hV.still hdrew
          replace h106 := h106.still hdrew
          replace h107 := h107.still hdrew
          refine wp_region_noPanic ?_
          refine wp_region_held_drew (S := fun w' => Below V3.drew.heap.size V3.drew w') (by kernel_rfl) (Below.refl _ _) (fun hS => ?_)
          generalize V3.drew = Vxc_ at *
          refine wpAnyH_take (i := 0) (oi := { dst := some 17, op := Op.load 36 (Operand.tmp 7), type := 36, pos := "ref.go:180", after := #[], guard := none }) (v := rV Z) rfl (by kernel_rfl) (by kernel_rfl) (by kernel_rfl) (fun _ _ _ h => h) (yieldsIf_load_mid (by rfl) 36 _ rfl g107 0 rfl (i16 Z) _ (fun _ h => (h107.still h).range) Tryd.underlying36 rfl (infoI _)) hS ?_
          (try simp only [Act.put, List.setIfInBounds_toArray, List.set_cons_zero, List.set_cons_succ])
          refine wpAnyH_take (i := 1) (oi := { dst := some 18, op := Op.load 36 (Operand.tmp 7), type := 36, pos := "ref.go:180", after := #[], guard := none }) (v := rV Z) rfl (by kernel_rfl) (by kernel_rfl) (by kernel_rfl) (fun _ _ _ h => h) (yieldsIf_load_mid (by rfl) 36 _ rfl g107 0 rfl (i16 Z) _ (fun _ h => (h107.still h).range) Tryd.underlying36 rfl (infoI _)) hS ?_
          (try simp only [Act.put, List.setIfInBounds_toArray, List.set_cons_zero, List.set_cons_succ])
          refine wpAnyH_take (i := 3) (oi := { dst := some 20, op := Op.load 36 (Operand.tmp 6), type := 36, pos := "ref.go:180", after := #[], guard := none }) (v := rV Q) rfl (by kernel_rfl) (by kernel_rfl) (by kernel_rfl) (fun _ _ _ h => h) (yieldsIf_load_mid (by rfl) 36 _ rfl g106 0 rfl (i16 Q) _ (fun _ h => (h106.still h).range) Tryd.underlying36 rfl (infoI _)) hS ?_
          (try simp only [Act.put, List.setIfInBounds_toArray, List.set_cons_zero, List.set_cons_succ])
          refine wpAnyH_ready (rs := [2]) (by kernel_rfl) (by simp) ?_
          refine AllReadyH.cons (o := qxcx2) rfl (fun K hK => ?_) (AllReadyH.nil)
          unfold qxcx2
          go_simp
          (go_at_call 43; refine (kT _).mono ?_; clear kT; rintro e wxc_1 ⟨R1, rfl, hR1, hbxc_1⟩; replace kS1 := kS1 R1 Q hR1 hQ)
          (try go_simp)
          have hSxc_1 := below_next hS hbxc_1
          refine hK.out _ _ hSxc_1 (fun h => ?_)
          clear h hK K hbxc_1
          (try simp only [Act.put, List.setIfInBounds_toArray, List.set_cons_zero, List.set_cons_succ])
          refine wpAnyH_ready (rs := [4]) (by kernel_rfl) (by simp) ?_
          refine AllReadyH.cons (o := qxcx4) rfl (fun K hK => ?_) (AllReadyH.nil)
          unfold qxcx4
          go_simp
          (go_at_call 47; refine (kS1 _).mono ?_; clear kS1; rintro e wxc_2 ⟨rfl, hbxc_2⟩)
          (try go_simp)
          have hSxc_2 := below_next hSxc_1 hbxc_2
          refine hK.out _ _ hSxc_2 (fun h => ?_)
          clear h hK K hbxc_2
          (try simp only [Act.put, List.setIfInBounds_toArray, List.set_cons_zero, List.set_cons_succ])
          refine wpAnyH_take (i := 5) (oi := { dst := some 22, op := Op.unOp UnOp.not 4 (Operand.tmp 21), type := 4, pos := "ref.go:180", after := #[{ on := 4, ground := Ground.data }], guard := none }) (v := ?vxc_3) rfl (by kernel_rfl) (by kernel_rfl) (by kernel_rfl) (fun _ _ _ h => h) (Or.inl ⟨by rfl, ?hxc_3⟩) hSxc_2 ?rxc_3
          case hxc_3 =>
            intro w hSw
            go_simp
            try with_reducible rfl
          (try simp only [Act.put, List.setIfInBounds_toArray, List.set_cons_zero, List.set_cons_succ])
          refine wpAnyH_take (i := 6) (oi := { dst := some 23, op := Op.move (Operand.tmp 22), type := 4, pos := "ref.go:180", after := #[{ on := 5, ground := Ground.data }, { on := 4, ground := Ground.chain }], guard := none }) (v := ?vxc_4) rfl (by kernel_rfl) (by kernel_rfl) (by kernel_rfl) (fun _ _ _ h => h) (Or.inl ⟨by rfl, ?hxc_4⟩) hSxc_2 ?rxc_4
          case hxc_4 =>
            intro w hSw
            go_simp
            try with_reducible rfl
          (try simp only [Act.put, List.setIfInBounds_toArray, List.set_cons_zero, List.set_cons_succ])
          refine wpAnyH_take (i := 7) (oi := { dst := some 24, op := Op.load 36 (Operand.tmp 3), type := 36, pos := "ref.go:180", after := #[{ on := 6, ground := Ground.guard }], guard := some (6, false) }) (v := rV V) rfl (by kernel_rfl) (by kernel_rfl) (by kernel_rfl) (fun _ _ _ h => h) (yieldsIf_load_mid (by rfl) 36 _ rfl g3 0 rfl (i16 V) _ (fun _ h => (hV.still h).range) Tryd.underlying36 rfl (infoI _)) hSxc_2 ?_
          (try simp only [Act.put, List.setIfInBounds_toArray, List.set_cons_zero, List.set_cons_succ])
          refine wpAnyH_ready (rs := [8]) (by kernel_rfl) (by simp) ?_
          refine AllReadyH.cons (o := qxcx8) rfl (fun K hK => ?_) (AllReadyH.nil)
          unfold qxcx8
          go_simp
          (go_at_call 42; refine (kO _).mono ?_; rintro e wxc_5 ⟨O1, rfl, hO1, hbxc_5⟩)
          (try go_simp)
          have hSxc_5 := below_next hSxc_2 hbxc_5
          refine hK.out _ _ hSxc_5 (fun h => ?_)
          clear h hK K hbxc_5
          (try simp only [Act.put, List.setIfInBounds_toArray, List.set_cons_zero, List.set_cons_succ])
          refine wpAnyH_ready (rs := [9]) (by kernel_rfl) (by simp) ?_
          refine AllReadyH.cons (o := qxcx9) rfl (fun K hK => ?_) (AllReadyH.nil)
          unfold qxcx9
          go_simp
          (go_at_call 47; refine (kS2 O1 hO1 _).mono ?_; clear kS2; rintro e wxc_6 ⟨rfl, hbxc_6⟩)
          (try go_simp)
          have hSxc_6 := below_next hSxc_5 hbxc_6
          refine hK.out _ _ hSxc_6 (fun h => ?_)
          clear h hK K hbxc_6
          (try simp only [Act.put, List.setIfInBounds_toArray, List.set_cons_zero, List.set_cons_succ])
          refine wpAnyH_take (i := 10) (oi := { dst := some 27, op := Op.move (Operand.tmp 26), type := 4, pos := "ref.go:180", after := #[{ on := 9, ground := Ground.data }, { on := 9, ground := Ground.chain }, { on := 6, ground := Ground.guard }], guard := some (6, false) }) (v := ?vxc_7) rfl (by kernel_rfl) (by kernel_rfl) (by kernel_rfl) (fun _ _ _ h => h) (Or.inl ⟨by rfl, ?hxc_7⟩) hSxc_6 ?rxc_7
          case hxc_7 =>
            intro w hSw
            go_simp
            try with_reducible rfl
          (try simp only [Act.put, List.setIfInBounds_toArray, List.set_cons_zero, List.set_cons_succ])
          refine wpAnyH_take (i := 11) (oi := { dst := some 28, op := Op.load 36 (Operand.tmp 2), type := 36, pos := "ref.go:180", after := #[{ on := 10, ground := Ground.guard }], guard := some (10, true) }) (v := rV U) rfl (by kernel_rfl) (by kernel_rfl) (by kernel_rfl) (fun _ _ _ h => h) (yieldsIf_load_mid (by rfl) 36 _ rfl g2 0 rfl (i16 U) _ (fun _ h => (hU.still h).range) Tryd.underlying36 rfl (infoI _)) hSxc_6 ?_
          (try simp only [Act.put, List.setIfInBounds_toArray, List.set_cons_zero, List.set_cons_succ])
          refine wpAnyH_ready (rs := [12]) (by kernel_rfl) (by simp) ?_
          refine AllReadyH.cons (o := qxcx12) rfl (fun K hK => ?_) (AllReadyH.nil)
          unfold qxcx12
          go_simp
          (go_at_call 42; refine (kO _).mono ?_; rintro e wxc_8 ⟨O2, rfl, hO2, hbxc_8⟩)
          (try go_simp)
          have hSxc_8 := below_next hSxc_6 hbxc_8
          refine hK.out _ _ hSxc_8 (fun h => ?_)
          clear h hK K hbxc_8
          (try simp only [Act.put, List.setIfInBounds_toArray, List.set_cons_zero, List.set_cons_succ])
          refine wpAnyH_ready (rs := [13]) (by kernel_rfl) (by simp) ?_
          refine AllReadyH.cons (o := qxcx13) rfl (fun K hK => ?_) (AllReadyH.nil)
          unfold qxcx13
          go_simp
          (go_at_call 47; refine (kS3 O2 hO2 _).mono ?_; clear kS3; rintro e wxc_9 ⟨rfl, hbxc_9⟩)
          (try go_simp)
          have hSxc_9 := below_next hSxc_8 hbxc_9
          refine hK.out _ _ hSxc_9 (fun h => ?_)
          clear h hK K hbxc_9
          (try simp only [Act.put, List.setIfInBounds_toArray, List.set_cons_zero, List.set_cons_succ])
          refine wpAnyH_take (i := 14) (oi := { dst := some 31, op := Op.unOp UnOp.not 4 (Operand.tmp 30), type := 4, pos := "ref.go:180", after := #[{ on := 13, ground := Ground.data }, { on := 10, ground := Ground.guard }], guard := some (10, true) }) (v := ?vxc_10) rfl (by kernel_rfl) (by kernel_rfl) (by kernel_rfl) (fun _ _ _ h => h) (Or.inl ⟨by rfl, ?hxc_10⟩) hSxc_9 ?rxc_10
          case hxc_10 =>
            intro w hSw
            go_simp
            try with_reducible rfl
          (try simp only [Act.put, List.setIfInBounds_toArray, List.set_cons_zero, List.set_cons_succ])
          refine wpAnyH_take (i := 15) (oi := { dst := some 32, op := Op.pick (Operand.tmp 27) (Operand.tmp 31) (Operand.const (Value.bool false)), type := 4, pos := "ref.go:180", after := #[{ on := 10, ground := Ground.data }, { on := 14, ground := Ground.data }, { on := 6, ground := Ground.guard }], guard := some (6, false) }) (v := ?vxc_11) rfl (by kernel_rfl) (by kernel_rfl) (by kernel_rfl) (fun _ _ _ h => h) (Or.inl ⟨by rfl, ?hxc_11⟩) hSxc_9 ?rxc_11
          case hxc_11 =>
            intro w hSw
            go_simp
            try with_reducible rfl
          (try simp only [Act.put, List.setIfInBounds_toArray, List.set_cons_zero, List.set_cons_succ])
          refine wpAnyH_take (i := 16) (oi := { dst := some 33, op := Op.pick (Operand.tmp 23) (Operand.const (Value.bool true)) (Operand.tmp 32), type := 4, pos := "ref.go:180", after := #[{ on := 6, ground := Ground.data }, { on := 15, ground := Ground.data }], guard := none }) (v := ?vxc_12) rfl (by kernel_rfl) (by kernel_rfl) (by kernel_rfl) (fun _ _ _ h => h) (Or.inl ⟨by rfl, ?hxc_12⟩) hSxc_9 ?rxc_12
          case hxc_12 =>
            intro w hSw
            go_simp
            try with_reducible rfl
          (try simp only [Act.put, List.setIfInBounds_toArray, List.set_cons_zero, List.set_cons_succ])
          refine wpAnyH_done (by kernel_rfl) ?_ _
          refine NoPanic.normal ?_
          go_wp2
          go_meet
          case rel => exact ⟨by rw [Hok.out]; rfl, below_next hdrew hSxc_9⟩
        | true =>
          have hdrew : Below V3.heap.size V3 V3.drew := (Below.refl _ _).drew
          replace hU := hU.still hdrew
          replace hV := hV.still hdrew
          replace h106 := h106.still hdrew
          replace h107 := h107.still hdrew
          refine wp_region_noPanic ?_
          refine wp_region_held_drew (S := fun w' => Below V3.drew.heap.size V3.drew w') (by kernel_rfl) (Below.refl _ _) (fun hS => ?_)
          generalize V3.drew = Vxd_ at *
          refine wpAnyH_take (i := 0) (oi := { dst := some 17, op := Op.load 36 (Operand.tmp 7), type := 36, pos := "ref.go:180", after := #[], guard := none }) (v := rV Z) rfl (by kernel_rfl) (by kernel_rfl) (by kernel_rfl) (fun _ _ _ h => h) (yieldsIf_load_mid (by rfl) 36 _ rfl g107 0 rfl (i16 Z) _ (fun _ h => (h107.still h).range) Tryd.underlying36 rfl (infoI _)) hS ?_
          (try simp only [Act.put, List.setIfInBounds_toArray, List.set_cons_zero, List.set_cons_succ])
          refine wpAnyH_take (i := 1) (oi := { dst := some 18, op := Op.load 36 (Operand.tmp 7), type := 36, pos := "ref.go:180", after := #[], guard := none }) (v := rV Z) rfl (by kernel_rfl) (by kernel_rfl) (by kernel_rfl) (fun _ _ _ h => h) (yieldsIf_load_mid (by rfl) 36 _ rfl g107 0 rfl (i16 Z) _ (fun _ h => (h107.still h).range) Tryd.underlying36 rfl (infoI _)) hS ?_
          (try simp only [Act.put, List.setIfInBounds_toArray, List.set_cons_zero, List.set_cons_succ])
          refine wpAnyH_take (i := 3) (oi := { dst := some 20, op := Op.load 36 (Operand.tmp 6), type := 36, pos := "ref.go:180", after := #[], guard := none }) (v := rV Q) rfl (by kernel_rfl) (by kernel_rfl) (by kernel_rfl) (fun _ _ _ h => h) (yieldsIf_load_mid (by rfl) 36 _ rfl g106 0 rfl (i16 Q) _ (fun _ h => (h106.still h).range) Tryd.underlying36 rfl (infoI _)) hS ?_
          (try simp only [Act.put, List.setIfInBounds_toArray, List.set_cons_zero, List.set_cons_succ])
          refine wpAnyH_ready (rs := [2]) (by kernel_rfl) (by simp) ?_
          refine AllReadyH.cons (o := qxdx2) rfl (fun K hK => ?_) (AllReadyH.nil)
          unfold qxdx2
          go_simp
          (go_at_call 43; refine (kT _).mono ?_; clear kT; rintro e wxd_1 ⟨R1, rfl, hR1, hbxd_1⟩; replace kS1 := kS1 R1 Q hR1 hQ)
          (try go_simp)
          have hSxd_1 := below_next hS hbxd_1
          refine hK.out _ _ hSxd_1 (fun h => ?_)
          clear h hK K hbxd_1
          (try simp only [Act.put, List.setIfInBounds_toArray, List.set_cons_zero, List.set_cons_succ])
          refine wpAnyH_ready (rs := [4]) (by kernel_rfl) (by simp) ?_
          refine AllReadyH.cons (o := qxdx4) rfl (fun K hK => ?_) (AllReadyH.nil)
          unfold qxdx4
          go_simp
          (go_at_call 47; refine (kS1 _).mono ?_; clear kS1; rintro e wxd_2 ⟨rfl, hbxd_2⟩)
          (try go_simp)
          have hSxd_2 := below_next hSxd_1 hbxd_2
          refine hK.out _ _ hSxd_2 (fun h => ?_)
          clear h hK K hbxd_2
          (try simp only [Act.put, List.setIfInBounds_toArray, List.set_cons_zero, List.set_cons_succ])
          refine wpAnyH_take (i := 5) (oi := { dst := some 22, op := Op.unOp UnOp.not 4 (Operand.tmp 21), type := 4, pos := "ref.go:180", after := #[{ on := 4, ground := Ground.data }], guard := none }) (v := ?vxd_3) rfl (by kernel_rfl) (by kernel_rfl) (by kernel_rfl) (fun _ _ _ h => h) (Or.inl ⟨by rfl, ?hxd_3⟩) hSxd_2 ?rxd_3
          case hxd_3 =>
            intro w hSw
            go_simp
            try with_reducible rfl
          (try simp only [Act.put, List.setIfInBounds_toArray, List.set_cons_zero, List.set_cons_succ])
          refine wpAnyH_take (i := 6) (oi := { dst := some 23, op := Op.move (Operand.tmp 22), type := 4, pos := "ref.go:180", after := #[{ on := 5, ground := Ground.data }, { on := 4, ground := Ground.chain }], guard := none }) (v := ?vxd_4) rfl (by kernel_rfl) (by kernel_rfl) (by kernel_rfl) (fun _ _ _ h => h) (Or.inl ⟨by rfl, ?hxd_4⟩) hSxd_2 ?rxd_4
          case hxd_4 =>
            intro w hSw
            go_simp
            try with_reducible rfl
          (try simp only [Act.put, List.setIfInBounds_toArray, List.set_cons_zero, List.set_cons_succ])
          refine wpAnyH_take (i := 7) (oi := { dst := some 24, op := Op.load 36 (Operand.tmp 3), type := 36, pos := "ref.go:180", after := #[{ on := 6, ground := Ground.guard }], guard := some (6, false) }) (v := rV V) rfl (by kernel_rfl) (by kernel_rfl) (by kernel_rfl) (fun _ _ _ h => h) (yieldsIf_load_mid (by rfl) 36 _ rfl g3 0 rfl (i16 V) _ (fun _ h => (hV.still h).range) Tryd.underlying36 rfl (infoI _)) hSxd_2 ?_
          (try simp only [Act.put, List.setIfInBounds_toArray, List.set_cons_zero, List.set_cons_succ])
          refine wpAnyH_ready (rs := [8]) (by kernel_rfl) (by simp) ?_
          refine AllReadyH.cons (o := qxdx8) rfl (fun K hK => ?_) (AllReadyH.nil)
          unfold qxdx8
          go_simp
          (go_at_call 42; refine (kO _).mono ?_; rintro e wxd_5 ⟨O1, rfl, hO1, hbxd_5⟩)
          (try go_simp)
          have hSxd_5 := below_next hSxd_2 hbxd_5
          refine hK.out _ _ hSxd_5 (fun h => ?_)
          clear h hK K hbxd_5
          (try simp only [Act.put, List.setIfInBounds_toArray, List.set_cons_zero, List.set_cons_succ])
          refine wpAnyH_ready (rs := [9]) (by kernel_rfl) (by simp) ?_
          refine AllReadyH.cons (o := qxdx9) rfl (fun K hK => ?_) (AllReadyH.nil)
          unfold qxdx9
          go_simp
          (go_at_call 47; refine (kS2 O1 hO1 _).mono ?_; clear kS2; rintro e wxd_6 ⟨rfl, hbxd_6⟩)
          (try go_simp)
          have hSxd_6 := below_next hSxd_5 hbxd_6
          refine hK.out _ _ hSxd_6 (fun h => ?_)
          clear h hK K hbxd_6
          (try simp only [Act.put, List.setIfInBounds_toArray, List.set_cons_zero, List.set_cons_succ])
          refine wpAnyH_take (i := 10) (oi := { dst := some 27, op := Op.move (Operand.tmp 26), type := 4, pos := "ref.go:180", after := #[{ on := 9, ground := Ground.data }, { on := 9, ground := Ground.chain }, { on := 6, ground := Ground.guard }], guard := some (6, false) }) (v := ?vxd_7) rfl (by kernel_rfl) (by kernel_rfl) (by kernel_rfl) (fun _ _ _ h => h) (Or.inl ⟨by rfl, ?hxd_7⟩) hSxd_6 ?rxd_7
          case hxd_7 =>
            intro w hSw
            go_simp
            try with_reducible rfl
          (try simp only [Act.put, List.setIfInBounds_toArray, List.set_cons_zero, List.set_cons_succ])
          refine wpAnyH_take (i := 11) (oi := { dst := some 28, op := Op.load 36 (Operand.tmp 2), type := 36, pos := "ref.go:180", after := #[{ on := 10, ground := Ground.guard }], guard := some (10, true) }) (v := rV U) rfl (by kernel_rfl) (by kernel_rfl) (by kernel_rfl) (fun _ _ _ h => h) (yieldsIf_load_mid (by rfl) 36 _ rfl g2 0 rfl (i16 U) _ (fun _ h => (hU.still h).range) Tryd.underlying36 rfl (infoI _)) hSxd_6 ?_
          (try simp only [Act.put, List.setIfInBounds_toArray, List.set_cons_zero, List.set_cons_succ])
          refine wpAnyH_ready (rs := [12]) (by kernel_rfl) (by simp) ?_
          refine AllReadyH.cons (o := qxdx12) rfl (fun K hK => ?_) (AllReadyH.nil)
          unfold qxdx12
          go_simp
          (go_at_call 42; refine (kO _).mono ?_; rintro e wxd_8 ⟨O2, rfl, hO2, hbxd_8⟩)
          (try go_simp)
          have hSxd_8 := below_next hSxd_6 hbxd_8
          refine hK.out _ _ hSxd_8 (fun h => ?_)
          clear h hK K hbxd_8
          (try simp only [Act.put, List.setIfInBounds_toArray, List.set_cons_zero, List.set_cons_succ])
          refine wpAnyH_ready (rs := [13]) (by kernel_rfl) (by simp) ?_
          refine AllReadyH.cons (o := qxdx13) rfl (fun K hK => ?_) (AllReadyH.nil)
          unfold qxdx13
          go_simp
          (go_at_call 47; refine (kS3 O2 hO2 _).mono ?_; clear kS3; rintro e wxd_9 ⟨rfl, hbxd_9⟩)
          (try go_simp)
          have hSxd_9 := below_next hSxd_8 hbxd_9
          refine hK.out _ _ hSxd_9 (fun h => ?_)
          clear h hK K hbxd_9
          (try simp only [Act.put, List.setIfInBounds_toArray, List.set_cons_zero, List.set_cons_succ])
          refine wpAnyH_take (i := 14) (oi := { dst := some 31, op := Op.unOp UnOp.not 4 (Operand.tmp 30), type := 4, pos := "ref.go:180", after := #[{ on := 13, ground := Ground.data }, { on := 10, ground := Ground.guard }], guard := some (10, true) }) (v := ?vxd_10) rfl (by kernel_rfl) (by kernel_rfl) (by kernel_rfl) (fun _ _ _ h => h) (Or.inl ⟨by rfl, ?hxd_10⟩) hSxd_9 ?rxd_10
          case hxd_10 =>
            intro w hSw
            go_simp
            try with_reducible rfl
          (try simp only [Act.put, List.setIfInBounds_toArray, List.set_cons_zero, List.set_cons_succ])
          refine wpAnyH_take (i := 15) (oi := { dst := some 32, op := Op.pick (Operand.tmp 27) (Operand.tmp 31) (Operand.const (Value.bool false)), type := 4, pos := "ref.go:180", after := #[{ on := 10, ground := Ground.data }, { on := 14, ground := Ground.data }, { on := 6, ground := Ground.guard }], guard := some (6, false) }) (v := ?vxd_11) rfl (by kernel_rfl) (by kernel_rfl) (by kernel_rfl) (fun _ _ _ h => h) (Or.inl ⟨by rfl, ?hxd_11⟩) hSxd_9 ?rxd_11
          case hxd_11 =>
            intro w hSw
            go_simp
            try with_reducible rfl
          (try simp only [Act.put, List.setIfInBounds_toArray, List.set_cons_zero, List.set_cons_succ])
          refine wpAnyH_take (i := 16) (oi := { dst := some 33, op := Op.pick (Operand.tmp 23) (Operand.const (Value.bool true)) (Operand.tmp 32), type := 4, pos := "ref.go:180", after := #[{ on := 6, ground := Ground.data }, { on := 15, ground := Ground.data }], guard := none }) (v := ?vxd_12) rfl (by kernel_rfl) (by kernel_rfl) (by kernel_rfl) (fun _ _ _ h => h) (Or.inl ⟨by rfl, ?hxd_12⟩) hSxd_9 ?rxd_12
          case hxd_12 =>
            intro w hSw
            go_simp
            try with_reducible rfl
          (try simp only [Act.put, List.setIfInBounds_toArray, List.set_cons_zero, List.set_cons_succ])
          refine wpAnyH_done (by kernel_rfl) ?_ _
          refine NoPanic.normal ?_
          go_wp2
          go_meet
          case rel => exact ⟨by rw [Hok.out]; rfl, below_next hdrew hSxd_9⟩
  case rest =>
  obtain ⟨rfl, hb5⟩ := hcut
  replace h107 := h107.still hb5
  replace h4 := h4.still hb5
  replace hbW := below_next hbW hb5
  clear hb5 hU hV h106 kT kS1 kS2 kS3 hQ Hok
  cases ok with
  | false =>
    have Hr : Hid (res = 0) := Hid.mk' (by rw [Hres.out]; rfl)
    clear Hres
    go_wp2_with (first
      | (go_at_call 42; refine (kO _).mono ?_; clear kO; rintro e w6 ⟨O, rfl, hO, hb6⟩; (replace h4 := h4.still hb6); (replace hbW := below_next hbW hb6); (have t4 : w6.there g4 0 (i16 O).toArray.size := by have := h4.there; rw [i16_len] at this; rw [List.size_toArray, i16_len]; exact this))
      | (with_reducible (refine id (?_ : wpList _ _ _ _ _ _)); refine wpList_store_mid rfl 36 _ _ rfl g4 0 (i16 O).toArray rfl rfl t4 (infoIA O) (oneI O) ?_))
    (try simp only [Exit.inBlock, Exit.then])
    exact bodyPost_ret (results_cell_tmp Tryd.results44 _ _ g4 0 (i16 O) _ rfl (h4.stored (i16 O) (by rw [i16_len, i16_len])).range Tryd.underlying36 rfl (infoI _)) rfl ⟨O, rfl, by rw [Hr.out]; exact hO.wide, below_setCells w4 _ _ _ hbW⟩
  | true =>
    replace kB := kB Z hZ
    cases hpar : (zc % 2 == 1) with
    | false =>
      have Hr : Hid (res = z) := Hid.mk' (by rw [Hres.out, if_pos rfl, if_neg (by simpa using hpar)])
      have hrem := rem2_even hpar
      clear Hres hpar kM kO
      go_wp2_with (first
        | (refine wpList_load_mid rfl 36 _ rfl g107 0 rfl (i16 Z) _ h107.range Tryd.underlying36 rfl (infoI _) ?_)
        | (go_at_call 41; refine (kB _).mono ?_; clear kB; rintro e w6 ⟨s6, rfl, hs6, hb6⟩; (replace h4 := h4.still hb6); (replace h107 := h107.still hb6); (replace hbW := below_next hbW hb6); clear hb6; (obtain ⟨bb, ob, cap, hsl, hl, hcap, hc⟩ : ∃ bb ob cap, s6 = .slice (some ⟨bb, ob, none⟩) 32 cap ∧ bb < w6.heap.size ∧ 32 ≤ cap ∧ ∀ j, j < 32 → w6.cell? ⟨bb, ob + j, none⟩ = some (.int .u8 (byt zc j)) := hs6.resolve_left (fun ⟨_, _, h⟩ => by omega)); subst hsl; clear hs6; (have cc := hc 0 (by decide)); rw [Nat.add_zero] at cc; clear hc; (have t4 : w6.there g4 0 (i16 Z).toArray.size := by have := h4.there; rw [i16_len] at this; rw [List.size_toArray, i16_len]; exact this))
        | (with_reducible (refine id (?_ : wpList _ _ _ _ _ _)); refine wpList_store_mid rfl 36 _ _ rfl g4 0 (i16 Z).toArray rfl rfl t4 (infoIA Z) (oneI Z) ?_))
      (try simp only [Exit.inBlock, Exit.then])
      exact bodyPost_ret (results_cell_tmp Tryd.results44 _ _ g4 0 (i16 Z) _ rfl (h4.stored (i16 Z) (by rw [i16_len, i16_len])).range Tryd.underlying36 rfl (infoI _)) rfl ⟨Z, rfl, by rw [Hr.out]; exact hZ.wide, below_setCells w4 _ _ _ hbW⟩
    | true =>
      have Hr : Hid (res = nz) := Hid.mk' (by rw [Hres.out, if_pos rfl, if_pos (by simpa using hpar)])
      have hrem := rem2_odd hpar
      clear Hres hpar
      go_upto_region 7 with (first
        | (refine wpList_load_mid rfl 36 _ rfl g107 0 rfl (i16 Z) _ h107.range Tryd.underlying36 rfl (infoI _) ?_)
        | (go_at_call 41; refine (kB _).mono ?_; clear kB; rintro e w6 ⟨s6, rfl, hs6, hb6⟩; (replace h4 := h4.still hb6); (replace h107 := h107.still hb6); (replace hbW := below_next hbW hb6); clear hb6; (obtain ⟨bb, ob, cap, hsl, hl, hcap, hc⟩ : ∃ bb ob cap, s6 = .slice (some ⟨bb, ob, none⟩) 32 cap ∧ bb < w6.heap.size ∧ 32 ≤ cap ∧ ∀ j, j < 32 → w6.cell? ⟨bb, ob + j, none⟩ = some (.int .u8 (byt zc j)) := hs6.resolve_left (fun ⟨_, _, h⟩ => by omega)); subst hsl; clear hs6; (have cc := hc 0 (by decide)); rw [Nat.add_zero] at cc; clear hc))
      (try simp only [Act.put, List.setIfInBounds_toArray, List.set_cons_zero, List.set_cons_succ])
      clear hrem cc hcap hl
      have kM' := fun O hO => kM O Z hO hZ
      clear kM
      have hdrew : Below w6.heap.size w6 w6.drew := (Below.refl _ _).drew
      replace hbW := below_next hbW hdrew
      replace h4 := h4.still hdrew
      replace h107 := h107.still hdrew
      refine wp_region_noPanic ?_
      refine wp_region_held_drew (S := fun _ => True) (by kernel_rfl) trivial (fun _ => ?_)
      generalize w6.drew = Vxe_ at *
      refine wpAnyH_ready (rs := [0, 1]) (by kernel_rfl) (by simp) ?_
      refine AllReadyH.cons (o := { dst := some 41, op := Op.call { callee := Callee.value (Operand.func 42), args := #[Operand.const (Value.int IntKind.i64 0)], argTypes := #[3] }, type := 36, pos := "ref.go:184", after := #[], guard := none }) rfl (fun K hK => ?_) (AllReadyH.cons (o := { dst := some 42, op := Op.load 36 (Operand.tmp 7), type := 36, pos := "ref.go:184", after := #[], guard := none }) rfl (fun K hK => ?_) (AllReadyH.nil))
      · go_simp
        (go_at_call 42; refine (kO _).mono ?_; clear kO; rintro e wxe_1 ⟨O, rfl, hO, hbS⟩; (replace h4 := h4.still hbS); (replace h107 := h107.still hbS); (replace hbW := below_next hbW hbS); clear hbS)
        (try go_simp)
        refine hK.out _ _ trivial (fun h => ?_)
        clear h hK K
        (try simp only [Act.put, List.setIfInBounds_toArray, List.set_cons_zero, List.set_cons_succ])
        refine wpAnyH_ready (rs := [1]) (by kernel_rfl) (by simp) ?_
        refine AllReadyH.cons (o := { dst := some 42, op := Op.load 36 (Operand.tmp 7), type := 36, pos := "ref.go:184", after := #[], guard := none }) rfl (fun K hK => ?_) (AllReadyH.nil)
        rw [if_pos (by rfl)]
        refine wp_load_mid 36 _ rfl g107 0 rfl (i16 Z) _ h107.range Tryd.underlying36 rfl (infoI _) ?_
        refine hK.out _ _ trivial (fun h => ?_)
        clear h hK K
        rw [show Value.agg (i16 Z).toArray = rV Z from rfl]
        (try simp only [Act.put, List.setIfInBounds_toArray, List.set_cons_zero, List.set_cons_succ])
        refine wpAnyH_ready (rs := [2]) (by kernel_rfl) (by simp) ?_
        refine AllReadyH.cons (o := { dst := some 43, op := Op.call { callee := Callee.value (Operand.func 45), args := #[Operand.tmp 41, Operand.tmp 42], argTypes := #[36, 36] }, type := 36, pos := "ref.go:184", after := #[{ on := 0, ground := Ground.data }, { on := 1, ground := Ground.data }, { on := 0, ground := Ground.chain }], guard := none }) rfl (fun K hK => ?_) (AllReadyH.nil)
        go_simp
        (go_at_call 45; refine (kM' O hO _).mono ?_; clear kM'; rintro e wxe_3 ⟨MZ, rfl, hMZ, hbS⟩; (replace h4 := h4.still hbS); (replace h107 := h107.still hbS); (replace hbW := below_next hbW hbS); clear hbS)
        (try go_simp)
        refine hK.out _ _ trivial (fun h => ?_)
        clear h hK K
        (try simp only [Act.put, List.setIfInBounds_toArray, List.set_cons_zero, List.set_cons_succ])
        refine wpAnyH_ready (rs := [3]) (by kernel_rfl) (by simp) ?_
        refine AllReadyH.cons (o := { dst := none, op := Op.store 36 (Operand.tmp 7) (Operand.tmp 43), type := 0, pos := "ref.go:184", after := #[{ on := 2, ground := Ground.data }, { on := 2, ground := Ground.chain }, { on := 0, ground := Ground.phase }, { on := 1, ground := Ground.phase }, { on := 2, ground := Ground.phase }], guard := none }) rfl (fun K hK => ?_) (AllReadyH.nil)
        rw [if_pos (by rfl)]
        refine wp_store_mid 36 _ _ rfl g107 0 (i16 MZ).toArray rfl rfl (by have := h107.there; rw [i16_len] at this; rw [List.size_toArray, i16_len]; exact this) (infoIA _) (oneI _) ?_
        have Oxe_4 := Out.setCells (b := g107) (o := 0) (n := (i16 MZ).length) wxe_3 (i16 MZ) (Nat.le_refl _) (Nat.le_refl _)
        replace hbW := below_setCells w107 (i16 MZ) 0 _ hbW
        replace h107 := h107.stored (i16 MZ) (by rw [i16_len, i16_len])
        replace h4 := h4.far g107 0 (i16 MZ) (.inl n4_107.symm)
        obtain ⟨wxe_4, hwxe_4⟩ : ∃ W, wxe_3.setCells g107 0 (i16 MZ) = W := ⟨_, rfl⟩
        rw [hwxe_4] at h4
        rw [hwxe_4] at hbW
        rw [hwxe_4] at h107
        rw [hwxe_4] at Oxe_4
        rw [show wxe_3.setCells g107 0 (i16 MZ).toArray.toList = wxe_4 from hwxe_4]
        refine hK.out _ _ trivial (fun h => ?_)
        clear h hK K hwxe_4
        (try dsimp only [Act.put])
        refine wpAnyH_done (by kernel_rfl) ?_ _
        refine NoPanic.normal ?_
        have t4 : wxe_4.there g4 0 (i16 MZ).toArray.size := by have := h4.there; rw [i16_len] at this; rw [List.size_toArray, i16_len]; exact this
        go_wp2_with (first
          | (refine wpList_load_mid rfl 36 _ rfl g107 0 rfl (i16 MZ) _ h107.range Tryd.underlying36 rfl (infoI _) ?_)
          | (with_reducible (refine id (?_ : wpList _ _ _ _ _ _)); refine wpList_store_mid rfl 36 _ _ rfl g4 0 (i16 MZ).toArray rfl rfl t4 (infoIA MZ) (oneI MZ) ?_))
        (try simp only [Exit.inBlock, Exit.then])
        exact bodyPost_ret (results_cell_tmp Tryd.results44 _ _ g4 0 (i16 MZ) _ rfl (h4.stored (i16 MZ) (by rw [i16_len, i16_len])).range Tryd.underlying36 rfl (infoI _)) rfl ⟨MZ, rfl, by rw [Hr.out]; exact hMZ, below_setCells w4 _ _ _ hbW⟩
      · rw [if_pos (by rfl)]
        refine wp_load_mid 36 _ rfl g107 0 rfl (i16 Z) _ h107.range Tryd.underlying36 rfl (infoI _) ?_
        refine hK.out _ _ trivial (fun h => ?_)
        clear h hK K
        rw [show Value.agg (i16 Z).toArray = rV Z from rfl]
        (try simp only [Act.put, List.setIfInBounds_toArray, List.set_cons_zero, List.set_cons_succ])
        refine wpAnyH_ready (rs := [0]) (by kernel_rfl) (by simp) ?_
        refine AllReadyH.cons (o := { dst := some 41, op := Op.call { callee := Callee.value (Operand.func 42), args := #[Operand.const (Value.int IntKind.i64 0)], argTypes := #[3] }, type := 36, pos := "ref.go:184", after := #[], guard := none }) rfl (fun K hK => ?_) (AllReadyH.nil)
        go_simp
        (go_at_call 42; refine (kO _).mono ?_; clear kO; rintro e wxe_6 ⟨O, rfl, hO, hbS⟩; (replace h4 := h4.still hbS); (replace h107 := h107.still hbS); (replace hbW := below_next hbW hbS); clear hbS)
        (try go_simp)
        refine hK.out _ _ trivial (fun h => ?_)
        clear h hK K
        (try simp only [Act.put, List.setIfInBounds_toArray, List.set_cons_zero, List.set_cons_succ])
        refine wpAnyH_ready (rs := [2]) (by kernel_rfl) (by simp) ?_
        refine AllReadyH.cons (o := { dst := some 43, op := Op.call { callee := Callee.value (Operand.func 45), args := #[Operand.tmp 41, Operand.tmp 42], argTypes := #[36, 36] }, type := 36, pos := "ref.go:184", after := #[{ on := 0, ground := Ground.data }, { on := 1, ground := Ground.data }, { on := 0, ground := Ground.chain }], guard := none }) rfl (fun K hK => ?_) (AllReadyH.nil)
        go_simp
        (go_at_call 45; refine (kM' O hO _).mono ?_; clear kM'; rintro e wxe_7 ⟨MZ, rfl, hMZ, hbS⟩; (replace h4 := h4.still hbS); (replace h107 := h107.still hbS); (replace hbW := below_next hbW hbS); clear hbS)
        (try go_simp)
        refine hK.out _ _ trivial (fun h => ?_)
        clear h hK K
        (try simp only [Act.put, List.setIfInBounds_toArray, List.set_cons_zero, List.set_cons_succ])
        refine wpAnyH_ready (rs := [3]) (by kernel_rfl) (by simp) ?_
        refine AllReadyH.cons (o := { dst := none, op := Op.store 36 (Operand.tmp 7) (Operand.tmp 43), type := 0, pos := "ref.go:184", after := #[{ on := 2, ground := Ground.data }, { on := 2, ground := Ground.chain }, { on := 0, ground := Ground.phase }, { on := 1, ground := Ground.phase }, { on := 2, ground := Ground.phase }], guard := none }) rfl (fun K hK => ?_) (AllReadyH.nil)
        rw [if_pos (by rfl)]
        refine wp_store_mid 36 _ _ rfl g107 0 (i16 MZ).toArray rfl rfl (by have := h107.there; rw [i16_len] at this; rw [List.size_toArray, i16_len]; exact this) (infoIA _) (oneI _) ?_
        have Oxe_8 := Out.setCells (b := g107) (o := 0) (n := (i16 MZ).length) wxe_7 (i16 MZ) (Nat.le_refl _) (Nat.le_refl _)
        replace hbW := below_setCells w107 (i16 MZ) 0 _ hbW
        replace h107 := h107.stored (i16 MZ) (by rw [i16_len, i16_len])
        replace h4 := h4.far g107 0 (i16 MZ) (.inl n4_107.symm)
        obtain ⟨wxe_8, hwxe_8⟩ : ∃ W, wxe_7.setCells g107 0 (i16 MZ) = W := ⟨_, rfl⟩
        rw [hwxe_8] at h4
        rw [hwxe_8] at hbW
        rw [hwxe_8] at h107
        rw [hwxe_8] at Oxe_8
        rw [show wxe_7.setCells g107 0 (i16 MZ).toArray.toList = wxe_8 from hwxe_8]
        refine hK.out _ _ trivial (fun h => ?_)
        clear h hK K hwxe_8
        (try dsimp only [Act.put])
        refine wpAnyH_done (by kernel_rfl) ?_ _
        refine NoPanic.normal ?_
        have t4 : wxe_8.there g4 0 (i16 MZ).toArray.size := by have := h4.there; rw [i16_len] at this; rw [List.size_toArray, i16_len]; exact this
        go_wp2_with (first
          | (refine wpList_load_mid rfl 36 _ rfl g107 0 rfl (i16 MZ) _ h107.range Tryd.underlying36 rfl (infoI _) ?_)
          | (with_reducible (refine id (?_ : wpList _ _ _ _ _ _)); refine wpList_store_mid rfl 36 _ _ rfl g4 0 (i16 MZ).toArray rfl rfl t4 (infoIA MZ) (oneI MZ) ?_))
        (try simp only [Exit.inBlock, Exit.then])
        exact bodyPost_ret (results_cell_tmp Tryd.results44 _ _ g4 0 (i16 MZ) _ rfl (h4.stored (i16 MZ) (by rw [i16_len, i16_len])).range Tryd.underlying36 rfl (infoI _)) rfl ⟨MZ, rfl, by rw [Hr.out]; exact hMZ, below_setCells w4 _ _ _ hbW⟩
end Go.Proofs.YteekjcfbnoakgaaDoor
namespace Go.Proofs.YteekjcfbnoakgaaDoor
open Go.RowKit
/-- New bytes with whatever room behind. -/
def NewC (w w' : World) (v : Value) (n : Nat) (X : Nat → Nat) : Prop := ∃ g cap, v = .slice (some ⟨g, 0, none⟩) n cap ∧ n ≤ cap ∧ w.heap.size ≤ g ∧ RowAt .u8 w' g 0 n X
theorem NewC.bytes {w w' : World} {v : Value} {n : Nat} {X : Nat → Nat} (h : NewC w w' v n X) (h0 : 0 < n) : BytesIn w' v n X := by
  obtain ⟨g, cap, rfl, hc, -, hr⟩ := h
  exact .inr ⟨g, 0, cap, rfl, block_lt_of_cell (hr 0 h0).1, hc, fun j hj => (hr j hj).1⟩
theorem enc_bit : ∀ a : Nat, a < 128 → ∀ b : Nat, b < 2 → bits .or .u8 (a : Int) (((128 * b : Nat)) : Int) = ((a + 128 * b : Nat) : Int) := by decide +kernel
theorem and1_u8 : ∀ b : Nat, b < 256 → bits .and .u8 (b : Int) 1 = ((b % 2 : Nat) : Int) := by decide +kernel
theorem byt31_lt {y : Nat} (h : y < pF) : byt y 31 < 128 := by
  unfold byt
  have : y / 256 ^ 31 < 128 := Nat.div_lt_of_lt_mul (Nat.lt_of_lt_of_le h (by decide))
  exact Nat.lt_of_le_of_lt (Nat.mod_le _ _) this
/-- Bytes of y, the last one's highest bit that of x. -/
def encXY (x y : Nat) (j : Nat) : Nat := if j = 31 then byt y 31 + 128 * (x % 2) else byt y j
set_option maxRecDepth 20000 in
set_option maxHeartbeats 4000000 in
theorem renc_any {r : P4} {p : N4} (hr : r.Rep p) (w : World) :
    Calls Tryd.prog 17 #[r.V] w fun e w' => ∃ s, e = .returned s ∧ NewC w w' s 32 (encXY (fmul p.X (finv p.Z)) (fmul p.Y (finv p.Z))) ∧ Below w.heap.size w w' := by
  have hz := zeroR
  have ci : ∀ W, Calls Tryd.prog 53 #[.agg (i16 r.Z).toArray] W fun e w' => ∃ R, e = .returned (.agg (i16 R).toArray) ∧ Rw R (finv p.Z) ∧ Below W.heap.size W w' := fun W => rinverse_wide r.Z _ hr.Z W
  have cx : ∀ I, Rw I (finv p.Z) → ∀ W, Calls Tryd.prog 43 #[.agg (i16 r.X).toArray, .agg (i16 I).toArray] W fun e w' => ∃ R, e = .returned (.agg (i16 R).toArray) ∧ Rw R (fmul p.X (finv p.Z)) ∧ Below W.heap.size W w' := fun I hI W => (rtimes_w hr.X hI W).mono fun _ _ ⟨he, hb⟩ => ⟨_, he, rw_t hr.X hI, hb⟩
  have cy : ∀ I, Rw I (finv p.Z) → ∀ W, Calls Tryd.prog 43 #[.agg (i16 r.Y).toArray, .agg (i16 I).toArray] W fun e w' => ∃ R, e = .returned (.agg (i16 R).toArray) ∧ Rw R (fmul p.Y (finv p.Z)) ∧ Below W.heap.size W w' := fun I hI W => (rtimes_w hr.Y hI W).mono fun _ _ ⟨he, hb⟩ => ⟨_, he, rw_t hr.Y hI, hb⟩
  have cB : ∀ (R : Nat → Int) (a : Nat), Rw R a → a < pF → ∀ W, Calls Tryd.prog 41 #[.agg (i16 R).toArray] W fun e w' => ∃ v, e = .returned v ∧ Own W.heap.size w' v 32 (byt a) ∧ Below W.heap.size W w' := fun R a hR ha W => rw_bytes R a hR ha W
  have hxl := fmul_lt p.X (finv p.Z)
  have hyl := fmul_lt p.Y (finv p.Z)
  generalize fmul p.X (finv p.Z) = x at *
  generalize fmul p.Y (finv p.Z) = y at *
  generalize finv p.Z = iz at *
  have e1 := and1_u8 (byt x 0) (byt_lt x 0)
  have e2 := enc_bit (byt y 31) (byt31_lt hyl) (x % 2) (Nat.mod_lt _ (by decide))
  have e0 : byt x 0 % 2 = x % 2 := byt0_mod x
  rw [e0] at e1
  obtain ⟨W, g1, eW, hg1, b, hp⟩ : ∃ V g, w.alloc (.cells (q64 r.X r.Y r.Z r.T).toArray 38) = V ∧ w.heap.size = g ∧ Below w.heap.size w V ∧ RW V g 0 (q64 r.X r.Y r.Z r.T) := ⟨_, _, rfl, rfl, (Below.refl _ _).alloc (Nat.le_refl _) _, RW.fresh w _ _⟩
  obtain ⟨hX, hY, hZ, -⟩ := parts hp
  have HW : Hid (w.alloc (.cells (q64 r.X r.Y r.Z r.T).toArray 38) = W) := Hid.mk' eW
  have Hg : Hid (w.heap.size = g1) := Hid.mk' hg1
  clear eW hg1 hp e0
  rw [show r.V = .agg (q64 r.X r.Y r.Z r.T).toArray from rfl]
  go_enter Tryd.func17, Tryd.ntmps17
  go_upto_region 4 with (first
    | (rw [HW.out, Hg.out]; refine wpList_load_mid rfl 36 _ rfl g1 32 rfl (i16 r.Z) _ hZ.range Tryd.underlying36 rfl (infoI _) ?_; clear HW Hg)
    | (refine wpList_load_mid rfl 36 _ rfl g1 0 rfl (i16 r.X) _ hX.range Tryd.underlying36 rfl (infoI _) ?_)
    | (refine wpList_load_mid rfl 36 _ rfl g1 16 rfl (i16 r.Y) _ hY.range Tryd.underlying36 rfl (infoI _) ?_)
    | (refine wpList_load_mid rfl 36 _ rfl w1.heap.size 0 rfl (i16 I) _ hI3.range Tryd.underlying36 rfl (infoI _) ?_)
    | (go_at_call 53; refine (ci _).mono ?_; clear ci; rintro e w1 ⟨I, rfl, hI, hb1⟩; (replace hX := hX.still hb1); (replace hY := hY.still hb1); (replace b := below_next b hb1); clear hb1; (have z1 := freshR' w1); (have t1 := freshRt w1 I); (obtain ⟨V1, hV1⟩ : ∃ V, V = (w1.alloc (.cells zI 36)).setCells w1.heap.size 0 (i16 I) := ⟨_, rfl⟩); (have hI3 : RW V1 w1.heap.size 0 (i16 I) := by rw [hV1]; exact z1.stored (i16 I) (by rw [i16_len, i16_len])); (have b1 : Below w1.heap.size w1 V1 := by rw [hV1]; exact below_setCells (Nat.le_refl _) _ _ _ ((Below.refl _ _).alloc (Nat.le_refl _) _)); (have H1 := Hid.mk' hV1); clear hV1 z1; (replace hX := hX.still b1); (replace hY := hY.still b1); (replace b := below_next b b1); clear b1; replace cx := cx I hI; replace cy := cy I hI)
    | (with_reducible (refine id (?_ : wpList _ _ _ _ _ _)); refine wpList_store_mid rfl 36 _ _ rfl w1.heap.size 0 (i16 I).toArray rfl rfl t1 (infoIA I) (oneI I) ?_; rw [List.toList_toArray, ← H1.out]; clear t1 H1)
    | (go_at_call 43; refine (cx _).mono ?_; clear cx; rintro e w2 ⟨A, rfl, hA, hb2⟩; (replace hY := hY.still hb2); (replace hI3 := hI3.still hb2); (replace b := below_next b hb2); clear hb2 hX; (have cBx := cB A x hA hxl))
    | (go_at_call 41; refine (cBx _).mono ?_; clear cBx; rintro e w3 ⟨vx, rfl, ox, hb3⟩; (replace hY := hY.still hb3); (replace hI3 := hI3.still hb3); (replace b := below_next b hb3); clear hb3; (obtain ⟨gx, capx, hvx, hgx, hgxl, hcx, rx⟩ : ∃ g cap, vx = .slice (some ⟨g, 0, none⟩) 32 cap ∧ w2.heap.size ≤ g ∧ g < w3.heap.size ∧ 32 ≤ cap ∧ RowAt .u8 w3 g 0 32 (byt x) := ox.form.resolve_left (fun h => by omega)); subst hvx; clear ox hgx)
    | (go_at_call 43; refine (cy _).mono ?_; clear cy; rintro e w4 ⟨B, rfl, hB, hb4⟩; (replace rx := rx.below hb4 hgxl); (replace hgxl := Nat.lt_of_lt_of_le hgxl hb4.size); (replace b := below_next b hb4); clear hb4 hY hI3; (have cBy := cB B y hB hyl))
    | (go_at_call 41; refine (cBy _).mono ?_; clear cBy cB; rintro e w5 ⟨vy, rfl, oy, hb5⟩; (replace rx := rx.below hb5 hgxl); (have sb := b.size); (replace b := below_next b hb5); clear hb5; (obtain ⟨gy, capy, hvy, hgy, hgyl, hcy, ry⟩ : ∃ g cap, vy = .slice (some ⟨g, 0, none⟩) 32 cap ∧ w4.heap.size ≤ g ∧ g < w5.heap.size ∧ 32 ≤ cap ∧ RowAt .u8 w5 g 0 32 (byt y) := oy.form.resolve_left (fun h => by omega)); subst hvy; clear oy; (have nxy : gx ≠ gy := by omega); (have wgy : w.heap.size ≤ gy := Nat.le_trans sb hgy); clear sb))
  have c0 := (rx 0 (by decide)).1
  have c31 := (ry 31 (by decide)).1
  have f31 := (ry 31 (by decide)).2
  rw [Nat.zero_add] at c0 c31 f31
  have e3 : bits .or .u8 (byt y 31 : Int) ((x : Int) % 2 * 128) = ((byt y 31 + 128 * (x % 2) : Nat) : Int) := by
    rw [← e2]
    congr 1
    omega
  have r31 := ry.set (i := 31) (by decide) (v := bits .or .u8 (byt y 31 : Int) ((x : Int) % 2 * 128)) (u := byt y 31 + 128 * (x % 2)) e3
  rw [Nat.zero_add] at r31
  have E3 := Hid.mk' e3
  clear e2 e3
  go_region
  all_goals go_wp2
  go_ret
  have bs : Below w.heap.size w (w5.setCell ⟨gy, 31, none⟩ (.int .u8 (bits .or .u8 (byt y 31 : Int) ((x : Int) % 2 * 128)))) := below_setCells wgy [_] 31 _ b
  have bd : Below (w5.setCell ⟨gy, 31, none⟩ (.int .u8 (bits .or .u8 (byt y 31 : Int) ((x : Int) % 2 * 128)))).heap.size (w5.setCell ⟨gy, 31, none⟩ (.int .u8 (bits .or .u8 (byt y 31 : Int) ((x : Int) % 2 * 128)))) (w5.setCell ⟨gy, 31, none⟩ (.int .u8 (bits .or .u8 (byt y 31 : Int) ((x : Int) % 2 * 128)))).drew := (Below.refl _ _).drew
  have rd := r31.below bd (block_lt_of_cell (r31 0 (by decide)).1)
  refine ⟨_, rfl, ⟨gy, capy, rfl, hcy, wgy, rd.congr (fun j hj => ?_)⟩, below_next bs bd⟩
  unfold upd encXY
  rfl
end Go.Proofs.YteekjcfbnoakgaaDoor
