/- What pad, Hmac and Extract of the reference of layer 2 do in the model. -/
import Derived.Test.YtlfofbkanifocaaDoorRefSum
import Derived.Test.YtlfofbkanifocaaDoorBlock
namespace Go.Proofs.YtlfofbkanifocaaDoor
open Go.RowKit
theorem Own.stored {base : Nat} {w : World} {g n cap : Nat} {X : Nat → Nat} (h : Own base w (.slice (some ⟨g, 0, none⟩) n cap) n X) (i : Nat) (v : Int) (u : Nat) (hu : v = (u : Int)) : Own base (w.setCell ⟨g, i, none⟩ (.int .u8 v)) (.slice (some ⟨g, 0, none⟩) n cap) n (upd X i u) := by
  have h1 := World.ownsRow.stored h i (.int .u8 v)
  unfold Own
  have e : (ints .u8 n X).set i (.int .u8 v) = ints .u8 n (upd X i u) := by
    apply List.ext_getElem?
    intro j
    by_cases hj : j < n
    · rw [ints_at _ _ _ j hj, List.getElem?_set]
      by_cases e : i = j
      · subst e; simp [ints_len, hj, upd, hu]
      · simp only [e, if_false]
        rw [ints_at _ _ _ j hj]
        simp [upd, show ¬j = i from fun h => e h.symm]
    · rw [List.getElem?_eq_none (by rw [List.length_set, ints_len]; omega), List.getElem?_eq_none (by rw [ints_len]; omega)]
  rw [← e]
  exact h1.1
theorem zb_ints (n : Nat) : (zb n).toList = ints .u8 n (fun _ => 0) := by
  apply List.ext_getElem?
  intro j
  by_cases hj : j < n
  · rw [Array.getElem?_toList, zb_at n j hj, ints_at _ _ _ j hj]; rfl
  · rw [List.getElem?_eq_none (by simp [zb]; omega), List.getElem?_eq_none (by rw [ints_len]; omega)]
theorem Own.made (base : Nat) (w : World) (n : Nat) (hn : n ≤ 1000000) (hb : base ≤ w.heap.size) : Own base (w.alloc (.cells (zb n) 5)) (.slice (some ⟨w.heap.size, 0, none⟩) n n) n (fun _ => 0) := by
  have h := World.ownsRow_lit (base := base) (e := 5) (size := 1) w (zb n) n hb (by unfold maxLen; omega) (by simp [zb])
  rw [zb_ints] at h
  exact h
/-- A key's bytes under a pad, the first k of them. -/
def padG2 (kv : Nat → Nat) (p k : Nat) : Nat → Nat := fun j => if j < k then kv j ^^^ p else 0
theorem padG2_step (kv : Nat → Nat) (p k j : Nat) : upd (padG2 kv p k) k (kv k ^^^ p) j = padG2 kv p (k + 1) j := by
  unfold upd padG2
  by_cases e : j = k
  · subst e; rw [if_pos rfl, if_pos (by omega)]
  · rw [if_neg e]
    by_cases e2 : j < k
    · rw [if_pos e2, if_pos (by omega)]
    · rw [if_neg e2, if_neg (by omega)]
set_option maxRecDepth 20000 in
set_option maxHeartbeats 2000000 in
theorem rpad_short_any (xo : Option Addr) (n cx p : Nat) (bs : Nat → Nat) (hbs : ∀ j, bs j < 256) (hp : p < 256) (w : World) (hv : BytesIn w (.slice xo n cx) n bs) (hn : n ≤ 64) :
    Calls Tryd.prog 45 #[.slice xo n cx, .int .u8 p] w fun e w' => ∃ v', e = .returned v' ∧ Own w.heap.size w' v' 64 (fun j => keyB n bs j ^^^ p) ∧ Below w.heap.size w w' := by
  obtain ⟨kv, hkv0⟩ : ∃ kv, kv = keyB n bs := ⟨_, rfl⟩
  have hkk : Hid (∀ j, kv j = keyB n bs j) := (fun j => by rw [hkv0] : ∀ j, kv j = keyB n bs j)
  have hkvl : ∀ j, kv j < 256 := fun j => by rw [hkv0]; exact keyB_lt hbs j
  have hkv : ∀ j, j < 64 → kv j = if j < n then bs j else 0 := fun j _ => by rw [hkv0]; unfold keyB; rw [if_pos hn]
  have hsrc : ∀ k, k < n → ∃ bb ob, xo = some ⟨bb, ob, none⟩ ∧ bb < w.heap.size ∧ w.cell? ⟨bb, ob + k, none⟩ = some (.int .u8 (bs k)) := fun k hk => by
    rcases hv with ⟨_, _, hz⟩ | ⟨bb, ob, cap, e, h1, _, h3⟩
    · omega
    · cases e
      exact ⟨bb, ob, rfl, h1, h3 k hk⟩
  have hW : Below w.heap.size w w := Below.refl _ _
  have hni : ¬(64 < (n : Int)) := by omega
  clear hkv0 hv
  have hmk := fun W => make_bytes W 64 64 rfl (by decide)
  go_enter Tryd.func45, Tryd.ntmps45
  go_wp2
  go_loopw [7] (fun i wr => ∃ k : Nat, k ≤ 64 ∧ i = .int .i64 k ∧ Own w.heap.size wr (.slice (some ⟨w.heap.size, 0, none⟩) 64 64) 64 (padG2 kv p k) ∧ Below w.heap.size w wr) (fun i _ => 64 - (intOf i).toNat)
  case atStart => exact ⟨0, Nat.zero_le _, rfl, (Own.made _ _ 64 (by decide) hW.size).congr (fun j _ => by simp [padG2]), (Below.refl _ _).alloc (Nat.le_refl _) _⟩
  case round =>
    obtain ⟨k, hk, rfl, hown, hb⟩ := hrel
    by_cases hlt : k < 64
    · have hrow : RowAt .u8 wr w.heap.size 0 64 (padG2 kv p k) := by
        rcases hown.form with ⟨h, _⟩ | ⟨g, cap, h, _, _, _, hr⟩
        · cases h
        · cases h; exact hr
      obtain ⟨rk, rf⟩ := hrow k hlt
      rw [Nat.zero_add] at rk rf
      have ek : padG2 kv p k k = 0 := by simp [padG2]
      rw [ek] at rk
      have hki : (0 : Int) ≤ (k : Int) ∧ (k : Int) < 64 := by omega
      have hs1 := hown.stored k (p : Int) p rfl
      by_cases hkm : k < n
      · obtain ⟨bb, ob, hx, hbb, rc⟩ := hsrc k hkm
        cases hx
        have rc' : wr.cell? ⟨bb, ob + k, none⟩ = some (.int .u8 (kv k)) := by rw [hkv k hlt, if_pos hkm]; exact (hb.cell (p := ⟨bb, ob + k, none⟩) hbb).trans rc
        have hne : bb ≠ w.heap.size := by omega
        have hki2 : (k : Int) < n := by omega
        have hs2 := hs1.stored k (bits .xor .u8 (kv k : Int) (p : Int)) (kv k ^^^ p) (u8_xor_nat _ _ (hkvl k) hp)
        clear rc hsrc hown hrow hs1 hkv
        go_wp2
        go_roundw
        case rel =>
          exact ⟨k + 1, by omega, by go_num, hs2.congr (fun j _ => by rw [← padG2_step]; unfold upd; split <;> rfl), (hb.setCell (Nat.le_refl _) _).setCell (Nat.le_refl _) _⟩
        case measure => simp [intOf]; omega
      · have hki2 : ¬((k : Int) < n) := by omega
        have e0 : kv k ^^^ p = p := by rw [hkv k hlt, if_neg hkm]; simp
        clear hsrc hown hrow hkv
        go_wp2
        go_roundw
        case rel =>
          exact ⟨k + 1, by omega, by go_num, hs1.congr (fun j _ => by rw [← padG2_step, e0]), hb.setCell (Nat.le_refl _) _⟩
        case measure => simp [intOf]; omega
    · have hke : k = 64 := by omega
      rw [hke] at hown
      go_wp2
      go_ret
      exact ⟨_, rfl, hown.congr (fun j hj => by unfold padG2; rw [if_pos hj, hkk.out j]), hW.trans (hb.mono hW.size)⟩
set_option maxRecDepth 20000 in
set_option maxHeartbeats 2000000 in
theorem rpad_long_any (xo : Option Addr) (n cx p : Nat) (bs : Nat → Nat) (hbs : ∀ j, bs j < 256) (hp : p < 256) (hnb : n < 140737488355000) (w : World) (hv : BytesIn w (.slice xo n cx) n bs) (hn : ¬n ≤ 64) :
    Calls Tryd.prog 45 #[.slice xo n cx, .int .u8 p] w fun e w' => ∃ v', e = .returned v' ∧ Own w.heap.size w' v' 64 (fun j => keyB n bs j ^^^ p) ∧ Below w.heap.size w w' := by
  obtain ⟨kv, hkv0⟩ : ∃ kv, kv = keyB n bs := ⟨_, rfl⟩
  have hkk : Hid (∀ j, kv j = keyB n bs j) := (fun j => by rw [hkv0] : ∀ j, kv j = keyB n bs j)
  have hkvl : ∀ j, kv j < 256 := fun j => by rw [hkv0]; exact keyB_lt hbs j
  have hs := rSum256_any (.slice xo n cx) n bs hbs w hv hnb
  have hkv : ∀ j, j < 64 → kv j = if j < 32 then outB 32 (specS rn cubeK squareK n bs) j else 0 := fun j _ => by rw [hkv0]; unfold keyB; rw [if_neg hn]
  obtain ⟨X, hX⟩ : ∃ X, X = outB 32 (specS rn cubeK squareK n bs) := ⟨_, rfl⟩
  rw [← hX] at hs hkv
  have hni : 64 < (n : Int) := by omega
  clear hkv0 hv hX hn
  have hmk := fun W => make_bytes W 64 64 rfl (by decide)
  go_enter Tryd.func45, Tryd.ntmps45
  go_wp2_with (go_at_call 14; refine hs.mono ?_; clear hs; rintro e w1 ⟨vs, rfl, owns, hW⟩; (obtain ⟨gs, cs, hvs, hgs, hgsl, hcs, hrs⟩ : ∃ g cap, vs = .slice (some ⟨g, 0, none⟩) 32 cap ∧ w.heap.size ≤ g ∧ g < w1.heap.size ∧ 32 ≤ cap ∧ RowAt .u8 w1 g 0 32 X := owns.form.resolve_left (fun h => by omega)); subst hvs; clear owns)
  have hsrc : ∀ k, k < 32 → ∃ bb ob, some (⟨gs, 0, none⟩ : Addr) = some ⟨bb, ob, none⟩ ∧ bb < w1.heap.size ∧ w1.cell? ⟨bb, ob + k, none⟩ = some (.int .u8 (X k)) := fun k hk => ⟨gs, 0, rfl, hgsl, (hrs k hk).1⟩
  go_loopw [7] (fun i wr => ∃ k : Nat, k ≤ 64 ∧ i = .int .i64 k ∧ Own w.heap.size wr (.slice (some ⟨w1.heap.size, 0, none⟩) 64 64) 64 (padG2 kv p k) ∧ Below w1.heap.size w1 wr) (fun i _ => 64 - (intOf i).toNat)
  case atStart => exact ⟨0, Nat.zero_le _, rfl, (Own.made _ _ 64 (by decide) hW.size).congr (fun j _ => by simp [padG2]), (Below.refl _ _).alloc (Nat.le_refl _) _⟩
  case round =>
    obtain ⟨k, hk, rfl, hown, hb⟩ := hrel
    by_cases hlt : k < 64
    · have hrow : RowAt .u8 wr w1.heap.size 0 64 (padG2 kv p k) := by
        rcases hown.form with ⟨h, _⟩ | ⟨g, cap, h, _, _, _, hr⟩
        · cases h
        · cases h; exact hr
      obtain ⟨rk, rf⟩ := hrow k hlt
      rw [Nat.zero_add] at rk rf
      have ek : padG2 kv p k k = 0 := by simp [padG2]
      rw [ek] at rk
      have hki : (0 : Int) ≤ (k : Int) ∧ (k : Int) < 64 := by omega
      have hs1 := hown.stored k (p : Int) p rfl
      by_cases hkm : k < 32
      · obtain ⟨bb, ob, hx, hbb, rc⟩ := hsrc k hkm
        have hx1 : bb = gs := by injection hx with hx; injection hx with h1 h2; exact h1.symm
        have hx2 : ob = 0 := by injection hx with hx; injection hx with h1 h2; exact h2.symm
        subst hx1; subst hx2
        rw [Nat.zero_add] at rc
        clear hx
        have rc' : wr.cell? ⟨bb, k, none⟩ = some (.int .u8 (kv k)) := by rw [hkv k hlt, if_pos hkm]; exact (hb.cell (p := ⟨bb, k, none⟩) hbb).trans rc
        have hne : bb ≠ w1.heap.size := by omega
        have hki2 : (k : Int) < 32 := by omega
        have hs2 := hs1.stored k (bits .xor .u8 (kv k : Int) (p : Int)) (kv k ^^^ p) (u8_xor_nat _ _ (hkvl k) hp)
        clear rc hsrc hown hrow hs1 hkv
        go_wp2
        go_roundw
        case rel =>
          exact ⟨k + 1, by omega, by go_num, hs2.congr (fun j _ => by rw [← padG2_step]; unfold upd; split <;> rfl), (hb.setCell (Nat.le_refl _) _).setCell (Nat.le_refl _) _⟩
        case measure => simp [intOf]; omega
      · have hki2 : ¬((k : Int) < 32) := by omega
        have e0 : kv k ^^^ p = p := by rw [hkv k hlt, if_neg hkm]; simp
        clear hsrc hown hrow hkv
        go_wp2
        go_roundw
        case rel =>
          exact ⟨k + 1, by omega, by go_num, hs1.congr (fun j _ => by rw [← padG2_step, e0]), hb.setCell (Nat.le_refl _) _⟩
        case measure => simp [intOf]; omega
    · have hke : k = 64 := by omega
      rw [hke] at hown
      go_wp2
      go_ret
      exact ⟨_, rfl, hown.congr (fun j hj => by unfold padG2; rw [if_pos hj, hkk.out j]), hW.trans (hb.mono hW.size)⟩
theorem rpad_any (v : Value) (n p : Nat) (bs : Nat → Nat) (hbs : ∀ j, bs j < 256) (hp : p < 256) (hnb : n < 140737488355000) (w : World) (hv : BytesIn w v n bs) :
    Calls Tryd.prog 45 #[v, .int .u8 p] w fun e w' => ∃ v', e = .returned v' ∧ Own w.heap.size w' v' 64 (fun j => keyB n bs j ^^^ p) ∧ Below w.heap.size w w' := by
  obtain ⟨xo, cx, rfl, _, _, _⟩ := hv.src
  by_cases hn : n ≤ 64
  · exact rpad_short_any xo n cx p bs hbs hp w hv hn
  · exact rpad_long_any xo n cx p bs hbs hp hnb w hv hn
/-- What holds of a new array holds of its bytes as an argument. -/
theorem Own.bytesIn {base : Nat} {w : World} {v : Value} {n : Nat} {X : Nat → Nat} (h : Own base w v n X) : BytesIn w v n X := by
  rcases h.form with ⟨rfl, h0⟩ | ⟨g, cap, rfl, _, hg, hc, hr⟩
  · exact .inl ⟨none, rfl, h0⟩
  · exact .inr ⟨g, 0, cap, rfl, hg, hc, fun j hj => (hr j hj).1⟩
theorem Own.lower {base base' : Nat} {w : World} {v : Value} {n : Nat} {X : Nat → Nat} (h : Own base w v n X) (hb : base' ≤ base) : Own base' w v n X := World.ownsRow.mono h hb
theorem cat_xor_lt {kv t : Nat → Nat} {p : Nat} (hk : ∀ j, kv j < 256) (hp : p < 256) (ht : ∀ j, t j < 256) : ∀ j, cat 64 (fun j => kv j ^^^ p) t j < 256 := cat_lt (fun j => Nat.xor_lt_two_pow (n := 8) (hk j) hp) ht
set_option maxRecDepth 20000 in
set_option maxHeartbeats 2000000 in
theorem rHmac_any (v tv : Value) (n m : Nat) (bs t : Nat → Nat) (hbs : ∀ j, bs j < 256) (ht : ∀ j, t j < 256) (hnb : n < 140737488355000) (hm : m + 64 < 140737488355000) (w : World) (hv : BytesIn w v n bs) (htv : BytesIn w tv m t) :
    Calls Tryd.prog 25 #[v, tv] w fun e w' => ∃ v', e = .returned v' ∧ Own w.heap.size w' v' 32 (tagH (keyB n bs) m t) ∧ Below w.heap.size w w' := by
  obtain ⟨xt, ct, rfl, hxn, -, hsrc⟩ := htv.src
  have hp1 := rpad_any v n 54 bs hbs (by decide) hnb w hv
  have hp2 := fun W (h : Below w.heap.size w W) => rpad_any v n 92 bs hbs (by decide) hnb W (hv.keep h)
  obtain ⟨kv, hkv⟩ : ∃ kv, kv = keyB n bs := ⟨_, rfl⟩
  have hkl : ∀ j, kv j < 256 := fun j => by rw [hkv]; exact keyB_lt hbs j
  rw [← hkv] at hp1 hp2 ⊢
  have hs1 := fun W v' (h : BytesIn W v' (64 + m) (cat 64 (fun j => kv j ^^^ 54) t)) => rSum256_any v' (64 + m) _ (cat_xor_lt hkl (by decide) ht) W h (by omega)
  have hs2 := fun W v' (h : BytesIn W v' (64 + 32) (cat 64 (fun j => kv j ^^^ 92) (padH kv 54 m t))) => rSum256_any v' (64 + 32) _ (cat_xor_lt hkl (by decide) (padH_lt _ _ _ _)) W h (by decide)
  have hs1' : ∀ W v', BytesIn W v' (64 + m) (cat 64 (fun j => kv j ^^^ 54) t) → Calls Tryd.prog 14 #[v'] W fun e w' => ∃ v', e = .returned v' ∧ Own W.heap.size w' v' 32 (padH kv 54 m t) ∧ Below W.heap.size W w' := hs1
  have hs2' : ∀ W v', BytesIn W v' (64 + 32) (cat 64 (fun j => kv j ^^^ 92) (padH kv 54 m t)) → Calls Tryd.prog 14 #[v'] W fun e w' => ∃ v', e = .returned v' ∧ Own W.heap.size w' v' 32 (tagH kv m t) ∧ Below W.heap.size W w' := hs2
  obtain ⟨P, hP⟩ : ∃ P, P = padH kv 54 m t := ⟨_, rfl⟩
  obtain ⟨T, hT⟩ : ∃ T, T = tagH kv m t := ⟨_, rfl⟩
  rw [← hP] at hs1' hs2'
  rw [← hT] at hs2' ⊢
  clear hs1 hs2 hkv hv htv hP hT
  go_enter Tryd.func25, Tryd.ntmps25
  go_wp2_with (first
    | (go_at_call 45; refine hp1.mono ?_; clear hp1; rintro e w1 ⟨v1, rfl, own1, hb1⟩)
    | (at_builtin; refine wpList_append_bytes rfl (.tmp 7) (.tmp 8) rfl w.heap.size _ 64 _ rfl own1 xt m ct t rfl (hsrc _ hb1) hxn (by omega) hb1.size ?_; intro v2 w2 own2 hg2; have hb2 := Own.grown hb1 hg2 own1 (Nat.le_refl _) hb1.size; have hs := hs1' w2 v2 own2.bytesIn; clear own1)
    | (go_at_call 14; refine hs.mono ?_; clear hs hs1' hsrc; rintro e w3 ⟨v3, rfl, own3, hb3⟩; have hb3' := hb2.trans (hb3.mono hb2.size); replace hp2 := hp2 w3 hb3'; (obtain ⟨gs, cs, hvs, hgs, hgsl, hcs, hrs⟩ : ∃ g cap, v3 = .slice (some ⟨g, 0, none⟩) 32 cap ∧ w2.heap.size ≤ g ∧ g < w3.heap.size ∧ 32 ≤ cap ∧ RowAt .u8 w3 g 0 32 P := own3.form.resolve_left (fun h => by omega)); subst hvs; clear own3)
    | (go_at_call 45; refine hp2.mono ?_; clear hp2; rintro e w4 ⟨v4, rfl, own4, hb4⟩; have hb4' := hb3'.trans (hb4.mono hb3'.size))
    | (at_builtin; refine wpList_append_bytes rfl (.tmp 12) (.tmp 13) rfl w3.heap.size _ 64 _ rfl own4 (some ⟨gs, 0, none⟩) 32 cs P rfl (.inr ⟨gs, 0, rfl, fun j hj => ((hrs.below hb4 hgsl) j hj).1⟩) (fun h => by cases h) (by omega) hb4.size ?_; intro v5 w5 own5 hg5; have hb5 := Own.grown hb4' hg5 own4 hb3'.size hb4'.size; have hs := hs2' w5 v5 own5.bytesIn; clear own4)
    | (go_at_call 14; refine hs.mono ?_; clear hs hs2'; rintro e w6 ⟨v6, rfl, own6, hb6⟩))
  go_ret
  exact ⟨v6, rfl, own6.lower hb5.size, hb5.trans (hb6.mono hb5.size)⟩
theorem keyB_zeros (z : Nat → Nat) (bs : Nat → Nat) (hz : ∀ j, j < 32 → z j = 0) : keyB 32 z = keyB 0 bs := by
  funext j
  unfold keyB
  simp only [show (32 : Nat) ≤ 64 by decide, if_true, Nat.zero_le, Nat.not_lt_zero, if_false]
  by_cases h : j < 32
  · rw [if_pos h]; exact hz j h
  · rw [if_neg h]
set_option maxRecDepth 20000 in
set_option maxHeartbeats 2000000 in
theorem rExtract_any (v tv : Value) (n m : Nat) (bs t : Nat → Nat) (hbs : ∀ j, bs j < 256) (ht : ∀ j, t j < 256) (hnb : n < 140737488355000) (hm : m + 64 < 140737488355000) (w : World) (hv : BytesIn w v n bs) (htv : BytesIn w tv m t) :
    Calls Tryd.prog 28 #[v, tv] w fun e w' => ∃ v', e = .returned v' ∧ Own w.heap.size w' v' 32 (tagH (keyB n bs) m t) ∧ Below w.heap.size w w' := by
  have hmk := fun W => make_bytes W 32 32 rfl (by decide)
  obtain ⟨xo, cx, rfl, _, _, _⟩ := hv.src
  by_cases hn : n = 0
  · have hb := (Below.refl w.heap.size w).alloc (Nat.le_refl _) (.cells (zb 32) 5)
    have h := rHmac_any (.slice (some ⟨w.heap.size, 0, none⟩) 32 32) tv 32 m (fun _ => 0) t (fun _ => by decide) ht (by decide) hm _ (Own.made w.heap.size w 32 (by decide) (Nat.le_refl _)).bytesIn (htv.keep hb)
    rw [keyB_zeros (fun _ => 0) bs (fun _ _ => rfl)] at h
    subst hn
    obtain ⟨T, hT⟩ : ∃ T, T = tagH (keyB 0 bs) m t := ⟨_, rfl⟩
    rw [← hT] at h ⊢
    clear hv htv hT
    go_enter Tryd.func28, Tryd.ntmps28
    go_wp2_with (go_at_call 25; refine h.mono ?_; clear h; rintro e w1 ⟨v1, rfl, own1, hb1⟩)
    go_ret
    exact ⟨v1, rfl, own1.lower (by simp), hb.trans (hb1.mono (by simp))⟩
  · have h := rHmac_any (.slice xo n cx) tv n m bs t hbs ht hnb hm w hv htv
    obtain ⟨T, hT⟩ : ∃ T, T = tagH (keyB n bs) m t := ⟨_, rfl⟩
    rw [← hT] at h ⊢
    have hni : ¬((n : Int) = 0) := by omega
    clear hv htv hT
    go_enter Tryd.func28, Tryd.ntmps28
    go_wp2_with (go_at_call 25; refine h.mono ?_; clear h; rintro e w1 ⟨v1, rfl, own1, hb1⟩)
    go_ret
    exact ⟨v1, rfl, own1, hb1⟩
end Go.Proofs.YtlfofbkanifocaaDoor
