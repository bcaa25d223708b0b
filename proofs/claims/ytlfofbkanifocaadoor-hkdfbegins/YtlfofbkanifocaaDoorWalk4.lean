/- The walk of the law HkdfBegins in the model. -/
import Derived.Test.YtlfofbkanifocaaDoorWalk3
import Derived.Test.YtlfofbkanifocaaDoorZeros
namespace Go.Proofs.YtlfofbkanifocaaDoor
open Go.RowKit
theorem own_bytes {base : Nat} {w : World} {v : Value} {n : Nat} {X : Nat → Nat} (h : Own base w v n X) : BytesIn w v n X := by
  rcases h.form with ⟨rfl, rfl⟩ | ⟨g, cap, rfl, _, hl, hc, hr⟩
  · exact .inl ⟨none, rfl, rfl⟩
  · exact .inr ⟨g, 0, cap, rfl, hl, hc, fun j hj => (hr j hj).1⟩
--BOTH
theorem reduced (z : Int) : ∃ p : Nat, p ≤ 8160 ∧ (wrap64 (z.tmod 8161 + 8161)).tmod 8161 = (p : Int) := by
  have h1 : -8161 < z.tmod 8161 ∧ z.tmod 8161 < 8161 := by
    constructor
    · have := Int.lt_tmod_of_pos z (b := 8161) (by decide); omega
    · exact Int.tmod_lt_of_pos z (by decide)
  have h2 : wrap64 (z.tmod 8161 + 8161) = z.tmod 8161 + 8161 := by unfold wrap64; omega
  rw [h2]
  have h3 : 0 ≤ (z.tmod 8161 + 8161).tmod 8161 := Int.tmod_nonneg _ (by omega)
  have h4 := Int.tmod_lt_of_pos (z.tmod 8161 + 8161) (b := 8161) (by decide)
  exact ⟨((z.tmod 8161 + 8161).tmod 8161).toNat, by omega, by omega⟩
theorem keyB_padded (n m : Nat) (bs : Nat → Nat) (hn : n + m = 64) : keyB (n + m) (cat n bs (fun _ => 0)) = keyB n bs := by
  funext j
  unfold keyB cat
  simp only [show n + m ≤ 64 by omega, show n ≤ 64 by omega, if_true]
  by_cases h : j < n
  · simp only [h, if_true, show j < n + m by omega]
  · simp only [h, if_false, ite_self]
theorem outF_begins (kv : Nat → Nat) (m : Nat) (info : Nat → Nat) (a b : Nat) (h : a ≤ b) : strB a (outF kv m info b) = strB a (outF kv m info a) :=
  strB_congr (fun j hj => by unfold outF; rw [if_pos hj, if_pos (by omega)])
set_option maxRecDepth 20000 in
set_option maxHeartbeats 2000000 in
theorem begins_lt (xo : Option Addr) (cx : Nat) (v1 : Value) (n0 n1 : Nat) (bs0 bs1 : Nat → Nat) (hl0 : ∀ j, bs0 j < 256) (hl1 : ∀ j, bs1 j < 256) (z y : Int) (a b : Nat) (ep : (wrap64 (z.tmod 8161 + 8161)).tmod 8161 = (a : Int)) (eq : (wrap64 (y.tmod 8161 + 8161)).tmod 8161 = (b : Int)) (hlt : a < b) (ha : a ≤ 8160) (hb : b ≤ 8160) (w : World) (hT : Tab w cubeK squareK) (hv0 : BytesIn w (.slice xo n0 cx) n0 bs0) (hv1 : BytesIn w v1 n1 bs1) (hn0 : n0 < 140737488352000) (hn1 : n1 < 140737488352000) :
    Calls Tryd.prog 11 #[.slice xo n0 cx, v1, .int .i64 z, .int .i64 y] w fun e w' => e = .returned (.bool true) ∧ Below w.heap.size w w' := by
  have h3 := hT.size
  obtain ⟨x1, k1, rfl, hx1, -, -⟩ := hv1.src
  obtain ⟨xo', cx', hxe, hxo, -, hsi⟩ := hv0.src
  cases hxe
  have hab : a ≤ b := by omega
  have hE : ∀ (W : World) (N : Nat), Below w.heap.size w W → N ≤ 8160 → Calls Tryd.prog 29 #[.slice xo n0 cx, .slice x1 n1 k1, .int .i64 N] W fun e w' => ∃ g, e = .returned (.tuple #[.slice (some ⟨g, 0, none⟩) N N, .int .i64 0]) ∧ W.heap.size ≤ g ∧ RowAt .u8 w' g 0 N (outF (keyB n0 bs0) n1 bs1 N) ∧ Below W.heap.size W w' := fun W N hW hN => expand_any xo x1 n0 n1 cx k1 bs0 bs1 hl0 hl1 (by omega) (by omega) W (hT.below hW h3) (hv0.keep hW) (hv1.keep hW) N hN
  have hk := fun W (hW : Below w.heap.size w W) => knows2_any W (hT.below hW h3)
  have hH := fun W v n bs (hbs : ∀ j, bs j < 256) (hn : n < 2305843009213693000) (hW : Below w.heap.size w W) (hv : BytesIn W v n bs) => hmac_any v (.slice x1 n1 k1) n n1 bs bs1 hbs hl1 hn (by omega) W (hT.below hW h3) hv (hv1.keep hW)
  have hvk0 := fun W (hW : Below w.heap.size w W) => hv0.keep hW
  have hOF := outF_begins (keyB n0 bs0) n1 bs1 a b hab
  have hOl : ∀ N j, outF (keyB n0 bs0) n1 bs1 N j < 256 := fun N j => outF_lt _ _ _ _ _
  have hEa := hE w a (Below.refl _ _) ha
  have hEb := fun W hW => hE W b hW hb
  obtain ⟨XA, hXA⟩ : ∃ X, X = outF (keyB n0 bs0) n1 bs1 a := ⟨_, rfl⟩
  obtain ⟨XB, hXB⟩ : ∃ X, X = outF (keyB n0 bs0) n1 bs1 b := ⟨_, rfl⟩
  have hAl : ∀ j, XA j < 256 := fun j => by rw [hXA]; exact hOl _ _
  have hBl : ∀ j, XB j < 256 := fun j => by rw [hXB]; exact hOl _ _
  rw [← hXA, ← hXB] at hOF
  rw [← hXA] at hEa
  rw [← hXB] at hEb
  have HO : Hid (strB a XB = strB a XA) := hOF
  clear hE hOl hXA hXB hOF hT hv0 hv1
  have hk64 : Hid (n0 < 64 ∨ ¬n0 < 64) := (Nat.lt_or_ge n0 64).imp id Nat.not_lt.2
  have hEb' : ∀ W, Below w.heap.size w W → ∀ (X : Nat), X = b → Calls Tryd.prog 29 #[.slice xo n0 cx, .slice x1 n1 k1, .int .i64 X] W fun e w' => ∃ g, e = .returned (.tuple #[.slice (some ⟨g, 0, none⟩) b b, .int .i64 0]) ∧ W.heap.size ≤ g ∧ RowAt .u8 w' g 0 b XB ∧ Below W.heap.size W w' := fun W hW X hX => by subst hX; exact hEb W hW
  clear hEb'
  have hlti : (a : Int) < (b : Int) := by omega
  go_enter Tryd.func11, Tryd.ntmps11
  go_wp2_with (first
    | (go_at_call 29; refine hEa.mono ?_; clear hEa; rintro e w1 ⟨ga, rfl, hga, hra, hb1⟩; replace hEb := hEb w1 hb1)
    | (go_at_call 29; refine hEb.mono ?_; clear hEb; rintro e w2 ⟨gb, rfl, hgb, hrb, hb2⟩))
  have hgal : ga < w1.heap.size ∨ a = 0 := (Nat.eq_zero_or_pos a).elim .inr (fun h => .inl (block_lt_of_cell (hra 0 h).1))
  have hbw2 : Below w.heap.size w w2 := hb1.trans (hb2.mono hb1.size)
  have ra2 : ∀ j, j < a → w2.drew.cell? ⟨ga, 0 + j, none⟩ = some (.int .u8 (XA j)) := fun j hj => by
    have hl := hgal.resolve_right (by omega)
    exact (hb2.cell (p := ⟨ga, 0 + j, none⟩) hl).trans (hra j hj).1
  have q1 : ∀ W, Below w2.heap.size w2 W → (convert 22 9 (.slice (some ⟨ga, 0, none⟩) a a)).run Tryd.prog W = .ok (.string (strB a XA)) W := fun W hW => conv_bytes W ga 0 a a XA hAl (fun j hj => (hW.cell (p := ⟨ga, 0 + j, none⟩) (Nat.lt_of_lt_of_le (hgal.resolve_right (by omega)) hb2.size)).trans (ra2 j hj))
  have q2 : ∀ W, Below w2.heap.size w2 W → (convert 22 9 (.slice (some ⟨gb, 0, none⟩) a b)).run Tryd.prog W = .ok (.string (strB a XA)) W := fun W hW => by
    rw [← HO.out]
    exact conv_bytes W gb 0 a b XB hBl (fun j hj => (hW.cell (p := ⟨gb, 0 + j, none⟩) (block_lt_of_cell (hrb j (by omega)).1)).trans (hrb j (by omega)).1)
  have hsl := fun W => sliceTo W gb b b a hab
  have hb0 : Below w2.heap.size w2 w2.drew := (Below.refl _ _).drew
  have hbd : Below w.heap.size w w2.drew := hbw2.trans (hb0.mono hbw2.size)
  have habi : (a : Int) ≤ (b : Int) := by omega
  clear hra hrb ra2 hgal hb1 hb2
  go_region_held3 (fun w' => Below w2.heap.size w2 w') (first | assumption) (first
    | (go_at_call 31; refine (num2_any _ _).mono ?_; rintro e wn ⟨rfl, hwn⟩; subst hwn))
  rcases hk64.out with h64 | h64
  · have h64i : (n0 : Int) < 64 := by omega
    obtain ⟨m, hm⟩ : ∃ m, n0 + m = 64 := ⟨64 - n0, by omega⟩
    have hmi : (64 : Int) - (n0 : Int) = (m : Int) := by omega
    have hm0 : 0 < m := by omega
    have src0 := hsi _ ((hbd.alloc hbd.size (.cells #[] 5)))
    have hkp := keyB_padded n0 m bs0 hm
    have Hkp : Hid (keyB (n0 + m) (cat n0 bs0 (fun _ => 0)) = keyB n0 bs0) := hkp
    have Hm : Hid (n0 + m = 64) := hm
    have hcat : ∀ j, cat n0 bs0 (fun _ => 0) j < 256 := cat_lt hl0 (fun _ => by decide)
    have hn64 : n0 + m ≤ 1000000 := by omega
    clear hkp hm
    go_wp2_with (first
      | (at_builtin; refine wpList_append_empty rfl (.tmp 75) (.tmp 76) rfl w.heap.size bs0 _ rfl rfl xo n0 cx rfl src0 hxo (by omega) hbd.size ?_; intro v3 w3 own3 hb3; have hbw3 := hbd.trans hb3; clear src0)
      | (at_builtin; refine wpList_append_zeros rfl (.tmp 77) (.tmp 80) rfl w.heap.size v3 n0 bs0 rfl own3 m rfl hm0 hn64 hbw3.size ?_; intro v4 w4 own4 grow4; have hbw4 := Own.grown hbw3 grow4 own3 (Nat.le_refl _) hbw3.size))
    have hd4 : Below w4.heap.size w4 w4.drew := (Below.refl _ _).drew
    have hbd4 : Below w.heap.size w w4.drew := hbw4.trans (hd4.mono hbw4.size)
    have own5 := own4.below hd4
    have c1 := hH w4.drew v4 (n0 + m) (cat n0 bs0 (fun _ => 0)) hcat (by omega) hbd4 (own_bytes own5)
    rw [Hkp.out] at c1
    have c2 := fun W (hW : Below w.heap.size w W) => hH W (.slice xo n0 cx) n0 bs0 hl0 (by omega) hW (hvk0 W hW)
    obtain ⟨TH, hTH⟩ : ∃ TH, TH = tagH (keyB n0 bs0) n1 bs1 := ⟨_, rfl⟩
    have hTl : ∀ j, TH j < 256 := fun j => by rw [hTH]; exact tagH_lt _ _ _ j
    rw [← hTH] at c1
    have c2' : ∀ W, Below w.heap.size w W → Calls Tryd.prog 24 #[.slice xo n0 cx, .slice x1 n1 k1] W fun e w' => ∃ g, e = .returned (.slice (some ⟨g, 0, none⟩) 32 32) ∧ W.heap.size ≤ g ∧ RowAt .u8 w' g 0 32 TH ∧ Below W.heap.size W w' := fun W hW => by rw [hTH]; exact c2 W hW
    rcases own4.form with ⟨-, h0⟩ | ⟨g4, k4, rfl, -, -, -, -⟩
    · omega
    clear c2 hTH hH hvk0 q1 q2 hsl hsi own3 own4 own5 grow4
    go_wp2
    go_region_with (first
      | (go_at_call 24; refine c1.mono ?_; clear c1; rintro e w5 ⟨g5, rfl, hg5, hr5, hb5⟩; (have hbw5 : Below w.heap.size w w5 := hbd4.trans (hb5.mono hbd4.size)); (have hB5 : BytesIn w5 (.slice (some ⟨g5, 0, none⟩) 32 32) 32 TH := .inr ⟨g5, 0, 32, rfl, block_lt_of_cell (hr5 0 (by decide)).1, Nat.le_refl _, fun j hj => (hr5 j hj).1⟩); (have hv5 := hB5.conv hTl w5 (Below.refl _ _)); replace c2' := c2' w5 hbw5)
      | (go_at_call 24; refine c2'.mono ?_; clear c2'; rintro e w6 ⟨g6, rfl, hg6, hr6, hb6⟩; (have hbw6 : Below w.heap.size w w6 := hbw5.trans (hb6.mono hbw5.size)); (have hB6 : BytesIn w6 (.slice (some ⟨g6, 0, none⟩) 32 32) 32 TH := .inr ⟨g6, 0, 32, rfl, block_lt_of_cell (hr6 0 (by decide)).1, Nat.le_refl _, fun j hj => (hr6 j hj).1⟩); (have hv6 := hB6.conv hTl w6 (Below.refl _ _)); (have hv56 := hB5.conv hTl w6 hb6); replace hk := hk w6 hbw6)
      | (go_at_call 26; refine hk.mono ?_; clear hk; rintro e w7 ⟨rfl, hb7⟩; (have hbw7 : Below w.heap.size w w7 := hbw6.trans (hb7.mono hbw6.size))))
    all_goals (go_wp2; go_ret; exact ⟨rfl, hbw7⟩)
  · have h64i : ¬(n0 : Int) < 64 := by omega
    have hkd := hk w2.drew hbd
    go_wp2_with (go_at_call 26; refine hkd.mono ?_; clear hkd; rintro e w3 ⟨rfl, hb3⟩)
    go_ret
    exact ⟨rfl, hbd.trans (hb3.mono hbd.size)⟩
set_option maxRecDepth 20000 in
set_option maxHeartbeats 2000000 in
theorem begins_gt (xo : Option Addr) (cx : Nat) (v1 : Value) (n0 n1 : Nat) (bs0 bs1 : Nat → Nat) (hl0 : ∀ j, bs0 j < 256) (hl1 : ∀ j, bs1 j < 256) (z y : Int) (a b : Nat) (ep : (wrap64 (z.tmod 8161 + 8161)).tmod 8161 = (b : Int)) (eq : (wrap64 (y.tmod 8161 + 8161)).tmod 8161 = (a : Int)) (hlt : a < b) (ha : a ≤ 8160) (hb : b ≤ 8160) (w : World) (hT : Tab w cubeK squareK) (hv0 : BytesIn w (.slice xo n0 cx) n0 bs0) (hv1 : BytesIn w v1 n1 bs1) (hn0 : n0 < 140737488352000) (hn1 : n1 < 140737488352000) :
    Calls Tryd.prog 11 #[.slice xo n0 cx, v1, .int .i64 z, .int .i64 y] w fun e w' => e = .returned (.bool true) ∧ Below w.heap.size w w' := by
  have h3 := hT.size
  obtain ⟨x1, k1, rfl, hx1, -, -⟩ := hv1.src
  obtain ⟨xo', cx', hxe, hxo, -, hsi⟩ := hv0.src
  cases hxe
  have hab : a ≤ b := by omega
  have hE : ∀ (W : World) (N : Nat), Below w.heap.size w W → N ≤ 8160 → Calls Tryd.prog 29 #[.slice xo n0 cx, .slice x1 n1 k1, .int .i64 N] W fun e w' => ∃ g, e = .returned (.tuple #[.slice (some ⟨g, 0, none⟩) N N, .int .i64 0]) ∧ W.heap.size ≤ g ∧ RowAt .u8 w' g 0 N (outF (keyB n0 bs0) n1 bs1 N) ∧ Below W.heap.size W w' := fun W N hW hN => expand_any xo x1 n0 n1 cx k1 bs0 bs1 hl0 hl1 (by omega) (by omega) W (hT.below hW h3) (hv0.keep hW) (hv1.keep hW) N hN
  have hk := fun W (hW : Below w.heap.size w W) => knows2_any W (hT.below hW h3)
  have hH := fun W v n bs (hbs : ∀ j, bs j < 256) (hn : n < 2305843009213693000) (hW : Below w.heap.size w W) (hv : BytesIn W v n bs) => hmac_any v (.slice x1 n1 k1) n n1 bs bs1 hbs hl1 hn (by omega) W (hT.below hW h3) hv (hv1.keep hW)
  have hvk0 := fun W (hW : Below w.heap.size w W) => hv0.keep hW
  have hOF := outF_begins (keyB n0 bs0) n1 bs1 a b hab
  have hOl : ∀ N j, outF (keyB n0 bs0) n1 bs1 N j < 256 := fun N j => outF_lt _ _ _ _ _
  have hEa := hE w a (Below.refl _ _) ha
  have hEb := fun W hW => hE W b hW hb
  obtain ⟨XA, hXA⟩ : ∃ X, X = outF (keyB n0 bs0) n1 bs1 a := ⟨_, rfl⟩
  obtain ⟨XB, hXB⟩ : ∃ X, X = outF (keyB n0 bs0) n1 bs1 b := ⟨_, rfl⟩
  have hAl : ∀ j, XA j < 256 := fun j => by rw [hXA]; exact hOl _ _
  have hBl : ∀ j, XB j < 256 := fun j => by rw [hXB]; exact hOl _ _
  rw [← hXA, ← hXB] at hOF
  rw [← hXA] at hEa
  rw [← hXB] at hEb
  have HO : Hid (strB a XB = strB a XA) := hOF
  clear hE hOl hXA hXB hOF hT hv0 hv1
  have hk64 : Hid (n0 < 64 ∨ ¬n0 < 64) := (Nat.lt_or_ge n0 64).imp id Nat.not_lt.2
  have hEb' : ∀ W, Below w.heap.size w W → ∀ (X : Nat), X = b → Calls Tryd.prog 29 #[.slice xo n0 cx, .slice x1 n1 k1, .int .i64 X] W fun e w' => ∃ g, e = .returned (.tuple #[.slice (some ⟨g, 0, none⟩) b b, .int .i64 0]) ∧ W.heap.size ≤ g ∧ RowAt .u8 w' g 0 b XB ∧ Below W.heap.size W w' := fun W hW X hX => by subst hX; exact hEb W hW
  clear hEb'
  have hlti : (a : Int) < (b : Int) := by omega
  have hnlt : ¬(b : Int) < (a : Int) := by omega
  have hnle : ¬(b : Int) ≤ (a : Int) := by omega
  have hnltN : ¬b < a := by omega
  have hnleN : ¬b ≤ a := by omega
  go_enter Tryd.func11, Tryd.ntmps11
  go_wp2_with (first
    | (go_at_call 29; refine hEa.mono ?_; clear hEa; rintro e w1 ⟨ga, rfl, hga, hra, hb1⟩; replace hEb := hEb w1 hb1)
    | (go_at_call 29; refine hEb.mono ?_; clear hEb; rintro e w2 ⟨gb, rfl, hgb, hrb, hb2⟩))
  have hgal : ga < w1.heap.size ∨ a = 0 := (Nat.eq_zero_or_pos a).elim .inr (fun h => .inl (block_lt_of_cell (hra 0 h).1))
  have hbw2 : Below w.heap.size w w2 := hb1.trans (hb2.mono hb1.size)
  have ra2 : ∀ j, j < a → w2.drew.cell? ⟨ga, 0 + j, none⟩ = some (.int .u8 (XA j)) := fun j hj => by
    have hl := hgal.resolve_right (by omega)
    exact (hb2.cell (p := ⟨ga, 0 + j, none⟩) hl).trans (hra j hj).1
  have q1 : ∀ W, Below w2.heap.size w2 W → (convert 22 9 (.slice (some ⟨ga, 0, none⟩) a a)).run Tryd.prog W = .ok (.string (strB a XA)) W := fun W hW => conv_bytes W ga 0 a a XA hAl (fun j hj => (hW.cell (p := ⟨ga, 0 + j, none⟩) (Nat.lt_of_lt_of_le (hgal.resolve_right (by omega)) hb2.size)).trans (ra2 j hj))
  have q2 : ∀ W, Below w2.heap.size w2 W → (convert 22 9 (.slice (some ⟨gb, 0, none⟩) a b)).run Tryd.prog W = .ok (.string (strB a XA)) W := fun W hW => by
    rw [← HO.out]
    exact conv_bytes W gb 0 a b XB hBl (fun j hj => (hW.cell (p := ⟨gb, 0 + j, none⟩) (block_lt_of_cell (hrb j (by omega)).1)).trans (hrb j (by omega)).1)
  have hsl := fun W => sliceTo W gb b b a hab
  have hb0 : Below w2.heap.size w2 w2.drew := (Below.refl _ _).drew
  have hbd : Below w.heap.size w w2.drew := hbw2.trans (hb0.mono hbw2.size)
  have habi : (a : Int) ≤ (b : Int) := by omega
  clear hra hrb ra2 hgal hb1 hb2
  go_region_held3 (fun w' => Below w2.heap.size w2 w') (first | assumption) (first
    | (go_at_call 31; refine (num2_any _ _).mono ?_; rintro e wn ⟨rfl, hwn⟩; subst hwn))
  rcases hk64.out with h64 | h64
  · have h64i : (n0 : Int) < 64 := by omega
    obtain ⟨m, hm⟩ : ∃ m, n0 + m = 64 := ⟨64 - n0, by omega⟩
    have hmi : (64 : Int) - (n0 : Int) = (m : Int) := by omega
    have hm0 : 0 < m := by omega
    have src0 := hsi _ ((hbd.alloc hbd.size (.cells #[] 5)))
    have hkp := keyB_padded n0 m bs0 hm
    have Hkp : Hid (keyB (n0 + m) (cat n0 bs0 (fun _ => 0)) = keyB n0 bs0) := hkp
    have Hm : Hid (n0 + m = 64) := hm
    have hcat : ∀ j, cat n0 bs0 (fun _ => 0) j < 256 := cat_lt hl0 (fun _ => by decide)
    have hn64 : n0 + m ≤ 1000000 := by omega
    clear hkp hm
    go_wp2_with (first
      | (at_builtin; refine wpList_append_empty rfl (.tmp 75) (.tmp 76) rfl w.heap.size bs0 _ rfl rfl xo n0 cx rfl src0 hxo (by omega) hbd.size ?_; intro v3 w3 own3 hb3; have hbw3 := hbd.trans hb3; clear src0)
      | (at_builtin; refine wpList_append_zeros rfl (.tmp 77) (.tmp 80) rfl w.heap.size v3 n0 bs0 rfl own3 m rfl hm0 hn64 hbw3.size ?_; intro v4 w4 own4 grow4; have hbw4 := Own.grown hbw3 grow4 own3 (Nat.le_refl _) hbw3.size))
    have hd4 : Below w4.heap.size w4 w4.drew := (Below.refl _ _).drew
    have hbd4 : Below w.heap.size w w4.drew := hbw4.trans (hd4.mono hbw4.size)
    have own5 := own4.below hd4
    have c1 := hH w4.drew v4 (n0 + m) (cat n0 bs0 (fun _ => 0)) hcat (by omega) hbd4 (own_bytes own5)
    rw [Hkp.out] at c1
    have c2 := fun W (hW : Below w.heap.size w W) => hH W (.slice xo n0 cx) n0 bs0 hl0 (by omega) hW (hvk0 W hW)
    obtain ⟨TH, hTH⟩ : ∃ TH, TH = tagH (keyB n0 bs0) n1 bs1 := ⟨_, rfl⟩
    have hTl : ∀ j, TH j < 256 := fun j => by rw [hTH]; exact tagH_lt _ _ _ j
    rw [← hTH] at c1
    have c2' : ∀ W, Below w.heap.size w W → Calls Tryd.prog 24 #[.slice xo n0 cx, .slice x1 n1 k1] W fun e w' => ∃ g, e = .returned (.slice (some ⟨g, 0, none⟩) 32 32) ∧ W.heap.size ≤ g ∧ RowAt .u8 w' g 0 32 TH ∧ Below W.heap.size W w' := fun W hW => by rw [hTH]; exact c2 W hW
    rcases own4.form with ⟨-, h0⟩ | ⟨g4, k4, rfl, -, -, -, -⟩
    · omega
    clear c2 hTH hH hvk0 q1 q2 hsl hsi own3 own4 own5 grow4
    go_wp2
    go_region_with (first
      | (go_at_call 24; refine c1.mono ?_; clear c1; rintro e w5 ⟨g5, rfl, hg5, hr5, hb5⟩; (have hbw5 : Below w.heap.size w w5 := hbd4.trans (hb5.mono hbd4.size)); (have hB5 : BytesIn w5 (.slice (some ⟨g5, 0, none⟩) 32 32) 32 TH := .inr ⟨g5, 0, 32, rfl, block_lt_of_cell (hr5 0 (by decide)).1, Nat.le_refl _, fun j hj => (hr5 j hj).1⟩); (have hv5 := hB5.conv hTl w5 (Below.refl _ _)); replace c2' := c2' w5 hbw5)
      | (go_at_call 24; refine c2'.mono ?_; clear c2'; rintro e w6 ⟨g6, rfl, hg6, hr6, hb6⟩; (have hbw6 : Below w.heap.size w w6 := hbw5.trans (hb6.mono hbw5.size)); (have hB6 : BytesIn w6 (.slice (some ⟨g6, 0, none⟩) 32 32) 32 TH := .inr ⟨g6, 0, 32, rfl, block_lt_of_cell (hr6 0 (by decide)).1, Nat.le_refl _, fun j hj => (hr6 j hj).1⟩); (have hv6 := hB6.conv hTl w6 (Below.refl _ _)); (have hv56 := hB5.conv hTl w6 hb6); replace hk := hk w6 hbw6)
      | (go_at_call 26; refine hk.mono ?_; clear hk; rintro e w7 ⟨rfl, hb7⟩; (have hbw7 : Below w.heap.size w w7 := hbw6.trans (hb7.mono hbw6.size))))
    all_goals (go_wp2; go_ret; exact ⟨rfl, hbw7⟩)
  · have h64i : ¬(n0 : Int) < 64 := by omega
    have hkd := hk w2.drew hbd
    go_wp2_with (go_at_call 26; refine hkd.mono ?_; clear hkd; rintro e w3 ⟨rfl, hb3⟩)
    go_ret
    exact ⟨rfl, hbd.trans (hb3.mono hbd.size)⟩
set_option maxRecDepth 20000 in
set_option maxHeartbeats 2000000 in
theorem begins_eq (xo : Option Addr) (cx : Nat) (v1 : Value) (n0 n1 : Nat) (bs0 bs1 : Nat → Nat) (hl0 : ∀ j, bs0 j < 256) (hl1 : ∀ j, bs1 j < 256) (z y : Int) (a : Nat) (ep : (wrap64 (z.tmod 8161 + 8161)).tmod 8161 = (a : Int)) (eq : (wrap64 (y.tmod 8161 + 8161)).tmod 8161 = (a : Int)) (ha : a ≤ 8160) (w : World) (hT : Tab w cubeK squareK) (hv0 : BytesIn w (.slice xo n0 cx) n0 bs0) (hv1 : BytesIn w v1 n1 bs1) (hn0 : n0 < 140737488352000) (hn1 : n1 < 140737488352000) :
    Calls Tryd.prog 11 #[.slice xo n0 cx, v1, .int .i64 z, .int .i64 y] w fun e w' => e = .returned (.bool true) ∧ Below w.heap.size w w' := by
  have h3 := hT.size
  obtain ⟨x1, k1, rfl, hx1, -, -⟩ := hv1.src
  obtain ⟨xo', cx', hxe, hxo, -, hsi⟩ := hv0.src
  cases hxe
  have hab : a ≤ a := Nat.le_refl _
  have hE : ∀ (W : World) (N : Nat), Below w.heap.size w W → N ≤ 8160 → Calls Tryd.prog 29 #[.slice xo n0 cx, .slice x1 n1 k1, .int .i64 N] W fun e w' => ∃ g, e = .returned (.tuple #[.slice (some ⟨g, 0, none⟩) N N, .int .i64 0]) ∧ W.heap.size ≤ g ∧ RowAt .u8 w' g 0 N (outF (keyB n0 bs0) n1 bs1 N) ∧ Below W.heap.size W w' := fun W N hW hN => expand_any xo x1 n0 n1 cx k1 bs0 bs1 hl0 hl1 (by omega) (by omega) W (hT.below hW h3) (hv0.keep hW) (hv1.keep hW) N hN
  have hk := fun W (hW : Below w.heap.size w W) => knows2_any W (hT.below hW h3)
  have hH := fun W v n bs (hbs : ∀ j, bs j < 256) (hn : n < 2305843009213693000) (hW : Below w.heap.size w W) (hv : BytesIn W v n bs) => hmac_any v (.slice x1 n1 k1) n n1 bs bs1 hbs hl1 hn (by omega) W (hT.below hW h3) hv (hv1.keep hW)
  have hvk0 := fun W (hW : Below w.heap.size w W) => hv0.keep hW
  have hOl : ∀ N j, outF (keyB n0 bs0) n1 bs1 N j < 256 := fun N j => outF_lt _ _ _ _ _
  have hEa := hE w a (Below.refl _ _) ha
  have hEb := fun W hW => hE W a hW ha
  obtain ⟨XA, hXA⟩ : ∃ X, X = outF (keyB n0 bs0) n1 bs1 a := ⟨_, rfl⟩
  obtain ⟨XB, hXB⟩ : ∃ X, X = XA := ⟨_, rfl⟩
  have hAl : ∀ j, XA j < 256 := fun j => by rw [hXA]; exact hOl _ _
  have hBl : ∀ j, XB j < 256 := fun j => by rw [hXB]; exact hAl j
  have hOF : strB a XB = strB a XA := by rw [hXB]
  rw [← hXA] at hEa
  rw [← hXA, ← hXB] at hEb
  have HO : Hid (strB a XB = strB a XA) := hOF
  clear hE hOl hXA hXB hOF hT hv0 hv1
  have hk64 : Hid (n0 < 64 ∨ ¬n0 < 64) := (Nat.lt_or_ge n0 64).imp id Nat.not_lt.2
  have hEb' : ∀ W, Below w.heap.size w W → ∀ (X : Nat), X = a → Calls Tryd.prog 29 #[.slice xo n0 cx, .slice x1 n1 k1, .int .i64 X] W fun e w' => ∃ g, e = .returned (.tuple #[.slice (some ⟨g, 0, none⟩) a a, .int .i64 0]) ∧ W.heap.size ≤ g ∧ RowAt .u8 w' g 0 a XB ∧ Below W.heap.size W w' := fun W hW X hX => by subst hX; exact hEb W hW
  clear hEb'
  go_enter Tryd.func11, Tryd.ntmps11
  go_wp2_with (first
    | (go_at_call 29; refine hEa.mono ?_; clear hEa; rintro e w1 ⟨ga, rfl, hga, hra, hb1⟩; replace hEb := hEb w1 hb1)
    | (go_at_call 29; refine hEb.mono ?_; clear hEb; rintro e w2 ⟨gb, rfl, hgb, hrb, hb2⟩))
  have hgal : ga < w1.heap.size ∨ a = 0 := (Nat.eq_zero_or_pos a).elim .inr (fun h => .inl (block_lt_of_cell (hra 0 h).1))
  have hbw2 : Below w.heap.size w w2 := hb1.trans (hb2.mono hb1.size)
  have ra2 : ∀ j, j < a → w2.drew.cell? ⟨ga, 0 + j, none⟩ = some (.int .u8 (XA j)) := fun j hj => by
    have hl := hgal.resolve_right (by omega)
    exact (hb2.cell (p := ⟨ga, 0 + j, none⟩) hl).trans (hra j hj).1
  have q1 : ∀ W, Below w2.heap.size w2 W → (convert 22 9 (.slice (some ⟨ga, 0, none⟩) a a)).run Tryd.prog W = .ok (.string (strB a XA)) W := fun W hW => conv_bytes W ga 0 a a XA hAl (fun j hj => (hW.cell (p := ⟨ga, 0 + j, none⟩) (Nat.lt_of_lt_of_le (hgal.resolve_right (by omega)) hb2.size)).trans (ra2 j hj))
  have q2 : ∀ W, Below w2.heap.size w2 W → (convert 22 9 (.slice (some ⟨gb, 0, none⟩) a a)).run Tryd.prog W = .ok (.string (strB a XA)) W := fun W hW => by
    rw [← HO.out]
    exact conv_bytes W gb 0 a a XB hBl (fun j hj => (hW.cell (p := ⟨gb, 0 + j, none⟩) (block_lt_of_cell (hrb j (by omega)).1)).trans (hrb j (by omega)).1)
  have hsl := fun W => sliceTo W gb a a a hab
  have hb0 : Below w2.heap.size w2 w2.drew := (Below.refl _ _).drew
  have hbd : Below w.heap.size w w2.drew := hbw2.trans (hb0.mono hbw2.size)
  have habi : (a : Int) ≤ (a : Int) := by omega
  clear hra hrb ra2 hgal hb1 hb2
  go_region_held3 (fun w' => Below w2.heap.size w2 w') (first | assumption) (first
    | (go_at_call 31; refine (num2_any _ _).mono ?_; rintro e wn ⟨rfl, hwn⟩; subst hwn))
  rcases hk64.out with h64 | h64
  · have h64i : (n0 : Int) < 64 := by omega
    obtain ⟨m, hm⟩ : ∃ m, n0 + m = 64 := ⟨64 - n0, by omega⟩
    have hmi : (64 : Int) - (n0 : Int) = (m : Int) := by omega
    have hm0 : 0 < m := by omega
    have src0 := hsi _ ((hbd.alloc hbd.size (.cells #[] 5)))
    have hkp := keyB_padded n0 m bs0 hm
    have Hkp : Hid (keyB (n0 + m) (cat n0 bs0 (fun _ => 0)) = keyB n0 bs0) := hkp
    have Hm : Hid (n0 + m = 64) := hm
    have hcat : ∀ j, cat n0 bs0 (fun _ => 0) j < 256 := cat_lt hl0 (fun _ => by decide)
    have hn64 : n0 + m ≤ 1000000 := by omega
    clear hkp hm
    go_wp2_with (first
      | (at_builtin; refine wpList_append_empty rfl (.tmp 75) (.tmp 76) rfl w.heap.size bs0 _ rfl rfl xo n0 cx rfl src0 hxo (by omega) hbd.size ?_; intro v3 w3 own3 hb3; have hbw3 := hbd.trans hb3; clear src0)
      | (at_builtin; refine wpList_append_zeros rfl (.tmp 77) (.tmp 80) rfl w.heap.size v3 n0 bs0 rfl own3 m rfl hm0 hn64 hbw3.size ?_; intro v4 w4 own4 grow4; have hbw4 := Own.grown hbw3 grow4 own3 (Nat.le_refl _) hbw3.size))
    have hd4 : Below w4.heap.size w4 w4.drew := (Below.refl _ _).drew
    have hbd4 : Below w.heap.size w w4.drew := hbw4.trans (hd4.mono hbw4.size)
    have own5 := own4.below hd4
    have c1 := hH w4.drew v4 (n0 + m) (cat n0 bs0 (fun _ => 0)) hcat (by omega) hbd4 (own_bytes own5)
    rw [Hkp.out] at c1
    have c2 := fun W (hW : Below w.heap.size w W) => hH W (.slice xo n0 cx) n0 bs0 hl0 (by omega) hW (hvk0 W hW)
    obtain ⟨TH, hTH⟩ : ∃ TH, TH = tagH (keyB n0 bs0) n1 bs1 := ⟨_, rfl⟩
    have hTl : ∀ j, TH j < 256 := fun j => by rw [hTH]; exact tagH_lt _ _ _ j
    rw [← hTH] at c1
    have c2' : ∀ W, Below w.heap.size w W → Calls Tryd.prog 24 #[.slice xo n0 cx, .slice x1 n1 k1] W fun e w' => ∃ g, e = .returned (.slice (some ⟨g, 0, none⟩) 32 32) ∧ W.heap.size ≤ g ∧ RowAt .u8 w' g 0 32 TH ∧ Below W.heap.size W w' := fun W hW => by rw [hTH]; exact c2 W hW
    rcases own4.form with ⟨-, h0⟩ | ⟨g4, k4, rfl, -, -, -, -⟩
    · omega
    clear c2 hTH hH hvk0 q1 q2 hsl hsi own3 own4 own5 grow4
    go_wp2
    go_region_with (first
      | (go_at_call 24; refine c1.mono ?_; clear c1; rintro e w5 ⟨g5, rfl, hg5, hr5, hb5⟩; (have hbw5 : Below w.heap.size w w5 := hbd4.trans (hb5.mono hbd4.size)); (have hB5 : BytesIn w5 (.slice (some ⟨g5, 0, none⟩) 32 32) 32 TH := .inr ⟨g5, 0, 32, rfl, block_lt_of_cell (hr5 0 (by decide)).1, Nat.le_refl _, fun j hj => (hr5 j hj).1⟩); (have hv5 := hB5.conv hTl w5 (Below.refl _ _)); replace c2' := c2' w5 hbw5)
      | (go_at_call 24; refine c2'.mono ?_; clear c2'; rintro e w6 ⟨g6, rfl, hg6, hr6, hb6⟩; (have hbw6 : Below w.heap.size w w6 := hbw5.trans (hb6.mono hbw5.size)); (have hB6 : BytesIn w6 (.slice (some ⟨g6, 0, none⟩) 32 32) 32 TH := .inr ⟨g6, 0, 32, rfl, block_lt_of_cell (hr6 0 (by decide)).1, Nat.le_refl _, fun j hj => (hr6 j hj).1⟩); (have hv6 := hB6.conv hTl w6 (Below.refl _ _)); (have hv56 := hB5.conv hTl w6 hb6); replace hk := hk w6 hbw6)
      | (go_at_call 26; refine hk.mono ?_; clear hk; rintro e w7 ⟨rfl, hb7⟩; (have hbw7 : Below w.heap.size w w7 := hbw6.trans (hb7.mono hbw6.size))))
    all_goals (go_wp2; go_ret; exact ⟨rfl, hbw7⟩)
  · have h64i : ¬(n0 : Int) < 64 := by omega
    have hkd := hk w2.drew hbd
    go_wp2_with (go_at_call 26; refine hkd.mono ?_; clear hkd; rintro e w3 ⟨rfl, hb3⟩)
    go_ret
    exact ⟨rfl, hbd.trans (hb3.mono hbd.size)⟩
theorem hkdfBegins_any (v0 v1 : Value) (n0 n1 : Nat) (bs0 bs1 : Nat → Nat) (hl0 : ∀ j, bs0 j < 256) (hl1 : ∀ j, bs1 j < 256) (z y : Int) (w : World) (hT : Tab w cubeK squareK) (hv0 : BytesIn w v0 n0 bs0) (hv1 : BytesIn w v1 n1 bs1) (hn0 : n0 < 140737488352000) (hn1 : n1 < 140737488352000) :
    Calls Tryd.prog 11 #[v0, v1, .int .i64 z, .int .i64 y] w fun e w' => e = .returned (.bool true) ∧ Below w.heap.size w w' := by
  obtain ⟨xo, cx, rfl, -⟩ := hv0.src
  obtain ⟨p, hp, ep⟩ := reduced z
  obtain ⟨q, hq, eq⟩ := reduced y
  rcases Nat.lt_trichotomy p q with h | h | h
  · exact begins_lt xo cx v1 n0 n1 bs0 bs1 hl0 hl1 z y p q ep eq h hp hq w hT hv0 hv1 hn0 hn1
  · subst h
    exact begins_eq xo cx v1 n0 n1 bs0 bs1 hl0 hl1 z y p ep eq hp w hT hv0 hv1 hn0 hn1
  · exact begins_gt xo cx v1 n0 n1 bs0 bs1 hl0 hl1 z y q p ep eq h hq hp w hT hv0 hv1 hn0 hn1
end Go.Proofs.YtlfofbkanifocaaDoor
