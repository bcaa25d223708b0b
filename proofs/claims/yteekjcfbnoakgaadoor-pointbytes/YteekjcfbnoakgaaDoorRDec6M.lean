/- What the proof stands on: RDec6, PtD. -/
import Derived.Test.YteekjcfbnoakgaaDoorPrimeM
import Derived.Test.YteekjcfbnoakgaaDoorRTimes6M
import Derived.Test.YteekjcfbnoakgaaDoorRootQM
namespace Go.Proofs.YteekjcfbnoakgaaDoor
open Go.RowKit
/-- The bytes without the highest bit. -/
def lo6 (bs : Nat → Nat) (j : Nat) : Nat := if j = 31 then bs 31 % 128 else bs j
theorem lo6_lt {bs : Nat → Nat} (h : ∀ j, bs j < 256) (j : Nat) : lo6 bs j < 256 := by
  unfold lo6; split
  · have := h 31; omega
  · exact h j
theorem and127_u8 : ∀ b : Nat, b < 256 → bits .and .u8 (b : Int) 127 = ((b % 128 : Nat) : Int) := by decide +kernel
/-- What the bytes tell: a point, or none. -/
def decU (y : Nat) : Nat := fsub (fmul y y) 1
def decV (y : Nat) : Nat := fadd (fmul dN (fmul y y)) 1
def decN (bs : Nat → Nat) : Option N4 :=
  if ofB (lo6 bs) 32 < pF then
    match rootR kP (decU (ofB (lo6 bs) 32)) (decV (ofB (lo6 bs) 32)) with
    | none => none
    | some x => if bs 31 / 128 = 1 ∧ x = 0 then none else some (ofXY (if bs 31 / 128 = 1 then fsub 0 x else x) (ofB (lo6 bs) 32))
  else none
theorem low_str {X : Nat → Nat} (hX : ∀ j, X j < 256) (z : Bool) (hz : decide (ofB X 32 < pF) = z) : ((strB 32 (byt (ofB X 32 % pF))).toList == (strB 32 X).toList) = z := by
  rw [← hz]
  by_cases h : ofB X 32 < pF
  · rw [decide_eq_true h, Nat.mod_eq_of_lt h]
    have e : strB 32 (byt (ofB X 32)) = strB 32 X := (strB_eq (byt_all _) hX).2 ⟨rfl, fun j hj => byt_ofB X hX 32 j hj⟩
    rw [e]
    exact beq_self_eq_true _
  · rw [decide_eq_false h, ByteArray.toList_eq, ByteArray.toList_eq]
    refine beq_false_of_ne (fun e => h ?_)
    have h1 := ((strB_eq (byt_all _) hX).1 (WideShapes.bytes_inj e)).2
    have h2 : ofB (byt (ofB X 32 % pF)) 32 = ofB X 32 := ofB_congr 32 h1
    have hl : ofB X 32 % pF < pF := Nat.mod_lt _ pF_pos
    rw [ofB_byt, Nat.mod_eq_of_lt (Nat.lt_trans hl (by decide))] at h2
    omega
theorem opt_lt6 (c : Prop) [Decidable c] (x P : Nat) (h : x < P) (h0 : 0 < P) : (if c then some x else none : Option Nat).getD 0 < P := by
  split
  · exact h
  · exact h0
theorem evn_lt6 {x : Nat} (h : x < pF) : evn x < pF := by
  unfold evn
  split
  · exact Nat.mod_lt _ pF_pos
  · exact h
theorem rootR_lt6 (k u v : Nat) : (rootR k u v).getD 0 < pF := opt_lt6 _ _ pF (evn_lt6 (rootZ_lt k u v)) pF_pos
/-- How Decode ends. -/
def DecEnd (bs : Nat → Nat) (t : P4) (er : Int) : Prop := (er = 30 ∧ t.Rep zeroN ∧ decN bs = none) ∨ (er = 0 ∧ ∃ p, decN bs = some p ∧ t.Rep p)
abbrev qgbx12 : Oper := { dst := some 9, op := Op.alloc 36, type := 0, pos := "ref.go:89", after := #[], guard := none }
abbrev qgbx2 : Oper := { dst := some 44, op := Op.call { callee := Callee.value (Operand.func 45), args := #[Operand.tmp 42, Operand.tmp 43], argTypes := #[36, 36] }, type := 36, pos := "ref.go:89", after := #[{ on := 0, ground := Ground.data }, { on := 1, ground := Ground.data }], guard := none }
abbrev qgbx3 : Oper := { dst := some 45, op := Op.call { callee := Callee.value (Operand.func 26), args := #[], argTypes := #[] }, type := 36, pos := "ref.go:89", after := #[{ on := 2, ground := Ground.chain }], guard := none }
abbrev qgbx5 : Oper := { dst := some 47, op := Op.call { callee := Callee.value (Operand.func 43), args := #[Operand.tmp 45, Operand.tmp 46], argTypes := #[36, 36] }, type := 36, pos := "ref.go:89", after := #[{ on := 3, ground := Ground.data }, { on := 4, ground := Ground.data }, { on := 3, ground := Ground.chain }], guard := none }
abbrev qgbx7 : Oper := { dst := some 49, op := Op.call { callee := Callee.value (Operand.func 46), args := #[Operand.tmp 47, Operand.tmp 48], argTypes := #[36, 36] }, type := 36, pos := "ref.go:89", after := #[{ on := 5, ground := Ground.data }, { on := 6, ground := Ground.data }, { on := 5, ground := Ground.chain }], guard := none }
abbrev qgbx8 : Oper := { dst := some 50, op := Op.call { callee := Callee.value (Operand.func 44), args := #[Operand.tmp 44, Operand.tmp 49], argTypes := #[36, 36] }, type := 73, pos := "ref.go:89", after := #[{ on := 2, ground := Ground.data }, { on := 7, ground := Ground.data }, { on := 7, ground := Ground.chain }], guard := none }
abbrev qgbx13 : Oper := { dst := none, op := Op.store 36 (Operand.tmp 9) (Operand.tmp 51), type := 0, pos := "ref.go:89", after := #[{ on := 12, ground := Ground.data }, { on := 10, ground := Ground.data }, { on := 8, ground := Ground.chain }, { on := 0, ground := Ground.phase }, { on := 1, ground := Ground.phase }, { on := 2, ground := Ground.phase }, { on := 3, ground := Ground.phase }, { on := 4, ground := Ground.phase }, { on := 5, ground := Ground.phase }, { on := 6, ground := Ground.phase }, { on := 7, ground := Ground.phase }, { on := 8, ground := Ground.phase }, { on := 9, ground := Ground.phase }, { on := 10, ground := Ground.phase }, { on := 11, ground := Ground.textOnly Departure.lateStores }, { on := 12, ground := Ground.phase }], guard := none }
abbrev qgdx7 : Oper := { dst := some 60, op := Op.call { callee := Callee.value (Operand.func 42), args := #[Operand.const (Value.int IntKind.i64 0)], argTypes := #[3] }, type := 36, pos := "ref.go:90", after := #[{ on := 5, ground := Ground.chain }, { on := 5, ground := Ground.guard }], guard := some (5, true) }
abbrev qgdx8 : Oper := { dst := some 61, op := Op.call { callee := Callee.value (Operand.func 47), args := #[Operand.tmp 59, Operand.tmp 60], argTypes := #[36, 36] }, type := 4, pos := "ref.go:90", after := #[{ on := 6, ground := Ground.data }, { on := 7, ground := Ground.data }, { on := 7, ground := Ground.chain }, { on := 5, ground := Ground.guard }], guard := some (5, true) }
set_option maxRecDepth 20000 in
set_option maxHeartbeats 8000000 in
theorem rdec_good (v : Value) (bs : Nat → Nat) (hbs : ∀ j, bs j < 256) (w : World) (hv : BytesIn w v 32 bs) :
    Calls Tryd.prog 10 #[v] w fun e w' => ∃ (t : P4) (er : Int), e = .returned (.tuple #[t.V, .int .i64 er]) ∧ DecEnd bs t er ∧ Below w.heap.size w w' := by
  have hz := zeroR
  have hzq := zeroQ
  obtain ⟨q1, hq1⟩ : ∃ q, q = bs 31 % 128 := ⟨_, rfl⟩
  have eq1 : bits .and .u8 (bs 31 : Int) 127 = (q1 : Int) := by rw [hq1]; exact and127_u8 _ (hbs 31)
  have hq3 : ∀ j, j < 32 → upd bs 31 q1 j = lo6 bs j := fun j _ => by unfold lo6 upd; rw [hq1]
  have z0 : ∀ (w w1 : World) (g : Nat), RowAt .u8 w1 g 0 32 bs → Below w.heap.size w w1 → w.heap.size ≤ g → ∃ V, V = w1.setCell ⟨g, 31, none⟩ (.int .u8 (q1 : Int)) ∧ RowAt .u8 V g 0 32 (lo6 bs) ∧ Below w.heap.size w V := fun w w1 g hr hb hg => by
    have r := hr.set (i := 31) (by decide) (v := (q1 : Int)) rfl
    rw [Nat.zero_add] at r
    exact ⟨_, rfl, r.congr hq3, below_setCells hg [_] 31 _ hb⟩
  have cF : ∀ s W, BytesIn W s 32 (lo6 bs) → Calls Tryd.prog 40 #[s] W fun e w' => e = .returned (.agg (i16 (fromL (lo6 bs))).toArray) ∧ Below W.heap.size W w' := fun s W h => rfrom s _ (lo6_lt hbs) W h
  have cz : ∀ W, Calls Tryd.prog 39 #[] W fun e w' => ∃ t : P4, e = .returned (.agg (q64 t.X t.Y t.Z t.T).toArray) ∧ t.Rep zeroN ∧ Below W.heap.size W w' := fun W => rzero_any W
  have cD : ∀ W, Calls Tryd.prog 26 #[] W fun e w' => ∃ R, e = .returned (rV R) ∧ Rw R dN ∧ Below W.heap.size W w' := fun W => rD_any W
  have cone : ∀ W, Calls Tryd.prog 42 #[.int .i64 1] W fun e w' => ∃ R, e = .returned (.agg (i16 R).toArray) ∧ Rw R 1 ∧ Below W.heap.size W w' := small_w 1 (by decide)
  have cnul : ∀ W, Calls Tryd.prog 42 #[.int .i64 0] W fun e w' => ∃ R, e = .returned (rV R) ∧ Rw R 0 ∧ Below W.heap.size W w' := small_w 0 (by decide)
  obtain ⟨YL, hYL⟩ : ∃ L, L = fromL (lo6 bs) := ⟨_, rfl⟩
  obtain ⟨yn, hyn⟩ : ∃ n, n = ofB (lo6 bs) 32 := ⟨_, rfl⟩
  have hYr : Rw YL yn := by rw [hYL, hyn]; exact (rep_from _ (lo6_lt hbs)).wide
  have cB : ∀ W, Calls Tryd.prog 41 #[rV YL] W fun e w' => ∃ v, e = .returned v ∧ Own W.heap.size w' v 32 (byt (yn % pF)) ∧ Below W.heap.size W w' := fun W => rbytes YL (hYr.dig.mono (by decide)) yn hYr.val W
  obtain ⟨z, hzz⟩ : ∃ z, decide (yn < pF) = z := ⟨_, rfl⟩
  have hstr : ((strB 32 (byt (yn % pF))).toList == (strB 32 (lo6 bs)).toList) = z := by rw [hyn] at hzz ⊢; exact low_str (lo6_lt hbs) z hzz
  have dec0 : decN bs = if yn < pF then (match rootR kP (decU yn) (decV yn) with | none => none | some x => if bs 31 / 128 = 1 ∧ x = 0 then none else some (ofXY (if bs 31 / 128 = 1 then fsub 0 x else x) yn)) else none := by rw [hyn]; rfl
  have Hd := Hid.mk' dec0
  have Hz := Hid.mk' hzz
  rw [← hYL] at cF
  clear hYL hyn dec0 hzz
  obtain ⟨bb, ob, cap, hsl, hlb, hcap, hc⟩ : ∃ bb ob cap, v = .slice (some ⟨bb, ob, none⟩) 32 cap ∧ bb < w.heap.size ∧ 32 ≤ cap ∧ ∀ j, j < 32 → w.cell? ⟨bb, ob + j, none⟩ = some (.int .u8 (bs j)) := hv.resolve_left (fun ⟨_, _, h⟩ => by omega)
  obtain ⟨W, g2, eW, hg2, b, h2⟩ := freshQ w
  have HW : Hid (w.alloc (.cells zQ 38) = W) := Hid.mk' eW
  have Hg : Hid (w.heap.size = g2) := Hid.mk' hg2
  have w2 : w.heap.size ≤ g2 := Nat.le_of_eq hg2
  have src0 := (BytesIn.src hv)
  subst hsl
  obtain ⟨xo, kv, hxo, hun, -, hsrc⟩ := src0
  have c31 := hc 31 (by decide)
  have src1 := hsrc (W.alloc (.cells #[] 5)) (b.alloc b.size _)
  obtain ⟨rfl, rfl⟩ : some (⟨bb, ob, none⟩ : Addr) = xo ∧ cap = kv := by injection hxo with a b c; exact ⟨a, c⟩
  clear eW hg2 hsrc hxo hq1 hq3 hv hc
  go_enter Tryd.func10, Tryd.ntmps10
  go_upto_region 4 with (fail)
  rw [HW.out, Hg.out]
  (try simp only [Act.put, List.setIfInBounds_toArray, List.set_cons_zero, List.set_cons_succ])
  clear HW Hg c31
  go_upto_region 7 with (first
    | (at_builtin; refine wpList_append_empty rfl (.tmp 19) (.tmp 20) rfl W.heap.size bs _ rfl rfl (some ⟨bb, ob, none⟩) 32 cap rfl src1 hun (by omega) (Nat.le_refl _) ?_; intro v4 w4 own4 hb4; clear src1; (obtain ⟨g4, cap4, hv4, hg4, hgl4, hcap4, row4⟩ : ∃ g cap, v4 = .slice (some ⟨g, 0, none⟩) 32 cap ∧ W.heap.size ≤ g ∧ g < w4.heap.size ∧ 32 ≤ cap ∧ RowAt .u8 w4 g 0 32 bs := own4.form.resolve_left (fun h => by omega)); subst hv4; clear own4; (have c31 := (row4 31 (by decide)).1); (have f31 := (row4 31 (by decide)).2); rw [Nat.zero_add] at c31 f31; (obtain ⟨V4, hV4, rz, hbV4⟩ := z0 _ _ _ row4 hb4 hg4); (have HV4 := Hid.mk' hV4); (have n24 : g4 ≠ g2 := by (have := h2.lt; omega)); clear hV4 z0 row4 hb4; (replace h2 := h2.still hbV4); (replace b := below_next b hbV4); clear hbV4)
    | (go_at_call 40; rw [← HV4.out]; refine (cF _ _ (.inr ⟨g4, 0, cap4, rfl, block_lt_of_cell (rz 0 (by decide)).1, hcap4, fun j hj => (rz j hj).1⟩)).mono ?_; clear cF HV4 c31 f31; rintro e w5 ⟨rfl, hb5⟩; (have l4 := block_lt_of_cell (rz 0 (by decide)).1); (replace rz := rz.below hb5 l4); (replace h2 := h2.still hb5); (replace b := below_next b hb5); clear hb5 l4; (have z5 := freshR' w5); (have t5 := freshRt w5 (YL)); (obtain ⟨V6, hV6⟩ : ∃ V, V = (w5.alloc (.cells zI 36)).setCells w5.heap.size 0 (i16 (YL)) := ⟨_, rfl⟩); (have hy : RW V6 w5.heap.size 0 (i16 (YL)) := by rw [hV6]; exact z5.stored _ (by rw [i16_len, i16_len])); (have b6 : Below w5.heap.size w5 V6 := by rw [hV6]; exact below_setCells (Nat.le_refl _) _ _ _ ((Below.refl _ _).alloc (Nat.le_refl _) _)); (have HV6 := Hid.mk' hV6); (have n26 : w5.heap.size ≠ g2 := by (have := h2.lt; omega)); clear hV6 z5; (replace rz := rz.below b6 (block_lt_of_cell (rz 0 (by decide)).1)); (replace h2 := h2.still b6); (replace b := below_next b b6); clear b6)
    | (with_reducible (refine id (?_ : wpList _ _ _ _ _ _)); refine wpList_store_mid rfl 36 _ _ rfl w5.heap.size 0 (i16 (YL)).toArray rfl rfl t5 (infoIA _) (oneI _) ?_; rw [List.toList_toArray, ← HV6.out]; clear t5 HV6))
  (try dsimp only [Act.put])
  generalize w5.heap.size = g6 at *
  have tl : Str V6 (.slice (some ⟨g4, 0, none⟩) 32 cap4) (strB 32 (lo6 bs)) := Str.of (.inr ⟨g4, 0, cap4, rfl, block_lt_of_cell (rz 0 (by decide)).1, hcap4, fun j hj => (rz j hj).1⟩) (lo6_lt hbs)
  go_cut [35] from 11 (fun s35 wc => s35 = .bool (!z) ∧ Below V6.heap.size V6 wc)
  case first =>
    have hw := Below.refl V6.heap.size V6
    clear cz cD cone cnul
    have hdrew : Below V6.heap.size V6 V6.drew := (Below.refl _ _).drew
    replace hy := hy.still hdrew
    replace tl := tl.still hdrew
    replace hw := below_next hw hdrew
    clear hdrew
    refine wp_region_noPanic ?_
    refine wp_region_held_drew (S := fun w' => Below V6.drew.heap.size V6.drew w') (by kernel_rfl) (Below.refl _ _) (fun hHeld => ?_)
    clear hHeld
    refine wpAnyH_take (i := 0) (oi := { dst := some 30, op := Op.load 36 (Operand.tmp 6), type := 36, pos := "ref.go:84", after := #[], guard := none }) (v := rV YL) rfl (by kernel_rfl) (by kernel_rfl) (by kernel_rfl) (fun _ _ _ h => h) (yieldsIf_load_mid (by rfl) 36 _ rfl g6 0 rfl (i16 YL) _ (fun _ h => (hy.still h).range) Tryd.underlying36 rfl (infoI _)) (Below.refl _ _) ?_
    (try simp only [Act.put, List.setIfInBounds_toArray, List.set_cons_zero, List.set_cons_succ])
    refine wpAnyH_take (i := 3) (oi := { dst := some 33, op := Op.move (Operand.tmp 5), type := 22, pos := "ref.go:84", after := #[], guard := none }) (v := ?vga3) rfl (by kernel_rfl) (by kernel_rfl) (by kernel_rfl) (fun _ _ _ h => h) (Or.inl ⟨by rfl, ?hga3⟩) (Below.refl _ _) ?rga3
    case hga3 =>
      intro w hSw
      go_simp
      try with_reducible rfl
    (try simp only [Act.put, List.setIfInBounds_toArray, List.set_cons_zero, List.set_cons_succ])
    refine wpAnyH_take (i := 4) (oi := { dst := some 34, op := Op.convert 22 9 (Operand.tmp 33), type := 9, pos := "ref.go:84", after := #[{ on := 3, ground := Ground.data }], guard := none }) (v := ?vga4) rfl (by kernel_rfl) (by kernel_rfl) (by kernel_rfl) (fun _ _ _ h => h) (Or.inl ⟨by rfl, ?hga4⟩) (Below.refl _ _) ?rga4
    case hga4 =>
      intro w hSw
      have q := tl.conv w hSw
      go_simp
      try with_reducible rfl
    (try simp only [Act.put, List.setIfInBounds_toArray, List.set_cons_zero, List.set_cons_succ])
    refine wpAnyH_ready (rs := [1]) (by kernel_rfl) (by simp) ?_
    refine AllReadyH.cons (o := { dst := some 31, op := Op.call { callee := Callee.value (Operand.func 41), args := #[Operand.tmp 30], argTypes := #[36] }, type := 22, pos := "ref.go:84", after := #[{ on := 0, ground := Ground.data }], guard := none }) rfl (fun K hK => ?_) AllReadyH.nil
    go_simp
    (go_at_call 41; refine (cB _).mono ?_; clear cB; rintro e w7 ⟨v7, rfl, own7, hb7⟩; (have t7 := Str.of (BytesIn.of_own own7) (byt_all _)); (obtain ⟨x7, n7, k7, rfl⟩ := t7.form); clear own7)
    (try go_simp)
    refine hK.out _ _ hb7 (fun h => ?_)
    clear h hK K
    refine wpAnyH_narrow (S' := fun w' => Below w7.heap.size w7 w') (fun _ h => below_next hb7 h) _ _ _ _ ?_
    replace hy := hy.still hb7
    replace tl := tl.still hb7
    replace hw := below_next hw hb7
    clear hb7
    (try simp only [Act.put, List.setIfInBounds_toArray, List.set_cons_zero, List.set_cons_succ])
    refine wpAnyH_take (i := 2) (oi := { dst := some 32, op := Op.convert 22 9 (Operand.tmp 31), type := 9, pos := "ref.go:84", after := #[{ on := 1, ground := Ground.data }], guard := none }) (v := ?vga2) rfl (by kernel_rfl) (by kernel_rfl) (by kernel_rfl) (fun _ _ _ h => h) (Or.inl ⟨by rfl, ?hga2⟩) (Below.refl _ _) ?rga2
    case hga2 =>
      intro w hSw
      have q := t7.conv w hSw
      go_simp
      try with_reducible rfl
    (try simp only [Act.put, List.setIfInBounds_toArray, List.set_cons_zero, List.set_cons_succ])
    refine wpAnyH_take (i := 5) (oi := { dst := some 35, op := Op.binOp BinOp.neq 9 (Operand.tmp 32) (Operand.tmp 34) 9, type := 4, pos := "ref.go:84", after := #[{ on := 2, ground := Ground.data }, { on := 4, ground := Ground.data }], guard := none }) (v := ?vga5) rfl (by kernel_rfl) (by kernel_rfl) (by kernel_rfl) (fun _ _ _ h => h) (Or.inl ⟨by rfl, ?hga5⟩) (Below.refl _ _) ?rga5
    case hga5 =>
      intro w hSw
      go_simp
      try with_reducible rfl
    (try simp only [Act.put, List.setIfInBounds_toArray, List.set_cons_zero, List.set_cons_succ])
    refine wpAnyH_done (by kernel_rfl) ?_ _
    refine NoPanic.normal ?_
    go_wp2
    go_meet
    case rel => exact ⟨by rfl, hw⟩
  case rest =>
  obtain ⟨rfl, hb7⟩ := hcut
  replace hy := hy.still hb7
  replace h2 := h2.still hb7
  replace b := below_next b hb7
  have l6 := hy.lt
  clear hb7 tl rz cB hstr
  cases z with
  | false =>
    go_wp2_with (first
      | (go_at_call 39; refine (cz _).mono ?_; clear cz; rintro e w40 ⟨t, rfl, ht, hb40⟩; (replace h2 := h2.still hb40); (replace b := below_next b hb40); clear hb40; (have t40 : w40.there g2 0 (q64 t.X t.Y t.Z t.T).toArray.size := there64 h2))
      | (with_reducible (refine id (?_ : wpList _ _ _ _ _ _)); refine wpList_store_mid rfl 38 _ _ rfl g2 0 (q64 t.X t.Y t.Z t.T).toArray rfl rfl t40 (infoQA _ _ _ _) (oneQ _ _ _ _) ?_))
    (try simp only [Exit.inBlock, Exit.then])
    exact bodyPost_ret (results_cell_tmp Tryd.results10 _ _ g2 0 (q64 t.X t.Y t.Z t.T) _ rfl (h2.stored (q64 t.X t.Y t.Z t.T) (q64_same _ _ _ _ _ _ _ _)).range Tryd.underlying38 rfl (infoQ _ _ _ _)) rfl ⟨t, 30, rfl, .inl ⟨rfl, ht, by rw [Hd.out, if_neg (of_decide_eq_false Hz.out)]⟩, below_setCells w2 _ _ _ b⟩
  | true =>
    have hyl : yn < pF := of_decide_eq_true Hz.out
    have Hd2 : Hid (decN bs = match rootR kP (decU yn) (decV yn) with | none => none | some x => if bs 31 / 128 = 1 ∧ x = 0 then none else some (ofXY (if bs 31 / 128 = 1 then fsub 0 x else x) yn)) := Hid.mk' (by rw [Hd.out, if_pos hyl])
    clear Hd Hz
    have cyy : ∀ W, Calls Tryd.prog 43 #[.agg (i16 YL).toArray, .agg (i16 YL).toArray] W fun e w' => e = .returned (.agg (i16 (timesL YL YL)).toArray) ∧ Below W.heap.size W w' := fun W => rtimes_w hYr hYr W
    have hYY : Rw (timesL YL YL) (fmul yn yn) := rw_t hYr hYr
    generalize timesL YL YL = YY at *
    go_upto_region 11 with (first
      | (go_at_call 42; refine (cone _).mono ?_; clear cone; rintro e w8 ⟨O, rfl, hO, hb8⟩; (replace hy := hy.still hb8); (replace h2 := h2.still hb8); (replace b := below_next b hb8); clear hb8; (have z8 := freshR' w8); (have t8 := freshRt w8 O); (obtain ⟨V8, hV8⟩ : ∃ V, V = (w8.alloc (.cells zI 36)).setCells w8.heap.size 0 (i16 O) := ⟨_, rfl⟩); (have h7 : RW V8 w8.heap.size 0 (i16 O) := by rw [hV8]; exact z8.stored _ (by rw [i16_len, i16_len])); (have b8 : Below w8.heap.size w8 V8 := by rw [hV8]; exact below_setCells (Nat.le_refl _) _ _ _ ((Below.refl _ _).alloc (Nat.le_refl _) _)); (have H8 := Hid.mk' hV8); clear hV8 z8; (replace hy := hy.still b8); (replace h2 := h2.still b8); (replace b := below_next b b8); clear b8)
      | (with_reducible (refine id (?_ : wpList _ _ _ _ _ _)); refine wpList_store_mid rfl 36 _ _ rfl w8.heap.size 0 (i16 O).toArray rfl rfl t8 (infoIA _) (oneI _) ?_; rw [List.toList_toArray, ← H8.out]; clear t8 H8)
      | (refine wpList_load_mid rfl 36 _ rfl g6 0 rfl (i16 YL) _ hy.range Tryd.underlying36 rfl (infoI _) ?_)
      | (go_at_call 43; refine (cyy _).mono ?_; clear cyy; rintro e w9 ⟨rfl, hb9⟩; (replace hy := hy.still hb9); (replace h2 := h2.still hb9); (replace h7 := h7.still hb9); (replace b := below_next b hb9); clear hb9; (have z9 := freshR' w9); (have t9 := freshRt w9 YY); (obtain ⟨V9, hV9⟩ : ∃ V, V = (w9.alloc (.cells zI 36)).setCells w9.heap.size 0 (i16 YY) := ⟨_, rfl⟩); (have h8 : RW V9 w9.heap.size 0 (i16 YY) := by rw [hV9]; exact z9.stored _ (by rw [i16_len, i16_len])); (have b9 : Below w9.heap.size w9 V9 := by rw [hV9]; exact below_setCells (Nat.le_refl _) _ _ _ ((Below.refl _ _).alloc (Nat.le_refl _) _)); (have H9 := Hid.mk' hV9); clear hV9 z9; (replace hy := hy.still b9); (replace h2 := h2.still b9); (replace h7 := h7.still b9); (replace b := below_next b b9); clear b9)
      | (with_reducible (refine id (?_ : wpList _ _ _ _ _ _)); refine wpList_store_mid rfl 36 _ _ rfl w9.heap.size 0 (i16 YY).toArray rfl rfl t9 (infoIA _) (oneI _) ?_; rw [List.toList_toArray, ← H9.out]; clear t9 H9))
    (try dsimp only [Act.put])
    generalize w8.heap.size = g7 at *
    generalize w9.heap.size = g8 at *
    have cU := fun W => rminus_w hYY hO W
    have hU : Rw (minusL YY O) (decU yn) := rww_minus hYY hO (by decide)
    have cT := fun (D : Nat → Int) (hD : Rw D dN) W => rtimes_w hD hYY W
    have cP := fun (D : Nat → Int) (hD : Rw D dN) W => rplus_w (rw_t hD hYY) hO W
    have cR := fun (D : Nat → Int) (hD : Rw D dN) W => rratio_wide (minusL YY O) (plusL (timesL D YY) O) (decU yn) (decV yn) hU (rww_plus (rw_t hD hYY) hO) (fsub_lt _ _) (fadd_lt _ _) W
    obtain ⟨rt, hrt⟩ : ∃ rt, rt = rootR kP (decU yn) (decV yn) := ⟨_, rfl⟩
    rw [← hrt] at cR Hd2
    have hrl : rt.getD 0 < pF := by rw [hrt]; exact rootR_lt6 _ _ _
    clear hrt hU hyl
    go_cut [9, 10] from 11 (fun s9 s10 wc => ∃ g9 XL, s9 = .pointer (some ⟨g9, 0, none⟩) ∧ s10 = .bool rt.isSome ∧ Rw XL (rt.getD 0) ∧ Below V9.heap.size V9 wc ∧ V9.heap.size ≤ g9 ∧ RW wc g9 0 (i16 XL))
    case first =>
      clear cz cnul
      have hdrew : Below V9.heap.size V9 V9.drew := (Below.refl _ _).drew
      replace h7 := h7.still hdrew
      replace h8 := h8.still hdrew
      refine wp_region_noPanic ?_
      refine wp_region_held_drew (S := fun w' => Below V9.drew.heap.size V9.drew w') (by kernel_rfl) (Below.refl _ _) (fun hS => ?_)
      generalize V9.drew = Vgb_ at *
      refine wpAnyH_take (i := 0) (oi := { dst := some 42, op := Op.load 36 (Operand.tmp 8), type := 36, pos := "ref.go:89", after := #[], guard := none }) (v := rV YY) rfl (by kernel_rfl) (by kernel_rfl) (by kernel_rfl) (fun _ _ _ h => h) (yieldsIf_load_mid (by rfl) 36 _ rfl g8 0 rfl (i16 YY) _ (fun _ h => (h8.still h).range) Tryd.underlying36 rfl (infoI _)) hS ?_
      (try simp only [Act.put, List.setIfInBounds_toArray, List.set_cons_zero, List.set_cons_succ])
      refine wpAnyH_take (i := 1) (oi := { dst := some 43, op := Op.load 36 (Operand.tmp 7), type := 36, pos := "ref.go:89", after := #[], guard := none }) (v := rV O) rfl (by kernel_rfl) (by kernel_rfl) (by kernel_rfl) (fun _ _ _ h => h) (yieldsIf_load_mid (by rfl) 36 _ rfl g7 0 rfl (i16 O) _ (fun _ h => (h7.still h).range) Tryd.underlying36 rfl (infoI _)) hS ?_
      (try simp only [Act.put, List.setIfInBounds_toArray, List.set_cons_zero, List.set_cons_succ])
      refine wpAnyH_take (i := 4) (oi := { dst := some 46, op := Op.load 36 (Operand.tmp 8), type := 36, pos := "ref.go:89", after := #[], guard := none }) (v := rV YY) rfl (by kernel_rfl) (by kernel_rfl) (by kernel_rfl) (fun _ _ _ h => h) (yieldsIf_load_mid (by rfl) 36 _ rfl g8 0 rfl (i16 YY) _ (fun _ h => (h8.still h).range) Tryd.underlying36 rfl (infoI _)) hS ?_
      (try simp only [Act.put, List.setIfInBounds_toArray, List.set_cons_zero, List.set_cons_succ])
      refine wpAnyH_take (i := 6) (oi := { dst := some 48, op := Op.load 36 (Operand.tmp 7), type := 36, pos := "ref.go:89", after := #[], guard := none }) (v := rV O) rfl (by kernel_rfl) (by kernel_rfl) (by kernel_rfl) (fun _ _ _ h => h) (yieldsIf_load_mid (by rfl) 36 _ rfl g7 0 rfl (i16 O) _ (fun _ h => (h7.still h).range) Tryd.underlying36 rfl (infoI _)) hS ?_
      (try simp only [Act.put, List.setIfInBounds_toArray, List.set_cons_zero, List.set_cons_succ])
      refine wpAnyH_ready (rs := [2, 12]) (by kernel_rfl) (by simp) ?_
      refine AllReadyH.cons (o := qgbx2) rfl (fun K hK => ?_) (AllReadyH.cons (o := qgbx12) rfl (fun K hK => ?_) (AllReadyH.nil))
      · unfold qgbx2
        go_simp
        (go_at_call 45; refine (cU _).mono ?_; rintro e wgb_1 ⟨rfl, hbgb_1⟩)
        (try go_simp)
        have hSgb_1 := below_next hS hbgb_1
        refine hK.out _ _ hSgb_1 (fun h => ?_)
        clear h hK K hbgb_1
        (try simp only [Act.put, List.setIfInBounds_toArray, List.set_cons_zero, List.set_cons_succ])
        refine wpAnyH_ready (rs := [3, 12]) (by kernel_rfl) (by simp) ?_
        refine AllReadyH.cons (o := qgbx3) rfl (fun K hK => ?_) (AllReadyH.cons (o := qgbx12) rfl (fun K hK => ?_) (AllReadyH.nil))
        · unfold qgbx3
          go_simp
          (go_at_call 26; refine (cD _).mono ?_; rintro e wgb_2 ⟨DL, rfl, hDL, hbgb_2⟩)
          (try go_simp)
          have hSgb_2 := below_next hSgb_1 hbgb_2
          refine hK.out _ _ hSgb_2 (fun h => ?_)
          clear h hK K hbgb_2
          (try simp only [Act.put, List.setIfInBounds_toArray, List.set_cons_zero, List.set_cons_succ])
          refine wpAnyH_ready (rs := [5, 12]) (by kernel_rfl) (by simp) ?_
          refine AllReadyH.cons (o := qgbx5) rfl (fun K hK => ?_) (AllReadyH.cons (o := qgbx12) rfl (fun K hK => ?_) (AllReadyH.nil))
          · unfold qgbx5
            go_simp
            (go_at_call 43; refine (cT DL hDL _).mono ?_; rintro e wgb_3 ⟨rfl, hbgb_3⟩)
            (try go_simp)
            have hSgb_3 := below_next hSgb_2 hbgb_3
            refine hK.out _ _ hSgb_3 (fun h => ?_)
            clear h hK K hbgb_3
            (try simp only [Act.put, List.setIfInBounds_toArray, List.set_cons_zero, List.set_cons_succ])
            refine wpAnyH_ready (rs := [7, 12]) (by kernel_rfl) (by simp) ?_
            refine AllReadyH.cons (o := qgbx7) rfl (fun K hK => ?_) (AllReadyH.cons (o := qgbx12) rfl (fun K hK => ?_) (AllReadyH.nil))
            · unfold qgbx7
              go_simp
              (go_at_call 46; refine (cP DL hDL _).mono ?_; rintro e wgb_4 ⟨rfl, hbgb_4⟩)
              (try go_simp)
              have hSgb_4 := below_next hSgb_3 hbgb_4
              refine hK.out _ _ hSgb_4 (fun h => ?_)
              clear h hK K hbgb_4
              (try simp only [Act.put, List.setIfInBounds_toArray, List.set_cons_zero, List.set_cons_succ])
              refine wpAnyH_ready (rs := [8, 12]) (by kernel_rfl) (by simp) ?_
              refine AllReadyH.cons (o := qgbx8) rfl (fun K hK => ?_) (AllReadyH.cons (o := qgbx12) rfl (fun K hK => ?_) (AllReadyH.nil))
              · unfold qgbx8
                go_simp
                (go_at_call 44; refine (cR DL hDL _).mono ?_; rintro e wgb_5 ⟨XL, rfl, hXL, hbgb_5⟩)
                (try go_simp)
                have hSgb_5 := below_next hSgb_4 hbgb_5
                refine hK.out _ _ hSgb_5 (fun h => ?_)
                clear h hK K hbgb_5
                (try simp only [Act.put, List.setIfInBounds_toArray, List.set_cons_zero, List.set_cons_succ])
                refine wpAnyH_take (i := 9) (oi := { dst := some 41, op := Op.move (Operand.tmp 50), type := 73, pos := "ref.go:89", after := #[{ on := 8, ground := Ground.data }], guard := none }) (v := ?vgb_6) rfl (by kernel_rfl) (by kernel_rfl) (by kernel_rfl) (fun _ _ _ h => h) (Or.inl ⟨by rfl, ?hgb_6⟩) hSgb_5 ?rgb_6
                case hgb_6 =>
                  intro w hSw
                  go_simp
                  try with_reducible rfl
                (try simp only [Act.put, List.setIfInBounds_toArray, List.set_cons_zero, List.set_cons_succ])
                refine wpAnyH_take (i := 10) (oi := { dst := some 51, op := Op.extract (Operand.tmp 41) 0, type := 36, pos := "ref.go:89", after := #[{ on := 9, ground := Ground.data }], guard := none }) (v := ?vgb_7) rfl (by kernel_rfl) (by kernel_rfl) (by kernel_rfl) (fun _ _ _ h => h) (Or.inl ⟨by rfl, ?hgb_7⟩) hSgb_5 ?rgb_7
                case hgb_7 =>
                  intro w hSw
                  go_simp
                  try with_reducible rfl
                (try simp only [Act.put, List.setIfInBounds_toArray, List.set_cons_zero, List.set_cons_succ])
                refine wpAnyH_take (i := 11) (oi := { dst := some 52, op := Op.extract (Operand.tmp 41) 1, type := 4, pos := "ref.go:89", after := #[{ on := 9, ground := Ground.data }, { on := 13, ground := Ground.gcOnly Departure.lateStores }], guard := none }) (v := ?vgb_8) rfl (by kernel_rfl) (by kernel_rfl) (by kernel_rfl) (fun _ _ _ h => h) (Or.inl ⟨by rfl, ?hgb_8⟩) hSgb_5 ?rgb_8
                case hgb_8 =>
                  intro w hSw
                  go_simp
                  try with_reducible rfl
                (try simp only [Act.put, List.setIfInBounds_toArray, List.set_cons_zero, List.set_cons_succ])
                refine wpAnyH_ready (rs := [12]) (by kernel_rfl) (by simp) ?_
                refine AllReadyH.cons (o := qgbx12) rfl (fun K hK => ?_) (AllReadyH.nil)
                unfold qgbx12
                go_simp
                obtain ⟨wgb_9, ggb_9, hwgb_9, hggb_9, hbgb_9, rgb_9⟩ := freshR wgb_5
                rw [hwgb_9, hggb_9]
                have hSgb_9 := below_next hSgb_5 hbgb_9
                have Ggb_9 : Vgb_.heap.size ≤ ggb_9 := by have := hSgb_5.size; omega
                refine hK.out _ _ hSgb_9 (fun h => ?_)
                clear h hK K hbgb_9 hwgb_9 hggb_9
                (try simp only [Act.put, List.setIfInBounds_toArray, List.set_cons_zero, List.set_cons_succ])
                refine wpAnyH_ready (rs := [13]) (by kernel_rfl) (by simp) ?_
                refine AllReadyH.cons (o := qgbx13) rfl (fun K hK => ?_) (AllReadyH.nil)
                unfold qgbx13
                rw [if_pos (by rfl)]
                refine ref_store _ _ rfl ggb_9 (fun _ => 0) XL rfl rfl rgb_9 hSgb_9 Ggb_9 (fun wgb_10 r0 hSgb_10 => ?_)
                refine hK.out _ _ hSgb_10 (fun h => ?_)
                clear h hK K rgb_9
                have rgb_9 := r0
                clear r0
                (try dsimp only [Act.put])
                refine wpAnyH_take (i := 14) (oi := { dst := some 10, op := Op.assign (Operand.tmp 52), type := 4, pos := "ref.go:89", after := #[{ on := 11, ground := Ground.data }, { on := 13, ground := Ground.chain }, { on := 0, ground := Ground.phase }, { on := 1, ground := Ground.phase }, { on := 2, ground := Ground.phase }, { on := 3, ground := Ground.phase }, { on := 4, ground := Ground.phase }, { on := 5, ground := Ground.phase }, { on := 6, ground := Ground.phase }, { on := 7, ground := Ground.phase }, { on := 8, ground := Ground.phase }, { on := 9, ground := Ground.phase }, { on := 10, ground := Ground.phase }, { on := 11, ground := Ground.phase }, { on := 12, ground := Ground.phase }, { on := 13, ground := Ground.phase }], guard := none }) (v := ?vgb_11) rfl (by kernel_rfl) (by kernel_rfl) (by kernel_rfl) (fun _ _ _ h => h) (Or.inl ⟨by rfl, ?hgb_11⟩) hSgb_10 ?rgb_11
                case hgb_11 =>
                  intro w hSw
                  go_simp
                  try with_reducible rfl
                (try simp only [Act.put, List.setIfInBounds_toArray, List.set_cons_zero, List.set_cons_succ])
                refine wpAnyH_done (by kernel_rfl) ?_ _
                refine NoPanic.normal ?_
                go_wp2
                go_meet
                case rel => exact ⟨ggb_9, XL, rfl, rfl, hXL, below_next hdrew hSgb_10, Nat.le_trans hdrew.size Ggb_9, rgb_9⟩
              · unfold qgbx12
                go_simp
                obtain ⟨wgb_12, ggb_12, hwgb_12, hggb_12, hbgb_12, rgb_12⟩ := freshR wgb_4
                rw [hwgb_12, hggb_12]
                have hSgb_12 := below_next hSgb_4 hbgb_12
                have Ggb_12 : Vgb_.heap.size ≤ ggb_12 := by have := hSgb_4.size; omega
                refine hK.out _ _ hSgb_12 (fun h => ?_)
                clear h hK K hbgb_12 hwgb_12 hggb_12
                (try simp only [Act.put, List.setIfInBounds_toArray, List.set_cons_zero, List.set_cons_succ])
                refine wpAnyH_ready (rs := [8]) (by kernel_rfl) (by simp) ?_
                refine AllReadyH.cons (o := qgbx8) rfl (fun K hK => ?_) (AllReadyH.nil)
                unfold qgbx8
                go_simp
                (go_at_call 44; refine (cR DL hDL _).mono ?_; rintro e wgb_13 ⟨XL, rfl, hXL, hbgb_13⟩)
                (try go_simp)
                have hSgb_13 := below_next hSgb_12 hbgb_13
                replace rgb_12 := rgb_12.still hbgb_13
                refine hK.out _ _ hSgb_13 (fun h => ?_)
                clear h hK K hbgb_13
                (try simp only [Act.put, List.setIfInBounds_toArray, List.set_cons_zero, List.set_cons_succ])
                refine wpAnyH_take (i := 9) (oi := { dst := some 41, op := Op.move (Operand.tmp 50), type := 73, pos := "ref.go:89", after := #[{ on := 8, ground := Ground.data }], guard := none }) (v := ?vgb_14) rfl (by kernel_rfl) (by kernel_rfl) (by kernel_rfl) (fun _ _ _ h => h) (Or.inl ⟨by rfl, ?hgb_14⟩) hSgb_13 ?rgb_14
                case hgb_14 =>
                  intro w hSw
                  go_simp
                  try with_reducible rfl
                (try simp only [Act.put, List.setIfInBounds_toArray, List.set_cons_zero, List.set_cons_succ])
                refine wpAnyH_take (i := 10) (oi := { dst := some 51, op := Op.extract (Operand.tmp 41) 0, type := 36, pos := "ref.go:89", after := #[{ on := 9, ground := Ground.data }], guard := none }) (v := ?vgb_15) rfl (by kernel_rfl) (by kernel_rfl) (by kernel_rfl) (fun _ _ _ h => h) (Or.inl ⟨by rfl, ?hgb_15⟩) hSgb_13 ?rgb_15
                case hgb_15 =>
                  intro w hSw
                  go_simp
                  try with_reducible rfl
                (try simp only [Act.put, List.setIfInBounds_toArray, List.set_cons_zero, List.set_cons_succ])
                refine wpAnyH_take (i := 11) (oi := { dst := some 52, op := Op.extract (Operand.tmp 41) 1, type := 4, pos := "ref.go:89", after := #[{ on := 9, ground := Ground.data }, { on := 13, ground := Ground.gcOnly Departure.lateStores }], guard := none }) (v := ?vgb_16) rfl (by kernel_rfl) (by kernel_rfl) (by kernel_rfl) (fun _ _ _ h => h) (Or.inl ⟨by rfl, ?hgb_16⟩) hSgb_13 ?rgb_16
                case hgb_16 =>
                  intro w hSw
                  go_simp
                  try with_reducible rfl
                (try simp only [Act.put, List.setIfInBounds_toArray, List.set_cons_zero, List.set_cons_succ])
                refine wpAnyH_ready (rs := [13]) (by kernel_rfl) (by simp) ?_
                refine AllReadyH.cons (o := qgbx13) rfl (fun K hK => ?_) (AllReadyH.nil)
                unfold qgbx13
                rw [if_pos (by rfl)]
                refine ref_store _ _ rfl ggb_12 (fun _ => 0) XL rfl rfl rgb_12 hSgb_13 Ggb_12 (fun wgb_17 r0 hSgb_17 => ?_)
                refine hK.out _ _ hSgb_17 (fun h => ?_)
                clear h hK K rgb_12
                have rgb_12 := r0
                clear r0
                (try dsimp only [Act.put])
                refine wpAnyH_take (i := 14) (oi := { dst := some 10, op := Op.assign (Operand.tmp 52), type := 4, pos := "ref.go:89", after := #[{ on := 11, ground := Ground.data }, { on := 13, ground := Ground.chain }, { on := 0, ground := Ground.phase }, { on := 1, ground := Ground.phase }, { on := 2, ground := Ground.phase }, { on := 3, ground := Ground.phase }, { on := 4, ground := Ground.phase }, { on := 5, ground := Ground.phase }, { on := 6, ground := Ground.phase }, { on := 7, ground := Ground.phase }, { on := 8, ground := Ground.phase }, { on := 9, ground := Ground.phase }, { on := 10, ground := Ground.phase }, { on := 11, ground := Ground.phase }, { on := 12, ground := Ground.phase }, { on := 13, ground := Ground.phase }], guard := none }) (v := ?vgb_18) rfl (by kernel_rfl) (by kernel_rfl) (by kernel_rfl) (fun _ _ _ h => h) (Or.inl ⟨by rfl, ?hgb_18⟩) hSgb_17 ?rgb_18
                case hgb_18 =>
                  intro w hSw
                  go_simp
                  try with_reducible rfl
                (try simp only [Act.put, List.setIfInBounds_toArray, List.set_cons_zero, List.set_cons_succ])
                refine wpAnyH_done (by kernel_rfl) ?_ _
                refine NoPanic.normal ?_
                go_wp2
                go_meet
                case rel => exact ⟨ggb_12, XL, rfl, rfl, hXL, below_next hdrew hSgb_17, Nat.le_trans hdrew.size Ggb_12, rgb_12⟩
            · unfold qgbx12
              go_simp
              obtain ⟨wgb_19, ggb_19, hwgb_19, hggb_19, hbgb_19, rgb_19⟩ := freshR wgb_3
              rw [hwgb_19, hggb_19]
              have hSgb_19 := below_next hSgb_3 hbgb_19
              have Ggb_19 : Vgb_.heap.size ≤ ggb_19 := by have := hSgb_3.size; omega
              refine hK.out _ _ hSgb_19 (fun h => ?_)
              clear h hK K hbgb_19 hwgb_19 hggb_19
              (try simp only [Act.put, List.setIfInBounds_toArray, List.set_cons_zero, List.set_cons_succ])
              refine wpAnyH_ready (rs := [7]) (by kernel_rfl) (by simp) ?_
              refine AllReadyH.cons (o := qgbx7) rfl (fun K hK => ?_) (AllReadyH.nil)
              unfold qgbx7
              go_simp
              (go_at_call 46; refine (cP DL hDL _).mono ?_; rintro e wgb_20 ⟨rfl, hbgb_20⟩)
              (try go_simp)
              have hSgb_20 := below_next hSgb_19 hbgb_20
              replace rgb_19 := rgb_19.still hbgb_20
              refine hK.out _ _ hSgb_20 (fun h => ?_)
              clear h hK K hbgb_20
              (try simp only [Act.put, List.setIfInBounds_toArray, List.set_cons_zero, List.set_cons_succ])
              refine wpAnyH_ready (rs := [8]) (by kernel_rfl) (by simp) ?_
              refine AllReadyH.cons (o := qgbx8) rfl (fun K hK => ?_) (AllReadyH.nil)
              unfold qgbx8
              go_simp
              (go_at_call 44; refine (cR DL hDL _).mono ?_; rintro e wgb_21 ⟨XL, rfl, hXL, hbgb_21⟩)
              (try go_simp)
              have hSgb_21 := below_next hSgb_20 hbgb_21
              replace rgb_19 := rgb_19.still hbgb_21
              refine hK.out _ _ hSgb_21 (fun h => ?_)
              clear h hK K hbgb_21
              (try simp only [Act.put, List.setIfInBounds_toArray, List.set_cons_zero, List.set_cons_succ])
              refine wpAnyH_take (i := 9) (oi := { dst := some 41, op := Op.move (Operand.tmp 50), type := 73, pos := "ref.go:89", after := #[{ on := 8, ground := Ground.data }], guard := none }) (v := ?vgb_22) rfl (by kernel_rfl) (by kernel_rfl) (by kernel_rfl) (fun _ _ _ h => h) (Or.inl ⟨by rfl, ?hgb_22⟩) hSgb_21 ?rgb_22
              case hgb_22 =>
                intro w hSw
                go_simp
                try with_reducible rfl
              (try simp only [Act.put, List.setIfInBounds_toArray, List.set_cons_zero, List.set_cons_succ])
              refine wpAnyH_take (i := 10) (oi := { dst := some 51, op := Op.extract (Operand.tmp 41) 0, type := 36, pos := "ref.go:89", after := #[{ on := 9, ground := Ground.data }], guard := none }) (v := ?vgb_23) rfl (by kernel_rfl) (by kernel_rfl) (by kernel_rfl) (fun _ _ _ h => h) (Or.inl ⟨by rfl, ?hgb_23⟩) hSgb_21 ?rgb_23
              case hgb_23 =>
                intro w hSw
                go_simp
                try with_reducible rfl
              (try simp only [Act.put, List.setIfInBounds_toArray, List.set_cons_zero, List.set_cons_succ])
              refine wpAnyH_take (i := 11) (oi := { dst := some 52, op := Op.extract (Operand.tmp 41) 1, type := 4, pos := "ref.go:89", after := #[{ on := 9, ground := Ground.data }, { on := 13, ground := Ground.gcOnly Departure.lateStores }], guard := none }) (v := ?vgb_24) rfl (by kernel_rfl) (by kernel_rfl) (by kernel_rfl) (fun _ _ _ h => h) (Or.inl ⟨by rfl, ?hgb_24⟩) hSgb_21 ?rgb_24
              case hgb_24 =>
                intro w hSw
                go_simp
                try with_reducible rfl
              (try simp only [Act.put, List.setIfInBounds_toArray, List.set_cons_zero, List.set_cons_succ])
              refine wpAnyH_ready (rs := [13]) (by kernel_rfl) (by simp) ?_
              refine AllReadyH.cons (o := qgbx13) rfl (fun K hK => ?_) (AllReadyH.nil)
              unfold qgbx13
              rw [if_pos (by rfl)]
              refine ref_store _ _ rfl ggb_19 (fun _ => 0) XL rfl rfl rgb_19 hSgb_21 Ggb_19 (fun wgb_25 r0 hSgb_25 => ?_)
              refine hK.out _ _ hSgb_25 (fun h => ?_)
              clear h hK K rgb_19
              have rgb_19 := r0
              clear r0
              (try dsimp only [Act.put])
              refine wpAnyH_take (i := 14) (oi := { dst := some 10, op := Op.assign (Operand.tmp 52), type := 4, pos := "ref.go:89", after := #[{ on := 11, ground := Ground.data }, { on := 13, ground := Ground.chain }, { on := 0, ground := Ground.phase }, { on := 1, ground := Ground.phase }, { on := 2, ground := Ground.phase }, { on := 3, ground := Ground.phase }, { on := 4, ground := Ground.phase }, { on := 5, ground := Ground.phase }, { on := 6, ground := Ground.phase }, { on := 7, ground := Ground.phase }, { on := 8, ground := Ground.phase }, { on := 9, ground := Ground.phase }, { on := 10, ground := Ground.phase }, { on := 11, ground := Ground.phase }, { on := 12, ground := Ground.phase }, { on := 13, ground := Ground.phase }], guard := none }) (v := ?vgb_26) rfl (by kernel_rfl) (by kernel_rfl) (by kernel_rfl) (fun _ _ _ h => h) (Or.inl ⟨by rfl, ?hgb_26⟩) hSgb_25 ?rgb_26
              case hgb_26 =>
                intro w hSw
                go_simp
                try with_reducible rfl
              (try simp only [Act.put, List.setIfInBounds_toArray, List.set_cons_zero, List.set_cons_succ])
              refine wpAnyH_done (by kernel_rfl) ?_ _
              refine NoPanic.normal ?_
              go_wp2
              go_meet
              case rel => exact ⟨ggb_19, XL, rfl, rfl, hXL, below_next hdrew hSgb_25, Nat.le_trans hdrew.size Ggb_19, rgb_19⟩
          · unfold qgbx12
            go_simp
            obtain ⟨wgb_27, ggb_27, hwgb_27, hggb_27, hbgb_27, rgb_27⟩ := freshR wgb_2
            rw [hwgb_27, hggb_27]
            have hSgb_27 := below_next hSgb_2 hbgb_27
            have Ggb_27 : Vgb_.heap.size ≤ ggb_27 := by have := hSgb_2.size; omega
            refine hK.out _ _ hSgb_27 (fun h => ?_)
            clear h hK K hbgb_27 hwgb_27 hggb_27
            (try simp only [Act.put, List.setIfInBounds_toArray, List.set_cons_zero, List.set_cons_succ])
            refine wpAnyH_ready (rs := [5]) (by kernel_rfl) (by simp) ?_
            refine AllReadyH.cons (o := qgbx5) rfl (fun K hK => ?_) (AllReadyH.nil)
            unfold qgbx5
            go_simp
            (go_at_call 43; refine (cT DL hDL _).mono ?_; rintro e wgb_28 ⟨rfl, hbgb_28⟩)
            (try go_simp)
            have hSgb_28 := below_next hSgb_27 hbgb_28
            replace rgb_27 := rgb_27.still hbgb_28
            refine hK.out _ _ hSgb_28 (fun h => ?_)
            clear h hK K hbgb_28
            (try simp only [Act.put, List.setIfInBounds_toArray, List.set_cons_zero, List.set_cons_succ])
            refine wpAnyH_ready (rs := [7]) (by kernel_rfl) (by simp) ?_
            refine AllReadyH.cons (o := qgbx7) rfl (fun K hK => ?_) (AllReadyH.nil)
            unfold qgbx7
            go_simp
            (go_at_call 46; refine (cP DL hDL _).mono ?_; rintro e wgb_29 ⟨rfl, hbgb_29⟩)
            (try go_simp)
            have hSgb_29 := below_next hSgb_28 hbgb_29
            replace rgb_27 := rgb_27.still hbgb_29
            refine hK.out _ _ hSgb_29 (fun h => ?_)
            clear h hK K hbgb_29
            (try simp only [Act.put, List.setIfInBounds_toArray, List.set_cons_zero, List.set_cons_succ])
            refine wpAnyH_ready (rs := [8]) (by kernel_rfl) (by simp) ?_
            refine AllReadyH.cons (o := qgbx8) rfl (fun K hK => ?_) (AllReadyH.nil)
            unfold qgbx8
            go_simp
            (go_at_call 44; refine (cR DL hDL _).mono ?_; rintro e wgb_30 ⟨XL, rfl, hXL, hbgb_30⟩)
            (try go_simp)
            have hSgb_30 := below_next hSgb_29 hbgb_30
            replace rgb_27 := rgb_27.still hbgb_30
            refine hK.out _ _ hSgb_30 (fun h => ?_)
            clear h hK K hbgb_30
            (try simp only [Act.put, List.setIfInBounds_toArray, List.set_cons_zero, List.set_cons_succ])
            refine wpAnyH_take (i := 9) (oi := { dst := some 41, op := Op.move (Operand.tmp 50), type := 73, pos := "ref.go:89", after := #[{ on := 8, ground := Ground.data }], guard := none }) (v := ?vgb_31) rfl (by kernel_rfl) (by kernel_rfl) (by kernel_rfl) (fun _ _ _ h => h) (Or.inl ⟨by rfl, ?hgb_31⟩) hSgb_30 ?rgb_31
            case hgb_31 =>
              intro w hSw
              go_simp
              try with_reducible rfl
            (try simp only [Act.put, List.setIfInBounds_toArray, List.set_cons_zero, List.set_cons_succ])
            refine wpAnyH_take (i := 10) (oi := { dst := some 51, op := Op.extract (Operand.tmp 41) 0, type := 36, pos := "ref.go:89", after := #[{ on := 9, ground := Ground.data }], guard := none }) (v := ?vgb_32) rfl (by kernel_rfl) (by kernel_rfl) (by kernel_rfl) (fun _ _ _ h => h) (Or.inl ⟨by rfl, ?hgb_32⟩) hSgb_30 ?rgb_32
            case hgb_32 =>
              intro w hSw
              go_simp
              try with_reducible rfl
            (try simp only [Act.put, List.setIfInBounds_toArray, List.set_cons_zero, List.set_cons_succ])
            refine wpAnyH_take (i := 11) (oi := { dst := some 52, op := Op.extract (Operand.tmp 41) 1, type := 4, pos := "ref.go:89", after := #[{ on := 9, ground := Ground.data }, { on := 13, ground := Ground.gcOnly Departure.lateStores }], guard := none }) (v := ?vgb_33) rfl (by kernel_rfl) (by kernel_rfl) (by kernel_rfl) (fun _ _ _ h => h) (Or.inl ⟨by rfl, ?hgb_33⟩) hSgb_30 ?rgb_33
            case hgb_33 =>
              intro w hSw
              go_simp
              try with_reducible rfl
            (try simp only [Act.put, List.setIfInBounds_toArray, List.set_cons_zero, List.set_cons_succ])
            refine wpAnyH_ready (rs := [13]) (by kernel_rfl) (by simp) ?_
            refine AllReadyH.cons (o := qgbx13) rfl (fun K hK => ?_) (AllReadyH.nil)
            unfold qgbx13
            rw [if_pos (by rfl)]
            refine ref_store _ _ rfl ggb_27 (fun _ => 0) XL rfl rfl rgb_27 hSgb_30 Ggb_27 (fun wgb_34 r0 hSgb_34 => ?_)
            refine hK.out _ _ hSgb_34 (fun h => ?_)
            clear h hK K rgb_27
            have rgb_27 := r0
            clear r0
            (try dsimp only [Act.put])
            refine wpAnyH_take (i := 14) (oi := { dst := some 10, op := Op.assign (Operand.tmp 52), type := 4, pos := "ref.go:89", after := #[{ on := 11, ground := Ground.data }, { on := 13, ground := Ground.chain }, { on := 0, ground := Ground.phase }, { on := 1, ground := Ground.phase }, { on := 2, ground := Ground.phase }, { on := 3, ground := Ground.phase }, { on := 4, ground := Ground.phase }, { on := 5, ground := Ground.phase }, { on := 6, ground := Ground.phase }, { on := 7, ground := Ground.phase }, { on := 8, ground := Ground.phase }, { on := 9, ground := Ground.phase }, { on := 10, ground := Ground.phase }, { on := 11, ground := Ground.phase }, { on := 12, ground := Ground.phase }, { on := 13, ground := Ground.phase }], guard := none }) (v := ?vgb_35) rfl (by kernel_rfl) (by kernel_rfl) (by kernel_rfl) (fun _ _ _ h => h) (Or.inl ⟨by rfl, ?hgb_35⟩) hSgb_34 ?rgb_35
            case hgb_35 =>
              intro w hSw
              go_simp
              try with_reducible rfl
            (try simp only [Act.put, List.setIfInBounds_toArray, List.set_cons_zero, List.set_cons_succ])
            refine wpAnyH_done (by kernel_rfl) ?_ _
            refine NoPanic.normal ?_
            go_wp2
            go_meet
            case rel => exact ⟨ggb_27, XL, rfl, rfl, hXL, below_next hdrew hSgb_34, Nat.le_trans hdrew.size Ggb_27, rgb_27⟩
        · unfold qgbx12
          go_simp
          obtain ⟨wgb_36, ggb_36, hwgb_36, hggb_36, hbgb_36, rgb_36⟩ := freshR wgb_1
          rw [hwgb_36, hggb_36]
          have hSgb_36 := below_next hSgb_1 hbgb_36
          have Ggb_36 : Vgb_.heap.size ≤ ggb_36 := by have := hSgb_1.size; omega
          refine hK.out _ _ hSgb_36 (fun h => ?_)
          clear h hK K hbgb_36 hwgb_36 hggb_36
          (try simp only [Act.put, List.setIfInBounds_toArray, List.set_cons_zero, List.set_cons_succ])
          refine wpAnyH_ready (rs := [3]) (by kernel_rfl) (by simp) ?_
          refine AllReadyH.cons (o := qgbx3) rfl (fun K hK => ?_) (AllReadyH.nil)
          unfold qgbx3
          go_simp
          (go_at_call 26; refine (cD _).mono ?_; rintro e wgb_37 ⟨DL, rfl, hDL, hbgb_37⟩)
          (try go_simp)
          have hSgb_37 := below_next hSgb_36 hbgb_37
          replace rgb_36 := rgb_36.still hbgb_37
          refine hK.out _ _ hSgb_37 (fun h => ?_)
          clear h hK K hbgb_37
          (try simp only [Act.put, List.setIfInBounds_toArray, List.set_cons_zero, List.set_cons_succ])
          refine wpAnyH_ready (rs := [5]) (by kernel_rfl) (by simp) ?_
          refine AllReadyH.cons (o := qgbx5) rfl (fun K hK => ?_) (AllReadyH.nil)
          unfold qgbx5
          go_simp
          (go_at_call 43; refine (cT DL hDL _).mono ?_; rintro e wgb_38 ⟨rfl, hbgb_38⟩)
          (try go_simp)
          have hSgb_38 := below_next hSgb_37 hbgb_38
          replace rgb_36 := rgb_36.still hbgb_38
          refine hK.out _ _ hSgb_38 (fun h => ?_)
          clear h hK K hbgb_38
          (try simp only [Act.put, List.setIfInBounds_toArray, List.set_cons_zero, List.set_cons_succ])
          refine wpAnyH_ready (rs := [7]) (by kernel_rfl) (by simp) ?_
          refine AllReadyH.cons (o := qgbx7) rfl (fun K hK => ?_) (AllReadyH.nil)
          unfold qgbx7
          go_simp
          (go_at_call 46; refine (cP DL hDL _).mono ?_; rintro e wgb_39 ⟨rfl, hbgb_39⟩)
          (try go_simp)
          have hSgb_39 := below_next hSgb_38 hbgb_39
          replace rgb_36 := rgb_36.still hbgb_39
          refine hK.out _ _ hSgb_39 (fun h => ?_)
          clear h hK K hbgb_39
          (try simp only [Act.put, List.setIfInBounds_toArray, List.set_cons_zero, List.set_cons_succ])
          refine wpAnyH_ready (rs := [8]) (by kernel_rfl) (by simp) ?_
          refine AllReadyH.cons (o := qgbx8) rfl (fun K hK => ?_) (AllReadyH.nil)
          unfold qgbx8
          go_simp
          (go_at_call 44; refine (cR DL hDL _).mono ?_; rintro e wgb_40 ⟨XL, rfl, hXL, hbgb_40⟩)
          (try go_simp)
          have hSgb_40 := below_next hSgb_39 hbgb_40
          replace rgb_36 := rgb_36.still hbgb_40
          refine hK.out _ _ hSgb_40 (fun h => ?_)
          clear h hK K hbgb_40
          (try simp only [Act.put, List.setIfInBounds_toArray, List.set_cons_zero, List.set_cons_succ])
          refine wpAnyH_take (i := 9) (oi := { dst := some 41, op := Op.move (Operand.tmp 50), type := 73, pos := "ref.go:89", after := #[{ on := 8, ground := Ground.data }], guard := none }) (v := ?vgb_41) rfl (by kernel_rfl) (by kernel_rfl) (by kernel_rfl) (fun _ _ _ h => h) (Or.inl ⟨by rfl, ?hgb_41⟩) hSgb_40 ?rgb_41
          case hgb_41 =>
            intro w hSw
            go_simp
            try with_reducible rfl
          (try simp only [Act.put, List.setIfInBounds_toArray, List.set_cons_zero, List.set_cons_succ])
          refine wpAnyH_take (i := 10) (oi := { dst := some 51, op := Op.extract (Operand.tmp 41) 0, type := 36, pos := "ref.go:89", after := #[{ on := 9, ground := Ground.data }], guard := none }) (v := ?vgb_42) rfl (by kernel_rfl) (by kernel_rfl) (by kernel_rfl) (fun _ _ _ h => h) (Or.inl ⟨by rfl, ?hgb_42⟩) hSgb_40 ?rgb_42
          case hgb_42 =>
            intro w hSw
            go_simp
            try with_reducible rfl
          (try simp only [Act.put, List.setIfInBounds_toArray, List.set_cons_zero, List.set_cons_succ])
          refine wpAnyH_take (i := 11) (oi := { dst := some 52, op := Op.extract (Operand.tmp 41) 1, type := 4, pos := "ref.go:89", after := #[{ on := 9, ground := Ground.data }, { on := 13, ground := Ground.gcOnly Departure.lateStores }], guard := none }) (v := ?vgb_43) rfl (by kernel_rfl) (by kernel_rfl) (by kernel_rfl) (fun _ _ _ h => h) (Or.inl ⟨by rfl, ?hgb_43⟩) hSgb_40 ?rgb_43
          case hgb_43 =>
            intro w hSw
            go_simp
            try with_reducible rfl
          (try simp only [Act.put, List.setIfInBounds_toArray, List.set_cons_zero, List.set_cons_succ])
          refine wpAnyH_ready (rs := [13]) (by kernel_rfl) (by simp) ?_
          refine AllReadyH.cons (o := qgbx13) rfl (fun K hK => ?_) (AllReadyH.nil)
          unfold qgbx13
          rw [if_pos (by rfl)]
          refine ref_store _ _ rfl ggb_36 (fun _ => 0) XL rfl rfl rgb_36 hSgb_40 Ggb_36 (fun wgb_44 r0 hSgb_44 => ?_)
          refine hK.out _ _ hSgb_44 (fun h => ?_)
          clear h hK K rgb_36
          have rgb_36 := r0
          clear r0
          (try dsimp only [Act.put])
          refine wpAnyH_take (i := 14) (oi := { dst := some 10, op := Op.assign (Operand.tmp 52), type := 4, pos := "ref.go:89", after := #[{ on := 11, ground := Ground.data }, { on := 13, ground := Ground.chain }, { on := 0, ground := Ground.phase }, { on := 1, ground := Ground.phase }, { on := 2, ground := Ground.phase }, { on := 3, ground := Ground.phase }, { on := 4, ground := Ground.phase }, { on := 5, ground := Ground.phase }, { on := 6, ground := Ground.phase }, { on := 7, ground := Ground.phase }, { on := 8, ground := Ground.phase }, { on := 9, ground := Ground.phase }, { on := 10, ground := Ground.phase }, { on := 11, ground := Ground.phase }, { on := 12, ground := Ground.phase }, { on := 13, ground := Ground.phase }], guard := none }) (v := ?vgb_45) rfl (by kernel_rfl) (by kernel_rfl) (by kernel_rfl) (fun _ _ _ h => h) (Or.inl ⟨by rfl, ?hgb_45⟩) hSgb_44 ?rgb_45
          case hgb_45 =>
            intro w hSw
            go_simp
            try with_reducible rfl
          (try simp only [Act.put, List.setIfInBounds_toArray, List.set_cons_zero, List.set_cons_succ])
          refine wpAnyH_done (by kernel_rfl) ?_ _
          refine NoPanic.normal ?_
          go_wp2
          go_meet
          case rel => exact ⟨ggb_36, XL, rfl, rfl, hXL, below_next hdrew hSgb_44, Nat.le_trans hdrew.size Ggb_36, rgb_36⟩
      · unfold qgbx12
        go_simp
        obtain ⟨wgb_46, ggb_46, hwgb_46, hggb_46, hbgb_46, rgb_46⟩ := freshR Vgb_
        rw [hwgb_46, hggb_46]
        have hSgb_46 := below_next hS hbgb_46
        have Ggb_46 : Vgb_.heap.size ≤ ggb_46 := by have := hS.size; omega
        refine hK.out _ _ hSgb_46 (fun h => ?_)
        clear h hK K hbgb_46 hwgb_46 hggb_46
        (try simp only [Act.put, List.setIfInBounds_toArray, List.set_cons_zero, List.set_cons_succ])
        refine wpAnyH_ready (rs := [2]) (by kernel_rfl) (by simp) ?_
        refine AllReadyH.cons (o := qgbx2) rfl (fun K hK => ?_) (AllReadyH.nil)
        unfold qgbx2
        go_simp
        (go_at_call 45; refine (cU _).mono ?_; rintro e wgb_47 ⟨rfl, hbgb_47⟩)
        (try go_simp)
        have hSgb_47 := below_next hSgb_46 hbgb_47
        replace rgb_46 := rgb_46.still hbgb_47
        refine hK.out _ _ hSgb_47 (fun h => ?_)
        clear h hK K hbgb_47
        (try simp only [Act.put, List.setIfInBounds_toArray, List.set_cons_zero, List.set_cons_succ])
        refine wpAnyH_ready (rs := [3]) (by kernel_rfl) (by simp) ?_
        refine AllReadyH.cons (o := qgbx3) rfl (fun K hK => ?_) (AllReadyH.nil)
        unfold qgbx3
        go_simp
        (go_at_call 26; refine (cD _).mono ?_; rintro e wgb_48 ⟨DL, rfl, hDL, hbgb_48⟩)
        (try go_simp)
        have hSgb_48 := below_next hSgb_47 hbgb_48
        replace rgb_46 := rgb_46.still hbgb_48
        refine hK.out _ _ hSgb_48 (fun h => ?_)
        clear h hK K hbgb_48
        (try simp only [Act.put, List.setIfInBounds_toArray, List.set_cons_zero, List.set_cons_succ])
        refine wpAnyH_ready (rs := [5]) (by kernel_rfl) (by simp) ?_
        refine AllReadyH.cons (o := qgbx5) rfl (fun K hK => ?_) (AllReadyH.nil)
        unfold qgbx5
        go_simp
        (go_at_call 43; refine (cT DL hDL _).mono ?_; rintro e wgb_49 ⟨rfl, hbgb_49⟩)
        (try go_simp)
        have hSgb_49 := below_next hSgb_48 hbgb_49
        replace rgb_46 := rgb_46.still hbgb_49
        refine hK.out _ _ hSgb_49 (fun h => ?_)
        clear h hK K hbgb_49
        (try simp only [Act.put, List.setIfInBounds_toArray, List.set_cons_zero, List.set_cons_succ])
        refine wpAnyH_ready (rs := [7]) (by kernel_rfl) (by simp) ?_
        refine AllReadyH.cons (o := qgbx7) rfl (fun K hK => ?_) (AllReadyH.nil)
        unfold qgbx7
        go_simp
        (go_at_call 46; refine (cP DL hDL _).mono ?_; rintro e wgb_50 ⟨rfl, hbgb_50⟩)
        (try go_simp)
        have hSgb_50 := below_next hSgb_49 hbgb_50
        replace rgb_46 := rgb_46.still hbgb_50
        refine hK.out _ _ hSgb_50 (fun h => ?_)
        clear h hK K hbgb_50
        (try simp only [Act.put, List.setIfInBounds_toArray, List.set_cons_zero, List.set_cons_succ])
        refine wpAnyH_ready (rs := [8]) (by kernel_rfl) (by simp) ?_
        refine AllReadyH.cons (o := qgbx8) rfl (fun K hK => ?_) (AllReadyH.nil)
        unfold qgbx8
        go_simp
        (go_at_call 44; refine (cR DL hDL _).mono ?_; rintro e wgb_51 ⟨XL, rfl, hXL, hbgb_51⟩)
        (try go_simp)
        have hSgb_51 := below_next hSgb_50 hbgb_51
        replace rgb_46 := rgb_46.still hbgb_51
        refine hK.out _ _ hSgb_51 (fun h => ?_)
        clear h hK K hbgb_51
        (try simp only [Act.put, List.setIfInBounds_toArray, List.set_cons_zero, List.set_cons_succ])
        refine wpAnyH_take (i := 9) (oi := { dst := some 41, op := Op.move (Operand.tmp 50), type := 73, pos := "ref.go:89", after := #[{ on := 8, ground := Ground.data }], guard := none }) (v := ?vgb_52) rfl (by kernel_rfl) (by kernel_rfl) (by kernel_rfl) (fun _ _ _ h => h) (Or.inl ⟨by rfl, ?hgb_52⟩) hSgb_51 ?rgb_52
        case hgb_52 =>
          intro w hSw
          go_simp
          try with_reducible rfl
        (try simp only [Act.put, List.setIfInBounds_toArray, List.set_cons_zero, List.set_cons_succ])
        refine wpAnyH_take (i := 10) (oi := { dst := some 51, op := Op.extract (Operand.tmp 41) 0, type := 36, pos := "ref.go:89", after := #[{ on := 9, ground := Ground.data }], guard := none }) (v := ?vgb_53) rfl (by kernel_rfl) (by kernel_rfl) (by kernel_rfl) (fun _ _ _ h => h) (Or.inl ⟨by rfl, ?hgb_53⟩) hSgb_51 ?rgb_53
        case hgb_53 =>
          intro w hSw
          go_simp
          try with_reducible rfl
        (try simp only [Act.put, List.setIfInBounds_toArray, List.set_cons_zero, List.set_cons_succ])
        refine wpAnyH_take (i := 11) (oi := { dst := some 52, op := Op.extract (Operand.tmp 41) 1, type := 4, pos := "ref.go:89", after := #[{ on := 9, ground := Ground.data }, { on := 13, ground := Ground.gcOnly Departure.lateStores }], guard := none }) (v := ?vgb_54) rfl (by kernel_rfl) (by kernel_rfl) (by kernel_rfl) (fun _ _ _ h => h) (Or.inl ⟨by rfl, ?hgb_54⟩) hSgb_51 ?rgb_54
        case hgb_54 =>
          intro w hSw
          go_simp
          try with_reducible rfl
        (try simp only [Act.put, List.setIfInBounds_toArray, List.set_cons_zero, List.set_cons_succ])
        refine wpAnyH_ready (rs := [13]) (by kernel_rfl) (by simp) ?_
        refine AllReadyH.cons (o := qgbx13) rfl (fun K hK => ?_) (AllReadyH.nil)
        unfold qgbx13
        rw [if_pos (by rfl)]
        refine ref_store _ _ rfl ggb_46 (fun _ => 0) XL rfl rfl rgb_46 hSgb_51 Ggb_46 (fun wgb_55 r0 hSgb_55 => ?_)
        refine hK.out _ _ hSgb_55 (fun h => ?_)
        clear h hK K rgb_46
        have rgb_46 := r0
        clear r0
        (try dsimp only [Act.put])
        refine wpAnyH_take (i := 14) (oi := { dst := some 10, op := Op.assign (Operand.tmp 52), type := 4, pos := "ref.go:89", after := #[{ on := 11, ground := Ground.data }, { on := 13, ground := Ground.chain }, { on := 0, ground := Ground.phase }, { on := 1, ground := Ground.phase }, { on := 2, ground := Ground.phase }, { on := 3, ground := Ground.phase }, { on := 4, ground := Ground.phase }, { on := 5, ground := Ground.phase }, { on := 6, ground := Ground.phase }, { on := 7, ground := Ground.phase }, { on := 8, ground := Ground.phase }, { on := 9, ground := Ground.phase }, { on := 10, ground := Ground.phase }, { on := 11, ground := Ground.phase }, { on := 12, ground := Ground.phase }, { on := 13, ground := Ground.phase }], guard := none }) (v := ?vgb_56) rfl (by kernel_rfl) (by kernel_rfl) (by kernel_rfl) (fun _ _ _ h => h) (Or.inl ⟨by rfl, ?hgb_56⟩) hSgb_55 ?rgb_56
        case hgb_56 =>
          intro w hSw
          go_simp
          try with_reducible rfl
        (try simp only [Act.put, List.setIfInBounds_toArray, List.set_cons_zero, List.set_cons_succ])
        refine wpAnyH_done (by kernel_rfl) ?_ _
        refine NoPanic.normal ?_
        go_wp2
        go_meet
        case rel => exact ⟨ggb_46, XL, rfl, rfl, hXL, below_next hdrew hSgb_55, Nat.le_trans hdrew.size Ggb_46, rgb_46⟩
    case rest =>
    obtain ⟨g9, XL, rfl, rfl, hXL, hb11, G9, h9⟩ := hcut
    have l2 := h2.lt
    have l6' := hy.lt
    have n29 : g2 ≠ g9 := by omega
    have n69 : g6 ≠ g9 := by omega
    have w9l : w.heap.size ≤ g9 := Nat.le_trans b.size G9
    replace hy := hy.still hb11
    replace h2 := h2.still hb11
    replace b := below_next b hb11
    obtain ⟨U1, hU1⟩ : ∃ W, W = wc := ⟨_, rfl⟩
    rw [← hU1]
    rw [← hU1] at hy h2 b h9
    clear hU1 hb11 G9 l2 l6' h7 h8 cU cT cP cR cD hYY hO
    cases rt with
    | none =>
      have hn : decN bs = none := Hd2.out
      have Hn := Hid.mk' hn
      clear Hd2 hn
      simp only [Option.isSome_none]
      go_upto_region 12 with (fail)
      go_cut [63] from 11 (fun s63 wc => s63 = .bool true ∧ Below U1.heap.size U1 wc)
      case first =>
        clear cz cnul
        have hdrew : Below U1.heap.size U1 U1.drew := (Below.refl _ _).drew
        replace h9 := h9.still hdrew
        refine wp_region_noPanic ?_
        refine wp_region_held_drew (S := fun w' => Below U1.drew.heap.size U1.drew w') (by kernel_rfl) (Below.refl _ _) (fun hS => ?_)
        generalize U1.drew = Vgc_ at *
        refine wpAnyH_take (i := 0) (oi := { dst := some 53, op := Op.move (Operand.tmp 10), type := 4, pos := "ref.go:90", after := #[], guard := none }) (v := ?vgc_1) rfl (by kernel_rfl) (by kernel_rfl) (by kernel_rfl) (fun _ _ _ h => h) (Or.inl ⟨by rfl, ?hgc_1⟩) hS ?rgc_1
        case hgc_1 =>
          intro w hSw
          go_simp
          try with_reducible rfl
        (try simp only [Act.put, List.setIfInBounds_toArray, List.set_cons_zero, List.set_cons_succ])
        refine wpAnyH_take (i := 1) (oi := { dst := some 54, op := Op.unOp UnOp.not 4 (Operand.tmp 53), type := 4, pos := "ref.go:90", after := #[{ on := 0, ground := Ground.data }], guard := none }) (v := ?vgc_2) rfl (by kernel_rfl) (by kernel_rfl) (by kernel_rfl) (fun _ _ _ h => h) (Or.inl ⟨by rfl, ?hgc_2⟩) hS ?rgc_2
        case hgc_2 =>
          intro w hSw
          go_simp
          try with_reducible rfl
        (try simp only [Act.put, List.setIfInBounds_toArray, List.set_cons_zero, List.set_cons_succ])
        refine wpAnyH_take (i := 2) (oi := { dst := some 55, op := Op.move (Operand.tmp 54), type := 4, pos := "ref.go:90", after := #[{ on := 1, ground := Ground.data }], guard := none }) (v := ?vgc_3) rfl (by kernel_rfl) (by kernel_rfl) (by kernel_rfl) (fun _ _ _ h => h) (Or.inl ⟨by rfl, ?hgc_3⟩) hS ?rgc_3
        case hgc_3 =>
          intro w hSw
          go_simp
          try with_reducible rfl
        (try simp only [Act.put, List.setIfInBounds_toArray, List.set_cons_zero, List.set_cons_succ])
        refine wpAnyH_take (i := 3) (oi := { dst := some 56, op := Op.move (Operand.tmp 4), type := 5, pos := "ref.go:90", after := #[{ on := 2, ground := Ground.guard }], guard := some (2, false) }) (v := undef) rfl (by kernel_rfl) (by kernel_rfl) (by kernel_rfl) (fun _ _ _ h => h) (Or.inr ⟨by rfl, rfl⟩) hS ?_
        (try simp only [Act.put, List.setIfInBounds_toArray, List.set_cons_zero, List.set_cons_succ])
        refine wpAnyH_take (i := 4) (oi := { dst := some 57, op := Op.binOp BinOp.eql 5 (Operand.tmp 56) (Operand.const (Value.int IntKind.u8 1)) 5, type := 4, pos := "ref.go:90", after := #[{ on := 3, ground := Ground.data }, { on := 2, ground := Ground.guard }], guard := some (2, false) }) (v := undef) rfl (by kernel_rfl) (by kernel_rfl) (by kernel_rfl) (fun _ _ _ h => h) (Or.inr ⟨by rfl, rfl⟩) hS ?_
        (try simp only [Act.put, List.setIfInBounds_toArray, List.set_cons_zero, List.set_cons_succ])
        refine wpAnyH_take (i := 5) (oi := { dst := some 58, op := Op.move (Operand.tmp 57), type := 4, pos := "ref.go:90", after := #[{ on := 4, ground := Ground.data }, { on := 2, ground := Ground.chain }, { on := 2, ground := Ground.guard }], guard := some (2, false) }) (v := undef) rfl (by kernel_rfl) (by kernel_rfl) (by kernel_rfl) (fun _ _ _ h => h) (Or.inr ⟨by rfl, rfl⟩) hS ?_
        (try simp only [Act.put, List.setIfInBounds_toArray, List.set_cons_zero, List.set_cons_succ])
        refine wpAnyH_take (i := 6) (oi := { dst := some 59, op := Op.load 36 (Operand.tmp 9), type := 36, pos := "ref.go:90", after := #[{ on := 5, ground := Ground.guard }], guard := some (5, true) }) (v := undef) rfl (by kernel_rfl) (by kernel_rfl) (by kernel_rfl) (fun _ _ _ h => h) (Or.inr ⟨by rfl, rfl⟩) hS ?_
        (try simp only [Act.put, List.setIfInBounds_toArray, List.set_cons_zero, List.set_cons_succ])
        refine wpAnyH_take (i := 7) (oi := { dst := some 60, op := Op.call { callee := Callee.value (Operand.func 42), args := #[Operand.const (Value.int IntKind.i64 0)], argTypes := #[3] }, type := 36, pos := "ref.go:90", after := #[{ on := 5, ground := Ground.chain }, { on := 5, ground := Ground.guard }], guard := some (5, true) }) (v := undef) rfl (by kernel_rfl) (by kernel_rfl) (by kernel_rfl) (fun _ _ _ h => h) (Or.inr ⟨by rfl, rfl⟩) hS ?_
        (try simp only [Act.put, List.setIfInBounds_toArray, List.set_cons_zero, List.set_cons_succ])
        refine wpAnyH_take (i := 8) (oi := { dst := some 61, op := Op.call { callee := Callee.value (Operand.func 47), args := #[Operand.tmp 59, Operand.tmp 60], argTypes := #[36, 36] }, type := 4, pos := "ref.go:90", after := #[{ on := 6, ground := Ground.data }, { on := 7, ground := Ground.data }, { on := 7, ground := Ground.chain }, { on := 5, ground := Ground.guard }], guard := some (5, true) }) (v := undef) rfl (by kernel_rfl) (by kernel_rfl) (by kernel_rfl) (fun _ _ _ h => h) (Or.inr ⟨by rfl, rfl⟩) hS ?_
        (try simp only [Act.put, List.setIfInBounds_toArray, List.set_cons_zero, List.set_cons_succ])
        refine wpAnyH_take (i := 9) (oi := { dst := some 62, op := Op.pick (Operand.tmp 58) (Operand.tmp 61) (Operand.const (Value.bool false)), type := 4, pos := "ref.go:90", after := #[{ on := 5, ground := Ground.data }, { on := 8, ground := Ground.data }, { on := 2, ground := Ground.guard }], guard := some (2, false) }) (v := undef) rfl (by kernel_rfl) (by kernel_rfl) (by kernel_rfl) (fun _ _ _ h => h) (Or.inr ⟨by rfl, rfl⟩) hS ?_
        (try simp only [Act.put, List.setIfInBounds_toArray, List.set_cons_zero, List.set_cons_succ])
        refine wpAnyH_take (i := 10) (oi := { dst := some 63, op := Op.pick (Operand.tmp 55) (Operand.const (Value.bool true)) (Operand.tmp 62), type := 4, pos := "ref.go:90", after := #[{ on := 2, ground := Ground.data }, { on := 9, ground := Ground.data }], guard := none }) (v := ?vgc_4) rfl (by kernel_rfl) (by kernel_rfl) (by kernel_rfl) (fun _ _ _ h => h) (Or.inl ⟨by rfl, ?hgc_4⟩) hS ?rgc_4
        case hgc_4 =>
          intro w hSw
          go_simp
          try with_reducible rfl
        (try simp only [Act.put, List.setIfInBounds_toArray, List.set_cons_zero, List.set_cons_succ])
        refine wpAnyH_done (by kernel_rfl) ?_ _
        refine NoPanic.normal ?_
        go_wp2
        go_meet
        case rel => exact ⟨by rfl, below_next hdrew hS⟩
      case rest =>
      obtain ⟨rfl, hb12⟩ := hcut
      replace hy := hy.still hb12
      replace h2 := h2.still hb12
      replace h9 := h9.still hb12
      replace b := below_next b hb12
      clear hb12
      go_wp2_with (first
        | (go_at_call 39; refine (cz _).mono ?_; clear cz; rintro e w40 ⟨t, rfl, ht, hb40⟩; (replace h2 := h2.still hb40); (replace b := below_next b hb40); clear hb40; (have t40 : w40.there g2 0 (q64 t.X t.Y t.Z t.T).toArray.size := there64 h2))
        | (with_reducible (refine id (?_ : wpList _ _ _ _ _ _)); refine wpList_store_mid rfl 38 _ _ rfl g2 0 (q64 t.X t.Y t.Z t.T).toArray rfl rfl t40 (infoQA _ _ _ _) (oneQ _ _ _ _) ?_))
      (try simp only [Exit.inBlock, Exit.then])
      exact bodyPost_ret (results_cell_tmp Tryd.results10 _ _ g2 0 (q64 t.X t.Y t.Z t.T) _ rfl (h2.stored (q64 t.X t.Y t.Z t.T) (q64_same _ _ _ _ _ _ _ _)).range Tryd.underlying38 rfl (infoQ _ _ _ _)) rfl ⟨t, 30, rfl, .inl ⟨rfl, ht, Hn.out⟩, below_setCells w2 _ _ _ b⟩
    | some xr =>
      simp only [Option.isSome_some, Option.getD_some] at hXL hrl ⊢
      by_cases hodd : bs 31 / 128 = 1
      · have hod : ((bs 31 : Nat) : Int) / 128 = 1 := by omega
        rw [hod]
        obtain ⟨x0, hx0⟩ : ∃ x0, decide (xr = 0) = x0 := ⟨_, rfl⟩
        have cS : ∀ O, Rw O 0 → ∀ W, Calls Tryd.prog 47 #[rV XL, rV O] W fun e w' => e = .returned (.bool x0) ∧ Below W.heap.size W w' := fun O hO W => rsame_wide hXL hO x0 (by rw [Nat.mod_eq_of_lt hrl]; exact hx0) W
        have Hd3 : Hid (decN bs = if xr = 0 then none else some (ofXY (fsub 0 xr) yn)) := Hid.mk' (by
          rw [Hd2.out]
          show (if bs 31 / 128 = 1 ∧ xr = 0 then none else some (ofXY (if bs 31 / 128 = 1 then fsub 0 xr else xr) yn)) = _
          rw [if_pos hodd]
          by_cases h0 : xr = 0
          · rw [if_pos ⟨hodd, h0⟩, if_pos h0]
          · rw [if_neg (fun h => h0 h.2), if_neg h0])
        have Hx := Hid.mk' hx0
        have cnul2 := cnul
        clear Hd2 hx0
        go_upto_region 12 with (fail)
        go_cut [63] from 11 (fun s63 wc => s63 = .bool x0 ∧ Below U1.heap.size U1 wc)
        case first =>
          clear cz cnul2
          have hdrew : Below U1.heap.size U1 U1.drew := (Below.refl _ _).drew
          replace h9 := h9.still hdrew
          refine wp_region_noPanic ?_
          refine wp_region_held_drew (S := fun w' => Below U1.drew.heap.size U1.drew w') (by kernel_rfl) (Below.refl _ _) (fun hS => ?_)
          generalize U1.drew = Vgd_ at *
          refine wpAnyH_take (i := 0) (oi := { dst := some 53, op := Op.move (Operand.tmp 10), type := 4, pos := "ref.go:90", after := #[], guard := none }) (v := ?vgd_1) rfl (by kernel_rfl) (by kernel_rfl) (by kernel_rfl) (fun _ _ _ h => h) (Or.inl ⟨by rfl, ?hgd_1⟩) hS ?rgd_1
          case hgd_1 =>
            intro w hSw
            go_simp
            try with_reducible rfl
          (try simp only [Act.put, List.setIfInBounds_toArray, List.set_cons_zero, List.set_cons_succ])
          refine wpAnyH_take (i := 1) (oi := { dst := some 54, op := Op.unOp UnOp.not 4 (Operand.tmp 53), type := 4, pos := "ref.go:90", after := #[{ on := 0, ground := Ground.data }], guard := none }) (v := ?vgd_2) rfl (by kernel_rfl) (by kernel_rfl) (by kernel_rfl) (fun _ _ _ h => h) (Or.inl ⟨by rfl, ?hgd_2⟩) hS ?rgd_2
          case hgd_2 =>
            intro w hSw
            go_simp
            try with_reducible rfl
          (try simp only [Act.put, List.setIfInBounds_toArray, List.set_cons_zero, List.set_cons_succ])
          refine wpAnyH_take (i := 2) (oi := { dst := some 55, op := Op.move (Operand.tmp 54), type := 4, pos := "ref.go:90", after := #[{ on := 1, ground := Ground.data }], guard := none }) (v := ?vgd_3) rfl (by kernel_rfl) (by kernel_rfl) (by kernel_rfl) (fun _ _ _ h => h) (Or.inl ⟨by rfl, ?hgd_3⟩) hS ?rgd_3
          case hgd_3 =>
            intro w hSw
            go_simp
            try with_reducible rfl
          (try simp only [Act.put, List.setIfInBounds_toArray, List.set_cons_zero, List.set_cons_succ])
          refine wpAnyH_take (i := 3) (oi := { dst := some 56, op := Op.move (Operand.tmp 4), type := 5, pos := "ref.go:90", after := #[{ on := 2, ground := Ground.guard }], guard := some (2, false) }) (v := ?vgd_4) rfl (by kernel_rfl) (by kernel_rfl) (by kernel_rfl) (fun _ _ _ h => h) (Or.inl ⟨by rfl, ?hgd_4⟩) hS ?rgd_4
          case hgd_4 =>
            intro w hSw
            go_simp
            try with_reducible rfl
          (try simp only [Act.put, List.setIfInBounds_toArray, List.set_cons_zero, List.set_cons_succ])
          refine wpAnyH_take (i := 4) (oi := { dst := some 57, op := Op.binOp BinOp.eql 5 (Operand.tmp 56) (Operand.const (Value.int IntKind.u8 1)) 5, type := 4, pos := "ref.go:90", after := #[{ on := 3, ground := Ground.data }, { on := 2, ground := Ground.guard }], guard := some (2, false) }) (v := ?vgd_5) rfl (by kernel_rfl) (by kernel_rfl) (by kernel_rfl) (fun _ _ _ h => h) (Or.inl ⟨by rfl, ?hgd_5⟩) hS ?rgd_5
          case hgd_5 =>
            intro w hSw
            go_simp
            try with_reducible rfl
          (try simp only [Act.put, List.setIfInBounds_toArray, List.set_cons_zero, List.set_cons_succ])
          refine wpAnyH_take (i := 5) (oi := { dst := some 58, op := Op.move (Operand.tmp 57), type := 4, pos := "ref.go:90", after := #[{ on := 4, ground := Ground.data }, { on := 2, ground := Ground.chain }, { on := 2, ground := Ground.guard }], guard := some (2, false) }) (v := ?vgd_6) rfl (by kernel_rfl) (by kernel_rfl) (by kernel_rfl) (fun _ _ _ h => h) (Or.inl ⟨by rfl, ?hgd_6⟩) hS ?rgd_6
          case hgd_6 =>
            intro w hSw
            go_simp
            try with_reducible rfl
          (try simp only [Act.put, List.setIfInBounds_toArray, List.set_cons_zero, List.set_cons_succ])
          refine wpAnyH_take (i := 6) (oi := { dst := some 59, op := Op.load 36 (Operand.tmp 9), type := 36, pos := "ref.go:90", after := #[{ on := 5, ground := Ground.guard }], guard := some (5, true) }) (v := rV XL) rfl (by kernel_rfl) (by kernel_rfl) (by kernel_rfl) (fun _ _ _ h => h) (yieldsIf_load_mid (by rfl) 36 _ rfl g9 0 rfl (i16 XL) _ (fun _ h => (h9.still h).range) Tryd.underlying36 rfl (infoI _)) hS ?_
          (try simp only [Act.put, List.setIfInBounds_toArray, List.set_cons_zero, List.set_cons_succ])
          refine wpAnyH_ready (rs := [7]) (by kernel_rfl) (by simp) ?_
          refine AllReadyH.cons (o := qgdx7) rfl (fun K hK => ?_) (AllReadyH.nil)
          unfold qgdx7
          go_simp
          (go_at_call 42; refine (cnul _).mono ?_; clear cnul; rintro e wgd_7 ⟨O2, rfl, hO2, hbgd_7⟩)
          (try go_simp)
          have hSgd_7 := below_next hS hbgd_7
          refine hK.out _ _ hSgd_7 (fun h => ?_)
          clear h hK K hbgd_7
          (try simp only [Act.put, List.setIfInBounds_toArray, List.set_cons_zero, List.set_cons_succ])
          refine wpAnyH_ready (rs := [8]) (by kernel_rfl) (by simp) ?_
          refine AllReadyH.cons (o := qgdx8) rfl (fun K hK => ?_) (AllReadyH.nil)
          unfold qgdx8
          go_simp
          (go_at_call 47; refine (cS O2 hO2 _).mono ?_; clear cS; rintro e wgd_8 ⟨rfl, hbgd_8⟩)
          (try go_simp)
          have hSgd_8 := below_next hSgd_7 hbgd_8
          refine hK.out _ _ hSgd_8 (fun h => ?_)
          clear h hK K hbgd_8
          (try simp only [Act.put, List.setIfInBounds_toArray, List.set_cons_zero, List.set_cons_succ])
          refine wpAnyH_take (i := 9) (oi := { dst := some 62, op := Op.pick (Operand.tmp 58) (Operand.tmp 61) (Operand.const (Value.bool false)), type := 4, pos := "ref.go:90", after := #[{ on := 5, ground := Ground.data }, { on := 8, ground := Ground.data }, { on := 2, ground := Ground.guard }], guard := some (2, false) }) (v := ?vgd_9) rfl (by kernel_rfl) (by kernel_rfl) (by kernel_rfl) (fun _ _ _ h => h) (Or.inl ⟨by rfl, ?hgd_9⟩) hSgd_8 ?rgd_9
          case hgd_9 =>
            intro w hSw
            go_simp
            try with_reducible rfl
          (try simp only [Act.put, List.setIfInBounds_toArray, List.set_cons_zero, List.set_cons_succ])
          refine wpAnyH_take (i := 10) (oi := { dst := some 63, op := Op.pick (Operand.tmp 55) (Operand.const (Value.bool true)) (Operand.tmp 62), type := 4, pos := "ref.go:90", after := #[{ on := 2, ground := Ground.data }, { on := 9, ground := Ground.data }], guard := none }) (v := ?vgd_10) rfl (by kernel_rfl) (by kernel_rfl) (by kernel_rfl) (fun _ _ _ h => h) (Or.inl ⟨by rfl, ?hgd_10⟩) hSgd_8 ?rgd_10
          case hgd_10 =>
            intro w hSw
            go_simp
            try with_reducible rfl
          (try simp only [Act.put, List.setIfInBounds_toArray, List.set_cons_zero, List.set_cons_succ])
          refine wpAnyH_done (by kernel_rfl) ?_ _
          refine NoPanic.normal ?_
          go_wp2
          go_meet
          case rel => exact ⟨by rfl, below_next hdrew hSgd_8⟩
        case rest =>
        obtain ⟨rfl, hb12⟩ := hcut
        replace hy := hy.still hb12
        replace h2 := h2.still hb12
        replace h9 := h9.still hb12
        replace b := below_next b hb12
        clear hb12
        clear cS
        cases x0 with
        | true =>
          have Hn : Hid (decN bs = none) := Hid.mk' (by rw [Hd3.out, if_pos (of_decide_eq_true Hx.out)])
          clear Hd3 Hx
          go_wp2_with (first
            | (go_at_call 39; refine (cz _).mono ?_; clear cz; rintro e w40 ⟨t, rfl, ht, hb40⟩; (replace h2 := h2.still hb40); (replace b := below_next b hb40); clear hb40; (have t40 : w40.there g2 0 (q64 t.X t.Y t.Z t.T).toArray.size := there64 h2))
            | (with_reducible (refine id (?_ : wpList _ _ _ _ _ _)); refine wpList_store_mid rfl 38 _ _ rfl g2 0 (q64 t.X t.Y t.Z t.T).toArray rfl rfl t40 (infoQA _ _ _ _) (oneQ _ _ _ _) ?_))
          (try simp only [Exit.inBlock, Exit.then])
          exact bodyPost_ret (results_cell_tmp Tryd.results10 _ _ g2 0 (q64 t.X t.Y t.Z t.T) _ rfl (h2.stored (q64 t.X t.Y t.Z t.T) (q64_same _ _ _ _ _ _ _ _)).range Tryd.underlying38 rfl (infoQ _ _ _ _)) rfl ⟨t, 30, rfl, .inl ⟨rfl, ht, Hn.out⟩, below_setCells w2 _ _ _ b⟩
        | false =>
          have Hs : Hid (decN bs = some (ofXY (fsub 0 xr) yn)) := Hid.mk' (by rw [Hd3.out, if_neg (of_decide_eq_false Hx.out)])
          clear Hd3 Hx
          obtain ⟨U2, hU2⟩ : ∃ W, W = wc := ⟨_, rfl⟩
          rw [← hU2]
          rw [← hU2] at hy h2 b h9
          clear hU2
          go_upto_region 15 with (fail)
          (try simp only [Act.put, List.setIfInBounds_toArray, List.set_cons_zero, List.set_cons_succ])
          have hdrew : Below U2.heap.size U2 U2.drew := (Below.refl _ _).drew
          replace b := below_next b hdrew
          replace h2 := h2.still hdrew
          replace h9 := h9.still hdrew
          replace hy := hy.still hdrew
          refine wp_region_noPanic ?_
          refine wp_region_held_drew (S := fun _ => True) (by kernel_rfl) trivial (fun _ => ?_)
          generalize U2.drew = Vge_ at *
          refine wpAnyH_ready (rs := [0, 1]) (by kernel_rfl) (by simp) ?_
          refine AllReadyH.cons (o := { dst := some 67, op := Op.call { callee := Callee.value (Operand.func 42), args := #[Operand.const (Value.int IntKind.i64 0)], argTypes := #[3] }, type := 36, pos := "ref.go:94", after := #[], guard := none }) rfl (fun K hK => ?_) (AllReadyH.cons (o := { dst := some 68, op := Op.load 36 (Operand.tmp 9), type := 36, pos := "ref.go:94", after := #[], guard := none }) rfl (fun K hK => ?_) (AllReadyH.nil))
          · go_simp
            (go_at_call 42; refine (cnul2 _).mono ?_; clear cnul2; rintro e wge_1 ⟨O3, rfl, hO3, hbS⟩; (replace h2 := h2.still hbS); (replace h9 := h9.still hbS); (replace hy := hy.still hbS); (replace b := below_next b hbS); clear hbS)
            (try go_simp)
            refine hK.out _ _ trivial (fun h => ?_)
            clear h hK K
            (try simp only [Act.put, List.setIfInBounds_toArray, List.set_cons_zero, List.set_cons_succ])
            refine wpAnyH_ready (rs := [1]) (by kernel_rfl) (by simp) ?_
            refine AllReadyH.cons (o := { dst := some 68, op := Op.load 36 (Operand.tmp 9), type := 36, pos := "ref.go:94", after := #[], guard := none }) rfl (fun K hK => ?_) (AllReadyH.nil)
            rw [if_pos (by rfl)]
            refine wp_load_mid 36 _ rfl g9 0 rfl (i16 XL) _ h9.range Tryd.underlying36 rfl (infoI _) ?_
            refine hK.out _ _ trivial (fun h => ?_)
            clear h hK K
            rw [show Value.agg (i16 XL).toArray = rV XL from rfl]
            (try simp only [Act.put, List.setIfInBounds_toArray, List.set_cons_zero, List.set_cons_succ])
            refine wpAnyH_ready (rs := [2]) (by kernel_rfl) (by simp) ?_
            refine AllReadyH.cons (o := { dst := some 69, op := Op.call { callee := Callee.value (Operand.func 45), args := #[Operand.tmp 67, Operand.tmp 68], argTypes := #[36, 36] }, type := 36, pos := "ref.go:94", after := #[{ on := 0, ground := Ground.data }, { on := 1, ground := Ground.data }, { on := 0, ground := Ground.chain }], guard := none }) rfl (fun K hK => ?_) (AllReadyH.nil)
            go_simp
            (go_at_call 45; refine (rminus_w hO3 hXL _).mono ?_; rintro e wge_3 ⟨rfl, hbS⟩; (replace h2 := h2.still hbS); (replace h9 := h9.still hbS); (replace hy := hy.still hbS); (replace b := below_next b hbS); clear hbS)
            (try go_simp)
            refine hK.out _ _ trivial (fun h => ?_)
            clear h hK K
            (try simp only [Act.put, List.setIfInBounds_toArray, List.set_cons_zero, List.set_cons_succ])
            refine wpAnyH_ready (rs := [3]) (by kernel_rfl) (by simp) ?_
            refine AllReadyH.cons (o := { dst := none, op := Op.store 36 (Operand.tmp 9) (Operand.tmp 69), type := 0, pos := "ref.go:94", after := #[{ on := 2, ground := Ground.data }, { on := 2, ground := Ground.chain }, { on := 0, ground := Ground.phase }, { on := 1, ground := Ground.phase }, { on := 2, ground := Ground.phase }], guard := none }) rfl (fun K hK => ?_) (AllReadyH.nil)
            rw [if_pos (by rfl)]
            refine wp_store_mid 36 _ _ rfl g9 0 (i16 (minusL O3 XL)).toArray rfl rfl (there16 h9) (infoIA _) (oneI _) ?_
            have Oge_4 := Out.setCells (b := g9) (o := 0) (n := (i16 (minusL O3 XL)).length) wge_3 (i16 (minusL O3 XL)) (Nat.le_refl _) (Nat.le_refl _)
            replace b := below_setCells w9l (i16 (minusL O3 XL)) 0 _ b
            replace h9 := h9.stored (i16 (minusL O3 XL)) (by rw [i16_len, i16_len])
            replace h2 := h2.far g9 0 (i16 (minusL O3 XL)) (.inl n29)
            replace hy := hy.far g9 0 (i16 (minusL O3 XL)) (.inl n69)
            obtain ⟨wge_4, hwge_4⟩ : ∃ W, wge_3.setCells g9 0 (i16 (minusL O3 XL)) = W := ⟨_, rfl⟩
            rw [hwge_4] at h2
            rw [hwge_4] at b
            rw [hwge_4] at hy
            rw [hwge_4] at h9
            rw [hwge_4] at Oge_4
            rw [show wge_3.setCells g9 0 (i16 (minusL O3 XL)).toArray.toList = wge_4 from hwge_4]
            refine hK.out _ _ trivial (fun h => ?_)
            clear h hK K hwge_4
            (try dsimp only [Act.put])
            refine wpAnyH_done (by kernel_rfl) ?_ _
            refine NoPanic.normal ?_
            have cof : ∀ W, Calls Tryd.prog 48 #[.agg (i16 (minusL O3 XL)).toArray, .agg (i16 YL).toArray] W fun e w' => ∃ t : P4, e = .returned (.agg (q64 t.X t.Y t.Z t.T).toArray) ∧ t.Rep (ofXY (fsub 0 xr) yn) ∧ Below W.heap.size W w' := fun W => rof_any (rww_minus hO3 hXL hrl) hYr W
            go_wp2_with (first
              | (refine wpList_load_mid rfl 36 _ rfl g9 0 rfl (i16 (minusL O3 XL)) _ h9.range Tryd.underlying36 rfl (infoI _) ?_)
              | (refine wpList_load_mid rfl 36 _ rfl g6 0 rfl (i16 YL) _ hy.range Tryd.underlying36 rfl (infoI _) ?_)
              | (go_at_call 48; refine (cof _).mono ?_; clear cof; rintro e w50 ⟨t, rfl, ht, hb50⟩; (replace h2 := h2.still hb50); (replace b := below_next b hb50); clear hb50; (have t50 : w50.there g2 0 (q64 t.X t.Y t.Z t.T).toArray.size := there64 h2))
              | (with_reducible (refine id (?_ : wpList _ _ _ _ _ _)); refine wpList_store_mid rfl 38 _ _ rfl g2 0 (q64 t.X t.Y t.Z t.T).toArray rfl rfl t50 (infoQA _ _ _ _) (oneQ _ _ _ _) ?_))
            (try simp only [Exit.inBlock, Exit.then])
            exact bodyPost_ret (results_cell_tmp Tryd.results10 _ _ g2 0 (q64 t.X t.Y t.Z t.T) _ rfl (h2.stored (q64 t.X t.Y t.Z t.T) (q64_same _ _ _ _ _ _ _ _)).range Tryd.underlying38 rfl (infoQ _ _ _ _)) rfl ⟨t, 0, rfl, .inr ⟨rfl, _, Hs.out, ht⟩, below_setCells w2 _ _ _ b⟩
          · rw [if_pos (by rfl)]
            refine wp_load_mid 36 _ rfl g9 0 rfl (i16 XL) _ h9.range Tryd.underlying36 rfl (infoI _) ?_
            refine hK.out _ _ trivial (fun h => ?_)
            clear h hK K
            rw [show Value.agg (i16 XL).toArray = rV XL from rfl]
            (try simp only [Act.put, List.setIfInBounds_toArray, List.set_cons_zero, List.set_cons_succ])
            refine wpAnyH_ready (rs := [0]) (by kernel_rfl) (by simp) ?_
            refine AllReadyH.cons (o := { dst := some 67, op := Op.call { callee := Callee.value (Operand.func 42), args := #[Operand.const (Value.int IntKind.i64 0)], argTypes := #[3] }, type := 36, pos := "ref.go:94", after := #[], guard := none }) rfl (fun K hK => ?_) (AllReadyH.nil)
            go_simp
            (go_at_call 42; refine (cnul2 _).mono ?_; clear cnul2; rintro e wge_6 ⟨O3, rfl, hO3, hbS⟩; (replace h2 := h2.still hbS); (replace h9 := h9.still hbS); (replace hy := hy.still hbS); (replace b := below_next b hbS); clear hbS)
            (try go_simp)
            refine hK.out _ _ trivial (fun h => ?_)
            clear h hK K
            (try simp only [Act.put, List.setIfInBounds_toArray, List.set_cons_zero, List.set_cons_succ])
            refine wpAnyH_ready (rs := [2]) (by kernel_rfl) (by simp) ?_
            refine AllReadyH.cons (o := { dst := some 69, op := Op.call { callee := Callee.value (Operand.func 45), args := #[Operand.tmp 67, Operand.tmp 68], argTypes := #[36, 36] }, type := 36, pos := "ref.go:94", after := #[{ on := 0, ground := Ground.data }, { on := 1, ground := Ground.data }, { on := 0, ground := Ground.chain }], guard := none }) rfl (fun K hK => ?_) (AllReadyH.nil)
            go_simp
            (go_at_call 45; refine (rminus_w hO3 hXL _).mono ?_; rintro e wge_7 ⟨rfl, hbS⟩; (replace h2 := h2.still hbS); (replace h9 := h9.still hbS); (replace hy := hy.still hbS); (replace b := below_next b hbS); clear hbS)
            (try go_simp)
            refine hK.out _ _ trivial (fun h => ?_)
            clear h hK K
            (try simp only [Act.put, List.setIfInBounds_toArray, List.set_cons_zero, List.set_cons_succ])
            refine wpAnyH_ready (rs := [3]) (by kernel_rfl) (by simp) ?_
            refine AllReadyH.cons (o := { dst := none, op := Op.store 36 (Operand.tmp 9) (Operand.tmp 69), type := 0, pos := "ref.go:94", after := #[{ on := 2, ground := Ground.data }, { on := 2, ground := Ground.chain }, { on := 0, ground := Ground.phase }, { on := 1, ground := Ground.phase }, { on := 2, ground := Ground.phase }], guard := none }) rfl (fun K hK => ?_) (AllReadyH.nil)
            rw [if_pos (by rfl)]
            refine wp_store_mid 36 _ _ rfl g9 0 (i16 (minusL O3 XL)).toArray rfl rfl (there16 h9) (infoIA _) (oneI _) ?_
            have Oge_8 := Out.setCells (b := g9) (o := 0) (n := (i16 (minusL O3 XL)).length) wge_7 (i16 (minusL O3 XL)) (Nat.le_refl _) (Nat.le_refl _)
            replace b := below_setCells w9l (i16 (minusL O3 XL)) 0 _ b
            replace h9 := h9.stored (i16 (minusL O3 XL)) (by rw [i16_len, i16_len])
            replace h2 := h2.far g9 0 (i16 (minusL O3 XL)) (.inl n29)
            replace hy := hy.far g9 0 (i16 (minusL O3 XL)) (.inl n69)
            obtain ⟨wge_8, hwge_8⟩ : ∃ W, wge_7.setCells g9 0 (i16 (minusL O3 XL)) = W := ⟨_, rfl⟩
            rw [hwge_8] at h2
            rw [hwge_8] at b
            rw [hwge_8] at hy
            rw [hwge_8] at h9
            rw [hwge_8] at Oge_8
            rw [show wge_7.setCells g9 0 (i16 (minusL O3 XL)).toArray.toList = wge_8 from hwge_8]
            refine hK.out _ _ trivial (fun h => ?_)
            clear h hK K hwge_8
            (try dsimp only [Act.put])
            refine wpAnyH_done (by kernel_rfl) ?_ _
            refine NoPanic.normal ?_
            have cof : ∀ W, Calls Tryd.prog 48 #[.agg (i16 (minusL O3 XL)).toArray, .agg (i16 YL).toArray] W fun e w' => ∃ t : P4, e = .returned (.agg (q64 t.X t.Y t.Z t.T).toArray) ∧ t.Rep (ofXY (fsub 0 xr) yn) ∧ Below W.heap.size W w' := fun W => rof_any (rww_minus hO3 hXL hrl) hYr W
            go_wp2_with (first
              | (refine wpList_load_mid rfl 36 _ rfl g9 0 rfl (i16 (minusL O3 XL)) _ h9.range Tryd.underlying36 rfl (infoI _) ?_)
              | (refine wpList_load_mid rfl 36 _ rfl g6 0 rfl (i16 YL) _ hy.range Tryd.underlying36 rfl (infoI _) ?_)
              | (go_at_call 48; refine (cof _).mono ?_; clear cof; rintro e w50 ⟨t, rfl, ht, hb50⟩; (replace h2 := h2.still hb50); (replace b := below_next b hb50); clear hb50; (have t50 : w50.there g2 0 (q64 t.X t.Y t.Z t.T).toArray.size := there64 h2))
              | (with_reducible (refine id (?_ : wpList _ _ _ _ _ _)); refine wpList_store_mid rfl 38 _ _ rfl g2 0 (q64 t.X t.Y t.Z t.T).toArray rfl rfl t50 (infoQA _ _ _ _) (oneQ _ _ _ _) ?_))
            (try simp only [Exit.inBlock, Exit.then])
            exact bodyPost_ret (results_cell_tmp Tryd.results10 _ _ g2 0 (q64 t.X t.Y t.Z t.T) _ rfl (h2.stored (q64 t.X t.Y t.Z t.T) (q64_same _ _ _ _ _ _ _ _)).range Tryd.underlying38 rfl (infoQ _ _ _ _)) rfl ⟨t, 0, rfl, .inr ⟨rfl, _, Hs.out, ht⟩, below_setCells w2 _ _ _ b⟩
      · have hod : ((bs 31 : Nat) : Int) / 128 = 0 := by have := hbs 31; omega
        rw [hod]
        have Hs : Hid (decN bs = some (ofXY xr yn)) := Hid.mk' (by
          rw [Hd2.out]
          show (if bs 31 / 128 = 1 ∧ xr = 0 then none else some (ofXY (if bs 31 / 128 = 1 then fsub 0 xr else xr) yn)) = _
          rw [if_neg hodd, if_neg (fun h => hodd h.1)])
        clear Hd2
        go_upto_region 12 with (fail)
        go_cut [63] from 11 (fun s63 wc => s63 = .bool false ∧ Below U1.heap.size U1 wc)
        case first =>
          clear cz cnul
          have hdrew : Below U1.heap.size U1 U1.drew := (Below.refl _ _).drew
          replace h9 := h9.still hdrew
          refine wp_region_noPanic ?_
          refine wp_region_held_drew (S := fun w' => Below U1.drew.heap.size U1.drew w') (by kernel_rfl) (Below.refl _ _) (fun hS => ?_)
          generalize U1.drew = Vgf_ at *
          refine wpAnyH_take (i := 0) (oi := { dst := some 53, op := Op.move (Operand.tmp 10), type := 4, pos := "ref.go:90", after := #[], guard := none }) (v := ?vgf_1) rfl (by kernel_rfl) (by kernel_rfl) (by kernel_rfl) (fun _ _ _ h => h) (Or.inl ⟨by rfl, ?hgf_1⟩) hS ?rgf_1
          case hgf_1 =>
            intro w hSw
            go_simp
            try with_reducible rfl
          (try simp only [Act.put, List.setIfInBounds_toArray, List.set_cons_zero, List.set_cons_succ])
          refine wpAnyH_take (i := 1) (oi := { dst := some 54, op := Op.unOp UnOp.not 4 (Operand.tmp 53), type := 4, pos := "ref.go:90", after := #[{ on := 0, ground := Ground.data }], guard := none }) (v := ?vgf_2) rfl (by kernel_rfl) (by kernel_rfl) (by kernel_rfl) (fun _ _ _ h => h) (Or.inl ⟨by rfl, ?hgf_2⟩) hS ?rgf_2
          case hgf_2 =>
            intro w hSw
            go_simp
            try with_reducible rfl
          (try simp only [Act.put, List.setIfInBounds_toArray, List.set_cons_zero, List.set_cons_succ])
          refine wpAnyH_take (i := 2) (oi := { dst := some 55, op := Op.move (Operand.tmp 54), type := 4, pos := "ref.go:90", after := #[{ on := 1, ground := Ground.data }], guard := none }) (v := ?vgf_3) rfl (by kernel_rfl) (by kernel_rfl) (by kernel_rfl) (fun _ _ _ h => h) (Or.inl ⟨by rfl, ?hgf_3⟩) hS ?rgf_3
          case hgf_3 =>
            intro w hSw
            go_simp
            try with_reducible rfl
          (try simp only [Act.put, List.setIfInBounds_toArray, List.set_cons_zero, List.set_cons_succ])
          refine wpAnyH_take (i := 3) (oi := { dst := some 56, op := Op.move (Operand.tmp 4), type := 5, pos := "ref.go:90", after := #[{ on := 2, ground := Ground.guard }], guard := some (2, false) }) (v := ?vgf_4) rfl (by kernel_rfl) (by kernel_rfl) (by kernel_rfl) (fun _ _ _ h => h) (Or.inl ⟨by rfl, ?hgf_4⟩) hS ?rgf_4
          case hgf_4 =>
            intro w hSw
            go_simp
            try with_reducible rfl
          (try simp only [Act.put, List.setIfInBounds_toArray, List.set_cons_zero, List.set_cons_succ])
          refine wpAnyH_take (i := 4) (oi := { dst := some 57, op := Op.binOp BinOp.eql 5 (Operand.tmp 56) (Operand.const (Value.int IntKind.u8 1)) 5, type := 4, pos := "ref.go:90", after := #[{ on := 3, ground := Ground.data }, { on := 2, ground := Ground.guard }], guard := some (2, false) }) (v := ?vgf_5) rfl (by kernel_rfl) (by kernel_rfl) (by kernel_rfl) (fun _ _ _ h => h) (Or.inl ⟨by rfl, ?hgf_5⟩) hS ?rgf_5
          case hgf_5 =>
            intro w hSw
            go_simp
            try with_reducible rfl
          (try simp only [Act.put, List.setIfInBounds_toArray, List.set_cons_zero, List.set_cons_succ])
          refine wpAnyH_take (i := 5) (oi := { dst := some 58, op := Op.move (Operand.tmp 57), type := 4, pos := "ref.go:90", after := #[{ on := 4, ground := Ground.data }, { on := 2, ground := Ground.chain }, { on := 2, ground := Ground.guard }], guard := some (2, false) }) (v := ?vgf_6) rfl (by kernel_rfl) (by kernel_rfl) (by kernel_rfl) (fun _ _ _ h => h) (Or.inl ⟨by rfl, ?hgf_6⟩) hS ?rgf_6
          case hgf_6 =>
            intro w hSw
            go_simp
            try with_reducible rfl
          (try simp only [Act.put, List.setIfInBounds_toArray, List.set_cons_zero, List.set_cons_succ])
          refine wpAnyH_take (i := 6) (oi := { dst := some 59, op := Op.load 36 (Operand.tmp 9), type := 36, pos := "ref.go:90", after := #[{ on := 5, ground := Ground.guard }], guard := some (5, true) }) (v := undef) rfl (by kernel_rfl) (by kernel_rfl) (by kernel_rfl) (fun _ _ _ h => h) (Or.inr ⟨by rfl, rfl⟩) hS ?_
          (try simp only [Act.put, List.setIfInBounds_toArray, List.set_cons_zero, List.set_cons_succ])
          refine wpAnyH_take (i := 7) (oi := { dst := some 60, op := Op.call { callee := Callee.value (Operand.func 42), args := #[Operand.const (Value.int IntKind.i64 0)], argTypes := #[3] }, type := 36, pos := "ref.go:90", after := #[{ on := 5, ground := Ground.chain }, { on := 5, ground := Ground.guard }], guard := some (5, true) }) (v := undef) rfl (by kernel_rfl) (by kernel_rfl) (by kernel_rfl) (fun _ _ _ h => h) (Or.inr ⟨by rfl, rfl⟩) hS ?_
          (try simp only [Act.put, List.setIfInBounds_toArray, List.set_cons_zero, List.set_cons_succ])
          refine wpAnyH_take (i := 8) (oi := { dst := some 61, op := Op.call { callee := Callee.value (Operand.func 47), args := #[Operand.tmp 59, Operand.tmp 60], argTypes := #[36, 36] }, type := 4, pos := "ref.go:90", after := #[{ on := 6, ground := Ground.data }, { on := 7, ground := Ground.data }, { on := 7, ground := Ground.chain }, { on := 5, ground := Ground.guard }], guard := some (5, true) }) (v := undef) rfl (by kernel_rfl) (by kernel_rfl) (by kernel_rfl) (fun _ _ _ h => h) (Or.inr ⟨by rfl, rfl⟩) hS ?_
          (try simp only [Act.put, List.setIfInBounds_toArray, List.set_cons_zero, List.set_cons_succ])
          refine wpAnyH_take (i := 9) (oi := { dst := some 62, op := Op.pick (Operand.tmp 58) (Operand.tmp 61) (Operand.const (Value.bool false)), type := 4, pos := "ref.go:90", after := #[{ on := 5, ground := Ground.data }, { on := 8, ground := Ground.data }, { on := 2, ground := Ground.guard }], guard := some (2, false) }) (v := ?vgf_7) rfl (by kernel_rfl) (by kernel_rfl) (by kernel_rfl) (fun _ _ _ h => h) (Or.inl ⟨by rfl, ?hgf_7⟩) hS ?rgf_7
          case hgf_7 =>
            intro w hSw
            go_simp
            try with_reducible rfl
          (try simp only [Act.put, List.setIfInBounds_toArray, List.set_cons_zero, List.set_cons_succ])
          refine wpAnyH_take (i := 10) (oi := { dst := some 63, op := Op.pick (Operand.tmp 55) (Operand.const (Value.bool true)) (Operand.tmp 62), type := 4, pos := "ref.go:90", after := #[{ on := 2, ground := Ground.data }, { on := 9, ground := Ground.data }], guard := none }) (v := ?vgf_8) rfl (by kernel_rfl) (by kernel_rfl) (by kernel_rfl) (fun _ _ _ h => h) (Or.inl ⟨by rfl, ?hgf_8⟩) hS ?rgf_8
          case hgf_8 =>
            intro w hSw
            go_simp
            try with_reducible rfl
          (try simp only [Act.put, List.setIfInBounds_toArray, List.set_cons_zero, List.set_cons_succ])
          refine wpAnyH_done (by kernel_rfl) ?_ _
          refine NoPanic.normal ?_
          go_wp2
          go_meet
          case rel => exact ⟨by rfl, below_next hdrew hS⟩
        case rest =>
        obtain ⟨rfl, hb12⟩ := hcut
        replace hy := hy.still hb12
        replace h2 := h2.still hb12
        replace h9 := h9.still hb12
        replace b := below_next b hb12
        clear hb12
        have cof : ∀ W, Calls Tryd.prog 48 #[.agg (i16 XL).toArray, .agg (i16 YL).toArray] W fun e w' => ∃ t : P4, e = .returned (.agg (q64 t.X t.Y t.Z t.T).toArray) ∧ t.Rep (ofXY xr yn) ∧ Below W.heap.size W w' := fun W => rof_any hXL hYr W
        go_wp2_with (first
          | (refine wpList_load_mid rfl 36 _ rfl g9 0 rfl (i16 XL) _ h9.range Tryd.underlying36 rfl (infoI _) ?_)
          | (refine wpList_load_mid rfl 36 _ rfl g6 0 rfl (i16 YL) _ hy.range Tryd.underlying36 rfl (infoI _) ?_)
          | (go_at_call 48; refine (cof _).mono ?_; clear cof; rintro e w50 ⟨t, rfl, ht, hb50⟩; (replace h2 := h2.still hb50); (replace b := below_next b hb50); clear hb50; (have t50 : w50.there g2 0 (q64 t.X t.Y t.Z t.T).toArray.size := there64 h2))
          | (with_reducible (refine id (?_ : wpList _ _ _ _ _ _)); refine wpList_store_mid rfl 38 _ _ rfl g2 0 (q64 t.X t.Y t.Z t.T).toArray rfl rfl t50 (infoQA _ _ _ _) (oneQ _ _ _ _) ?_))
        (try simp only [Exit.inBlock, Exit.then])
        exact bodyPost_ret (results_cell_tmp Tryd.results10 _ _ g2 0 (q64 t.X t.Y t.Z t.T) _ rfl (h2.stored (q64 t.X t.Y t.Z t.T) (q64_same _ _ _ _ _ _ _ _)).range Tryd.underlying38 rfl (infoQ _ _ _ _)) rfl ⟨t, 0, rfl, .inr ⟨rfl, _, Hs.out, ht⟩, below_setCells w2 _ _ _ b⟩
end Go.Proofs.YteekjcfbnoakgaaDoor
namespace Go.Proofs.YteekjcfbnoakgaaDoor
/-- Two points of the ladder: x and z of each. -/
structure L4 where
  xl : Nat
  zl : Nat
  xh : Nat
  zh : Nat
structure L4.Ok (s : L4) : Prop where
  xl : s.xl < pF
  zl : s.zl < pF
  xh : s.xh < pF
  zh : s.zh < pF
def ee (s : L4) : Nat := fsub (fmul (fadd s.xl s.zl) (fadd s.xl s.zl)) (fmul (fsub s.xl s.zl) (fsub s.xl s.zl))
section
variable {n : Nat} [NeZero n]
theorem g_e {e X S w : Fin n} (he : e*e = 1) (h : e*X = S*w) : X = e*S*w := by grind
end
/-- x and z of a point, times whatever is not 0. -/
def RepP (e y X Z : Fp) : Prop := ∃ s si : Fp, s*si = 1 ∧ X = e*s*(1+y) ∧ Z = s*(1-y)
theorem RepP.mk' {e y X Z S : Fp} (he : e*e = 1) (hS : S ≠ 0) (h1 : e*X = S*(1+y)) (h2 : Z = S*(1-y)) : RepP e y X Z := ⟨S, fi S, fi_mul hS, g_e he h1, h2⟩
/-- The base. -/
def xB : Nat := 15112221349535400772501151409588531511454012693041857206046113283949847762202
def yB : Nat := 46316835694926478169428394003475163141307993866256225615783033603165251855960
theorem xB_lt : xB < pF := by decide
theorem yB_lt : yB < pF := by decide
theorem base_on : On dE (ptXY xB yB) := ptXY_on (by decide)
end Go.Proofs.YteekjcfbnoakgaaDoor
