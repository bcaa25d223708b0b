/- What the proof stands on: RDec6, PtD, RBase6, SqMath, PtE, RSame6, Fit, PApi, PSome, PKnow, PDec, PBytes, PCel, PNumb, PCon. -/
import Derived.Test.YteekjcfbnoakgaaDoorNumberM
import Derived.Test.YteekjcfbnoakgaaDoorRPlus6AM
import Derived.Test.YteekjcfbnoakgaaDoorRootFitM
namespace Go.Proofs.YteekjcfbnoakgaaDoor
open Go.RowKit
/-- The bytes without the highest bit. -/
def lo6 (bs : Nat → Nat) (j : Nat) : Nat := if j = 31 then bs 31 % 128 else bs j
theorem lo6_lt {bs : Nat → Nat} (h : ∀ j, bs j < 256) (j : Nat) : lo6 bs j < 256 := by
  unfold lo6; split
  · have := h 31; omega
  · exact h j
theorem and127_u8 : ∀ b : Nat, b < 256 → bits .and .u8 (b : Int) 127 = ((b % 128 : Nat) : Int) := by decide +kernel
/-- What the bytes tell: a point, or none. -/
def decU (y : Nat) : Nat := fsub (fmul y y) 1
def decV (y : Nat) : Nat := fadd (fmul dN (fmul y y)) 1
def decN (bs : Nat → Nat) : Option N4 :=
  if ofB (lo6 bs) 32 < pF then
    match rootR kP (decU (ofB (lo6 bs) 32)) (decV (ofB (lo6 bs) 32)) with
    | none => none
    | some x => if bs 31 / 128 = 1 ∧ x = 0 then none else some (ofXY (if bs 31 / 128 = 1 then fsub 0 x else x) (ofB (lo6 bs) 32))
  else none
theorem low_str {X : Nat → Nat} (hX : ∀ j, X j < 256) (z : Bool) (hz : decide (ofB X 32 < pF) = z) : ((strB 32 (byt (ofB X 32 % pF))).toList == (strB 32 X).toList) = z := by
  rw [← hz]
  by_cases h : ofB X 32 < pF
  · rw [decide_eq_true h, Nat.mod_eq_of_lt h]
    have e : strB 32 (byt (ofB X 32)) = strB 32 X := (strB_eq (byt_all _) hX).2 ⟨rfl, fun j hj => byt_ofB X hX 32 j hj⟩
    rw [e]
    exact beq_self_eq_true _
  · rw [decide_eq_false h, ByteArray.toList_eq, ByteArray.toList_eq]
    refine beq_false_of_ne (fun e => h ?_)
    have h1 := ((strB_eq (byt_all _) hX).1 (WideShapes.bytes_inj e)).2
    have h2 : ofB (byt (ofB X 32 % pF)) 32 = ofB X 32 := ofB_congr 32 h1
    have hl : ofB X 32 % pF < pF := Nat.mod_lt _ pF_pos
    rw [ofB_byt, Nat.mod_eq_of_lt (Nat.lt_trans hl (by decide))] at h2
    omega
theorem opt_lt6 (c : Prop) [Decidable c] (x P : Nat) (h : x < P) (h0 : 0 < P) : (if c then some x else none : Option Nat).getD 0 < P := by
  split
  · exact h
  · exact h0
theorem evn_lt6 {x : Nat} (h : x < pF) : evn x < pF := by
  unfold evn
  split
  · exact Nat.mod_lt _ pF_pos
  · exact h
theorem rootR_lt6 (k u v : Nat) : (rootR k u v).getD 0 < pF := opt_lt6 _ _ pF (evn_lt6 (rootZ_lt k u v)) pF_pos
/-- How Decode ends. -/
def DecEnd (bs : Nat → Nat) (t : P4) (er : Int) : Prop := (er = 30 ∧ t.Rep zeroN ∧ decN bs = none) ∨ (er = 0 ∧ ∃ p, decN bs = some p ∧ t.Rep p)
abbrev qgbx12 : Oper := { dst := some 9, op := Op.alloc 36, type := 0, pos := "ref.go:89", after := #[], guard := none }
abbrev qgbx2 : Oper := { dst := some 44, op := Op.call { callee := Callee.value (Operand.func 45), args := #[Operand.tmp 42, Operand.tmp 43], argTypes := #[36, 36] }, type := 36, pos := "ref.go:89", after := #[{ on := 0, ground := Ground.data }, { on := 1, ground := Ground.data }], guard := none }
abbrev qgbx3 : Oper := { dst := some 45, op := Op.call { callee := Callee.value (Operand.func 26), args := #[], argTypes := #[] }, type := 36, pos := "ref.go:89", after := #[{ on := 2, ground := Ground.chain }], guard := none }
abbrev qgbx5 : Oper := { dst := some 47, op := Op.call { callee := Callee.value (Operand.func 43), args := #[Operand.tmp 45, Operand.tmp 46], argTypes := #[36, 36] }, type := 36, pos := "ref.go:89", after := #[{ on := 3, ground := Ground.data }, { on := 4, ground := Ground.data }, { on := 3, ground := Ground.chain }], guard := none }
abbrev qgbx7 : Oper := { dst := some 49, op := Op.call { callee := Callee.value (Operand.func 46), args := #[Operand.tmp 47, Operand.tmp 48], argTypes := #[36, 36] }, type := 36, pos := "ref.go:89", after := #[{ on := 5, ground := Ground.data }, { on := 6, ground := Ground.data }, { on := 5, ground := Ground.chain }], guard := none }
abbrev qgbx8 : Oper := { dst := some 50, op := Op.call { callee := Callee.value (Operand.func 44), args := #[Operand.tmp 44, Operand.tmp 49], argTypes := #[36, 36] }, type := 73, pos := "ref.go:89", after := #[{ on := 2, ground := Ground.data }, { on := 7, ground := Ground.data }, { on := 7, ground := Ground.chain }], guard := none }
abbrev qgbx13 : Oper := { dst := none, op := Op.store 36 (Operand.tmp 9) (Operand.tmp 51), type := 0, pos := "ref.go:89", after := #[{ on := 12, ground := Ground.data }, { on := 10, ground := Ground.data }, { on := 8, ground := Ground.chain }, { on := 0, ground := Ground.phase }, { on := 1, ground := Ground.phase }, { on := 2, ground := Ground.phase }, { on := 3, ground := Ground.phase }, { on := 4, ground := Ground.phase }, { on := 5, ground := Ground.phase }, { on := 6, ground := Ground.phase }, { on := 7, ground := Ground.phase }, { on := 8, ground := Ground.phase }, { on := 9, ground := Ground.phase }, { on := 10, ground := Ground.phase }, { on := 11, ground := Ground.textOnly Departure.lateStores }, { on := 12, ground := Ground.phase }], guard := none }
abbrev qgdx7 : Oper := { dst := some 60, op := Op.call { callee := Callee.value (Operand.func 42), args := #[Operand.const (Value.int IntKind.i64 0)], argTypes := #[3] }, type := 36, pos := "ref.go:90", after := #[{ on := 5, ground := Ground.chain }, { on := 5, ground := Ground.guard }], guard := some (5, true) }
abbrev qgdx8 : Oper := { dst := some 61, op := Op.call { callee := Callee.value (Operand.func 47), args := #[Operand.tmp 59, Operand.tmp 60], argTypes := #[36, 36] }, type := 4, pos := "ref.go:90", after := #[{ on := 6, ground := Ground.data }, { on := 7, ground := Ground.data }, { on := 7, ground := Ground.chain }, { on := 5, ground := Ground.guard }], guard := some (5, true) }
set_option maxRecDepth 20000 in
set_option maxHeartbeats 8000000 in
theorem rdec_good (v : Value) (bs : Nat → Nat) (hbs : ∀ j, bs j < 256) (w : World) (hv : BytesIn w v 32 bs) :
    Calls Tryd.prog 10 #[v] w fun e w' => ∃ (t : P4) (er : Int), e = .returned (.tuple #[t.V, .int .i64 er]) ∧ DecEnd bs t er ∧ Below w.heap.size w w' := by
  have hz := zeroR
  have hzq := zeroQ
  obtain ⟨q1, hq1⟩ : ∃ q, q = bs 31 % 128 := ⟨_, rfl⟩
  have eq1 : bits .and .u8 (bs 31 : Int) 127 = (q1 : Int) := by rw [hq1]; exact and127_u8 _ (hbs 31)
  have hq3 : ∀ j, j < 32 → upd bs 31 q1 j = lo6 bs j := fun j _ => by unfold lo6 upd; rw [hq1]
  have z0 : ∀ (w w1 : World) (g : Nat), RowAt .u8 w1 g 0 32 bs → Below w.heap.size w w1 → w.heap.size ≤ g → ∃ V, V = w1.setCell ⟨g, 31, none⟩ (.int .u8 (q1 : Int)) ∧ RowAt .u8 V g 0 32 (lo6 bs) ∧ Below w.heap.size w V := fun w w1 g hr hb hg => by
    have r := hr.set (i := 31) (by decide) (v := (q1 : Int)) rfl
    rw [Nat.zero_add] at r
    exact ⟨_, rfl, r.congr hq3, below_setCells hg [_] 31 _ hb⟩
  have cF : ∀ s W, BytesIn W s 32 (lo6 bs) → Calls Tryd.prog 40 #[s] W fun e w' => e = .returned (.agg (i16 (fromL (lo6 bs))).toArray) ∧ Below W.heap.size W w' := fun s W h => rfrom s _ (lo6_lt hbs) W h
  have cz : ∀ W, Calls Tryd.prog 39 #[] W fun e w' => ∃ t : P4, e = .returned (.agg (q64 t.X t.Y t.Z t.T).toArray) ∧ t.Rep zeroN ∧ Below W.heap.size W w' := fun W => rzero_any W
  have cD : ∀ W, Calls Tryd.prog 26 #[] W fun e w' => ∃ R, e = .returned (rV R) ∧ Rw R dN ∧ Below W.heap.size W w' := fun W => rD_any W
  have cone : ∀ W, Calls Tryd.prog 42 #[.int .i64 1] W fun e w' => ∃ R, e = .returned (.agg (i16 R).toArray) ∧ Rw R 1 ∧ Below W.heap.size W w' := small_w 1 (by decide)
  have cnul : ∀ W, Calls Tryd.prog 42 #[.int .i64 0] W fun e w' => ∃ R, e = .returned (rV R) ∧ Rw R 0 ∧ Below W.heap.size W w' := small_w 0 (by decide)
  obtain ⟨YL, hYL⟩ : ∃ L, L = fromL (lo6 bs) := ⟨_, rfl⟩
  obtain ⟨yn, hyn⟩ : ∃ n, n = ofB (lo6 bs) 32 := ⟨_, rfl⟩
  have hYr : Rw YL yn := by rw [hYL, hyn]; exact (rep_from _ (lo6_lt hbs)).wide
  have cB : ∀ W, Calls Tryd.prog 41 #[rV YL] W fun e w' => ∃ v, e = .returned v ∧ Own W.heap.size w' v 32 (byt (yn % pF)) ∧ Below W.heap.size W w' := fun W => rbytes YL (hYr.dig.mono (by decide)) yn hYr.val W
  obtain ⟨z, hzz⟩ : ∃ z, decide (yn < pF) = z := ⟨_, rfl⟩
  have hstr : ((strB 32 (byt (yn % pF))).toList == (strB 32 (lo6 bs)).toList) = z := by rw [hyn] at hzz ⊢; exact low_str (lo6_lt hbs) z hzz
  have dec0 : decN bs = if yn < pF then (match rootR kP (decU yn) (decV yn) with | none => none | some x => if bs 31 / 128 = 1 ∧ x = 0 then none else some (ofXY (if bs 31 / 128 = 1 then fsub 0 x else x) yn)) else none := by rw [hyn]; rfl
  have Hd := Hid.mk' dec0
  have Hz := Hid.mk' hzz
  rw [← hYL] at cF
  clear hYL hyn dec0 hzz
  obtain ⟨bb, ob, cap, hsl, hlb, hcap, hc⟩ : ∃ bb ob cap, v = .slice (some ⟨bb, ob, none⟩) 32 cap ∧ bb < w.heap.size ∧ 32 ≤ cap ∧ ∀ j, j < 32 → w.cell? ⟨bb, ob + j, none⟩ = some (.int .u8 (bs j)) := hv.resolve_left (fun ⟨_, _, h⟩ => by omega)
  obtain ⟨W, g2, eW, hg2, b, h2⟩ := freshQ w
  have HW : Hid (w.alloc (.cells zQ 38) = W) := Hid.mk' eW
  have Hg : Hid (w.heap.size = g2) := Hid.mk' hg2
  have w2 : w.heap.size ≤ g2 := Nat.le_of_eq hg2
  have src0 := (BytesIn.src hv)
  subst hsl
  obtain ⟨xo, kv, hxo, hun, -, hsrc⟩ := src0
  have c31 := hc 31 (by decide)
  have src1 := hsrc (W.alloc (.cells #[] 5)) (b.alloc b.size _)
  obtain ⟨rfl, rfl⟩ : some (⟨bb, ob, none⟩ : Addr) = xo ∧ cap = kv := by injection hxo with a b c; exact ⟨a, c⟩
  clear eW hg2 hsrc hxo hq1 hq3 hv hc
  go_enter Tryd.func10, Tryd.ntmps10
  go_upto_region 4 with (fail)
  rw [HW.out, Hg.out]
  (try simp only [Act.put, List.setIfInBounds_toArray, List.set_cons_zero, List.set_cons_succ])
  clear HW Hg c31
  go_upto_region 7 with (first
    | (at_builtin; refine wpList_append_empty rfl (.tmp 19) (.tmp 20) rfl W.heap.size bs _ rfl rfl (some ⟨bb, ob, none⟩) 32 cap rfl src1 hun (by omega) (Nat.le_refl _) ?_; intro v4 w4 own4 hb4; clear src1; (obtain ⟨g4, cap4, hv4, hg4, hgl4, hcap4, row4⟩ : ∃ g cap, v4 = .slice (some ⟨g, 0, none⟩) 32 cap ∧ W.heap.size ≤ g ∧ g < w4.heap.size ∧ 32 ≤ cap ∧ RowAt .u8 w4 g 0 32 bs := own4.form.resolve_left (fun h => by omega)); subst hv4; clear own4; (have c31 := (row4 31 (by decide)).1); (have f31 := (row4 31 (by decide)).2); rw [Nat.zero_add] at c31 f31; (obtain ⟨V4, hV4, rz, hbV4⟩ := z0 _ _ _ row4 hb4 hg4); (have HV4 := Hid.mk' hV4); (have n24 : g4 ≠ g2 := by (have := h2.lt; omega)); clear hV4 z0 row4 hb4; (replace h2 := h2.still hbV4); (replace b := below_next b hbV4); clear hbV4)
    | (go_at_call 40; rw [← HV4.out]; refine (cF _ _ (.inr ⟨g4, 0, cap4, rfl, block_lt_of_cell (rz 0 (by decide)).1, hcap4, fun j hj => (rz j hj).1⟩)).mono ?_; clear cF HV4 c31 f31; rintro e w5 ⟨rfl, hb5⟩; (have l4 := block_lt_of_cell (rz 0 (by decide)).1); (replace rz := rz.below hb5 l4); (replace h2 := h2.still hb5); (replace b := below_next b hb5); clear hb5 l4; (have z5 := freshR' w5); (have t5 := freshRt w5 (YL)); (obtain ⟨V6, hV6⟩ : ∃ V, V = (w5.alloc (.cells zI 36)).setCells w5.heap.size 0 (i16 (YL)) := ⟨_, rfl⟩); (have hy : RW V6 w5.heap.size 0 (i16 (YL)) := by rw [hV6]; exact z5.stored _ (by rw [i16_len, i16_len])); (have b6 : Below w5.heap.size w5 V6 := by rw [hV6]; exact below_setCells (Nat.le_refl _) _ _ _ ((Below.refl _ _).alloc (Nat.le_refl _) _)); (have HV6 := Hid.mk' hV6); (have n26 : w5.heap.size ≠ g2 := by (have := h2.lt; omega)); clear hV6 z5; (replace rz := rz.below b6 (block_lt_of_cell (rz 0 (by decide)).1)); (replace h2 := h2.still b6); (replace b := below_next b b6); clear b6)
    | (with_reducible (refine id (?_ : wpList _ _ _ _ _ _)); refine wpList_store_mid rfl 36 _ _ rfl w5.heap.size 0 (i16 (YL)).toArray rfl rfl t5 (infoIA _) (oneI _) ?_; rw [List.toList_toArray, ← HV6.out]; clear t5 HV6))
  (try dsimp only [Act.put])
  generalize w5.heap.size = g6 at *
  have tl : Str V6 (.slice (some ⟨g4, 0, none⟩) 32 cap4) (strB 32 (lo6 bs)) := Str.of (.inr ⟨g4, 0, cap4, rfl, block_lt_of_cell (rz 0 (by decide)).1, hcap4, fun j hj => (rz j hj).1⟩) (lo6_lt hbs)
  go_cut [35] from 11 (fun s35 wc => s35 = .bool (!z) ∧ Below V6.heap.size V6 wc)
  case first =>
    have hw := Below.refl V6.heap.size V6
    clear cz cD cone cnul
    have hdrew : Below V6.heap.size V6 V6.drew := (Below.refl _ _).drew
    replace hy := hy.still hdrew
    replace tl := tl.still hdrew
    replace hw := below_next hw hdrew
    clear hdrew
    refine wp_region_noPanic ?_
    refine wp_region_held_drew (S := fun w' => Below V6.drew.heap.size V6.drew w') (by kernel_rfl) (Below.refl _ _) (fun hHeld => ?_)
    clear hHeld
    refine wpAnyH_take (i := 0) (oi := { dst := some 30, op := Op.load 36 (Operand.tmp 6), type := 36, pos := "ref.go:84", after := #[], guard := none }) (v := rV YL) rfl (by kernel_rfl) (by kernel_rfl) (by kernel_rfl) (fun _ _ _ h => h) (yieldsIf_load_mid (by rfl) 36 _ rfl g6 0 rfl (i16 YL) _ (fun _ h => (hy.still h).range) Tryd.underlying36 rfl (infoI _)) (Below.refl _ _) ?_
    (try simp only [Act.put, List.setIfInBounds_toArray, List.set_cons_zero, List.set_cons_succ])
    refine wpAnyH_take (i := 3) (oi := { dst := some 33, op := Op.move (Operand.tmp 5), type := 22, pos := "ref.go:84", after := #[], guard := none }) (v := ?vga3) rfl (by kernel_rfl) (by kernel_rfl) (by kernel_rfl) (fun _ _ _ h => h) (Or.inl ⟨by rfl, ?hga3⟩) (Below.refl _ _) ?rga3
    case hga3 =>
      intro w hSw
      go_simp
      try with_reducible rfl
    (try simp only [Act.put, List.setIfInBounds_toArray, List.set_cons_zero, List.set_cons_succ])
    refine wpAnyH_take (i := 4) (oi := { dst := some 34, op := Op.convert 22 9 (Operand.tmp 33), type := 9, pos := "ref.go:84", after := #[{ on := 3, ground := Ground.data }], guard := none }) (v := ?vga4) rfl (by kernel_rfl) (by kernel_rfl) (by kernel_rfl) (fun _ _ _ h => h) (Or.inl ⟨by rfl, ?hga4⟩) (Below.refl _ _) ?rga4
    case hga4 =>
      intro w hSw
      have q := tl.conv w hSw
      go_simp
      try with_reducible rfl
    (try simp only [Act.put, List.setIfInBounds_toArray, List.set_cons_zero, List.set_cons_succ])
    refine wpAnyH_ready (rs := [1]) (by kernel_rfl) (by simp) ?_
    refine AllReadyH.cons (o := { dst := some 31, op := Op.call { callee := Callee.value (Operand.func 41), args := #[Operand.tmp 30], argTypes := #[36] }, type := 22, pos := "ref.go:84", after := #[{ on := 0, ground := Ground.data }], guard := none }) rfl (fun K hK => ?_) AllReadyH.nil
    go_simp
    (go_at_call 41; refine (cB _).mono ?_; clear cB; rintro e w7 ⟨v7, rfl, own7, hb7⟩; (have t7 := Str.of (BytesIn.of_own own7) (byt_all _)); (obtain ⟨x7, n7, k7, rfl⟩ := t7.form); clear own7)
    (try go_simp)
    refine hK.out _ _ hb7 (fun h => ?_)
    clear h hK K
    refine wpAnyH_narrow (S' := fun w' => Below w7.heap.size w7 w') (fun _ h => below_next hb7 h) _ _ _ _ ?_
    replace hy := hy.still hb7
    replace tl := tl.still hb7
    replace hw := below_next hw hb7
    clear hb7
    (try simp only [Act.put, List.setIfInBounds_toArray, List.set_cons_zero, List.set_cons_succ])
    refine wpAnyH_take (i := 2) (oi := { dst := some 32, op := Op.convert 22 9 (Operand.tmp 31), type := 9, pos := "ref.go:84", after := #[{ on := 1, ground := Ground.data }], guard := none }) (v := ?vga2) rfl (by kernel_rfl) (by kernel_rfl) (by kernel_rfl) (fun _ _ _ h => h) (Or.inl ⟨by rfl, ?hga2⟩) (Below.refl _ _) ?rga2
    case hga2 =>
      intro w hSw
      have q := t7.conv w hSw
      go_simp
      try with_reducible rfl
    (try simp only [Act.put, List.setIfInBounds_toArray, List.set_cons_zero, List.set_cons_succ])
    refine wpAnyH_take (i := 5) (oi := { dst := some 35, op := Op.binOp BinOp.neq 9 (Operand.tmp 32) (Operand.tmp 34) 9, type := 4, pos := "ref.go:84", after := #[{ on := 2, ground := Ground.data }, { on := 4, ground := Ground.data }], guard := none }) (v := ?vga5) rfl (by kernel_rfl) (by kernel_rfl) (by kernel_rfl) (fun _ _ _ h => h) (Or.inl ⟨by rfl, ?hga5⟩) (Below.refl _ _) ?rga5
    case hga5 =>
      intro w hSw
      go_simp
      try with_reducible rfl
    (try simp only [Act.put, List.setIfInBounds_toArray, List.set_cons_zero, List.set_cons_succ])
    refine wpAnyH_done (by kernel_rfl) ?_ _
    refine NoPanic.normal ?_
    go_wp2
    go_meet
    case rel => exact ⟨by rfl, hw⟩
  case rest =>
  obtain ⟨rfl, hb7⟩ := hcut
  replace hy := hy.still hb7
  replace h2 := h2.still hb7
  replace b := below_next b hb7
  have l6 := hy.lt
  clear hb7 tl rz cB hstr
  cases z with
  | false =>
    go_wp2_with (first
      | (go_at_call 39; refine (cz _).mono ?_; clear cz; rintro e w40 ⟨t, rfl, ht, hb40⟩; (replace h2 := h2.still hb40); (replace b := below_next b hb40); clear hb40; (have t40 : w40.there g2 0 (q64 t.X t.Y t.Z t.T).toArray.size := there64 h2))
      | (with_reducible (refine id (?_ : wpList _ _ _ _ _ _)); refine wpList_store_mid rfl 38 _ _ rfl g2 0 (q64 t.X t.Y t.Z t.T).toArray rfl rfl t40 (infoQA _ _ _ _) (oneQ _ _ _ _) ?_))
    (try simp only [Exit.inBlock, Exit.then])
    exact bodyPost_ret (results_cell_tmp Tryd.results10 _ _ g2 0 (q64 t.X t.Y t.Z t.T) _ rfl (h2.stored (q64 t.X t.Y t.Z t.T) (q64_same _ _ _ _ _ _ _ _)).range Tryd.underlying38 rfl (infoQ _ _ _ _)) rfl ⟨t, 30, rfl, .inl ⟨rfl, ht, by rw [Hd.out, if_neg (of_decide_eq_false Hz.out)]⟩, below_setCells w2 _ _ _ b⟩
  | true =>
    have hyl : yn < pF := of_decide_eq_true Hz.out
    have Hd2 : Hid (decN bs = match rootR kP (decU yn) (decV yn) with | none => none | some x => if bs 31 / 128 = 1 ∧ x = 0 then none else some (ofXY (if bs 31 / 128 = 1 then fsub 0 x else x) yn)) := Hid.mk' (by rw [Hd.out, if_pos hyl])
    clear Hd Hz
    have cyy : ∀ W, Calls Tryd.prog 43 #[.agg (i16 YL).toArray, .agg (i16 YL).toArray] W fun e w' => e = .returned (.agg (i16 (timesL YL YL)).toArray) ∧ Below W.heap.size W w' := fun W => rtimes_w hYr hYr W
    have hYY : Rw (timesL YL YL) (fmul yn yn) := rw_t hYr hYr
    generalize timesL YL YL = YY at *
    go_upto_region 11 with (first
      | (go_at_call 42; refine (cone _).mono ?_; clear cone; rintro e w8 ⟨O, rfl, hO, hb8⟩; (replace hy := hy.still hb8); (replace h2 := h2.still hb8); (replace b := below_next b hb8); clear hb8; (have z8 := freshR' w8); (have t8 := freshRt w8 O); (obtain ⟨V8, hV8⟩ : ∃ V, V = (w8.alloc (.cells zI 36)).setCells w8.heap.size 0 (i16 O) := ⟨_, rfl⟩); (have h7 : RW V8 w8.heap.size 0 (i16 O) := by rw [hV8]; exact z8.stored _ (by rw [i16_len, i16_len])); (have b8 : Below w8.heap.size w8 V8 := by rw [hV8]; exact below_setCells (Nat.le_refl _) _ _ _ ((Below.refl _ _).alloc (Nat.le_refl _) _)); (have H8 := Hid.mk' hV8); clear hV8 z8; (replace hy := hy.still b8); (replace h2 := h2.still b8); (replace b := below_next b b8); clear b8)
      | (with_reducible (refine id (?_ : wpList _ _ _ _ _ _)); refine wpList_store_mid rfl 36 _ _ rfl w8.heap.size 0 (i16 O).toArray rfl rfl t8 (infoIA _) (oneI _) ?_; rw [List.toList_toArray, ← H8.out]; clear t8 H8)
      | (refine wpList_load_mid rfl 36 _ rfl g6 0 rfl (i16 YL) _ hy.range Tryd.underlying36 rfl (infoI _) ?_)
      | (go_at_call 43; refine (cyy _).mono ?_; clear cyy; rintro e w9 ⟨rfl, hb9⟩; (replace hy := hy.still hb9); (replace h2 := h2.still hb9); (replace h7 := h7.still hb9); (replace b := below_next b hb9); clear hb9; (have z9 := freshR' w9); (have t9 := freshRt w9 YY); (obtain ⟨V9, hV9⟩ : ∃ V, V = (w9.alloc (.cells zI 36)).setCells w9.heap.size 0 (i16 YY) := ⟨_, rfl⟩); (have h8 : RW V9 w9.heap.size 0 (i16 YY) := by rw [hV9]; exact z9.stored _ (by rw [i16_len, i16_len])); (have b9 : Below w9.heap.size w9 V9 := by rw [hV9]; exact below_setCells (Nat.le_refl _) _ _ _ ((Below.refl _ _).alloc (Nat.le_refl _) _)); (have H9 := Hid.mk' hV9); clear hV9 z9; (replace hy := hy.still b9); (replace h2 := h2.still b9); (replace h7 := h7.still b9); (replace b := below_next b b9); clear b9)
      | (with_reducible (refine id (?_ : wpList _ _ _ _ _ _)); refine wpList_store_mid rfl 36 _ _ rfl w9.heap.size 0 (i16 YY).toArray rfl rfl t9 (infoIA _) (oneI _) ?_; rw [List.toList_toArray, ← H9.out]; clear t9 H9))
    (try dsimp only [Act.put])
    generalize w8.heap.size = g7 at *
    generalize w9.heap.size = g8 at *
    have cU := fun W => rminus_w hYY hO W
    have hU : Rw (minusL YY O) (decU yn) := rww_minus hYY hO (by decide)
    have cT := fun (D : Nat → Int) (hD : Rw D dN) W => rtimes_w hD hYY W
    have cP := fun (D : Nat → Int) (hD : Rw D dN) W => rplus_w (rw_t hD hYY) hO W
    have cR := fun (D : Nat → Int) (hD : Rw D dN) W => rratio_wide (minusL YY O) (plusL (timesL D YY) O) (decU yn) (decV yn) hU (rww_plus (rw_t hD hYY) hO) (fsub_lt _ _) (fadd_lt _ _) W
    obtain ⟨rt, hrt⟩ : ∃ rt, rt = rootR kP (decU yn) (decV yn) := ⟨_, rfl⟩
    rw [← hrt] at cR Hd2
    have hrl : rt.getD 0 < pF := by rw [hrt]; exact rootR_lt6 _ _ _
    clear hrt hU hyl
    go_cut [9, 10] from 11 (fun s9 s10 wc => ∃ g9 XL, s9 = .pointer (some ⟨g9, 0, none⟩) ∧ s10 = .bool rt.isSome ∧ Rw XL (rt.getD 0) ∧ Below V9.heap.size V9 wc ∧ V9.heap.size ≤ g9 ∧ RW wc g9 0 (i16 XL))
    case first =>
      clear cz cnul
      have hdrew : Below V9.heap.size V9 V9.drew := (Below.refl _ _).drew
      replace h7 := h7.still hdrew
      replace h8 := h8.still hdrew
      refine wp_region_noPanic ?_
      refine wp_region_held_drew (S := fun w' => Below V9.drew.heap.size V9.drew w') (by kernel_rfl) (Below.refl _ _) (fun hS => ?_)
      generalize V9.drew = Vgb_ at *
      refine wpAnyH_take (i := 0) (oi := { dst := some 42, op := Op.load 36 (Operand.tmp 8), type := 36, pos := "ref.go:89", after := #[], guard := none }) (v := rV YY) rfl (by kernel_rfl) (by kernel_rfl) (by kernel_rfl) (fun _ _ _ h => h) (yieldsIf_load_mid (by rfl) 36 _ rfl g8 0 rfl (i16 YY) _ (fun _ h => (h8.still h).range) Tryd.underlying36 rfl (infoI _)) hS ?_
      (try simp only [Act.put, List.setIfInBounds_toArray, List.set_cons_zero, List.set_cons_succ])
      refine wpAnyH_take (i := 1) (oi := { dst := some 43, op := Op.load 36 (Operand.tmp 7), type := 36, pos := "ref.go:89", after := #[], guard := none }) (v := rV O) rfl (by kernel_rfl) (by kernel_rfl) (by kernel_rfl) (fun _ _ _ h => h) (yieldsIf_load_mid (by rfl) 36 _ rfl g7 0 rfl (i16 O) _ (fun _ h => (h7.still h).range) Tryd.underlying36 rfl (infoI _)) hS ?_
      (try simp only [Act.put, List.setIfInBounds_toArray, List.set_cons_zero, List.set_cons_succ])
      refine wpAnyH_take (i := 4) (oi := { dst := some 46, op := Op.load 36 (Operand.tmp 8), type := 36, pos := "ref.go:89", after := #[], guard := none }) (v := rV YY) rfl (by kernel_rfl) (by kernel_rfl) (by kernel_rfl) (fun _ _ _ h => h) (yieldsIf_load_mid (by rfl) 36 _ rfl g8 0 rfl (i16 YY) _ (fun _ h => (h8.still h).range) Tryd.underlying36 rfl (infoI _)) hS ?_
      (try simp only [Act.put, List.setIfInBounds_toArray, List.set_cons_zero, List.set_cons_succ])
      refine wpAnyH_take (i := 6) (oi := { dst := some 48, op := Op.load 36 (Operand.tmp 7), type := 36, pos := "ref.go:89", after := #[], guard := none }) (v := rV O) rfl (by kernel_rfl) (by kernel_rfl) (by kernel_rfl) (fun _ _ _ h => h) (yieldsIf_load_mid (by rfl) 36 _ rfl g7 0 rfl (i16 O) _ (fun _ h => (h7.still h).range) Tryd.underlying36 rfl (infoI _)) hS ?_
      (try simp only [Act.put, List.setIfInBounds_toArray, List.set_cons_zero, List.set_cons_succ])
      refine wpAnyH_ready (rs := [2, 12]) (by kernel_rfl) (by simp) ?_
      refine AllReadyH.cons (o := qgbx2) rfl (fun K hK => ?_) (AllReadyH.cons (o := qgbx12) rfl (fun K hK => ?_) (AllReadyH.nil))
      · unfold qgbx2
        go_simp
        (go_at_call 45; refine (cU _).mono ?_; rintro e wgb_1 ⟨rfl, hbgb_1⟩)
        (try go_simp)
        have hSgb_1 := below_next hS hbgb_1
        refine hK.out _ _ hSgb_1 (fun h => ?_)
        clear h hK K hbgb_1
        (try simp only [Act.put, List.setIfInBounds_toArray, List.set_cons_zero, List.set_cons_succ])
        refine wpAnyH_ready (rs := [3, 12]) (by kernel_rfl) (by simp) ?_
        refine AllReadyH.cons (o := qgbx3) rfl (fun K hK => ?_) (AllReadyH.cons (o := qgbx12) rfl (fun K hK => ?_) (AllReadyH.nil))
        · unfold qgbx3
          go_simp
          (go_at_call 26; refine (cD _).mono ?_; rintro e wgb_2 ⟨DL, rfl, hDL, hbgb_2⟩)
          (try go_simp)
          have hSgb_2 := below_next hSgb_1 hbgb_2
          refine hK.out _ _ hSgb_2 (fun h => ?_)
          clear h hK K hbgb_2
          (try simp only [Act.put, List.setIfInBounds_toArray, List.set_cons_zero, List.set_cons_succ])
          refine wpAnyH_ready (rs := [5, 12]) (by kernel_rfl) (by simp) ?_
          refine AllReadyH.cons (o := qgbx5) rfl (fun K hK => ?_) (AllReadyH.cons (o := qgbx12) rfl (fun K hK => ?_) (AllReadyH.nil))
          · unfold qgbx5
            go_simp
            (go_at_call 43; refine (cT DL hDL _).mono ?_; rintro e wgb_3 ⟨rfl, hbgb_3⟩)
            (try go_simp)
            have hSgb_3 := below_next hSgb_2 hbgb_3
            refine hK.out _ _ hSgb_3 (fun h => ?_)
            clear h hK K hbgb_3
            (try simp only [Act.put, List.setIfInBounds_toArray, List.set_cons_zero, List.set_cons_succ])
            refine wpAnyH_ready (rs := [7, 12]) (by kernel_rfl) (by simp) ?_
            refine AllReadyH.cons (o := qgbx7) rfl (fun K hK => ?_) (AllReadyH.cons (o := qgbx12) rfl (fun K hK => ?_) (AllReadyH.nil))
            · unfold qgbx7
              go_simp
              (go_at_call 46; refine (cP DL hDL _).mono ?_; rintro e wgb_4 ⟨rfl, hbgb_4⟩)
              (try go_simp)
              have hSgb_4 := below_next hSgb_3 hbgb_4
              refine hK.out _ _ hSgb_4 (fun h => ?_)
              clear h hK K hbgb_4
              (try simp only [Act.put, List.setIfInBounds_toArray, List.set_cons_zero, List.set_cons_succ])
              refine wpAnyH_ready (rs := [8, 12]) (by kernel_rfl) (by simp) ?_
              refine AllReadyH.cons (o := qgbx8) rfl (fun K hK => ?_) (AllReadyH.cons (o := qgbx12) rfl (fun K hK => ?_) (AllReadyH.nil))
              · unfold qgbx8
                go_simp
                (go_at_call 44; refine (cR DL hDL _).mono ?_; rintro e wgb_5 ⟨XL, rfl, hXL, hbgb_5⟩)
                (try go_simp)
                have hSgb_5 := below_next hSgb_4 hbgb_5
                refine hK.out _ _ hSgb_5 (fun h => ?_)
                clear h hK K hbgb_5
                (try simp only [Act.put, List.setIfInBounds_toArray, List.set_cons_zero, List.set_cons_succ])
                refine wpAnyH_take (i := 9) (oi := { dst := some 41, op := Op.move (Operand.tmp 50), type := 73, pos := "ref.go:89", after := #[{ on := 8, ground := Ground.data }], guard := none }) (v := ?vgb_6) rfl (by kernel_rfl) (by kernel_rfl) (by kernel_rfl) (fun _ _ _ h => h) (Or.inl ⟨by rfl, ?hgb_6⟩) hSgb_5 ?rgb_6
                case hgb_6 =>
                  intro w hSw
                  go_simp
                  try with_reducible rfl
                (try simp only [Act.put, List.setIfInBounds_toArray, List.set_cons_zero, List.set_cons_succ])
                refine wpAnyH_take (i := 10) (oi := { dst := some 51, op := Op.extract (Operand.tmp 41) 0, type := 36, pos := "ref.go:89", after := #[{ on := 9, ground := Ground.data }], guard := none }) (v := ?vgb_7) rfl (by kernel_rfl) (by kernel_rfl) (by kernel_rfl) (fun _ _ _ h => h) (Or.inl ⟨by rfl, ?hgb_7⟩) hSgb_5 ?rgb_7
                case hgb_7 =>
                  intro w hSw
                  go_simp
                  try with_reducible rfl
                (try simp only [Act.put, List.setIfInBounds_toArray, List.set_cons_zero, List.set_cons_succ])
                refine wpAnyH_take (i := 11) (oi := { dst := some 52, op := Op.extract (Operand.tmp 41) 1, type := 4, pos := "ref.go:89", after := #[{ on := 9, ground := Ground.data }, { on := 13, ground := Ground.gcOnly Departure.lateStores }], guard := none }) (v := ?vgb_8) rfl (by kernel_rfl) (by kernel_rfl) (by kernel_rfl) (fun _ _ _ h => h) (Or.inl ⟨by rfl, ?hgb_8⟩) hSgb_5 ?rgb_8
                case hgb_8 =>
                  intro w hSw
                  go_simp
                  try with_reducible rfl
                (try simp only [Act.put, List.setIfInBounds_toArray, List.set_cons_zero, List.set_cons_succ])
                refine wpAnyH_ready (rs := [12]) (by kernel_rfl) (by simp) ?_
                refine AllReadyH.cons (o := qgbx12) rfl (fun K hK => ?_) (AllReadyH.nil)
                unfold qgbx12
                go_simp
                obtain ⟨wgb_9, ggb_9, hwgb_9, hggb_9, hbgb_9, rgb_9⟩ := freshR wgb_5
                rw [hwgb_9, hggb_9]
                have hSgb_9 := below_next hSgb_5 hbgb_9
                have Ggb_9 : Vgb_.heap.size ≤ ggb_9 := by have := hSgb_5.size; omega
                refine hK.out _ _ hSgb_9 (fun h => ?_)
                clear h hK K hbgb_9 hwgb_9 hggb_9
                (try simp only [Act.put, List.setIfInBounds_toArray, List.set_cons_zero, List.set_cons_succ])
                refine wpAnyH_ready (rs := [13]) (by kernel_rfl) (by simp) ?_
                refine AllReadyH.cons (o := qgbx13) rfl (fun K hK => ?_) (AllReadyH.nil)
                unfold qgbx13
                rw [if_pos (by rfl)]
                refine ref_store _ _ rfl ggb_9 (fun _ => 0) XL rfl rfl rgb_9 hSgb_9 Ggb_9 (fun wgb_10 r0 hSgb_10 => ?_)
                refine hK.out _ _ hSgb_10 (fun h => ?_)
                clear h hK K rgb_9
                have rgb_9 := r0
                clear r0
                (try dsimp only [Act.put])
                refine wpAnyH_take (i := 14) (oi := { dst := some 10, op := Op.assign (Operand.tmp 52), type := 4, pos := "ref.go:89", after := #[{ on := 11, ground := Ground.data }, { on := 13, ground := Ground.chain }, { on := 0, ground := Ground.phase }, { on := 1, ground := Ground.phase }, { on := 2, ground := Ground.phase }, { on := 3, ground := Ground.phase }, { on := 4, ground := Ground.phase }, { on := 5, ground := Ground.phase }, { on := 6, ground := Ground.phase }, { on := 7, ground := Ground.phase }, { on := 8, ground := Ground.phase }, { on := 9, ground := Ground.phase }, { on := 10, ground := Ground.phase }, { on := 11, ground := Ground.phase }, { on := 12, ground := Ground.phase }, { on := 13, ground := Ground.phase }], guard := none }) (v := ?vgb_11) rfl (by kernel_rfl) (by kernel_rfl) (by kernel_rfl) (fun _ _ _ h => h) (Or.inl ⟨by rfl, ?hgb_11⟩) hSgb_10 ?rgb_11
                case hgb_11 =>
                  intro w hSw
                  go_simp
                  try with_reducible rfl
                (try simp only [Act.put, List.setIfInBounds_toArray, List.set_cons_zero, List.set_cons_succ])
                refine wpAnyH_done (by kernel_rfl) ?_ _
                refine NoPanic.normal ?_
                go_wp2
                go_meet
                case rel => exact ⟨ggb_9, XL, rfl, rfl, hXL, below_next hdrew hSgb_10, Nat.le_trans hdrew.size Ggb_9, rgb_9⟩
              · unfold qgbx12
                go_simp
                obtain ⟨wgb_12, ggb_12, hwgb_12, hggb_12, hbgb_12, rgb_12⟩ := freshR wgb_4
                rw [hwgb_12, hggb_12]
                have hSgb_12 := below_next hSgb_4 hbgb_12
                have Ggb_12 : Vgb_.heap.size ≤ ggb_12 := by have := hSgb_4.size; omega
                refine hK.out _ _ hSgb_12 (fun h => ?_)
                clear h hK K hbgb_12 hwgb_12 hggb_12
                (try simp only [Act.put, List.setIfInBounds_toArray, List.set_cons_zero, List.set_cons_succ])
                refine wpAnyH_ready (rs := [8]) (by kernel_rfl) (by simp) ?_
                refine AllReadyH.cons (o := qgbx8) rfl (fun K hK => ?_) (AllReadyH.nil)
                unfold qgbx8
                go_simp
                (go_at_call 44; refine (cR DL hDL _).mono ?_; rintro e wgb_13 ⟨XL, rfl, hXL, hbgb_13⟩)
                (try go_simp)
                have hSgb_13 := below_next hSgb_12 hbgb_13
                replace rgb_12 := rgb_12.still hbgb_13
                refine hK.out _ _ hSgb_13 (fun h => ?_)
                clear h hK K hbgb_13
                (try simp only [Act.put, List.setIfInBounds_toArray, List.set_cons_zero, List.set_cons_succ])
                refine wpAnyH_take (i := 9) (oi := { dst := some 41, op := Op.move (Operand.tmp 50), type := 73, pos := "ref.go:89", after := #[{ on := 8, ground := Ground.data }], guard := none }) (v := ?vgb_14) rfl (by kernel_rfl) (by kernel_rfl) (by kernel_rfl) (fun _ _ _ h => h) (Or.inl ⟨by rfl, ?hgb_14⟩) hSgb_13 ?rgb_14
                case hgb_14 =>
                  intro w hSw
                  go_simp
                  try with_reducible rfl
                (try simp only [Act.put, List.setIfInBounds_toArray, List.set_cons_zero, List.set_cons_succ])
                refine wpAnyH_take (i := 10) (oi := { dst := some 51, op := Op.extract (Operand.tmp 41) 0, type := 36, pos := "ref.go:89", after := #[{ on := 9, ground := Ground.data }], guard := none }) (v := ?vgb_15) rfl (by kernel_rfl) (by kernel_rfl) (by kernel_rfl) (fun _ _ _ h => h) (Or.inl ⟨by rfl, ?hgb_15⟩) hSgb_13 ?rgb_15
                case hgb_15 =>
                  intro w hSw
                  go_simp
                  try with_reducible rfl
                (try simp only [Act.put, List.setIfInBounds_toArray, List.set_cons_zero, List.set_cons_succ])
                refine wpAnyH_take (i := 11) (oi := { dst := some 52, op := Op.extract (Operand.tmp 41) 1, type := 4, pos := "ref.go:89", after := #[{ on := 9, ground := Ground.data }, { on := 13, ground := Ground.gcOnly Departure.lateStores }], guard := none }) (v := ?vgb_16) rfl (by kernel_rfl) (by kernel_rfl) (by kernel_rfl) (fun _ _ _ h => h) (Or.inl ⟨by rfl, ?hgb_16⟩) hSgb_13 ?rgb_16
                case hgb_16 =>
                  intro w hSw
                  go_simp
                  try with_reducible rfl
                (try simp only [Act.put, List.setIfInBounds_toArray, List.set_cons_zero, List.set_cons_succ])
                refine wpAnyH_ready (rs := [13]) (by kernel_rfl) (by simp) ?_
                refine AllReadyH.cons (o := qgbx13) rfl (fun K hK => ?_) (AllReadyH.nil)
                unfold qgbx13
                rw [if_pos (by rfl)]
                refine ref_store _ _ rfl ggb_12 (fun _ => 0) XL rfl rfl rgb_12 hSgb_13 Ggb_12 (fun wgb_17 r0 hSgb_17 => ?_)
                refine hK.out _ _ hSgb_17 (fun h => ?_)
                clear h hK K rgb_12
                have rgb_12 := r0
                clear r0
                (try dsimp only [Act.put])
                refine wpAnyH_take (i := 14) (oi := { dst := some 10, op := Op.assign (Operand.tmp 52), type := 4, pos := "ref.go:89", after := #[{ on := 11, ground := Ground.data }, { on := 13, ground := Ground.chain }, { on := 0, ground := Ground.phase }, { on := 1, ground := Ground.phase }, { on := 2, ground := Ground.phase }, { on := 3, ground := Ground.phase }, { on := 4, ground := Ground.phase }, { on := 5, ground := Ground.phase }, { on := 6, ground := Ground.phase }, { on := 7, ground := Ground.phase }, { on := 8, ground := Ground.phase }, { on := 9, ground := Ground.phase }, { on := 10, ground := Ground.phase }, { on := 11, ground := Ground.phase }, { on := 12, ground := Ground.phase }, { on := 13, ground := Ground.phase }], guard := none }) (v := ?vgb_18) rfl (by kernel_rfl) (by kernel_rfl) (by kernel_rfl) (fun _ _ _ h => h) (Or.inl ⟨by rfl, ?hgb_18⟩) hSgb_17 ?rgb_18
                case hgb_18 =>
                  intro w hSw
                  go_simp
                  try with_reducible rfl
                (try simp only [Act.put, List.setIfInBounds_toArray, List.set_cons_zero, List.set_cons_succ])
                refine wpAnyH_done (by kernel_rfl) ?_ _
                refine NoPanic.normal ?_
                go_wp2
                go_meet
                case rel => exact ⟨ggb_12, XL, rfl, rfl, hXL, below_next hdrew hSgb_17, Nat.le_trans hdrew.size Ggb_12, rgb_12⟩
            · unfold qgbx12
              go_simp
              obtain ⟨wgb_19, ggb_19, hwgb_19, hggb_19, hbgb_19, rgb_19⟩ := freshR wgb_3
              rw [hwgb_19, hggb_19]
              have hSgb_19 := below_next hSgb_3 hbgb_19
              have Ggb_19 : Vgb_.heap.size ≤ ggb_19 := by have := hSgb_3.size; omega
              refine hK.out _ _ hSgb_19 (fun h => ?_)
              clear h hK K hbgb_19 hwgb_19 hggb_19
              (try simp only [Act.put, List.setIfInBounds_toArray, List.set_cons_zero, List.set_cons_succ])
              refine wpAnyH_ready (rs := [7]) (by kernel_rfl) (by simp) ?_
              refine AllReadyH.cons (o := qgbx7) rfl (fun K hK => ?_) (AllReadyH.nil)
              unfold qgbx7
              go_simp
              (go_at_call 46; refine (cP DL hDL _).mono ?_; rintro e wgb_20 ⟨rfl, hbgb_20⟩)
              (try go_simp)
              have hSgb_20 := below_next hSgb_19 hbgb_20
              replace rgb_19 := rgb_19.still hbgb_20
              refine hK.out _ _ hSgb_20 (fun h => ?_)
              clear h hK K hbgb_20
              (try simp only [Act.put, List.setIfInBounds_toArray, List.set_cons_zero, List.set_cons_succ])
              refine wpAnyH_ready (rs := [8]) (by kernel_rfl) (by simp) ?_
              refine AllReadyH.cons (o := qgbx8) rfl (fun K hK => ?_) (AllReadyH.nil)
              unfold qgbx8
              go_simp
              (go_at_call 44; refine (cR DL hDL _).mono ?_; rintro e wgb_21 ⟨XL, rfl, hXL, hbgb_21⟩)
              (try go_simp)
              have hSgb_21 := below_next hSgb_20 hbgb_21
              replace rgb_19 := rgb_19.still hbgb_21
              refine hK.out _ _ hSgb_21 (fun h => ?_)
              clear h hK K hbgb_21
              (try simp only [Act.put, List.setIfInBounds_toArray, List.set_cons_zero, List.set_cons_succ])
              refine wpAnyH_take (i := 9) (oi := { dst := some 41, op := Op.move (Operand.tmp 50), type := 73, pos := "ref.go:89", after := #[{ on := 8, ground := Ground.data }], guard := none }) (v := ?vgb_22) rfl (by kernel_rfl) (by kernel_rfl) (by kernel_rfl) (fun _ _ _ h => h) (Or.inl ⟨by rfl, ?hgb_22⟩) hSgb_21 ?rgb_22
              case hgb_22 =>
                intro w hSw
                go_simp
                try with_reducible rfl
              (try simp only [Act.put, List.setIfInBounds_toArray, List.set_cons_zero, List.set_cons_succ])
              refine wpAnyH_take (i := 10) (oi := { dst := some 51, op := Op.extract (Operand.tmp 41) 0, type := 36, pos := "ref.go:89", after := #[{ on := 9, ground := Ground.data }], guard := none }) (v := ?vgb_23) rfl (by kernel_rfl) (by kernel_rfl) (by kernel_rfl) (fun _ _ _ h => h) (Or.inl ⟨by rfl, ?hgb_23⟩) hSgb_21 ?rgb_23
              case hgb_23 =>
                intro w hSw
                go_simp
                try with_reducible rfl
              (try simp only [Act.put, List.setIfInBounds_toArray, List.set_cons_zero, List.set_cons_succ])
              refine wpAnyH_take (i := 11) (oi := { dst := some 52, op := Op.extract (Operand.tmp 41) 1, type := 4, pos := "ref.go:89", after := #[{ on := 9, ground := Ground.data }, { on := 13, ground := Ground.gcOnly Departure.lateStores }], guard := none }) (v := ?vgb_24) rfl (by kernel_rfl) (by kernel_rfl) (by kernel_rfl) (fun _ _ _ h => h) (Or.inl ⟨by rfl, ?hgb_24⟩) hSgb_21 ?rgb_24
              case hgb_24 =>
                intro w hSw
                go_simp
                try with_reducible rfl
              (try simp only [Act.put, List.setIfInBounds_toArray, List.set_cons_zero, List.set_cons_succ])
              refine wpAnyH_ready (rs := [13]) (by kernel_rfl) (by simp) ?_
              refine AllReadyH.cons (o := qgbx13) rfl (fun K hK => ?_) (AllReadyH.nil)
              unfold qgbx13
              rw [if_pos (by rfl)]
              refine ref_store _ _ rfl ggb_19 (fun _ => 0) XL rfl rfl rgb_19 hSgb_21 Ggb_19 (fun wgb_25 r0 hSgb_25 => ?_)
              refine hK.out _ _ hSgb_25 (fun h => ?_)
              clear h hK K rgb_19
              have rgb_19 := r0
              clear r0
              (try dsimp only [Act.put])
              refine wpAnyH_take (i := 14) (oi := { dst := some 10, op := Op.assign (Operand.tmp 52), type := 4, pos := "ref.go:89", after := #[{ on := 11, ground := Ground.data }, { on := 13, ground := Ground.chain }, { on := 0, ground := Ground.phase }, { on := 1, ground := Ground.phase }, { on := 2, ground := Ground.phase }, { on := 3, ground := Ground.phase }, { on := 4, ground := Ground.phase }, { on := 5, ground := Ground.phase }, { on := 6, ground := Ground.phase }, { on := 7, ground := Ground.phase }, { on := 8, ground := Ground.phase }, { on := 9, ground := Ground.phase }, { on := 10, ground := Ground.phase }, { on := 11, ground := Ground.phase }, { on := 12, ground := Ground.phase }, { on := 13, ground := Ground.phase }], guard := none }) (v := ?vgb_26) rfl (by kernel_rfl) (by kernel_rfl) (by kernel_rfl) (fun _ _ _ h => h) (Or.inl ⟨by rfl, ?hgb_26⟩) hSgb_25 ?rgb_26
              case hgb_26 =>
                intro w hSw
                go_simp
                try with_reducible rfl
              (try simp only [Act.put, List.setIfInBounds_toArray, List.set_cons_zero, List.set_cons_succ])
              refine wpAnyH_done (by kernel_rfl) ?_ _
              refine NoPanic.normal ?_
              go_wp2
              go_meet
              case rel => exact ⟨ggb_19, XL, rfl, rfl, hXL, below_next hdrew hSgb_25, Nat.le_trans hdrew.size Ggb_19, rgb_19⟩
          · unfold qgbx12
            go_simp
            obtain ⟨wgb_27, ggb_27, hwgb_27, hggb_27, hbgb_27, rgb_27⟩ := freshR wgb_2
            rw [hwgb_27, hggb_27]
            have hSgb_27 := below_next hSgb_2 hbgb_27
            have Ggb_27 : Vgb_.heap.size ≤ ggb_27 := by have := hSgb_2.size; omega
            refine hK.out _ _ hSgb_27 (fun h => ?_)
            clear h hK K hbgb_27 hwgb_27 hggb_27
            (try simp only [Act.put, List.setIfInBounds_toArray, List.set_cons_zero, List.set_cons_succ])
            refine wpAnyH_ready (rs := [5]) (by kernel_rfl) (by simp) ?_
            refine AllReadyH.cons (o := qgbx5) rfl (fun K hK => ?_) (AllReadyH.nil)
            unfold qgbx5
            go_simp
            (go_at_call 43; refine (cT DL hDL _).mono ?_; rintro e wgb_28 ⟨rfl, hbgb_28⟩)
            (try go_simp)
            have hSgb_28 := below_next hSgb_27 hbgb_28
            replace rgb_27 := rgb_27.still hbgb_28
            refine hK.out _ _ hSgb_28 (fun h => ?_)
            clear h hK K hbgb_28
            (try simp only [Act.put, List.setIfInBounds_toArray, List.set_cons_zero, List.set_cons_succ])
            refine wpAnyH_ready (rs := [7]) (by kernel_rfl) (by simp) ?_
            refine AllReadyH.cons (o := qgbx7) rfl (fun K hK => ?_) (AllReadyH.nil)
            unfold qgbx7
            go_simp
            (go_at_call 46; refine (cP DL hDL _).mono ?_; rintro e wgb_29 ⟨rfl, hbgb_29⟩)
            (try go_simp)
            have hSgb_29 := below_next hSgb_28 hbgb_29
            replace rgb_27 := rgb_27.still hbgb_29
            refine hK.out _ _ hSgb_29 (fun h => ?_)
            clear h hK K hbgb_29
            (try simp only [Act.put, List.setIfInBounds_toArray, List.set_cons_zero, List.set_cons_succ])
            refine wpAnyH_ready (rs := [8]) (by kernel_rfl) (by simp) ?_
            refine AllReadyH.cons (o := qgbx8) rfl (fun K hK => ?_) (AllReadyH.nil)
            unfold qgbx8
            go_simp
            (go_at_call 44; refine (cR DL hDL _).mono ?_; rintro e wgb_30 ⟨XL, rfl, hXL, hbgb_30⟩)
            (try go_simp)
            have hSgb_30 := below_next hSgb_29 hbgb_30
            replace rgb_27 := rgb_27.still hbgb_30
            refine hK.out _ _ hSgb_30 (fun h => ?_)
            clear h hK K hbgb_30
            (try simp only [Act.put, List.setIfInBounds_toArray, List.set_cons_zero, List.set_cons_succ])
            refine wpAnyH_take (i := 9) (oi := { dst := some 41, op := Op.move (Operand.tmp 50), type := 73, pos := "ref.go:89", after := #[{ on := 8, ground := Ground.data }], guard := none }) (v := ?vgb_31) rfl (by kernel_rfl) (by kernel_rfl) (by kernel_rfl) (fun _ _ _ h => h) (Or.inl ⟨by rfl, ?hgb_31⟩) hSgb_30 ?rgb_31
            case hgb_31 =>
              intro w hSw
              go_simp
              try with_reducible rfl
            (try simp only [Act.put, List.setIfInBounds_toArray, List.set_cons_zero, List.set_cons_succ])
            refine wpAnyH_take (i := 10) (oi := { dst := some 51, op := Op.extract (Operand.tmp 41) 0, type := 36, pos := "ref.go:89", after := #[{ on := 9, ground := Ground.data }], guard := none }) (v := ?vgb_32) rfl (by kernel_rfl) (by kernel_rfl) (by kernel_rfl) (fun _ _ _ h => h) (Or.inl ⟨by rfl, ?hgb_32⟩) hSgb_30 ?rgb_32
            case hgb_32 =>
              intro w hSw
              go_simp
              try with_reducible rfl
            (try simp only [Act.put, List.setIfInBounds_toArray, List.set_cons_zero, List.set_cons_succ])
            refine wpAnyH_take (i := 11) (oi := { dst := some 52, op := Op.extract (Operand.tmp 41) 1, type := 4, pos := "ref.go:89", after := #[{ on := 9, ground := Ground.data }, { on := 13, ground := Ground.gcOnly Departure.lateStores }], guard := none }) (v := ?vgb_33) rfl (by kernel_rfl) (by kernel_rfl) (by kernel_rfl) (fun _ _ _ h => h) (Or.inl ⟨by rfl, ?hgb_33⟩) hSgb_30 ?rgb_33
            case hgb_33 =>
              intro w hSw
              go_simp
              try with_reducible rfl
            (try simp only [Act.put, List.setIfInBounds_toArray, List.set_cons_zero, List.set_cons_succ])
            refine wpAnyH_ready (rs := [13]) (by kernel_rfl) (by simp) ?_
            refine AllReadyH.cons (o := qgbx13) rfl (fun K hK => ?_) (AllReadyH.nil)
            unfold qgbx13
            rw [if_pos (by rfl)]
            refine ref_store _ _ rfl ggb_27 (fun _ => 0) XL rfl rfl rgb_27 hSgb_30 Ggb_27 (fun wgb_34 r0 hSgb_34 => ?_)
            refine hK.out _ _ hSgb_34 (fun h => ?_)
            clear h hK K rgb_27
            have rgb_27 := r0
            clear r0
            (try dsimp only [Act.put])
            refine wpAnyH_take (i := 14) (oi := { dst := some 10, op := Op.assign (Operand.tmp 52), type := 4, pos := "ref.go:89", after := #[{ on := 11, ground := Ground.data }, { on := 13, ground := Ground.chain }, { on := 0, ground := Ground.phase }, { on := 1, ground := Ground.phase }, { on := 2, ground := Ground.phase }, { on := 3, ground := Ground.phase }, { on := 4, ground := Ground.phase }, { on := 5, ground := Ground.phase }, { on := 6, ground := Ground.phase }, { on := 7, ground := Ground.phase }, { on := 8, ground := Ground.phase }, { on := 9, ground := Ground.phase }, { on := 10, ground := Ground.phase }, { on := 11, ground := Ground.phase }, { on := 12, ground := Ground.phase }, { on := 13, ground := Ground.phase }], guard := none }) (v := ?vgb_35) rfl (by kernel_rfl) (by kernel_rfl) (by kernel_rfl) (fun _ _ _ h => h) (Or.inl ⟨by rfl, ?hgb_35⟩) hSgb_34 ?rgb_35
            case hgb_35 =>
              intro w hSw
              go_simp
              try with_reducible rfl
            (try simp only [Act.put, List.setIfInBounds_toArray, List.set_cons_zero, List.set_cons_succ])
            refine wpAnyH_done (by kernel_rfl) ?_ _
            refine NoPanic.normal ?_
            go_wp2
            go_meet
            case rel => exact ⟨ggb_27, XL, rfl, rfl, hXL, below_next hdrew hSgb_34, Nat.le_trans hdrew.size Ggb_27, rgb_27⟩
        · unfold qgbx12
          go_simp
          obtain ⟨wgb_36, ggb_36, hwgb_36, hggb_36, hbgb_36, rgb_36⟩ := freshR wgb_1
          rw [hwgb_36, hggb_36]
          have hSgb_36 := below_next hSgb_1 hbgb_36
          have Ggb_36 : Vgb_.heap.size ≤ ggb_36 := by have := hSgb_1.size; omega
          refine hK.out _ _ hSgb_36 (fun h => ?_)
          clear h hK K hbgb_36 hwgb_36 hggb_36
          (try simp only [Act.put, List.setIfInBounds_toArray, List.set_cons_zero, List.set_cons_succ])
          refine wpAnyH_ready (rs := [3]) (by kernel_rfl) (by simp) ?_
          refine AllReadyH.cons (o := qgbx3) rfl (fun K hK => ?_) (AllReadyH.nil)
          unfold qgbx3
          go_simp
          (go_at_call 26; refine (cD _).mono ?_; rintro e wgb_37 ⟨DL, rfl, hDL, hbgb_37⟩)
          (try go_simp)
          have hSgb_37 := below_next hSgb_36 hbgb_37
          replace rgb_36 := rgb_36.still hbgb_37
          refine hK.out _ _ hSgb_37 (fun h => ?_)
          clear h hK K hbgb_37
          (try simp only [Act.put, List.setIfInBounds_toArray, List.set_cons_zero, List.set_cons_succ])
          refine wpAnyH_ready (rs := [5]) (by kernel_rfl) (by simp) ?_
          refine AllReadyH.cons (o := qgbx5) rfl (fun K hK => ?_) (AllReadyH.nil)
          unfold qgbx5
          go_simp
          (go_at_call 43; refine (cT DL hDL _).mono ?_; rintro e wgb_38 ⟨rfl, hbgb_38⟩)
          (try go_simp)
          have hSgb_38 := below_next hSgb_37 hbgb_38
          replace rgb_36 := rgb_36.still hbgb_38
          refine hK.out _ _ hSgb_38 (fun h => ?_)
          clear h hK K hbgb_38
          (try simp only [Act.put, List.setIfInBounds_toArray, List.set_cons_zero, List.set_cons_succ])
          refine wpAnyH_ready (rs := [7]) (by kernel_rfl) (by simp) ?_
          refine AllReadyH.cons (o := qgbx7) rfl (fun K hK => ?_) (AllReadyH.nil)
          unfold qgbx7
          go_simp
          (go_at_call 46; refine (cP DL hDL _).mono ?_; rintro e wgb_39 ⟨rfl, hbgb_39⟩)
          (try go_simp)
          have hSgb_39 := below_next hSgb_38 hbgb_39
          replace rgb_36 := rgb_36.still hbgb_39
          refine hK.out _ _ hSgb_39 (fun h => ?_)
          clear h hK K hbgb_39
          (try simp only [Act.put, List.setIfInBounds_toArray, List.set_cons_zero, List.set_cons_succ])
          refine wpAnyH_ready (rs := [8]) (by kernel_rfl) (by simp) ?_
          refine AllReadyH.cons (o := qgbx8) rfl (fun K hK => ?_) (AllReadyH.nil)
          unfold qgbx8
          go_simp
          (go_at_call 44; refine (cR DL hDL _).mono ?_; rintro e wgb_40 ⟨XL, rfl, hXL, hbgb_40⟩)
          (try go_simp)
          have hSgb_40 := below_next hSgb_39 hbgb_40
          replace rgb_36 := rgb_36.still hbgb_40
          refine hK.out _ _ hSgb_40 (fun h => ?_)
          clear h hK K hbgb_40
          (try simp only [Act.put, List.setIfInBounds_toArray, List.set_cons_zero, List.set_cons_succ])
          refine wpAnyH_take (i := 9) (oi := { dst := some 41, op := Op.move (Operand.tmp 50), type := 73, pos := "ref.go:89", after := #[{ on := 8, ground := Ground.data }], guard := none }) (v := ?vgb_41) rfl (by kernel_rfl) (by kernel_rfl) (by kernel_rfl) (fun _ _ _ h => h) (Or.inl ⟨by rfl, ?hgb_41⟩) hSgb_40 ?rgb_41
          case hgb_41 =>
            intro w hSw
            go_simp
            try with_reducible rfl
          (try simp only [Act.put, List.setIfInBounds_toArray, List.set_cons_zero, List.set_cons_succ])
          refine wpAnyH_take (i := 10) (oi := { dst := some 51, op := Op.extract (Operand.tmp 41) 0, type := 36, pos := "ref.go:89", after := #[{ on := 9, ground := Ground.data }], guard := none }) (v := ?vgb_42) rfl (by kernel_rfl) (by kernel_rfl) (by kernel_rfl) (fun _ _ _ h => h) (Or.inl ⟨by rfl, ?hgb_42⟩) hSgb_40 ?rgb_42
          case hgb_42 =>
            intro w hSw
            go_simp
            try with_reducible rfl
          (try simp only [Act.put, List.setIfInBounds_toArray, List.set_cons_zero, List.set_cons_succ])
          refine wpAnyH_take (i := 11) (oi := { dst := some 52, op := Op.extract (Operand.tmp 41) 1, type := 4, pos := "ref.go:89", after := #[{ on := 9, ground := Ground.data }, { on := 13, ground := Ground.gcOnly Departure.lateStores }], guard := none }) (v := ?vgb_43) rfl (by kernel_rfl) (by kernel_rfl) (by kernel_rfl) (fun _ _ _ h => h) (Or.inl ⟨by rfl, ?hgb_43⟩) hSgb_40 ?rgb_43
          case hgb_43 =>
            intro w hSw
            go_simp
            try with_reducible rfl
          (try simp only [Act.put, List.setIfInBounds_toArray, List.set_cons_zero, List.set_cons_succ])
          refine wpAnyH_ready (rs := [13]) (by kernel_rfl) (by simp) ?_
          refine AllReadyH.cons (o := qgbx13) rfl (fun K hK => ?_) (AllReadyH.nil)
          unfold qgbx13
          rw [if_pos (by rfl)]
          refine ref_store _ _ rfl ggb_36 (fun _ => 0) XL rfl rfl rgb_36 hSgb_40 Ggb_36 (fun wgb_44 r0 hSgb_44 => ?_)
          refine hK.out _ _ hSgb_44 (fun h => ?_)
          clear h hK K rgb_36
          have rgb_36 := r0
          clear r0
          (try dsimp only [Act.put])
          refine wpAnyH_take (i := 14) (oi := { dst := some 10, op := Op.assign (Operand.tmp 52), type := 4, pos := "ref.go:89", after := #[{ on := 11, ground := Ground.data }, { on := 13, ground := Ground.chain }, { on := 0, ground := Ground.phase }, { on := 1, ground := Ground.phase }, { on := 2, ground := Ground.phase }, { on := 3, ground := Ground.phase }, { on := 4, ground := Ground.phase }, { on := 5, ground := Ground.phase }, { on := 6, ground := Ground.phase }, { on := 7, ground := Ground.phase }, { on := 8, ground := Ground.phase }, { on := 9, ground := Ground.phase }, { on := 10, ground := Ground.phase }, { on := 11, ground := Ground.phase }, { on := 12, ground := Ground.phase }, { on := 13, ground := Ground.phase }], guard := none }) (v := ?vgb_45) rfl (by kernel_rfl) (by kernel_rfl) (by kernel_rfl) (fun _ _ _ h => h) (Or.inl ⟨by rfl, ?hgb_45⟩) hSgb_44 ?rgb_45
          case hgb_45 =>
            intro w hSw
            go_simp
            try with_reducible rfl
          (try simp only [Act.put, List.setIfInBounds_toArray, List.set_cons_zero, List.set_cons_succ])
          refine wpAnyH_done (by kernel_rfl) ?_ _
          refine NoPanic.normal ?_
          go_wp2
          go_meet
          case rel => exact ⟨ggb_36, XL, rfl, rfl, hXL, below_next hdrew hSgb_44, Nat.le_trans hdrew.size Ggb_36, rgb_36⟩
      · unfold qgbx12
        go_simp
        obtain ⟨wgb_46, ggb_46, hwgb_46, hggb_46, hbgb_46, rgb_46⟩ := freshR Vgb_
        rw [hwgb_46, hggb_46]
        have hSgb_46 := below_next hS hbgb_46
        have Ggb_46 : Vgb_.heap.size ≤ ggb_46 := by have := hS.size; omega
        refine hK.out _ _ hSgb_46 (fun h => ?_)
        clear h hK K hbgb_46 hwgb_46 hggb_46
        (try simp only [Act.put, List.setIfInBounds_toArray, List.set_cons_zero, List.set_cons_succ])
        refine wpAnyH_ready (rs := [2]) (by kernel_rfl) (by simp) ?_
        refine AllReadyH.cons (o := qgbx2) rfl (fun K hK => ?_) (AllReadyH.nil)
        unfold qgbx2
        go_simp
        (go_at_call 45; refine (cU _).mono ?_; rintro e wgb_47 ⟨rfl, hbgb_47⟩)
        (try go_simp)
        have hSgb_47 := below_next hSgb_46 hbgb_47
        replace rgb_46 := rgb_46.still hbgb_47
        refine hK.out _ _ hSgb_47 (fun h => ?_)
        clear h hK K hbgb_47
        (try simp only [Act.put, List.setIfInBounds_toArray, List.set_cons_zero, List.set_cons_succ])
        refine wpAnyH_ready (rs := [3]) (by kernel_rfl) (by simp) ?_
        refine AllReadyH.cons (o := qgbx3) rfl (fun K hK => ?_) (AllReadyH.nil)
        unfold qgbx3
        go_simp
        (go_at_call 26; refine (cD _).mono ?_; rintro e wgb_48 ⟨DL, rfl, hDL, hbgb_48⟩)
        (try go_simp)
        have hSgb_48 := below_next hSgb_47 hbgb_48
        replace rgb_46 := rgb_46.still hbgb_48
        refine hK.out _ _ hSgb_48 (fun h => ?_)
        clear h hK K hbgb_48
        (try simp only [Act.put, List.setIfInBounds_toArray, List.set_cons_zero, List.set_cons_succ])
        refine wpAnyH_ready (rs := [5]) (by kernel_rfl) (by simp) ?_
        refine AllReadyH.cons (o := qgbx5) rfl (fun K hK => ?_) (AllReadyH.nil)
        unfold qgbx5
        go_simp
        (go_at_call 43; refine (cT DL hDL _).mono ?_; rintro e wgb_49 ⟨rfl, hbgb_49⟩)
        (try go_simp)
        have hSgb_49 := below_next hSgb_48 hbgb_49
        replace rgb_46 := rgb_46.still hbgb_49
        refine hK.out _ _ hSgb_49 (fun h => ?_)
        clear h hK K hbgb_49
        (try simp only [Act.put, List.setIfInBounds_toArray, List.set_cons_zero, List.set_cons_succ])
        refine wpAnyH_ready (rs := [7]) (by kernel_rfl) (by simp) ?_
        refine AllReadyH.cons (o := qgbx7) rfl (fun K hK => ?_) (AllReadyH.nil)
        unfold qgbx7
        go_simp
        (go_at_call 46; refine (cP DL hDL _).mono ?_; rintro e wgb_50 ⟨rfl, hbgb_50⟩)
        (try go_simp)
        have hSgb_50 := below_next hSgb_49 hbgb_50
        replace rgb_46 := rgb_46.still hbgb_50
        refine hK.out _ _ hSgb_50 (fun h => ?_)
        clear h hK K hbgb_50
        (try simp only [Act.put, List.setIfInBounds_toArray, List.set_cons_zero, List.set_cons_succ])
        refine wpAnyH_ready (rs := [8]) (by kernel_rfl) (by simp) ?_
        refine AllReadyH.cons (o := qgbx8) rfl (fun K hK => ?_) (AllReadyH.nil)
        unfold qgbx8
        go_simp
        (go_at_call 44; refine (cR DL hDL _).mono ?_; rintro e wgb_51 ⟨XL, rfl, hXL, hbgb_51⟩)
        (try go_simp)
        have hSgb_51 := below_next hSgb_50 hbgb_51
        replace rgb_46 := rgb_46.still hbgb_51
        refine hK.out _ _ hSgb_51 (fun h => ?_)
        clear h hK K hbgb_51
        (try simp only [Act.put, List.setIfInBounds_toArray, List.set_cons_zero, List.set_cons_succ])
        refine wpAnyH_take (i := 9) (oi := { dst := some 41, op := Op.move (Operand.tmp 50), type := 73, pos := "ref.go:89", after := #[{ on := 8, ground := Ground.data }], guard := none }) (v := ?vgb_52) rfl (by kernel_rfl) (by kernel_rfl) (by kernel_rfl) (fun _ _ _ h => h) (Or.inl ⟨by rfl, ?hgb_52⟩) hSgb_51 ?rgb_52
        case hgb_52 =>
          intro w hSw
          go_simp
          try with_reducible rfl
        (try simp only [Act.put, List.setIfInBounds_toArray, List.set_cons_zero, List.set_cons_succ])
        refine wpAnyH_take (i := 10) (oi := { dst := some 51, op := Op.extract (Operand.tmp 41) 0, type := 36, pos := "ref.go:89", after := #[{ on := 9, ground := Ground.data }], guard := none }) (v := ?vgb_53) rfl (by kernel_rfl) (by kernel_rfl) (by kernel_rfl) (fun _ _ _ h => h) (Or.inl ⟨by rfl, ?hgb_53⟩) hSgb_51 ?rgb_53
        case hgb_53 =>
          intro w hSw
          go_simp
          try with_reducible rfl
        (try simp only [Act.put, List.setIfInBounds_toArray, List.set_cons_zero, List.set_cons_succ])
        refine wpAnyH_take (i := 11) (oi := { dst := some 52, op := Op.extract (Operand.tmp 41) 1, type := 4, pos := "ref.go:89", after := #[{ on := 9, ground := Ground.data }, { on := 13, ground := Ground.gcOnly Departure.lateStores }], guard := none }) (v := ?vgb_54) rfl (by kernel_rfl) (by kernel_rfl) (by kernel_rfl) (fun _ _ _ h => h) (Or.inl ⟨by rfl, ?hgb_54⟩) hSgb_51 ?rgb_54
        case hgb_54 =>
          intro w hSw
          go_simp
          try with_reducible rfl
        (try simp only [Act.put, List.setIfInBounds_toArray, List.set_cons_zero, List.set_cons_succ])
        refine wpAnyH_ready (rs := [13]) (by kernel_rfl) (by simp) ?_
        refine AllReadyH.cons (o := qgbx13) rfl (fun K hK => ?_) (AllReadyH.nil)
        unfold qgbx13
        rw [if_pos (by rfl)]
        refine ref_store _ _ rfl ggb_46 (fun _ => 0) XL rfl rfl rgb_46 hSgb_51 Ggb_46 (fun wgb_55 r0 hSgb_55 => ?_)
        refine hK.out _ _ hSgb_55 (fun h => ?_)
        clear h hK K rgb_46
        have rgb_46 := r0
        clear r0
        (try dsimp only [Act.put])
        refine wpAnyH_take (i := 14) (oi := { dst := some 10, op := Op.assign (Operand.tmp 52), type := 4, pos := "ref.go:89", after := #[{ on := 11, ground := Ground.data }, { on := 13, ground := Ground.chain }, { on := 0, ground := Ground.phase }, { on := 1, ground := Ground.phase }, { on := 2, ground := Ground.phase }, { on := 3, ground := Ground.phase }, { on := 4, ground := Ground.phase }, { on := 5, ground := Ground.phase }, { on := 6, ground := Ground.phase }, { on := 7, ground := Ground.phase }, { on := 8, ground := Ground.phase }, { on := 9, ground := Ground.phase }, { on := 10, ground := Ground.phase }, { on := 11, ground := Ground.phase }, { on := 12, ground := Ground.phase }, { on := 13, ground := Ground.phase }], guard := none }) (v := ?vgb_56) rfl (by kernel_rfl) (by kernel_rfl) (by kernel_rfl) (fun _ _ _ h => h) (Or.inl ⟨by rfl, ?hgb_56⟩) hSgb_55 ?rgb_56
        case hgb_56 =>
          intro w hSw
          go_simp
          try with_reducible rfl
        (try simp only [Act.put, List.setIfInBounds_toArray, List.set_cons_zero, List.set_cons_succ])
        refine wpAnyH_done (by kernel_rfl) ?_ _
        refine NoPanic.normal ?_
        go_wp2
        go_meet
        case rel => exact ⟨ggb_46, XL, rfl, rfl, hXL, below_next hdrew hSgb_55, Nat.le_trans hdrew.size Ggb_46, rgb_46⟩
    case rest =>
    obtain ⟨g9, XL, rfl, rfl, hXL, hb11, G9, h9⟩ := hcut
    have l2 := h2.lt
    have l6' := hy.lt
    have n29 : g2 ≠ g9 := by omega
    have n69 : g6 ≠ g9 := by omega
    have w9l : w.heap.size ≤ g9 := Nat.le_trans b.size G9
    replace hy := hy.still hb11
    replace h2 := h2.still hb11
    replace b := below_next b hb11
    obtain ⟨U1, hU1⟩ : ∃ W, W = wc := ⟨_, rfl⟩
    rw [← hU1]
    rw [← hU1] at hy h2 b h9
    clear hU1 hb11 G9 l2 l6' h7 h8 cU cT cP cR cD hYY hO
    cases rt with
    | none =>
      have hn : decN bs = none := Hd2.out
      have Hn := Hid.mk' hn
      clear Hd2 hn
      simp only [Option.isSome_none]
      go_upto_region 12 with (fail)
      go_cut [63] from 11 (fun s63 wc => s63 = .bool true ∧ Below U1.heap.size U1 wc)
      case first =>
        clear cz cnul
        have hdrew : Below U1.heap.size U1 U1.drew := (Below.refl _ _).drew
        replace h9 := h9.still hdrew
        refine wp_region_noPanic ?_
        refine wp_region_held_drew (S := fun w' => Below U1.drew.heap.size U1.drew w') (by kernel_rfl) (Below.refl _ _) (fun hS => ?_)
        generalize U1.drew = Vgc_ at *
        refine wpAnyH_take (i := 0) (oi := { dst := some 53, op := Op.move (Operand.tmp 10), type := 4, pos := "ref.go:90", after := #[], guard := none }) (v := ?vgc_1) rfl (by kernel_rfl) (by kernel_rfl) (by kernel_rfl) (fun _ _ _ h => h) (Or.inl ⟨by rfl, ?hgc_1⟩) hS ?rgc_1
        case hgc_1 =>
          intro w hSw
          go_simp
          try with_reducible rfl
        (try simp only [Act.put, List.setIfInBounds_toArray, List.set_cons_zero, List.set_cons_succ])
        refine wpAnyH_take (i := 1) (oi := { dst := some 54, op := Op.unOp UnOp.not 4 (Operand.tmp 53), type := 4, pos := "ref.go:90", after := #[{ on := 0, ground := Ground.data }], guard := none }) (v := ?vgc_2) rfl (by kernel_rfl) (by kernel_rfl) (by kernel_rfl) (fun _ _ _ h => h) (Or.inl ⟨by rfl, ?hgc_2⟩) hS ?rgc_2
        case hgc_2 =>
          intro w hSw
          go_simp
          try with_reducible rfl
        (try simp only [Act.put, List.setIfInBounds_toArray, List.set_cons_zero, List.set_cons_succ])
        refine wpAnyH_take (i := 2) (oi := { dst := some 55, op := Op.move (Operand.tmp 54), type := 4, pos := "ref.go:90", after := #[{ on := 1, ground := Ground.data }], guard := none }) (v := ?vgc_3) rfl (by kernel_rfl) (by kernel_rfl) (by kernel_rfl) (fun _ _ _ h => h) (Or.inl ⟨by rfl, ?hgc_3⟩) hS ?rgc_3
        case hgc_3 =>
          intro w hSw
          go_simp
          try with_reducible rfl
        (try simp only [Act.put, List.setIfInBounds_toArray, List.set_cons_zero, List.set_cons_succ])
        refine wpAnyH_take (i := 3) (oi := { dst := some 56, op := Op.move (Operand.tmp 4), type := 5, pos := "ref.go:90", after := #[{ on := 2, ground := Ground.guard }], guard := some (2, false) }) (v := undef) rfl (by kernel_rfl) (by kernel_rfl) (by kernel_rfl) (fun _ _ _ h => h) (Or.inr ⟨by rfl, rfl⟩) hS ?_
        (try simp only [Act.put, List.setIfInBounds_toArray, List.set_cons_zero, List.set_cons_succ])
        refine wpAnyH_take (i := 4) (oi := { dst := some 57, op := Op.binOp BinOp.eql 5 (Operand.tmp 56) (Operand.const (Value.int IntKind.u8 1)) 5, type := 4, pos := "ref.go:90", after := #[{ on := 3, ground := Ground.data }, { on := 2, ground := Ground.guard }], guard := some (2, false) }) (v := undef) rfl (by kernel_rfl) (by kernel_rfl) (by kernel_rfl) (fun _ _ _ h => h) (Or.inr ⟨by rfl, rfl⟩) hS ?_
        (try simp only [Act.put, List.setIfInBounds_toArray, List.set_cons_zero, List.set_cons_succ])
        refine wpAnyH_take (i := 5) (oi := { dst := some 58, op := Op.move (Operand.tmp 57), type := 4, pos := "ref.go:90", after := #[{ on := 4, ground := Ground.data }, { on := 2, ground := Ground.chain }, { on := 2, ground := Ground.guard }], guard := some (2, false) }) (v := undef) rfl (by kernel_rfl) (by kernel_rfl) (by kernel_rfl) (fun _ _ _ h => h) (Or.inr ⟨by rfl, rfl⟩) hS ?_
        (try simp only [Act.put, List.setIfInBounds_toArray, List.set_cons_zero, List.set_cons_succ])
        refine wpAnyH_take (i := 6) (oi := { dst := some 59, op := Op.load 36 (Operand.tmp 9), type := 36, pos := "ref.go:90", after := #[{ on := 5, ground := Ground.guard }], guard := some (5, true) }) (v := undef) rfl (by kernel_rfl) (by kernel_rfl) (by kernel_rfl) (fun _ _ _ h => h) (Or.inr ⟨by rfl, rfl⟩) hS ?_
        (try simp only [Act.put, List.setIfInBounds_toArray, List.set_cons_zero, List.set_cons_succ])
        refine wpAnyH_take (i := 7) (oi := { dst := some 60, op := Op.call { callee := Callee.value (Operand.func 42), args := #[Operand.const (Value.int IntKind.i64 0)], argTypes := #[3] }, type := 36, pos := "ref.go:90", after := #[{ on := 5, ground := Ground.chain }, { on := 5, ground := Ground.guard }], guard := some (5, true) }) (v := undef) rfl (by kernel_rfl) (by kernel_rfl) (by kernel_rfl) (fun _ _ _ h => h) (Or.inr ⟨by rfl, rfl⟩) hS ?_
        (try simp only [Act.put, List.setIfInBounds_toArray, List.set_cons_zero, List.set_cons_succ])
        refine wpAnyH_take (i := 8) (oi := { dst := some 61, op := Op.call { callee := Callee.value (Operand.func 47), args := #[Operand.tmp 59, Operand.tmp 60], argTypes := #[36, 36] }, type := 4, pos := "ref.go:90", after := #[{ on := 6, ground := Ground.data }, { on := 7, ground := Ground.data }, { on := 7, ground := Ground.chain }, { on := 5, ground := Ground.guard }], guard := some (5, true) }) (v := undef) rfl (by kernel_rfl) (by kernel_rfl) (by kernel_rfl) (fun _ _ _ h => h) (Or.inr ⟨by rfl, rfl⟩) hS ?_
        (try simp only [Act.put, List.setIfInBounds_toArray, List.set_cons_zero, List.set_cons_succ])
        refine wpAnyH_take (i := 9) (oi := { dst := some 62, op := Op.pick (Operand.tmp 58) (Operand.tmp 61) (Operand.const (Value.bool false)), type := 4, pos := "ref.go:90", after := #[{ on := 5, ground := Ground.data }, { on := 8, ground := Ground.data }, { on := 2, ground := Ground.guard }], guard := some (2, false) }) (v := undef) rfl (by kernel_rfl) (by kernel_rfl) (by kernel_rfl) (fun _ _ _ h => h) (Or.inr ⟨by rfl, rfl⟩) hS ?_
        (try simp only [Act.put, List.setIfInBounds_toArray, List.set_cons_zero, List.set_cons_succ])
        refine wpAnyH_take (i := 10) (oi := { dst := some 63, op := Op.pick (Operand.tmp 55) (Operand.const (Value.bool true)) (Operand.tmp 62), type := 4, pos := "ref.go:90", after := #[{ on := 2, ground := Ground.data }, { on := 9, ground := Ground.data }], guard := none }) (v := ?vgc_4) rfl (by kernel_rfl) (by kernel_rfl) (by kernel_rfl) (fun _ _ _ h => h) (Or.inl ⟨by rfl, ?hgc_4⟩) hS ?rgc_4
        case hgc_4 =>
          intro w hSw
          go_simp
          try with_reducible rfl
        (try simp only [Act.put, List.setIfInBounds_toArray, List.set_cons_zero, List.set_cons_succ])
        refine wpAnyH_done (by kernel_rfl) ?_ _
        refine NoPanic.normal ?_
        go_wp2
        go_meet
        case rel => exact ⟨by rfl, below_next hdrew hS⟩
      case rest =>
      obtain ⟨rfl, hb12⟩ := hcut
      replace hy := hy.still hb12
      replace h2 := h2.still hb12
      replace h9 := h9.still hb12
      replace b := below_next b hb12
      clear hb12
      go_wp2_with (first
        | (go_at_call 39; refine (cz _).mono ?_; clear cz; rintro e w40 ⟨t, rfl, ht, hb40⟩; (replace h2 := h2.still hb40); (replace b := below_next b hb40); clear hb40; (have t40 : w40.there g2 0 (q64 t.X t.Y t.Z t.T).toArray.size := there64 h2))
        | (with_reducible (refine id (?_ : wpList _ _ _ _ _ _)); refine wpList_store_mid rfl 38 _ _ rfl g2 0 (q64 t.X t.Y t.Z t.T).toArray rfl rfl t40 (infoQA _ _ _ _) (oneQ _ _ _ _) ?_))
      (try simp only [Exit.inBlock, Exit.then])
      exact bodyPost_ret (results_cell_tmp Tryd.results10 _ _ g2 0 (q64 t.X t.Y t.Z t.T) _ rfl (h2.stored (q64 t.X t.Y t.Z t.T) (q64_same _ _ _ _ _ _ _ _)).range Tryd.underlying38 rfl (infoQ _ _ _ _)) rfl ⟨t, 30, rfl, .inl ⟨rfl, ht, Hn.out⟩, below_setCells w2 _ _ _ b⟩
    | some xr =>
      simp only [Option.isSome_some, Option.getD_some] at hXL hrl ⊢
      by_cases hodd : bs 31 / 128 = 1
      · have hod : ((bs 31 : Nat) : Int) / 128 = 1 := by omega
        rw [hod]
        obtain ⟨x0, hx0⟩ : ∃ x0, decide (xr = 0) = x0 := ⟨_, rfl⟩
        have cS : ∀ O, Rw O 0 → ∀ W, Calls Tryd.prog 47 #[rV XL, rV O] W fun e w' => e = .returned (.bool x0) ∧ Below W.heap.size W w' := fun O hO W => rsame_wide hXL hO x0 (by rw [Nat.mod_eq_of_lt hrl]; exact hx0) W
        have Hd3 : Hid (decN bs = if xr = 0 then none else some (ofXY (fsub 0 xr) yn)) := Hid.mk' (by
          rw [Hd2.out]
          show (if bs 31 / 128 = 1 ∧ xr = 0 then none else some (ofXY (if bs 31 / 128 = 1 then fsub 0 xr else xr) yn)) = _
          rw [if_pos hodd]
          by_cases h0 : xr = 0
          · rw [if_pos ⟨hodd, h0⟩, if_pos h0]
          · rw [if_neg (fun h => h0 h.2), if_neg h0])
        have Hx := Hid.mk' hx0
        have cnul2 := cnul
        clear Hd2 hx0
        go_upto_region 12 with (fail)
        go_cut [63] from 11 (fun s63 wc => s63 = .bool x0 ∧ Below U1.heap.size U1 wc)
        case first =>
          clear cz cnul2
          have hdrew : Below U1.heap.size U1 U1.drew := (Below.refl _ _).drew
          replace h9 := h9.still hdrew
          refine wp_region_noPanic ?_
          refine wp_region_held_drew (S := fun w' => Below U1.drew.heap.size U1.drew w') (by kernel_rfl) (Below.refl _ _) (fun hS => ?_)
          generalize U1.drew = Vgd_ at *
          refine wpAnyH_take (i := 0) (oi := { dst := some 53, op := Op.move (Operand.tmp 10), type := 4, pos := "ref.go:90", after := #[], guard := none }) (v := ?vgd_1) rfl (by kernel_rfl) (by kernel_rfl) (by kernel_rfl) (fun _ _ _ h => h) (Or.inl ⟨by rfl, ?hgd_1⟩) hS ?rgd_1
          case hgd_1 =>
            intro w hSw
            go_simp
            try with_reducible rfl
          (try simp only [Act.put, List.setIfInBounds_toArray, List.set_cons_zero, List.set_cons_succ])
          refine wpAnyH_take (i := 1) (oi := { dst := some 54, op := Op.unOp UnOp.not 4 (Operand.tmp 53), type := 4, pos := "ref.go:90", after := #[{ on := 0, ground := Ground.data }], guard := none }) (v := ?vgd_2) rfl (by kernel_rfl) (by kernel_rfl) (by kernel_rfl) (fun _ _ _ h => h) (Or.inl ⟨by rfl, ?hgd_2⟩) hS ?rgd_2
          case hgd_2 =>
            intro w hSw
            go_simp
            try with_reducible rfl
          (try simp only [Act.put, List.setIfInBounds_toArray, List.set_cons_zero, List.set_cons_succ])
          refine wpAnyH_take (i := 2) (oi := { dst := some 55, op := Op.move (Operand.tmp 54), type := 4, pos := "ref.go:90", after := #[{ on := 1, ground := Ground.data }], guard := none }) (v := ?vgd_3) rfl (by kernel_rfl) (by kernel_rfl) (by kernel_rfl) (fun _ _ _ h => h) (Or.inl ⟨by rfl, ?hgd_3⟩) hS ?rgd_3
          case hgd_3 =>
            intro w hSw
            go_simp
            try with_reducible rfl
          (try simp only [Act.put, List.setIfInBounds_toArray, List.set_cons_zero, List.set_cons_succ])
          refine wpAnyH_take (i := 3) (oi := { dst := some 56, op := Op.move (Operand.tmp 4), type := 5, pos := "ref.go:90", after := #[{ on := 2, ground := Ground.guard }], guard := some (2, false) }) (v := ?vgd_4) rfl (by kernel_rfl) (by kernel_rfl) (by kernel_rfl) (fun _ _ _ h => h) (Or.inl ⟨by rfl, ?hgd_4⟩) hS ?rgd_4
          case hgd_4 =>
            intro w hSw
            go_simp
            try with_reducible rfl
          (try simp only [Act.put, List.setIfInBounds_toArray, List.set_cons_zero, List.set_cons_succ])
          refine wpAnyH_take (i := 4) (oi := { dst := some 57, op := Op.binOp BinOp.eql 5 (Operand.tmp 56) (Operand.const (Value.int IntKind.u8 1)) 5, type := 4, pos := "ref.go:90", after := #[{ on := 3, ground := Ground.data }, { on := 2, ground := Ground.guard }], guard := some (2, false) }) (v := ?vgd_5) rfl (by kernel_rfl) (by kernel_rfl) (by kernel_rfl) (fun _ _ _ h => h) (Or.inl ⟨by rfl, ?hgd_5⟩) hS ?rgd_5
          case hgd_5 =>
            intro w hSw
            go_simp
            try with_reducible rfl
          (try simp only [Act.put, List.setIfInBounds_toArray, List.set_cons_zero, List.set_cons_succ])
          refine wpAnyH_take (i := 5) (oi := { dst := some 58, op := Op.move (Operand.tmp 57), type := 4, pos := "ref.go:90", after := #[{ on := 4, ground := Ground.data }, { on := 2, ground := Ground.chain }, { on := 2, ground := Ground.guard }], guard := some (2, false) }) (v := ?vgd_6) rfl (by kernel_rfl) (by kernel_rfl) (by kernel_rfl) (fun _ _ _ h => h) (Or.inl ⟨by rfl, ?hgd_6⟩) hS ?rgd_6
          case hgd_6 =>
            intro w hSw
            go_simp
            try with_reducible rfl
          (try simp only [Act.put, List.setIfInBounds_toArray, List.set_cons_zero, List.set_cons_succ])
          refine wpAnyH_take (i := 6) (oi := { dst := some 59, op := Op.load 36 (Operand.tmp 9), type := 36, pos := "ref.go:90", after := #[{ on := 5, ground := Ground.guard }], guard := some (5, true) }) (v := rV XL) rfl (by kernel_rfl) (by kernel_rfl) (by kernel_rfl) (fun _ _ _ h => h) (yieldsIf_load_mid (by rfl) 36 _ rfl g9 0 rfl (i16 XL) _ (fun _ h => (h9.still h).range) Tryd.underlying36 rfl (infoI _)) hS ?_
          (try simp only [Act.put, List.setIfInBounds_toArray, List.set_cons_zero, List.set_cons_succ])
          refine wpAnyH_ready (rs := [7]) (by kernel_rfl) (by simp) ?_
          refine AllReadyH.cons (o := qgdx7) rfl (fun K hK => ?_) (AllReadyH.nil)
          unfold qgdx7
          go_simp
          (go_at_call 42; refine (cnul _).mono ?_; clear cnul; rintro e wgd_7 ⟨O2, rfl, hO2, hbgd_7⟩)
          (try go_simp)
          have hSgd_7 := below_next hS hbgd_7
          refine hK.out _ _ hSgd_7 (fun h => ?_)
          clear h hK K hbgd_7
          (try simp only [Act.put, List.setIfInBounds_toArray, List.set_cons_zero, List.set_cons_succ])
          refine wpAnyH_ready (rs := [8]) (by kernel_rfl) (by simp) ?_
          refine AllReadyH.cons (o := qgdx8) rfl (fun K hK => ?_) (AllReadyH.nil)
          unfold qgdx8
          go_simp
          (go_at_call 47; refine (cS O2 hO2 _).mono ?_; clear cS; rintro e wgd_8 ⟨rfl, hbgd_8⟩)
          (try go_simp)
          have hSgd_8 := below_next hSgd_7 hbgd_8
          refine hK.out _ _ hSgd_8 (fun h => ?_)
          clear h hK K hbgd_8
          (try simp only [Act.put, List.setIfInBounds_toArray, List.set_cons_zero, List.set_cons_succ])
          refine wpAnyH_take (i := 9) (oi := { dst := some 62, op := Op.pick (Operand.tmp 58) (Operand.tmp 61) (Operand.const (Value.bool false)), type := 4, pos := "ref.go:90", after := #[{ on := 5, ground := Ground.data }, { on := 8, ground := Ground.data }, { on := 2, ground := Ground.guard }], guard := some (2, false) }) (v := ?vgd_9) rfl (by kernel_rfl) (by kernel_rfl) (by kernel_rfl) (fun _ _ _ h => h) (Or.inl ⟨by rfl, ?hgd_9⟩) hSgd_8 ?rgd_9
          case hgd_9 =>
            intro w hSw
            go_simp
            try with_reducible rfl
          (try simp only [Act.put, List.setIfInBounds_toArray, List.set_cons_zero, List.set_cons_succ])
          refine wpAnyH_take (i := 10) (oi := { dst := some 63, op := Op.pick (Operand.tmp 55) (Operand.const (Value.bool true)) (Operand.tmp 62), type := 4, pos := "ref.go:90", after := #[{ on := 2, ground := Ground.data }, { on := 9, ground := Ground.data }], guard := none }) (v := ?vgd_10) rfl (by kernel_rfl) (by kernel_rfl) (by kernel_rfl) (fun _ _ _ h => h) (Or.inl ⟨by rfl, ?hgd_10⟩) hSgd_8 ?rgd_10
          case hgd_10 =>
            intro w hSw
            go_simp
            try with_reducible rfl
          (try simp only [Act.put, List.setIfInBounds_toArray, List.set_cons_zero, List.set_cons_succ])
          refine wpAnyH_done (by kernel_rfl) ?_ _
          refine NoPanic.normal ?_
          go_wp2
          go_meet
          case rel => exact ⟨by rfl, below_next hdrew hSgd_8⟩
        case rest =>
        obtain ⟨rfl, hb12⟩ := hcut
        replace hy := hy.still hb12
        replace h2 := h2.still hb12
        replace h9 := h9.still hb12
        replace b := below_next b hb12
        clear hb12
        clear cS
        cases x0 with
        | true =>
          have Hn : Hid (decN bs = none) := Hid.mk' (by rw [Hd3.out, if_pos (of_decide_eq_true Hx.out)])
          clear Hd3 Hx
          go_wp2_with (first
            | (go_at_call 39; refine (cz _).mono ?_; clear cz; rintro e w40 ⟨t, rfl, ht, hb40⟩; (replace h2 := h2.still hb40); (replace b := below_next b hb40); clear hb40; (have t40 : w40.there g2 0 (q64 t.X t.Y t.Z t.T).toArray.size := there64 h2))
            | (with_reducible (refine id (?_ : wpList _ _ _ _ _ _)); refine wpList_store_mid rfl 38 _ _ rfl g2 0 (q64 t.X t.Y t.Z t.T).toArray rfl rfl t40 (infoQA _ _ _ _) (oneQ _ _ _ _) ?_))
          (try simp only [Exit.inBlock, Exit.then])
          exact bodyPost_ret (results_cell_tmp Tryd.results10 _ _ g2 0 (q64 t.X t.Y t.Z t.T) _ rfl (h2.stored (q64 t.X t.Y t.Z t.T) (q64_same _ _ _ _ _ _ _ _)).range Tryd.underlying38 rfl (infoQ _ _ _ _)) rfl ⟨t, 30, rfl, .inl ⟨rfl, ht, Hn.out⟩, below_setCells w2 _ _ _ b⟩
        | false =>
          have Hs : Hid (decN bs = some (ofXY (fsub 0 xr) yn)) := Hid.mk' (by rw [Hd3.out, if_neg (of_decide_eq_false Hx.out)])
          clear Hd3 Hx
          obtain ⟨U2, hU2⟩ : ∃ W, W = wc := ⟨_, rfl⟩
          rw [← hU2]
          rw [← hU2] at hy h2 b h9
          clear hU2
          go_upto_region 15 with (fail)
          (try simp only [Act.put, List.setIfInBounds_toArray, List.set_cons_zero, List.set_cons_succ])
          have hdrew : Below U2.heap.size U2 U2.drew := (Below.refl _ _).drew
          replace b := below_next b hdrew
          replace h2 := h2.still hdrew
          replace h9 := h9.still hdrew
          replace hy := hy.still hdrew
          refine wp_region_noPanic ?_
          refine wp_region_held_drew (S := fun _ => True) (by kernel_rfl) trivial (fun _ => ?_)
          generalize U2.drew = Vge_ at *
          refine wpAnyH_ready (rs := [0, 1]) (by kernel_rfl) (by simp) ?_
          refine AllReadyH.cons (o := { dst := some 67, op := Op.call { callee := Callee.value (Operand.func 42), args := #[Operand.const (Value.int IntKind.i64 0)], argTypes := #[3] }, type := 36, pos := "ref.go:94", after := #[], guard := none }) rfl (fun K hK => ?_) (AllReadyH.cons (o := { dst := some 68, op := Op.load 36 (Operand.tmp 9), type := 36, pos := "ref.go:94", after := #[], guard := none }) rfl (fun K hK => ?_) (AllReadyH.nil))
          · go_simp
            (go_at_call 42; refine (cnul2 _).mono ?_; clear cnul2; rintro e wge_1 ⟨O3, rfl, hO3, hbS⟩; (replace h2 := h2.still hbS); (replace h9 := h9.still hbS); (replace hy := hy.still hbS); (replace b := below_next b hbS); clear hbS)
            (try go_simp)
            refine hK.out _ _ trivial (fun h => ?_)
            clear h hK K
            (try simp only [Act.put, List.setIfInBounds_toArray, List.set_cons_zero, List.set_cons_succ])
            refine wpAnyH_ready (rs := [1]) (by kernel_rfl) (by simp) ?_
            refine AllReadyH.cons (o := { dst := some 68, op := Op.load 36 (Operand.tmp 9), type := 36, pos := "ref.go:94", after := #[], guard := none }) rfl (fun K hK => ?_) (AllReadyH.nil)
            rw [if_pos (by rfl)]
            refine wp_load_mid 36 _ rfl g9 0 rfl (i16 XL) _ h9.range Tryd.underlying36 rfl (infoI _) ?_
            refine hK.out _ _ trivial (fun h => ?_)
            clear h hK K
            rw [show Value.agg (i16 XL).toArray = rV XL from rfl]
            (try simp only [Act.put, List.setIfInBounds_toArray, List.set_cons_zero, List.set_cons_succ])
            refine wpAnyH_ready (rs := [2]) (by kernel_rfl) (by simp) ?_
            refine AllReadyH.cons (o := { dst := some 69, op := Op.call { callee := Callee.value (Operand.func 45), args := #[Operand.tmp 67, Operand.tmp 68], argTypes := #[36, 36] }, type := 36, pos := "ref.go:94", after := #[{ on := 0, ground := Ground.data }, { on := 1, ground := Ground.data }, { on := 0, ground := Ground.chain }], guard := none }) rfl (fun K hK => ?_) (AllReadyH.nil)
            go_simp
            (go_at_call 45; refine (rminus_w hO3 hXL _).mono ?_; rintro e wge_3 ⟨rfl, hbS⟩; (replace h2 := h2.still hbS); (replace h9 := h9.still hbS); (replace hy := hy.still hbS); (replace b := below_next b hbS); clear hbS)
            (try go_simp)
            refine hK.out _ _ trivial (fun h => ?_)
            clear h hK K
            (try simp only [Act.put, List.setIfInBounds_toArray, List.set_cons_zero, List.set_cons_succ])
            refine wpAnyH_ready (rs := [3]) (by kernel_rfl) (by simp) ?_
            refine AllReadyH.cons (o := { dst := none, op := Op.store 36 (Operand.tmp 9) (Operand.tmp 69), type := 0, pos := "ref.go:94", after := #[{ on := 2, ground := Ground.data }, { on := 2, ground := Ground.chain }, { on := 0, ground := Ground.phase }, { on := 1, ground := Ground.phase }, { on := 2, ground := Ground.phase }], guard := none }) rfl (fun K hK => ?_) (AllReadyH.nil)
            rw [if_pos (by rfl)]
            refine wp_store_mid 36 _ _ rfl g9 0 (i16 (minusL O3 XL)).toArray rfl rfl (there16 h9) (infoIA _) (oneI _) ?_
            have Oge_4 := Out.setCells (b := g9) (o := 0) (n := (i16 (minusL O3 XL)).length) wge_3 (i16 (minusL O3 XL)) (Nat.le_refl _) (Nat.le_refl _)
            replace b := below_setCells w9l (i16 (minusL O3 XL)) 0 _ b
            replace h9 := h9.stored (i16 (minusL O3 XL)) (by rw [i16_len, i16_len])
            replace h2 := h2.far g9 0 (i16 (minusL O3 XL)) (.inl n29)
            replace hy := hy.far g9 0 (i16 (minusL O3 XL)) (.inl n69)
            obtain ⟨wge_4, hwge_4⟩ : ∃ W, wge_3.setCells g9 0 (i16 (minusL O3 XL)) = W := ⟨_, rfl⟩
            rw [hwge_4] at h2
            rw [hwge_4] at b
            rw [hwge_4] at hy
            rw [hwge_4] at h9
            rw [hwge_4] at Oge_4
            rw [show wge_3.setCells g9 0 (i16 (minusL O3 XL)).toArray.toList = wge_4 from hwge_4]
            refine hK.out _ _ trivial (fun h => ?_)
            clear h hK K hwge_4
            (try dsimp only [Act.put])
            refine wpAnyH_done (by kernel_rfl) ?_ _
            refine NoPanic.normal ?_
            have cof : ∀ W, Calls Tryd.prog 48 #[.agg (i16 (minusL O3 XL)).toArray, .agg (i16 YL).toArray] W fun e w' => ∃ t : P4, e = .returned (.agg (q64 t.X t.Y t.Z t.T).toArray) ∧ t.Rep (ofXY (fsub 0 xr) yn) ∧ Below W.heap.size W w' := fun W => rof_any (rww_minus hO3 hXL hrl) hYr W
            go_wp2_with (first
              | (refine wpList_load_mid rfl 36 _ rfl g9 0 rfl (i16 (minusL O3 XL)) _ h9.range Tryd.underlying36 rfl (infoI _) ?_)
              | (refine wpList_load_mid rfl 36 _ rfl g6 0 rfl (i16 YL) _ hy.range Tryd.underlying36 rfl (infoI _) ?_)
              | (go_at_call 48; refine (cof _).mono ?_; clear cof; rintro e w50 ⟨t, rfl, ht, hb50⟩; (replace h2 := h2.still hb50); (replace b := below_next b hb50); clear hb50; (have t50 : w50.there g2 0 (q64 t.X t.Y t.Z t.T).toArray.size := there64 h2))
              | (with_reducible (refine id (?_ : wpList _ _ _ _ _ _)); refine wpList_store_mid rfl 38 _ _ rfl g2 0 (q64 t.X t.Y t.Z t.T).toArray rfl rfl t50 (infoQA _ _ _ _) (oneQ _ _ _ _) ?_))
            (try simp only [Exit.inBlock, Exit.then])
            exact bodyPost_ret (results_cell_tmp Tryd.results10 _ _ g2 0 (q64 t.X t.Y t.Z t.T) _ rfl (h2.stored (q64 t.X t.Y t.Z t.T) (q64_same _ _ _ _ _ _ _ _)).range Tryd.underlying38 rfl (infoQ _ _ _ _)) rfl ⟨t, 0, rfl, .inr ⟨rfl, _, Hs.out, ht⟩, below_setCells w2 _ _ _ b⟩
          · rw [if_pos (by rfl)]
            refine wp_load_mid 36 _ rfl g9 0 rfl (i16 XL) _ h9.range Tryd.underlying36 rfl (infoI _) ?_
            refine hK.out _ _ trivial (fun h => ?_)
            clear h hK K
            rw [show Value.agg (i16 XL).toArray = rV XL from rfl]
            (try simp only [Act.put, List.setIfInBounds_toArray, List.set_cons_zero, List.set_cons_succ])
            refine wpAnyH_ready (rs := [0]) (by kernel_rfl) (by simp) ?_
            refine AllReadyH.cons (o := { dst := some 67, op := Op.call { callee := Callee.value (Operand.func 42), args := #[Operand.const (Value.int IntKind.i64 0)], argTypes := #[3] }, type := 36, pos := "ref.go:94", after := #[], guard := none }) rfl (fun K hK => ?_) (AllReadyH.nil)
            go_simp
            (go_at_call 42; refine (cnul2 _).mono ?_; clear cnul2; rintro e wge_6 ⟨O3, rfl, hO3, hbS⟩; (replace h2 := h2.still hbS); (replace h9 := h9.still hbS); (replace hy := hy.still hbS); (replace b := below_next b hbS); clear hbS)
            (try go_simp)
            refine hK.out _ _ trivial (fun h => ?_)
            clear h hK K
            (try simp only [Act.put, List.setIfInBounds_toArray, List.set_cons_zero, List.set_cons_succ])
            refine wpAnyH_ready (rs := [2]) (by kernel_rfl) (by simp) ?_
            refine AllReadyH.cons (o := { dst := some 69, op := Op.call { callee := Callee.value (Operand.func 45), args := #[Operand.tmp 67, Operand.tmp 68], argTypes := #[36, 36] }, type := 36, pos := "ref.go:94", after := #[{ on := 0, ground := Ground.data }, { on := 1, ground := Ground.data }, { on := 0, ground := Ground.chain }], guard := none }) rfl (fun K hK => ?_) (AllReadyH.nil)
            go_simp
            (go_at_call 45; refine (rminus_w hO3 hXL _).mono ?_; rintro e wge_7 ⟨rfl, hbS⟩; (replace h2 := h2.still hbS); (replace h9 := h9.still hbS); (replace hy := hy.still hbS); (replace b := below_next b hbS); clear hbS)
            (try go_simp)
            refine hK.out _ _ trivial (fun h => ?_)
            clear h hK K
            (try simp only [Act.put, List.setIfInBounds_toArray, List.set_cons_zero, List.set_cons_succ])
            refine wpAnyH_ready (rs := [3]) (by kernel_rfl) (by simp) ?_
            refine AllReadyH.cons (o := { dst := none, op := Op.store 36 (Operand.tmp 9) (Operand.tmp 69), type := 0, pos := "ref.go:94", after := #[{ on := 2, ground := Ground.data }, { on := 2, ground := Ground.chain }, { on := 0, ground := Ground.phase }, { on := 1, ground := Ground.phase }, { on := 2, ground := Ground.phase }], guard := none }) rfl (fun K hK => ?_) (AllReadyH.nil)
            rw [if_pos (by rfl)]
            refine wp_store_mid 36 _ _ rfl g9 0 (i16 (minusL O3 XL)).toArray rfl rfl (there16 h9) (infoIA _) (oneI _) ?_
            have Oge_8 := Out.setCells (b := g9) (o := 0) (n := (i16 (minusL O3 XL)).length) wge_7 (i16 (minusL O3 XL)) (Nat.le_refl _) (Nat.le_refl _)
            replace b := below_setCells w9l (i16 (minusL O3 XL)) 0 _ b
            replace h9 := h9.stored (i16 (minusL O3 XL)) (by rw [i16_len, i16_len])
            replace h2 := h2.far g9 0 (i16 (minusL O3 XL)) (.inl n29)
            replace hy := hy.far g9 0 (i16 (minusL O3 XL)) (.inl n69)
            obtain ⟨wge_8, hwge_8⟩ : ∃ W, wge_7.setCells g9 0 (i16 (minusL O3 XL)) = W := ⟨_, rfl⟩
            rw [hwge_8] at h2
            rw [hwge_8] at b
            rw [hwge_8] at hy
            rw [hwge_8] at h9
            rw [hwge_8] at Oge_8
            rw [show wge_7.setCells g9 0 (i16 (minusL O3 XL)).toArray.toList = wge_8 from hwge_8]
            refine hK.out _ _ trivial (fun h => ?_)
            clear h hK K hwge_8
            (try dsimp only [Act.put])
            refine wpAnyH_done (by kernel_rfl) ?_ _
            refine NoPanic.normal ?_
            have cof : ∀ W, Calls Tryd.prog 48 #[.agg (i16 (minusL O3 XL)).toArray, .agg (i16 YL).toArray] W fun e w' => ∃ t : P4, e = .returned (.agg (q64 t.X t.Y t.Z t.T).toArray) ∧ t.Rep (ofXY (fsub 0 xr) yn) ∧ Below W.heap.size W w' := fun W => rof_any (rww_minus hO3 hXL hrl) hYr W
            go_wp2_with (first
              | (refine wpList_load_mid rfl 36 _ rfl g9 0 rfl (i16 (minusL O3 XL)) _ h9.range Tryd.underlying36 rfl (infoI _) ?_)
              | (refine wpList_load_mid rfl 36 _ rfl g6 0 rfl (i16 YL) _ hy.range Tryd.underlying36 rfl (infoI _) ?_)
              | (go_at_call 48; refine (cof _).mono ?_; clear cof; rintro e w50 ⟨t, rfl, ht, hb50⟩; (replace h2 := h2.still hb50); (replace b := below_next b hb50); clear hb50; (have t50 : w50.there g2 0 (q64 t.X t.Y t.Z t.T).toArray.size := there64 h2))
              | (with_reducible (refine id (?_ : wpList _ _ _ _ _ _)); refine wpList_store_mid rfl 38 _ _ rfl g2 0 (q64 t.X t.Y t.Z t.T).toArray rfl rfl t50 (infoQA _ _ _ _) (oneQ _ _ _ _) ?_))
            (try simp only [Exit.inBlock, Exit.then])
            exact bodyPost_ret (results_cell_tmp Tryd.results10 _ _ g2 0 (q64 t.X t.Y t.Z t.T) _ rfl (h2.stored (q64 t.X t.Y t.Z t.T) (q64_same _ _ _ _ _ _ _ _)).range Tryd.underlying38 rfl (infoQ _ _ _ _)) rfl ⟨t, 0, rfl, .inr ⟨rfl, _, Hs.out, ht⟩, below_setCells w2 _ _ _ b⟩
      · have hod : ((bs 31 : Nat) : Int) / 128 = 0 := by have := hbs 31; omega
        rw [hod]
        have Hs : Hid (decN bs = some (ofXY xr yn)) := Hid.mk' (by
          rw [Hd2.out]
          show (if bs 31 / 128 = 1 ∧ xr = 0 then none else some (ofXY (if bs 31 / 128 = 1 then fsub 0 xr else xr) yn)) = _
          rw [if_neg hodd, if_neg (fun h => hodd h.1)])
        clear Hd2
        go_upto_region 12 with (fail)
        go_cut [63] from 11 (fun s63 wc => s63 = .bool false ∧ Below U1.heap.size U1 wc)
        case first =>
          clear cz cnul
          have hdrew : Below U1.heap.size U1 U1.drew := (Below.refl _ _).drew
          replace h9 := h9.still hdrew
          refine wp_region_noPanic ?_
          refine wp_region_held_drew (S := fun w' => Below U1.drew.heap.size U1.drew w') (by kernel_rfl) (Below.refl _ _) (fun hS => ?_)
          generalize U1.drew = Vgf_ at *
          refine wpAnyH_take (i := 0) (oi := { dst := some 53, op := Op.move (Operand.tmp 10), type := 4, pos := "ref.go:90", after := #[], guard := none }) (v := ?vgf_1) rfl (by kernel_rfl) (by kernel_rfl) (by kernel_rfl) (fun _ _ _ h => h) (Or.inl ⟨by rfl, ?hgf_1⟩) hS ?rgf_1
          case hgf_1 =>
            intro w hSw
            go_simp
            try with_reducible rfl
          (try simp only [Act.put, List.setIfInBounds_toArray, List.set_cons_zero, List.set_cons_succ])
          refine wpAnyH_take (i := 1) (oi := { dst := some 54, op := Op.unOp UnOp.not 4 (Operand.tmp 53), type := 4, pos := "ref.go:90", after := #[{ on := 0, ground := Ground.data }], guard := none }) (v := ?vgf_2) rfl (by kernel_rfl) (by kernel_rfl) (by kernel_rfl) (fun _ _ _ h => h) (Or.inl ⟨by rfl, ?hgf_2⟩) hS ?rgf_2
          case hgf_2 =>
            intro w hSw
            go_simp
            try with_reducible rfl
          (try simp only [Act.put, List.setIfInBounds_toArray, List.set_cons_zero, List.set_cons_succ])
          refine wpAnyH_take (i := 2) (oi := { dst := some 55, op := Op.move (Operand.tmp 54), type := 4, pos := "ref.go:90", after := #[{ on := 1, ground := Ground.data }], guard := none }) (v := ?vgf_3) rfl (by kernel_rfl) (by kernel_rfl) (by kernel_rfl) (fun _ _ _ h => h) (Or.inl ⟨by rfl, ?hgf_3⟩) hS ?rgf_3
          case hgf_3 =>
            intro w hSw
            go_simp
            try with_reducible rfl
          (try simp only [Act.put, List.setIfInBounds_toArray, List.set_cons_zero, List.set_cons_succ])
          refine wpAnyH_take (i := 3) (oi := { dst := some 56, op := Op.move (Operand.tmp 4), type := 5, pos := "ref.go:90", after := #[{ on := 2, ground := Ground.guard }], guard := some (2, false) }) (v := ?vgf_4) rfl (by kernel_rfl) (by kernel_rfl) (by kernel_rfl) (fun _ _ _ h => h) (Or.inl ⟨by rfl, ?hgf_4⟩) hS ?rgf_4
          case hgf_4 =>
            intro w hSw
            go_simp
            try with_reducible rfl
          (try simp only [Act.put, List.setIfInBounds_toArray, List.set_cons_zero, List.set_cons_succ])
          refine wpAnyH_take (i := 4) (oi := { dst := some 57, op := Op.binOp BinOp.eql 5 (Operand.tmp 56) (Operand.const (Value.int IntKind.u8 1)) 5, type := 4, pos := "ref.go:90", after := #[{ on := 3, ground := Ground.data }, { on := 2, ground := Ground.guard }], guard := some (2, false) }) (v := ?vgf_5) rfl (by kernel_rfl) (by kernel_rfl) (by kernel_rfl) (fun _ _ _ h => h) (Or.inl ⟨by rfl, ?hgf_5⟩) hS ?rgf_5
          case hgf_5 =>
            intro w hSw
            go_simp
            try with_reducible rfl
          (try simp only [Act.put, List.setIfInBounds_toArray, List.set_cons_zero, List.set_cons_succ])
          refine wpAnyH_take (i := 5) (oi := { dst := some 58, op := Op.move (Operand.tmp 57), type := 4, pos := "ref.go:90", after := #[{ on := 4, ground := Ground.data }, { on := 2, ground := Ground.chain }, { on := 2, ground := Ground.guard }], guard := some (2, false) }) (v := ?vgf_6) rfl (by kernel_rfl) (by kernel_rfl) (by kernel_rfl) (fun _ _ _ h => h) (Or.inl ⟨by rfl, ?hgf_6⟩) hS ?rgf_6
          case hgf_6 =>
            intro w hSw
            go_simp
            try with_reducible rfl
          (try simp only [Act.put, List.setIfInBounds_toArray, List.set_cons_zero, List.set_cons_succ])
          refine wpAnyH_take (i := 6) (oi := { dst := some 59, op := Op.load 36 (Operand.tmp 9), type := 36, pos := "ref.go:90", after := #[{ on := 5, ground := Ground.guard }], guard := some (5, true) }) (v := undef) rfl (by kernel_rfl) (by kernel_rfl) (by kernel_rfl) (fun _ _ _ h => h) (Or.inr ⟨by rfl, rfl⟩) hS ?_
          (try simp only [Act.put, List.setIfInBounds_toArray, List.set_cons_zero, List.set_cons_succ])
          refine wpAnyH_take (i := 7) (oi := { dst := some 60, op := Op.call { callee := Callee.value (Operand.func 42), args := #[Operand.const (Value.int IntKind.i64 0)], argTypes := #[3] }, type := 36, pos := "ref.go:90", after := #[{ on := 5, ground := Ground.chain }, { on := 5, ground := Ground.guard }], guard := some (5, true) }) (v := undef) rfl (by kernel_rfl) (by kernel_rfl) (by kernel_rfl) (fun _ _ _ h => h) (Or.inr ⟨by rfl, rfl⟩) hS ?_
          (try simp only [Act.put, List.setIfInBounds_toArray, List.set_cons_zero, List.set_cons_succ])
          refine wpAnyH_take (i := 8) (oi := { dst := some 61, op := Op.call { callee := Callee.value (Operand.func 47), args := #[Operand.tmp 59, Operand.tmp 60], argTypes := #[36, 36] }, type := 4, pos := "ref.go:90", after := #[{ on := 6, ground := Ground.data }, { on := 7, ground := Ground.data }, { on := 7, ground := Ground.chain }, { on := 5, ground := Ground.guard }], guard := some (5, true) }) (v := undef) rfl (by kernel_rfl) (by kernel_rfl) (by kernel_rfl) (fun _ _ _ h => h) (Or.inr ⟨by rfl, rfl⟩) hS ?_
          (try simp only [Act.put, List.setIfInBounds_toArray, List.set_cons_zero, List.set_cons_succ])
          refine wpAnyH_take (i := 9) (oi := { dst := some 62, op := Op.pick (Operand.tmp 58) (Operand.tmp 61) (Operand.const (Value.bool false)), type := 4, pos := "ref.go:90", after := #[{ on := 5, ground := Ground.data }, { on := 8, ground := Ground.data }, { on := 2, ground := Ground.guard }], guard := some (2, false) }) (v := ?vgf_7) rfl (by kernel_rfl) (by kernel_rfl) (by kernel_rfl) (fun _ _ _ h => h) (Or.inl ⟨by rfl, ?hgf_7⟩) hS ?rgf_7
          case hgf_7 =>
            intro w hSw
            go_simp
            try with_reducible rfl
          (try simp only [Act.put, List.setIfInBounds_toArray, List.set_cons_zero, List.set_cons_succ])
          refine wpAnyH_take (i := 10) (oi := { dst := some 63, op := Op.pick (Operand.tmp 55) (Operand.const (Value.bool true)) (Operand.tmp 62), type := 4, pos := "ref.go:90", after := #[{ on := 2, ground := Ground.data }, { on := 9, ground := Ground.data }], guard := none }) (v := ?vgf_8) rfl (by kernel_rfl) (by kernel_rfl) (by kernel_rfl) (fun _ _ _ h => h) (Or.inl ⟨by rfl, ?hgf_8⟩) hS ?rgf_8
          case hgf_8 =>
            intro w hSw
            go_simp
            try with_reducible rfl
          (try simp only [Act.put, List.setIfInBounds_toArray, List.set_cons_zero, List.set_cons_succ])
          refine wpAnyH_done (by kernel_rfl) ?_ _
          refine NoPanic.normal ?_
          go_wp2
          go_meet
          case rel => exact ⟨by rfl, below_next hdrew hS⟩
        case rest =>
        obtain ⟨rfl, hb12⟩ := hcut
        replace hy := hy.still hb12
        replace h2 := h2.still hb12
        replace h9 := h9.still hb12
        replace b := below_next b hb12
        clear hb12
        have cof : ∀ W, Calls Tryd.prog 48 #[.agg (i16 XL).toArray, .agg (i16 YL).toArray] W fun e w' => ∃ t : P4, e = .returned (.agg (q64 t.X t.Y t.Z t.T).toArray) ∧ t.Rep (ofXY xr yn) ∧ Below W.heap.size W w' := fun W => rof_any hXL hYr W
        go_wp2_with (first
          | (refine wpList_load_mid rfl 36 _ rfl g9 0 rfl (i16 XL) _ h9.range Tryd.underlying36 rfl (infoI _) ?_)
          | (refine wpList_load_mid rfl 36 _ rfl g6 0 rfl (i16 YL) _ hy.range Tryd.underlying36 rfl (infoI _) ?_)
          | (go_at_call 48; refine (cof _).mono ?_; clear cof; rintro e w50 ⟨t, rfl, ht, hb50⟩; (replace h2 := h2.still hb50); (replace b := below_next b hb50); clear hb50; (have t50 : w50.there g2 0 (q64 t.X t.Y t.Z t.T).toArray.size := there64 h2))
          | (with_reducible (refine id (?_ : wpList _ _ _ _ _ _)); refine wpList_store_mid rfl 38 _ _ rfl g2 0 (q64 t.X t.Y t.Z t.T).toArray rfl rfl t50 (infoQA _ _ _ _) (oneQ _ _ _ _) ?_))
        (try simp only [Exit.inBlock, Exit.then])
        exact bodyPost_ret (results_cell_tmp Tryd.results10 _ _ g2 0 (q64 t.X t.Y t.Z t.T) _ rfl (h2.stored (q64 t.X t.Y t.Z t.T) (q64_same _ _ _ _ _ _ _ _)).range Tryd.underlying38 rfl (infoQ _ _ _ _)) rfl ⟨t, 0, rfl, .inr ⟨rfl, _, Hs.out, ht⟩, below_setCells w2 _ _ _ b⟩
end Go.Proofs.YteekjcfbnoakgaaDoor
namespace Go.Proofs.YteekjcfbnoakgaaDoor
/-- Two points of the ladder: x and z of each. -/
structure L4 where
  xl : Nat
  zl : Nat
  xh : Nat
  zh : Nat
structure L4.Ok (s : L4) : Prop where
  xl : s.xl < pF
  zl : s.zl < pF
  xh : s.xh < pF
  zh : s.zh < pF
def ee (s : L4) : Nat := fsub (fmul (fadd s.xl s.zl) (fadd s.xl s.zl)) (fmul (fsub s.xl s.zl) (fsub s.xl s.zl))
section
variable {n : Nat} [NeZero n]
theorem g_e {e X S w : Fin n} (he : e*e = 1) (h : e*X = S*w) : X = e*S*w := by grind
end
/-- x and z of a point, times whatever is not 0. -/
def RepP (e y X Z : Fp) : Prop := ∃ s si : Fp, s*si = 1 ∧ X = e*s*(1+y) ∧ Z = s*(1-y)
theorem RepP.mk' {e y X Z S : Fp} (he : e*e = 1) (hS : S ≠ 0) (h1 : e*X = S*(1+y)) (h2 : Z = S*(1-y)) : RepP e y X Z := ⟨S, fi S, fi_mul hS, g_e he h1, h2⟩
/-- The base. -/
def xB : Nat := 15112221349535400772501151409588531511454012693041857206046113283949847762202
def yB : Nat := 46316835694926478169428394003475163141307993866256225615783033603165251855960
theorem xB_lt : xB < pF := by decide
theorem yB_lt : yB < pF := by decide
theorem base_on : On dE (ptXY xB yB) := ptXY_on (by decide)
end Go.Proofs.YteekjcfbnoakgaaDoor
namespace Go.Proofs.YteekjcfbnoakgaaDoor
open Go.RowKit
def qB : Nat := 26187595835145689230469591415084376402084551887632582719101735842039498021991
def rB : Nat := 42783823269122696939284341094755422415180979639778424813682678720006717057747
def uB : Nat := 37053468555941182535542715202780130513046395093004980492626426882532201484767
def vB : Nat := 35320460721920060721965471946471712506633951349663716574434581141966314745466
theorem uB_is : decU yB = uB := by kernel_rfl
theorem vB_is : decV yB = vB := by kernel_rfl
theorem quo_is {u v q : Nat} (hq : q < pF) (hv0 : v ≠ 0) (hv : v < pF) (h : q * v % pF = u) : quoR u v = q := quot_of' hq hv0 hv h
theorem qB_quot : quoR uB vB = qB := quo_is (by decide) (by decide) (by decide) (by decide)
theorem pm_is {b k e r : Nat} (h : e < 2 ^ k) (hp : pm pF b k e = r) : b ^ e % pF = r := by rw [← pm_eq pF b k e h, hp]
theorem rB_pow : pm pF qB 252 7237005577332262213973186563042994240829374041602535252466099000494570602494 = rB := by kernel_rfl
theorem rootY_is {k u v q r : Nat} (hq : quoR u v = q) {e : Nat} (he : k + 1 = e) (hl : e < 2 ^ 252) (hp : pm pF q 252 e = r) : rootY k u v = r := by
  unfold rootY
  rw [hq, he]
  exact pm_is hl hp
theorem kP_next : kP + 1 = 7237005577332262213973186563042994240829374041602535252466099000494570602494 := by decide
theorem rootY_base : rootY kP uB vB = rB := rootY_is qB_quot kP_next (by decide) rB_pow
theorem rootZ_is {k u v q r : Nat} (hq : quoR u v = q) (hy : rootY k u v = r) (h : r * r % pF = q) : rootZ k u v = r := by
  unfold rootZ
  rw [hy, hq]
  exact if_pos h
theorem rootR_is {k u v q r x : Nat} (hq : quoR u v = q) (hz : rootZ k u v = r) (h : r * r % pF = q) (hv : v ≠ 0) (hx : evn r = x) : rootR k u v = some x := by
  unfold rootR
  rw [hz, hq, if_pos ⟨h, fun h => hv h.1⟩, hx]
theorem rB_sq : rB * rB % pF = qB := by decide
theorem root_base : rootR kP (decU yB) (decV yB) = some xB := by
  rw [uB_is, vB_is]
  exact rootR_is qB_quot (rootZ_is qB_quot rootY_base rB_sq) rB_sq (by decide) (by decide)
theorem lo6_byt {N : Nat} (h : N < pF) {j : Nat} (_hj : j < 32) : lo6 (byt N) j = byt N j := by
  unfold lo6
  by_cases h31 : j = 31
  · rw [if_pos h31, h31]
    exact Nat.mod_eq_of_lt (byt31_lt h)
  · rw [if_neg h31]
theorem dec_base : decN (byt yB) = some (ofXY xB yB) := by
  have e : ofB (lo6 (byt yB)) 32 = yB := by
    rw [ofB_congr 32 (fun j hj => lo6_byt yB_lt hj), ofB_byt]
    decide
  have e31 : ¬(byt yB 31 / 128 = 1) := by
    have := byt31_lt yB_lt
    omega
  unfold decN
  rw [e, if_pos yB_lt, root_base]
  show (if byt yB 31 / 128 = 1 ∧ xB = 0 then none else some (ofXY (if byt yB 31 / 128 = 1 then fsub 0 xB else xB) yB)) = _
  rw [if_neg (fun h => e31 h.1), if_neg e31]
theorem yB_quot : fmul 4 (finv 5) = yB := quot_of' yB_lt (by decide) (by decide) (by decide)
set_option maxRecDepth 20000 in
set_option maxHeartbeats 4000000 in
theorem rdec_bad (v : Value) (n : Nat) (bs : Nat → Nat) (w : World) (hv : BytesIn w v n bs) (hn : n ≠ 32) :
    Calls Tryd.prog 10 #[v] w fun e w' => ∃ t : P4, e = .returned (.tuple #[t.V, .int .i64 1]) ∧ t.Rep zeroN ∧ Below w.heap.size w w' := by
  have hzq := zeroQ
  have cz : ∀ W, Calls Tryd.prog 39 #[] W fun e w' => ∃ t : P4, e = .returned (.agg (q64 t.X t.Y t.Z t.T).toArray) ∧ t.Rep zeroN ∧ Below W.heap.size W w' := fun W => rzero_any W
  generalize zeroN = zn at *
  obtain ⟨xv, kv, rfl, -⟩ := hv.src
  have h1 : ¬((n : Int) = 32) := by omega
  obtain ⟨W, g2, eW, hg2, b, h2⟩ := freshQ w
  have HW : Hid (w.alloc (.cells zQ 38) = W) := Hid.mk' eW
  have Hg : Hid (w.heap.size = g2) := Hid.mk' hg2
  have w2 : w.heap.size ≤ g2 := Nat.le_of_eq hg2
  clear eW hg2 hv hn
  go_enter Tryd.func10, Tryd.ntmps10
  go_wp2_with (first
    | (go_at_call 39; rw [HW.out, Hg.out]; refine (cz _).mono ?_; clear cz HW Hg; rintro e w40 ⟨t, rfl, ht, hb40⟩; (replace h2 := h2.still hb40); (replace b := below_next b hb40); clear hb40; (have t40 : w40.there g2 0 (q64 t.X t.Y t.Z t.T).toArray.size := there64 h2))
    | (with_reducible (refine id (?_ : wpList _ _ _ _ _ _)); refine wpList_store_mid rfl 38 _ _ rfl g2 0 (q64 t.X t.Y t.Z t.T).toArray rfl rfl t40 (infoQA _ _ _ _) (oneQ _ _ _ _) ?_))
  (try simp only [Exit.inBlock, Exit.then])
  exact bodyPost_ret (results_cell_tmp Tryd.results10 _ _ g2 0 (q64 t.X t.Y t.Z t.T) _ rfl (h2.stored (q64 t.X t.Y t.Z t.T) (q64_same _ _ _ _ _ _ _ _)).range Tryd.underlying38 rfl (infoQ _ _ _ _)) rfl ⟨t, rfl, ht, below_setCells w2 _ _ _ b⟩
set_option maxRecDepth 20000 in
set_option maxHeartbeats 4000000 in
theorem rbase_any (w : World) : Calls Tryd.prog 19 #[] w fun e w' => ∃ t : P4, e = .returned t.V ∧ t.Rep (ofXY xB yB) ∧ Below w.heap.size w w' := by
  have hz := zeroR
  have hzq := zeroQ
  have c4' : ∀ W, Calls Tryd.prog 42 #[.int .i64 4] W fun e w' => ∃ R, e = .returned (.agg (i16 R).toArray) ∧ Rw R 4 ∧ Below W.heap.size W w' := small_w 4 (by decide)
  have c5' : ∀ W, Calls Tryd.prog 42 #[.int .i64 5] W fun e w' => ∃ R, e = .returned (.agg (i16 R).toArray) ∧ Rw R 5 ∧ Below W.heap.size W w' := small_w 5 (by decide)
  have ci : ∀ A, Rw A 5 → ∀ W, Calls Tryd.prog 53 #[.agg (i16 A).toArray] W fun e w' => ∃ R, e = .returned (.agg (i16 R).toArray) ∧ Rw R (finv 5) ∧ Below W.heap.size W w' := fun A hA W => rinverse_wide A _ hA W
  have ct : ∀ A B, Rw A 4 → Rw B (finv 5) → ∀ W, Calls Tryd.prog 43 #[.agg (i16 A).toArray, .agg (i16 B).toArray] W fun e w' => ∃ R, e = .returned (.agg (i16 R).toArray) ∧ Rw R yB ∧ Below W.heap.size W w' := fun A B hA hB W => (rtimes_w hA hB W).mono fun e w' ⟨he, hb⟩ => ⟨_, he, by rw [← yB_quot]; exact rw_t hA hB, hb⟩
  have cb : ∀ R, Rw R yB → ∀ W, Calls Tryd.prog 41 #[.agg (i16 R).toArray] W fun e w' => ∃ v, e = .returned v ∧ Own W.heap.size w' v 32 (byt yB) ∧ Below W.heap.size W w' := fun R hR W => rw_bytes R _ hR yB_lt W
  have cd : ∀ v W, BytesIn W v 32 (byt yB) → Calls Tryd.prog 10 #[v] W fun e w' => ∃ t : P4, e = .returned (.tuple #[.agg (q64 t.X t.Y t.Z t.T).toArray, .int .i64 0]) ∧ t.Rep (ofXY xB yB) ∧ Below W.heap.size W w' := fun v W h => (rdec_good v (byt yB) (byt_all _) W h).mono fun e w' ⟨t, er, he, hd, hb⟩ => by
    rcases hd with ⟨-, -, h1⟩ | ⟨h0, p, h1, h2⟩
    · rw [dec_base] at h1; cases h1
    · rw [dec_base] at h1
      obtain rfl := Option.some.inj h1
      subst h0
      exact ⟨t, he, h2, hb⟩
  generalize ofXY xB yB = pb at *
  generalize finv 5 = f5 at *
  generalize yB = yb at *
  obtain ⟨W, g0, eW, hg0, b, h0⟩ := freshQ w
  have HW : Hid (w.alloc (.cells zQ 38) = W) := Hid.mk' eW
  have Hg : Hid (w.heap.size = g0) := Hid.mk' hg0
  have w0 : w.heap.size ≤ g0 := Nat.le_of_eq hg0
  clear eW hg0
  go_enter Tryd.func19, Tryd.ntmps19
  go_wp2_with (first
    | (go_at_call 42; rw [HW.out, Hg.out]; refine (c4' _).mono ?_; clear c4' HW Hg; rintro e w1 ⟨R1, rfl, hR1, hb1⟩; (replace h0 := h0.still hb1); (replace b := below_next b hb1); clear hb1)
    | (go_at_call 42; refine (c5' _).mono ?_; clear c5'; rintro e w2 ⟨R2, rfl, hR2, hb2⟩; (replace h0 := h0.still hb2); (replace b := below_next b hb2); clear hb2)
    | (go_at_call 53; refine (ci R2 hR2 _).mono ?_; clear ci; rintro e w3 ⟨R3, rfl, hR3, hb3⟩; (replace h0 := h0.still hb3); (replace b := below_next b hb3); clear hb3)
    | (go_at_call 43; refine (ct R1 R3 hR1 hR3 _).mono ?_; clear ct; rintro e w4 ⟨R4, rfl, hR4, hb4⟩; (replace h0 := h0.still hb4); (replace b := below_next b hb4); clear hb4; (have z4 := freshR' w4); (have t4 := freshRt w4 R4); (obtain ⟨V4, hV4⟩ : ∃ V, V = (w4.alloc (.cells zI 36)).setCells w4.heap.size 0 (i16 R4) := ⟨_, rfl⟩); (have h1 : RW V4 w4.heap.size 0 (i16 R4) := by rw [hV4]; exact z4.stored _ (by rw [i16_len, i16_len])); (have b4 : Below w4.heap.size w4 V4 := by rw [hV4]; exact below_setCells (Nat.le_refl _) _ _ _ ((Below.refl _ _).alloc (Nat.le_refl _) _)); (have H4 := Hid.mk' hV4); clear hV4 z4; (replace h0 := h0.still b4); (replace b := below_next b b4); clear b4)
    | (with_reducible (refine id (?_ : wpList _ _ _ _ _ _)); refine wpList_store_mid rfl 36 _ _ rfl w4.heap.size 0 (i16 R4).toArray rfl rfl t4 (infoIA _) (oneI _) ?_; rw [List.toList_toArray, ← H4.out]; clear t4 H4)
    | (refine wpList_load_mid rfl 36 _ rfl w4.heap.size 0 rfl (i16 R4) _ h1.range Tryd.underlying36 rfl (infoI _) ?_)
    | (go_at_call 41; refine (cb R4 hR4 _).mono ?_; clear cb; rintro e w5 ⟨v5, rfl, own5, hb5⟩; (replace h0 := h0.still hb5); (replace b := below_next b hb5); clear hb5 h1; (have cd5 := cd v5 w5 (BytesIn.of_own own5)); clear cd)
    | (go_at_call 10; refine cd5.mono ?_; clear cd5 own5; rintro e w6 ⟨t, rfl, ht, hb6⟩; (replace h0 := h0.still hb6); (replace b := below_next b hb6); clear hb6; (have l0 := h0.lt); (have z6 := freshQ' w6); (have t6 : (w6.alloc (.cells zQ 38)).there w6.heap.size 0 (q64 t.X t.Y t.Z t.T).toArray.size := there64 z6); (obtain ⟨V6, hV6⟩ : ∃ V, V = (w6.alloc (.cells zQ 38)).setCells w6.heap.size 0 (q64 t.X t.Y t.Z t.T) := ⟨_, rfl⟩); (have h2 : RW V6 w6.heap.size 0 (q64 t.X t.Y t.Z t.T) := by rw [hV6]; exact z6.stored _ (q64_same _ _ _ _ _ _ _ _)); (have b6 : Below w6.heap.size w6 V6 := by rw [hV6]; exact below_setCells (Nat.le_refl _) _ _ _ ((Below.refl _ _).alloc (Nat.le_refl _) _)); (have H6 := Hid.mk' hV6); clear hV6 z6; (replace h0 := h0.still b6); (replace b := below_next b b6); clear b6; (have t0 : V6.there g0 0 (q64 t.X t.Y t.Z t.T).toArray.size := there64 h0))
    | (with_reducible (refine id (?_ : wpList _ _ _ _ _ _)); refine wpList_store_mid rfl 38 _ _ rfl w6.heap.size 0 (q64 t.X t.Y t.Z t.T).toArray rfl rfl t6 (infoQA _ _ _ _) (oneQ _ _ _ _) ?_; rw [List.toList_toArray, ← H6.out]; clear t6 H6)
    | (refine wpList_load_mid rfl 38 _ rfl w6.heap.size 0 rfl (q64 t.X t.Y t.Z t.T) _ h2.range Tryd.underlying38 rfl (infoQ _ _ _ _) ?_)
    | (with_reducible (refine id (?_ : wpList _ _ _ _ _ _)); refine wpList_store_mid rfl 38 _ _ rfl g0 0 (q64 t.X t.Y t.Z t.T).toArray rfl rfl t0 (infoQA _ _ _ _) (oneQ _ _ _ _) ?_))
  (try simp only [Exit.inBlock, Exit.then])
  exact bodyPost_ret (results_cell_mid Tryd.results19 _ _ g0 0 (q64 t.X t.Y t.Z t.T) _ rfl (h0.stored (q64 t.X t.Y t.Z t.T) (q64_same _ _ _ _ _ _ _ _)).range Tryd.underlying38 rfl (infoQ _ _ _ _)) rfl ⟨t, rfl, ht, below_setCells w0 _ _ _ b⟩
end Go.Proofs.YteekjcfbnoakgaaDoor
namespace Go.Proofs.YteekjcfbnoakgaaDoor
theorem sub_sq {p x : Nat} (hx : x ≤ p) : (p - x) * (p - x) % p = x * x % p := by
  obtain ⟨d, rfl⟩ : ∃ d, p = x + d := ⟨p - x, by omega⟩
  rw [Nat.add_sub_cancel_left]
  have e : d * d + (x + d) * x = x * x + (x + d) * d := by
    rw [Nat.add_mul, Nat.add_mul, Nat.mul_comm d x]; omega
  have h1 : (d * d + (x + d) * x) % (x + d) = d * d % (x + d) := Nat.add_mul_mod_self_left _ _ _
  have h2 : (x * x + (x + d) * d) % (x + d) = x * x % (x + d) := Nat.add_mul_mod_self_left _ _ _
  rw [← h1, e, h2]
theorem evn_sq {x : Nat} (hx : x < pF) : evn x * evn x % pF = x * x % pF := by
  unfold evn
  split
  · rw [Nat.zero_add, ← Nat.mul_mod]
    exact sub_sq (Nat.le_of_lt hx)
  · rfl
theorem evn_two {x : Nat} (hx : x < pF) : evn x % 2 = 0 := by
  have hp : pF % 2 = 1 := by decide
  unfold evn
  by_cases h : x % 2 = 1
  · rw [if_pos h, Nat.zero_add, Nat.mod_eq_of_lt (a := pF - x) (b := pF) (by omega)]
    generalize pF = p at *
    omega
  · rw [if_neg h]
    omega
theorem rootX_lt (k u v : Nat) : rootX k u v < pF := Nat.mod_lt _ pF_pos
/-- What is found is a root, and even. -/
theorem root_is {k u v r : Nat} (hu : u < pF) (h : rootP k u v = some r) : r * r % pF * v % pF = u ∧ r % 2 = 0 := by
  unfold rootP at h
  have hX := rootX_lt k u v
  generalize rootX k u v = X at *
  by_cases h1 : X * X % pF * v % pF = u
  · rw [if_pos h1] at h
    obtain rfl := Option.some.inj h
    exact ⟨by rw [evn_sq hX]; exact h1, evn_two hX⟩
  · rw [if_neg h1] at h
    by_cases h2 : X * X % pF * v % pF = (0 + pF - u) % pF
    · rw [if_pos h2] at h
      obtain rfl := Option.some.inj h
      have hl : X * iM % pF < pF := Nat.mod_lt _ pF_pos
      refine ⟨?_, evn_two hl⟩
      rw [evn_sq hl, times_sq iM_sq, neg_mul _ v (Nat.mod_lt _ pF_pos), h2]
      exact (neg_neg (neg_lt u) hu).2 rfl
    · rw [if_neg h2] at h
      cases h
end Go.Proofs.YteekjcfbnoakgaaDoor
namespace Go.Proofs.YteekjcfbnoakgaaDoor
open Go.RowKit
theorem encXY_encB {p : N4} {P : Fp × Fp} (hp : p.Ok) (h : Ext4 p P) : encXY (fmul p.X (finv p.Z)) (fmul p.Y (finv p.Z)) = encB P := by
  have e := enc_xy hp h
  rw [e.1, e.2]
  rfl
theorem encB_lt (P : Fp × Fp) (j : Nat) : encB P j < 256 := by
  have h := byt31_lt P.2.isLt
  have h2 := byt_lt P.2.val j
  unfold encB
  split <;> omega
theorem val_of_byt {a b : Nat} (ha : a < pF) (hb : b < pF) (h : ∀ j, j < 32 → byt a j = byt b j) : a = b := by
  have e := ofB_congr 32 h
  have hp : pF < 256 ^ 32 := by decide
  rw [ofB_byt, ofB_byt, Nat.mod_eq_of_lt (Nat.lt_trans ha hp), Nat.mod_eq_of_lt (Nat.lt_trans hb hp)] at e
  exact e
/-- Points with the same bytes are one. -/
theorem encB_inj {P Q : Fp × Fp} (hP : On dE P) (hQ : On dE Q) (h : ∀ j, j < 32 → encB P j = encB Q j) : P = Q := by
  have h31 := h 31 (by decide)
  have hl := byt31_lt P.2.isLt
  have hm := byt31_lt Q.2.isLt
  unfold encB at h31
  rw [if_pos rfl, if_pos rfl] at h31
  have hy : P.2.val = Q.2.val := val_of_byt P.2.isLt Q.2.isLt (fun j hj => by
    by_cases hj31 : j = 31
    · rw [hj31]; omega
    · have := h j hj
      unfold encB at this
      rwa [if_neg hj31, if_neg hj31] at this)
  exact enc_inj ns_dE hP hQ (Fin.ext hy) (by omega)
theorem encB_str {P Q : Fp × Fp} (hP : On dE P) (hQ : On dE Q) : strB 32 (encB P) = strB 32 (encB Q) ↔ P = Q :=
  ⟨fun h => encB_inj hP hQ ((strB_eq (encB_lt P) (encB_lt Q)).1 h).2, fun h => by rw [h]⟩
theorem sq_neg {n : Nat} [NeZero n] {x : Fin n} : (0 - x) * (0 - x) = x * x := by grind
theorem fsub_odd {x : Nat} (h0 : x ≠ 0) (hx : x < pF) (h2 : x % 2 = 0) : fsub 0 x % 2 = 1 := by
  have hp : pF % 2 = 1 := by decide
  unfold fsub
  rw [Nat.zero_add, Nat.mod_eq_of_lt (a := pF - x) (b := pF) (by omega)]
  generalize pF = p at *
  omega
/-- What is told by bytes is a point of the curve, and these are its bytes. -/
theorem dec_pt {bs : Nat → Nat} (hbs : ∀ j, bs j < 256) {p : N4} (h : decN bs = some p) : p.Ok ∧ ∃ P, Ext4 p P ∧ On dE P ∧ ∀ j, j < 32 → encB P j = bs j := by
  unfold decN at h
  have hb31 := hbs 31
  have hbyt : ∀ j, j < 32 → byt (ofB (lo6 bs) 32) j = lo6 bs j := fun j hj => byt_ofB _ (lo6_lt hbs) 32 j hj
  generalize ofB (lo6 bs) 32 = y at *
  by_cases hy : y < pF
  · rw [if_pos hy] at h
    have hlt := rootR_lt6 kP (decU y) (decV y)
    cases hr : rootR kP (decU y) (decV y) with
    | none => rw [hr] at h; cases h
    | some x =>
      rw [hr] at h hlt
      replace hlt : x < pF := hlt
      change (if bs 31 / 128 = 1 ∧ x = 0 then none else some (ofXY (if bs 31 / 128 = 1 then fsub 0 x else x) y)) = some p at h
      have hu : decU y < pF := fsub_lt _ _
      have hv : decV y < pF := fadd_lt _ _
      rw [← root_same kP_eq hu hv] at hr
      obtain ⟨hq, h2⟩ := root_is hu hr
      have e : cF x * cF x * (cF dN * (cF y * cF y) + 1) = cF y * cF y - 1 := by
        have e0 : fmul (fmul x x) (decV y) = decU y := hq
        have e1 := congrArg cF e0
        unfold decU decV at e1
        simpa only [cF_mul, cF_add, cF_sub _ 1 (by decide), cF_one] using e1
      by_cases hz : bs 31 / 128 = 1 ∧ x = 0
      · rw [if_pos hz] at h; cases h
      · rw [if_neg hz] at h
        obtain rfl := Option.some.inj h
        obtain ⟨x', hx'⟩ : ∃ x', x' = if bs 31 / 128 = 1 then fsub 0 x else x := ⟨_, rfl⟩
        rw [← hx']
        have hl' : x' < pF := by rw [hx']; split; exact fsub_lt _ _; exact hlt
        have hodd : x' % 2 = bs 31 / 128 := by
          rw [hx']
          by_cases ho : bs 31 / 128 = 1
          · rw [if_pos ho, ho]
            exact fsub_odd (fun h0 => hz ⟨ho, h0⟩) hlt h2
          · rw [if_neg ho]; omega
        have e' : cF x' * cF x' * (cF dN * (cF y * cF y) + 1) = cF y * cF y - 1 := by
          rw [← e]
          congr 1
          rw [hx']
          split
          · rw [cF_sub _ _ hlt, cF_zero, sq_neg]
          · rfl
        refine ⟨ofXY_ok hl' hy, ptXY x' y, ofXY_ext x' y, ptXY_on e', fun j hj => ?_⟩
        unfold encB
        rw [ptXY_x y hl', ptXY_y x' hy]
        have hj' := hbyt j hj
        unfold lo6 at hj'
        by_cases h31 : j = 31
        · rw [if_pos h31] at hj' ⊢
          rw [h31] at hj' ⊢
          rw [hj', hodd]
          omega
        · rw [if_neg h31] at hj' ⊢
          exact hj'
  · rw [if_neg hy] at h; cases h
/-- These limbs are this point. -/
def P4.Pt (r : P4) (P : Fp × Fp) : Prop := On dE P ∧ ∃ p : N4, r.Rep p ∧ p.Ok ∧ Ext4 p P
def baseP : Fp × Fp := ptXY xB yB
theorem rbase_pt (w : World) : Calls Tryd.prog 19 #[] w fun e w' => ∃ t : P4, e = .returned t.V ∧ t.Pt baseP ∧ Below w.heap.size w w' :=
  (rbase_any w).mono fun _ _ ⟨t, he, ht, hb⟩ => ⟨t, he, ⟨base_on, _, ht, ofXY_ok xB_lt yB_lt, ofXY_ext _ _⟩, hb⟩
theorem rplus_pt {r s : P4} {P Q : Fp × Fp} (hr : r.Pt P) (hs : s.Pt Q) {D : Nat → Int} (hD : Rw D dN) (w : World) :
    Calls Tryd.prog 25 #[r.V, s.V, rV D] w fun e w' => ∃ t : P4, e = .returned t.V ∧ t.Pt (eadd dE P Q) ∧ Below w.heap.size w w' := by
  obtain ⟨oP, p, hp, -, xp⟩ := hr
  obtain ⟨oQ, q, hq, -, xq⟩ := hs
  exact (rplus6_any hp hq hD w).mono fun _ _ ⟨t, he, ht, hb⟩ => ⟨t, he, ⟨eadd_on ns_dE oP oQ, _, ht, addN_ok _ _ _, addN_ext oP oQ xp xq⟩, hb⟩
theorem rneg_pt {r : P4} {P : Fp × Fp} (hr : r.Pt P) (w : World) :
    Calls Tryd.prog 28 #[r.V] w fun e w' => ∃ t : P4, e = .returned t.V ∧ t.Pt (eneg P) ∧ Below w.heap.size w w' := by
  obtain ⟨oP, p, hp, kp, xp⟩ := hr
  exact (rneg_any hp kp w).mono fun _ _ ⟨t, he, ht, hb⟩ => ⟨t, he, ⟨eneg_on oP, _, ht, negN_ok kp, negN_ext kp xp⟩, hb⟩
theorem rtimes_pt {r : P4} {P : Fp × Fp} (hr : r.Pt P) (v : Value) (ks : Nat → Nat) (hks : ∀ j, ks j < 256) (w : World) (hv : BytesIn w v 32 ks) :
    Calls Tryd.prog 21 #[r.V, v] w fun e w' => ∃ t : P4, e = .returned (.tuple #[t.V, .int .i64 0]) ∧ t.Pt (emul dE (ofB ks 32) P) ∧ Below w.heap.size w w' := by
  obtain ⟨oP, p, hp, kp, xp⟩ := hr
  refine (rtimes6_good hp v ks hks w hv).mono fun _ _ ⟨t, he, ht, hb⟩ => ⟨t, he, ⟨emul_on ns_dE oP _, _, ht, mulN_ok _ _ _ _, ?_⟩, hb⟩
  rw [← nB_all ks hks]
  exact mulN_ext oP xp ks 256
theorem renc_pt {r : P4} {P : Fp × Fp} (hr : r.Pt P) (w : World) :
    Calls Tryd.prog 17 #[r.V] w fun e w' => ∃ s, e = .returned s ∧ NewC w w' s 32 (encB P) ∧ Below w.heap.size w w' := by
  obtain ⟨oP, p, hp, kp, xp⟩ := hr
  rw [← encXY_encB kp xp]
  exact renc_any hp w
/-- What bytes tell. -/
theorem rdec_pt (v : Value) (bs : Nat → Nat) (hbs : ∀ j, bs j < 256) (w : World) (hv : BytesIn w v 32 bs) :
    Calls Tryd.prog 10 #[v] w fun e w' => ∃ (t : P4) (er : Int), e = .returned (.tuple #[t.V, .int .i64 er]) ∧ Below w.heap.size w w' ∧
      ((er = 30 ∧ t.Pt ezero ∧ decN bs = none) ∨ (er = 0 ∧ (decN bs).isSome = true ∧ ∃ P, t.Pt P ∧ ∀ j, j < 32 → encB P j = bs j)) :=
  (rdec_good v bs hbs w hv).mono fun _ _ ⟨t, er, he, hd, hb⟩ => ⟨t, er, he, hb, by
    rcases hd with ⟨h1, h2, h3⟩ | ⟨h1, p, h2, h3⟩
    · exact .inl ⟨h1, ⟨ezero_on dE, _, h2, zeroN_ok, zeroN_ext⟩, h3⟩
    · obtain ⟨kp, P, xp, oP, hP⟩ := dec_pt hbs h2
      exact .inr ⟨h1, by rw [h2]; rfl, P, ⟨oP, p, h3, kp, xp⟩, hP⟩⟩
end Go.Proofs.YteekjcfbnoakgaaDoor
namespace Go.Proofs.YteekjcfbnoakgaaDoor
open Go.RowKit
theorem strP_eq {P Q : Fp × Fp} (hP : On dE P) (hQ : On dE Q) : ((strB 32 (encB P)).toList == (strB 32 (encB Q)).toList) = decide (P = Q) := by
  by_cases h : P = Q
  · subst h; rw [decide_eq_true rfl]; exact beq_self_eq_true _
  · rw [decide_eq_false h, ByteArray.toList_eq, ByteArray.toList_eq]
    exact beq_false_of_ne (fun e => h ((encB_str hP hQ).1 (WideShapes.bytes_inj e)))
theorem two_rows (w : World) (A B : List Value) (t : TypeId) : RW ((w.alloc (.cells A.toArray t)).alloc (.cells B.toArray t)) w.heap.size 0 A ∧ RW ((w.alloc (.cells A.toArray t)).alloc (.cells B.toArray t)) (w.heap.size + 1) 0 B := by
  have h1 : RW (w.alloc (.cells A.toArray t)) w.heap.size 0 A := RW.fresh w _ _
  have h2 : RW ((w.alloc (.cells A.toArray t)).alloc (.cells B.toArray t)) (w.alloc (.cells A.toArray t)).heap.size 0 B := RW.fresh _ _ _
  rw [World.size_alloc] at h2
  exact ⟨h1.still ((Below.refl _ _).alloc (Nat.le_refl _) _), h2⟩
set_option maxRecDepth 20000 in
set_option maxHeartbeats 4000000 in
theorem rsame_pt {r s : P4} {P Q : Fp × Fp} (hr : r.Pt P) (hs : s.Pt Q) (w : World) :
    Calls Tryd.prog 29 #[r.V, s.V] w fun e w' => e = .returned (.bool (decide (P = Q))) ∧ Below w.heap.size w w' := by
  have hse := strP_eq hr.1 hs.1
  have cA : ∀ W, Calls Tryd.prog 17 #[.agg (q64 r.X r.Y r.Z r.T).toArray] W fun e w' => ∃ v, e = .returned v ∧ NewC W w' v 32 (encB P) ∧ Below W.heap.size W w' := fun W => renc_pt hr W
  have cB : ∀ W, Calls Tryd.prog 17 #[.agg (q64 s.X s.Y s.Z s.T).toArray] W fun e w' => ∃ v, e = .returned v ∧ NewC W w' v 32 (encB Q) ∧ Below W.heap.size W w' := fun W => renc_pt hs W
  obtain ⟨z, hz⟩ : ∃ z, z = decide (P = Q) := ⟨_, rfl⟩
  rw [← hz] at hse ⊢
  obtain ⟨bxA, bxB⟩ := two_rows w (q64 r.X r.Y r.Z r.T) (q64 s.X s.Y s.Z s.T) 38
  obtain ⟨W, hW⟩ : ∃ W, W = (w.alloc (.cells (q64 r.X r.Y r.Z r.T).toArray 38)).alloc (.cells (q64 s.X s.Y s.Z s.T).toArray 38) := ⟨_, rfl⟩
  have hw : Below w.heap.size w W := by rw [hW]; exact ((Below.refl _ _).alloc (Nat.le_refl _) _).alloc (by simp) _
  rw [← hW] at bxA bxB
  have HW := Hid.mk' hW
  rw [show r.V = .agg (q64 r.X r.Y r.Z r.T).toArray from rfl, show s.V = .agg (q64 s.X s.Y s.Z s.T).toArray from rfl]
  clear hW hz hr hs
  go_enter Tryd.func29, Tryd.ntmps29
  go_wp2
  rw [← HW.out]
  have hdrew : Below W.heap.size W W.drew := (Below.refl _ _).drew
  replace bxA := bxA.still hdrew
  replace bxB := bxB.still hdrew
  replace hw := below_next hw hdrew
  clear hdrew
  refine wp_region_noPanic ?_
  refine wp_region_held_drew (S := fun w' => Below W.drew.heap.size W.drew w') (by kernel_rfl) (Below.refl _ _) (fun hHeld => ?_)
  clear hHeld
  refine wpAnyH_take (i := 0) (oi := { dst := some 5, op := Op.load 38 (Operand.tmp 2), type := 38, pos := "ref.go:107", after := #[], guard := none }) (v := .agg (q64 r.X r.Y r.Z r.T).toArray) rfl (by kernel_rfl) (by kernel_rfl) (by kernel_rfl) (fun _ _ _ h => h) (yieldsIf_load_mid (by rfl) 38 _ rfl w.heap.size 0 rfl (q64 r.X r.Y r.Z r.T) _ (fun _ h => (bxA.still h).range) Tryd.underlying38 rfl (infoQ _ _ _ _)) (Below.refl _ _) ?_
  (try simp only [Act.put, List.setIfInBounds_toArray, List.set_cons_zero, List.set_cons_succ])
  refine wpAnyH_take (i := 3) (oi := { dst := some 8, op := Op.load 38 (Operand.tmp 3), type := 38, pos := "ref.go:107", after := #[], guard := none }) (v := .agg (q64 s.X s.Y s.Z s.T).toArray) rfl (by kernel_rfl) (by kernel_rfl) (by kernel_rfl) (fun _ _ _ h => h) (yieldsIf_load_mid (by rfl) 38 _ rfl (w.heap.size + 1) 0 rfl (q64 s.X s.Y s.Z s.T) _ (fun _ h => (bxB.still h).range) Tryd.underlying38 rfl (infoQ _ _ _ _)) (Below.refl _ _) ?_
  (try simp only [Act.put, List.setIfInBounds_toArray, List.set_cons_zero, List.set_cons_succ])
  refine wpAnyH_ready (rs := [1]) (by kernel_rfl) (by simp) ?_
  refine AllReadyH.cons (o := { dst := some 6, op := Op.call { callee := Callee.value (Operand.func 17), args := #[Operand.tmp 5], argTypes := #[38] }, type := 22, pos := "ref.go:107", after := #[{ on := 0, ground := Ground.data }], guard := none }) rfl (fun K hK => ?_) AllReadyH.nil
  go_simp
  (go_at_call 17; refine (cA _).mono ?_; clear cA; rintro e w1 ⟨v1, rfl, hn1, hb1⟩; (have t1 := Str.of (NewC.bytes hn1 (by decide)) (encB_lt _)); (obtain ⟨x1, n1, k1, rfl⟩ := t1.form); clear hn1)
  (try go_simp)
  refine hK.out _ _ hb1 (fun h => ?_)
  clear h hK K
  refine wpAnyH_narrow (S' := fun w' => Below w1.heap.size w1 w') (fun _ h => below_next hb1 h) _ _ _ _ ?_
  clear bxA
  replace bxB := bxB.still hb1
  replace hw := below_next hw hb1
  clear hb1
  (try simp only [Act.put, List.setIfInBounds_toArray, List.set_cons_zero, List.set_cons_succ])
  refine wpAnyH_take (i := 2) (oi := { dst := some 7, op := Op.convert 22 9 (Operand.tmp 6), type := 9, pos := "ref.go:107", after := #[{ on := 1, ground := Ground.data }], guard := none }) (v := ?va2) rfl (by kernel_rfl) (by kernel_rfl) (by kernel_rfl) (fun _ _ _ h => h) (Or.inl ⟨by rfl, ?ha2⟩) (Below.refl _ _) ?ra2
  case ha2 =>
    intro w hSw
    have q := t1.conv w hSw
    go_simp
    try with_reducible rfl
  (try simp only [Act.put, List.setIfInBounds_toArray, List.set_cons_zero, List.set_cons_succ])
  refine wpAnyH_ready (rs := [4]) (by kernel_rfl) (by simp) ?_
  refine AllReadyH.cons (o := { dst := some 9, op := Op.call { callee := Callee.value (Operand.func 17), args := #[Operand.tmp 8], argTypes := #[38] }, type := 22, pos := "ref.go:107", after := #[{ on := 3, ground := Ground.data }, { on := 1, ground := Ground.chain }], guard := none }) rfl (fun K hK => ?_) AllReadyH.nil
  go_simp
  (go_at_call 17; refine (cB _).mono ?_; clear cB; rintro e w2 ⟨v2, rfl, hn2, hb2⟩; (have t2 := Str.of (NewC.bytes hn2 (by decide)) (encB_lt _)); (obtain ⟨x2, n2, k2, rfl⟩ := t2.form); clear hn2)
  (try go_simp)
  refine hK.out _ _ hb2 (fun h => ?_)
  clear h hK K
  refine wpAnyH_narrow (S' := fun w' => Below w2.heap.size w2 w') (fun _ h => below_next hb2 h) _ _ _ _ ?_
  clear bxB
  replace t1 := t1.still hb2
  replace hw := below_next hw hb2
  clear hb2
  (try simp only [Act.put, List.setIfInBounds_toArray, List.set_cons_zero, List.set_cons_succ])
  refine wpAnyH_take (i := 5) (oi := { dst := some 10, op := Op.convert 22 9 (Operand.tmp 9), type := 9, pos := "ref.go:107", after := #[{ on := 4, ground := Ground.data }], guard := none }) (v := ?va5) rfl (by kernel_rfl) (by kernel_rfl) (by kernel_rfl) (fun _ _ _ h => h) (Or.inl ⟨by rfl, ?ha5⟩) (Below.refl _ _) ?ra5
  case ha5 =>
    intro w hSw
    have q := t2.conv w hSw
    go_simp
    try with_reducible rfl
  (try simp only [Act.put, List.setIfInBounds_toArray, List.set_cons_zero, List.set_cons_succ])
  refine wpAnyH_take (i := 6) (oi := { dst := some 11, op := Op.binOp BinOp.eql 9 (Operand.tmp 7) (Operand.tmp 10) 9, type := 4, pos := "ref.go:107", after := #[{ on := 2, ground := Ground.data }, { on := 5, ground := Ground.data }], guard := none }) (v := ?va6) rfl (by kernel_rfl) (by kernel_rfl) (by kernel_rfl) (fun _ _ _ h => h) (Or.inl ⟨by rfl, ?ha6⟩) (Below.refl _ _) ?ra6
  case ha6 =>
    intro w hSw
    go_simp
    try with_reducible rfl
  (try simp only [Act.put, List.setIfInBounds_toArray, List.set_cons_zero, List.set_cons_succ])
  refine wpAnyH_take (i := 7) (oi := { dst := some 4, op := Op.assign (Operand.tmp 11), type := 4, pos := "ref.go:107", after := #[{ on := 6, ground := Ground.data }, { on := 4, ground := Ground.chain }, { on := 0, ground := Ground.phase }, { on := 1, ground := Ground.phase }, { on := 2, ground := Ground.phase }, { on := 3, ground := Ground.phase }, { on := 4, ground := Ground.phase }, { on := 5, ground := Ground.phase }, { on := 6, ground := Ground.phase }], guard := none }) (v := ?va7) rfl (by kernel_rfl) (by kernel_rfl) (by kernel_rfl) (fun _ _ _ h => h) (Or.inl ⟨by rfl, ?ha7⟩) (Below.refl _ _) ?ra7
  case ha7 =>
    intro w hSw
    go_simp
    try with_reducible rfl
  (try simp only [Act.put, List.setIfInBounds_toArray, List.set_cons_zero, List.set_cons_succ])
  refine wpAnyH_done (by kernel_rfl) ?_ _
  refine NoPanic.normal ?_
  go_wp2
  go_ret
  exact ⟨rfl, hw⟩
end Go.Proofs.YteekjcfbnoakgaaDoor
namespace Go.Proofs.YteekjcfbnoakgaaDoor
open Go.RowKit
/-- The first bytes of any, zeros behind. -/
def fitB (n : Nat) (bs : Nat → Nat) (j : Nat) : Nat := if j < n then bs j else 0
theorem fitB_lt {n : Nat} {bs : Nat → Nat} (h : ∀ j, bs j < 256) (j : Nat) : fitB n bs j < 256 := by
  unfold fitB; split
  · exact h j
  · decide
theorem infoByte : (Tryd.prog.info? 5).map (·.size) = some 1 := by kernel_rfl
set_option maxRecDepth 20000 in
theorem fit_any (v : Value) (n : Nat) (bs : Nat → Nat) (w : World) (hv : BytesIn w v n bs) : Calls Tryd.prog 23 #[v] w fun e w' => ∃ s, e = .returned s ∧ NewB w w' s 32 (fitB n bs) ∧ Below w.heap.size w w' := by
  have hmk := make_bytes w 32 32 rfl (by decide)
  obtain ⟨W, hW⟩ : ∃ W, W = w.alloc (.cells (zb 32) 5) := ⟨_, rfl⟩
  have hrow : RowAt .u8 W w.heap.size 0 32 (fun _ => 0) := by rw [hW]; exact RowAt.fresh (fun j hj => zb_at 32 j hj)
  have hb : Below w.heap.size w W := by rw [hW]; exact (Below.refl _ _).alloc (Nat.le_refl _) _
  obtain ⟨xo, c, rfl, hxn, hnc, hsrc⟩ := hv.src
  have src := hsrc W hb
  have hth := hrow.there
  obtain ⟨m, hm⟩ : ∃ m, m = Nat.min n 32 := ⟨_, rfl⟩
  have hsp := hrow.splice 0 m bs (by rw [hm, Nat.zero_add]; exact Nat.min_le_right _ _)
  rw [← hW] at hmk
  have Hm := Hid.mk' hm
  clear hW hv hsrc hm
  go_enter Tryd.func23, Tryd.ntmps23
  go_wp2_with (first
    | rw [hmk]
    | (refine wpList_copy_bytes rfl _ _ 22 22 rfl 5 Tryd.underlying22 infoByte w.heap.size 0 32 32 xo n c rfl rfl m bs src Hm.out hth ?_))
  go_ret
  refine ⟨_, rfl, ⟨w.heap.size, rfl, Nat.le_refl _, ?_⟩, below_setCells (Nat.le_refl _) _ _ _ hb⟩
  refine hsp.congr (fun j hj => ?_)
  have := Hm.out
  unfold over fitB
  by_cases e : j < n
  · rw [if_pos ⟨Nat.zero_le _, by rw [Nat.zero_add, this]; exact Nat.lt_min.2 ⟨e, hj⟩⟩, if_pos e, Nat.sub_zero]
  · rw [if_neg (fun h => by have h2 := h.2; rw [Nat.zero_add, this] at h2; exact e (Nat.lt_min.1 h2).1), if_neg e]
end Go.Proofs.YteekjcfbnoakgaaDoor
namespace Go.Proofs.YteekjcfbnoakgaaDoor
open Go.RowKit
def zP : Array Value := ((List.range 16).map fun _ => Value.int .u64 0).toArray
theorem zeroP (w : World) : Sem.run Tryd.prog (zeroValue 30) w = .ok (.agg zP) w := by kernel_rfl
theorem infoPs : (Tryd.prog.info? 30).map (·.size) = some 16 := by kernel_rfl
/-- The calls, with any way to hold a point: R: these cells hold this point; G: what stays true of the world. -/
structure PointApi (G : World → Prop) (R : List Value → Fp × Fp → Prop) : Prop where
  keep : ∀ w w', G w → Below w.heap.size w w' → G w'
  len : ∀ c P, R c P → c.length = 16
  one : ∀ c P, R c P → c.toArray.all (·.oneCell') = true
  on : ∀ c P, R c P → On dE P
  base : ∀ w, G w → Calls Tryd.prog 18 #[] w fun e w' => ∃ c, e = .returned (.agg c.toArray) ∧ R c baseP ∧ Below w.heap.size w w'
  zero : ∀ w, G w → Calls Tryd.prog 15 #[] w fun e w' => ∃ c, e = .returned (.agg c.toArray) ∧ R c ezero ∧ Below w.heap.size w w'
  enc : ∀ c P w, R c P → G w → Calls Tryd.prog 16 #[.agg c.toArray] w fun e w' => ∃ s, e = .returned s ∧ NewC w w' s 32 (encB P) ∧ Below w.heap.size w w'
  plus : ∀ c P d Q w, R c P → R d Q → G w → Calls Tryd.prog 24 #[.agg c.toArray, .agg d.toArray] w fun e w' => ∃ c', e = .returned (.agg c'.toArray) ∧ R c' (eadd dE P Q) ∧ Below w.heap.size w w'
  neg : ∀ c P w, R c P → G w → Calls Tryd.prog 27 #[.agg c.toArray] w fun e w' => ∃ c', e = .returned (.agg c'.toArray) ∧ R c' (eneg P) ∧ Below w.heap.size w w'
  same : ∀ c P d Q w, R c P → R d Q → G w → Calls Tryd.prog 14 #[.agg c.toArray, .agg d.toArray] w fun e w' => e = .returned (.bool (decide (P = Q))) ∧ Below w.heap.size w w'
  times : ∀ c P v ks w, R c P → (∀ j, ks j < 256) → BytesIn w v 32 ks → G w → Calls Tryd.prog 20 #[.agg c.toArray, v] w fun e w' => ∃ c', e = .returned (.tuple #[.agg c'.toArray, .int .i64 0]) ∧ R c' (emul dE (ofB ks 32) P) ∧ Below w.heap.size w w'
  timesBad : ∀ c P v n ks w, R c P → n ≠ 32 → BytesIn w v n ks → G w → Calls Tryd.prog 20 #[.agg c.toArray, v] w fun e w' => ∃ c', e = .returned (.tuple #[.agg c'.toArray, .int .i64 1]) ∧ R c' ezero ∧ Below w.heap.size w w'
  dec : ∀ v bs w, (∀ j, bs j < 256) → BytesIn w v 32 bs → G w → Calls Tryd.prog 9 #[v] w fun e w' => ∃ (c : List Value) (er : Int), e = .returned (.tuple #[.agg c.toArray, .int .i64 er]) ∧ Below w.heap.size w w' ∧
      ((er = 30 ∧ R c ezero ∧ decN bs = none) ∨ (er = 0 ∧ (decN bs).isSome = true ∧ ∃ P, R c P ∧ ∀ j, j < 32 → encB P j = bs j))
  decBad : ∀ v n bs w, n ≠ 32 → BytesIn w v n bs → G w → Calls Tryd.prog 9 #[v] w fun e w' => ∃ c, e = .returned (.tuple #[.agg c.toArray, .int .i64 1]) ∧ R c ezero ∧ Below w.heap.size w w'
theorem freshP (w : World) : RW (w.alloc (.cells zP 30)) w.heap.size 0 ((List.range 16).map fun _ => Value.int .u64 0) := RW.fresh w _ _
theorem infoP {c : List Value} (h : c.length = 16) : (Tryd.prog.info? 30).map (·.size) = some c.length := by rw [h]; exact infoPs
theorem infoPA {c : List Value} (h : c.length = 16) : (Tryd.prog.info? 30).map (·.size) = some c.toArray.size := by rw [List.size_toArray, h]; exact infoPs
theorem num6_any (n : Int) (w : World) : Calls Tryd.prog 11 #[.int .i64 n] w fun e w' => e = .returned (.int .i64 n) ∧ w' = w := by
  go_enter Tryd.func11, Tryd.ntmps11
  go_wp2
  go_ret
  exact ⟨rfl, rfl⟩
theorem enc_base0 : encB baseP 0 = 88 ∧ encB baseP 31 = 102 := by
  unfold encB baseP
  rw [ptXY_x yB xB_lt, ptXY_y xB yB_lt]
  exact ⟨by decide, by decide⟩
theorem enc_zero0 : encB ezero 0 = 1 := by
  unfold encB ezero
  rw [if_neg (by decide)]
  decide
end Go.Proofs.YteekjcfbnoakgaaDoor
namespace Go.Proofs.YteekjcfbnoakgaaDoor
open Go.RowKit
theorem thereP {w : World} {g : Nat} {c d : List Value} (r : RW w g 0 c) (hc : c.length = 16) (hd : d.length = 16) : w.there g 0 d.toArray.size := by
  have h := r.there
  rw [hc] at h
  rw [List.size_toArray, hd]; exact h
theorem boxP (w : World) (c : List Value) (hl : c.length = 16) : ∃ V, V = (w.alloc (.cells zP 30)).setCells w.heap.size 0 c ∧ RW V w.heap.size 0 c ∧ Below w.heap.size w V ∧ (w.alloc (.cells zP 30)).there w.heap.size 0 c.toArray.size :=
  ⟨_, rfl, (freshP w).stored _ (by rw [hl]; rfl), below_setCells (Nat.le_refl _) _ _ _ ((Below.refl _ _).alloc (Nat.le_refl _) _), thereP (freshP w) rfl hl⟩
set_option maxRecDepth 20000 in
set_option maxHeartbeats 4000000 in
theorem some6 {G : World → Prop} {R : List Value → Fp × Fp → Prop} (api : PointApi G R) (v : Value) (n : Nat) (bs : Nat → Nat) (hbs : ∀ j, bs j < 256) (w : World) (hv : BytesIn w v n bs) (hG : G w) :
    Calls Tryd.prog 22 #[v] w fun e w' => ∃ c, e = .returned (.agg c.toArray) ∧ R c (emul dE (ofB (fitB n bs) 32) baseP) ∧ Below w.heap.size w w' := by
  have hz := zeroP
  have hfl := fitB_lt (n := n) hbs
  have kl := api.len
  have ko := api.one
  have kk := api.keep
  have cb := api.base
  have ct := fun c v w hR hv hG => api.times c baseP v (fitB n bs) w hR hfl hv hG
  generalize emul dE (ofB (fitB n bs) 32) baseP = pr at *
  generalize baseP = pb at *
  clear hfl api
  obtain ⟨W, g0, eW, hg0, b, h0⟩ : ∃ V g, w.alloc (.cells zP 30) = V ∧ w.heap.size = g ∧ Below w.heap.size w V ∧ RW V g 0 ((List.range 16).map fun _ => Value.int .u64 0) := ⟨_, _, rfl, rfl, (Below.refl _ _).alloc (Nat.le_refl _) _, freshP w⟩
  have HW : Hid (w.alloc (.cells zP 30) = W) := Hid.mk' eW
  have Hg : Hid (w.heap.size = g0) := Hid.mk' hg0
  have w0 : w.heap.size ≤ g0 := Nat.le_of_eq hg0
  replace hG := kk _ _ hG b
  replace hv := hv.still b
  clear eW hg0
  go_enter Tryd.func22, Tryd.ntmps22
  go_wp2_with (first
    | (go_at_call 18; rw [HW.out, Hg.out]; refine (cb _ hG).mono ?_; clear cb HW Hg; rintro e w1 ⟨c1, rfl, hc1, hb1⟩; (replace h0 := h0.still hb1); (replace b := below_next b hb1); (replace hG := kk _ _ hG hb1); (replace hv := hv.still hb1); clear hb1)
    | (go_at_call 23; refine (fit_any v n bs _ hv).mono ?_; clear hv; rintro e w2 ⟨s2, rfl, hn2, hb2⟩; (replace h0 := h0.still hb2); (replace b := below_next b hb2); (replace hG := kk _ _ hG hb2); clear hb2; (have ct3 := ct c1 s2 w2 hc1 (NewB.bytes hn2 (by decide)) hG); clear ct hn2)
    | (go_at_call 20; refine ct3.mono ?_; clear ct3 hc1; rintro e w3 ⟨c3, rfl, hc3, hb3⟩; (replace h0 := h0.still hb3); (replace b := below_next b hb3); clear hb3 hG; (have l3 := kl _ _ hc3); (have o3 := ko _ _ hc3); (obtain ⟨V3, hV3, h3, b3, t3⟩ := boxP w3 c3 l3); (have H3 := Hid.mk' hV3); clear hV3; (replace h0 := h0.still b3); (replace b := below_next b b3); clear b3; (have t0 : V3.there g0 0 c3.toArray.size := thereP h0 rfl l3))
    | (with_reducible (refine id (?_ : wpList _ _ _ _ _ _)); refine wpList_store_mid rfl 30 _ _ rfl w3.heap.size 0 c3.toArray rfl rfl t3 (infoPA l3) o3 ?_; rw [List.toList_toArray, ← H3.out]; clear t3 H3)
    | (refine wpList_load_mid rfl 30 _ rfl w3.heap.size 0 rfl c3 _ h3.range Tryd.underlying30 rfl (infoP l3) ?_)
    | (with_reducible (refine id (?_ : wpList _ _ _ _ _ _)); refine wpList_store_mid rfl 30 _ _ rfl g0 0 c3.toArray rfl rfl t0 (infoPA l3) o3 ?_))
  (try simp only [Exit.inBlock, Exit.then])
  exact bodyPost_ret (results_cell_mid Tryd.results22 _ _ g0 0 c3 _ rfl (h0.stored c3 (by rw [l3]; rfl)).range Tryd.underlying30 rfl (infoP l3)) rfl ⟨c3, rfl, hc3, below_setCells w0 _ _ _ b⟩
end Go.Proofs.YteekjcfbnoakgaaDoor
namespace Go.Proofs.YteekjcfbnoakgaaDoor
open Go.RowKit
theorem bytesNil {w : World} : BytesIn w (.slice none 0 0) 0 (fun _ => 0) := .inl ⟨none, rfl, rfl⟩
set_option maxRecDepth 20000 in
set_option maxHeartbeats 8000000 in
theorem knows6 {G : World → Prop} {R : List Value → Fp × Fp → Prop} (api : PointApi G R) (w : World) (hG : G w) :
    Calls Tryd.prog 13 #[] w fun e w' => e = .returned (.bool true) ∧ Below w.heap.size w w' := by
  have hz := zeroP
  have kl := api.len
  have ko := api.one
  have kk := api.keep
  have cb := api.base
  have cz := api.zero
  have ceb := fun c w => api.enc c baseP w
  have cez := fun c w => api.enc c ezero w
  have cd := fun w hG => api.decBad (.slice none 0 0) 0 (fun _ => 0) w (by decide) bytesNil hG
  obtain ⟨e1, e2⟩ := enc_base0
  have e3 := enc_zero0
  generalize baseP = pb at *
  generalize ezero = pz at *
  generalize encB pb = XB at *
  generalize encB pz = XZ at *
  have b := Below.refl w.heap.size w
  clear api
  go_enter Tryd.func13, Tryd.ntmps13
  go_upto_region 4 with (first
    | (go_at_call 18; refine (cb _ hG).mono ?_; clear cb; rintro e w1 ⟨c1, rfl, hc1, hb1⟩; (replace b := below_next b hb1); (replace hG := kk _ _ hG hb1); clear hb1)
    | (go_at_call 16; refine (ceb c1 _ hc1 hG).mono ?_; clear ceb hc1; rintro e w2 ⟨s2, rfl, hn2, hb2⟩; (replace b := below_next b hb2); (replace hG := kk _ _ hG hb2); clear hb2; (obtain ⟨g2, k2, rfl, hk2, hg2, hr2⟩ := hn2); clear hg2)
    | (go_at_call 15; refine (cz _ hG).mono ?_; clear cz; rintro e w3 ⟨c3, rfl, hc3, hb3⟩; (replace b := below_next b hb3); (replace hG := kk _ _ hG hb3); (replace hr2 := hr2.below hb3 (block_lt_of_cell (hr2 0 (by decide)).1)); clear hb3)
    | (go_at_call 16; refine (cez c3 _ hc3 hG).mono ?_; clear cez hc3; rintro e w4 ⟨s4, rfl, hn4, hb4⟩; (replace b := below_next b hb4); (replace hG := kk _ _ hG hb4); (replace hr2 := hr2.below hb4 (block_lt_of_cell (hr2 0 (by decide)).1)); clear hb4; (obtain ⟨g4, k4, rfl, hk4, hg4, hr4⟩ := hn4); clear hg4)
    | (go_at_call 9; refine (cd _ hG).mono ?_; clear cd; rintro e w5 ⟨c5, rfl, hc5, hb5⟩; (replace b := below_next b hb5); clear hG; (replace hr2 := hr2.below hb5 (block_lt_of_cell (hr2 0 (by decide)).1)); (replace hr4 := hr4.below hb5 (block_lt_of_cell (hr4 0 (by decide)).1)); clear hb5; (have l5 := kl _ _ hc5); (have o5 := ko _ _ hc5); (obtain ⟨V5, hV5, h5, b5, t5⟩ := boxP w5 c5 l5); (have H5 := Hid.mk' hV5); clear hV5 hc5; (replace b := below_next b b5); (replace hr2 := hr2.below b5 (block_lt_of_cell (hr2 0 (by decide)).1)); (replace hr4 := hr4.below b5 (block_lt_of_cell (hr4 0 (by decide)).1)); clear b5)
    | (with_reducible (refine id (?_ : wpList _ _ _ _ _ _)); refine wpList_store_mid rfl 30 _ _ rfl w5.heap.size 0 c5.toArray rfl rfl t5 (infoPA l5) o5 ?_; rw [List.toList_toArray, ← H5.out]; clear t5 H5))
  (try dsimp only [Act.put])
  have q0 := (hr2 0 (by decide)).1
  have q31 := (hr2 31 (by decide)).1
  have z0 := (hr4 0 (by decide)).1
  rw [Nat.zero_add, e1] at q0
  rw [Nat.zero_add, e2] at q31
  rw [Nat.zero_add, e3] at z0
  clear hr2 hr4 e1 e2 e3 h5 kl ko kk
  go_wp2_with (go_at_call 11; refine (num6_any _ _).mono ?_; rintro e wn ⟨rfl, hwn⟩; subst hwn)
  go_ret
  exact ⟨rfl, b⟩
end Go.Proofs.YteekjcfbnoakgaaDoor
namespace Go.Proofs.YteekjcfbnoakgaaDoor
open Go.RowKit
def decE (n : Nat) (bs : Nat → Nat) : Int := if n = 32 then (if (decN bs).isSome = true then 0 else 30) else 1
def DecR {α : Type} (R : α → Fp × Fp → Prop) (c : α) (n : Nat) (bs : Nat → Nat) : Prop := (decE n bs = 0 → n = 32 ∧ ∃ P, R c P ∧ ∀ j, j < 32 → encB P j = bs j) ∧ (decE n bs ≠ 0 → R c ezero)
theorem decE_bad {n : Nat} {bs : Nat → Nat} (h : n ≠ 32) : decE n bs = 1 := if_neg h
theorem decE_none {bs : Nat → Nat} (h : decN bs = none) : decE 32 bs = 30 := by unfold decE; rw [if_pos rfl, h]; rfl
theorem decE_some {bs : Nat → Nat} (h : (decN bs).isSome = true) : decE 32 bs = 0 := by unfold decE; rw [if_pos rfl, if_pos h]
theorem DecR.bad {α : Type} {R : α → Fp × Fp → Prop} {c : α} {n : Nat} {bs : Nat → Nat} (h : decE n bs ≠ 0) (hR : R c ezero) : DecR R c n bs := ⟨fun e => absurd e h, fun _ => hR⟩
theorem DecR.good {α : Type} {R : α → Fp × Fp → Prop} {c : α} {bs : Nat → Nat} (h : decE 32 bs = 0) (hR : ∃ P, R c P ∧ ∀ j, j < 32 → encB P j = bs j) : DecR R c 32 bs := ⟨fun _ => ⟨rfl, hR⟩, fun e => absurd h e⟩
theorem api_dec {G : World → Prop} {R : List Value → Fp × Fp → Prop} (api : PointApi G R) (v : Value) (n : Nat) (bs : Nat → Nat) (hbs : ∀ j, bs j < 256) (w : World) (hv : BytesIn w v n bs) (hG : G w) :
    Calls Tryd.prog 9 #[v] w fun e w' => ∃ c : List Value, e = .returned (.tuple #[.agg c.toArray, .int .i64 (decE n bs)]) ∧ DecR R c n bs ∧ Below w.heap.size w w' := by
  by_cases hn : n = 32
  · subst hn
    refine (api.dec v bs w hbs hv hG).mono fun e w' ⟨c, er, he, hb, h⟩ => ?_
    rcases h with ⟨rfl, h1, h2⟩ | ⟨rfl, h1, h2⟩
    · exact ⟨c, by rw [decE_none h2]; exact he, .bad (by rw [decE_none h2]; decide) h1, hb⟩
    · exact ⟨c, by rw [decE_some h1]; exact he, .good (decE_some h1) h2, hb⟩
  · refine (api.decBad v n bs w hn hv hG).mono fun e w' ⟨c, he, h1, hb⟩ => ⟨c, by rw [decE_bad hn]; exact he, .bad (by rw [decE_bad hn]; decide) h1, hb⟩
theorem ref_dec (v : Value) (n : Nat) (bs : Nat → Nat) (hbs : ∀ j, bs j < 256) (w : World) (hv : BytesIn w v n bs) :
    Calls Tryd.prog 10 #[v] w fun e w' => ∃ t : P4, e = .returned (.tuple #[.agg (q64 t.X t.Y t.Z t.T).toArray, .int .i64 (decE n bs)]) ∧ DecR P4.Pt t n bs ∧ Below w.heap.size w w' := by
  by_cases hn : n = 32
  · subst hn
    refine (rdec_pt v bs hbs w hv).mono fun e w' ⟨t, er, he, hb, h⟩ => ?_
    rcases h with ⟨rfl, h1, h2⟩ | ⟨rfl, h1, h2⟩
    · exact ⟨t, by rw [decE_none h2]; exact he, .bad (by rw [decE_none h2]; decide) h1, hb⟩
    · exact ⟨t, by rw [decE_some h1]; exact he, .good (decE_some h1) h2, hb⟩
  · refine (rdec_bad v n bs w hv hn).mono fun e w' ⟨t, he, h1, hb⟩ => ⟨t, by rw [decE_bad hn]; exact he, .bad (by rw [decE_bad hn]; decide) ⟨ezero_on dE, _, h1, zeroN_ok, zeroN_ext⟩, hb⟩
theorem boxQ (w : World) (t : P4) : ∃ V, V = (w.alloc (.cells zQ 38)).setCells w.heap.size 0 (q64 t.X t.Y t.Z t.T) ∧ RW V w.heap.size 0 (q64 t.X t.Y t.Z t.T) ∧ Below w.heap.size w V ∧ (w.alloc (.cells zQ 38)).there w.heap.size 0 (q64 t.X t.Y t.Z t.T).toArray.size :=
  ⟨_, rfl, (freshQ' w).stored _ (q64_same _ _ _ _ _ _ _ _), below_setCells (Nat.le_refl _) _ _ _ ((Below.refl _ _).alloc (Nat.le_refl _) _), there64 (freshQ' w)⟩
theorem lentB {W : World} {g cap n : Nat} {bs : Nat → Nat} (hr : RowAt .u8 W g 0 (n + 2) (cat n bs room)) (hc : n + 2 ≤ cap) : BytesIn W (.slice (some ⟨g, 0, none⟩) n cap) n bs :=
  .inr ⟨g, 0, cap, rfl, block_lt_of_cell (hr 0 (by omega)).1, by omega, fun j hj => by have := (hr j (by omega)).1; rwa [cat_left hj] at this⟩
/-- Lent bytes. -/
structure LentAt (w : World) (g n : Nat) (bs : Nat → Nat) : Prop where
  row : RowAt .u8 w g 0 (n + 2) (cat n bs room)
theorem LentAt.still {w w' : World} {g n : Nat} {bs : Nat → Nat} (h : LentAt w g n bs) (hb : Below w.heap.size w w') : LentAt w' g n bs := ⟨h.row.below hb (block_lt_of_cell (h.row 0 (by omega)).1)⟩
end Go.Proofs.YteekjcfbnoakgaaDoor
namespace Go.Proofs.YteekjcfbnoakgaaDoor
open Go.RowKit
theorem enc_back {P : Fp × Fp} {bs : Nat → Nat} (hbs : ∀ j, bs j < 256) (h : ∀ j, j < 32 → encB P j = bs j) : strB 32 (encB P) = strB 32 bs := (strB_eq (encB_lt P) hbs).2 ⟨rfl, h⟩
set_option maxRecDepth 20000 in
set_option maxHeartbeats 8000000 in
theorem pbytes_bad {G : World → Prop} {R : List Value → Fp × Fp → Prop} (api : PointApi G R) (v : Value) (n : Nat) (bs : Nat → Nat) (hbs : ∀ j, bs j < 256) (hn : n < 140737488355000) (w : World) (hv : BytesIn w v n bs) (hG : G w) (hE : decE n bs ≠ 0) :
    Calls Tryd.prog 3 #[v] w fun e w' => e = .returned (.bool true) ∧ Below w.heap.size w w' := by
  have hz := zeroP
  have hzq := zeroQ
  have kl := api.len
  have ko := api.one
  have kk := api.keep
  have cl := lent_any v n bs w hv hn
  have ck := fun w hG => knows6 api w hG
  have cd := fun x w hv hG => api_dec api x n bs hbs w hv hG
  have cr := fun w hv => ref_dec v n bs hbs w hv
  have cs := fun g cap w (hc : n + 2 ≤ cap) (hr : RowAt .u8 w g 0 (n + 2) (cat n bs room)) hv => stays_any g cap n v bs hbs w hn hc hr hv
  have czz := api.zero
  have css := fun c d w (hc : R c ezero) (hd : R d ezero) hG => api.same c ezero d ezero w hc hd hG
  rw [decide_eq_true (rfl : ezero = ezero)] at css
  have hdec : ∀ c, DecR R c n bs → R c ezero := fun c h => h.2 hE
  clear api
  generalize decE n bs = er at *
  go_enter Tryd.func3, Tryd.ntmps3
  go_upto_region 7 with (first
    | (go_at_call 8; refine cl.mono ?_; clear cl; rintro e w1 ⟨g1, cap1, rfl, hcap1, hg1, hr1, b⟩; (replace hv := hv.still b); (have cd1 := cd _ w1 (lentB hr1 hcap1) (kk _ _ hG b)); (have le := LentAt.mk hr1); clear cd hr1 hg1)
    | (go_at_call 9; refine cd1.mono ?_; clear cd1; rintro e w2 ⟨c2, rfl, hc2, hb2⟩; (replace hv := hv.still hb2); (replace le := le.still hb2); (replace b := below_next b hb2); clear hb2; (replace hc2 := hdec _ hc2); (have l2 := kl _ _ hc2); (have o2 := ko _ _ hc2); (obtain ⟨V2, hV2, h2, b2, t2⟩ := boxP w2 c2 l2); (have H2 := Hid.mk' hV2); clear hV2; (replace hv := hv.still b2); (replace le := le.still b2); (replace b := below_next b b2); clear b2; (have cr2 := cr V2 hv); clear cr)
    | (with_reducible (refine id (?_ : wpList _ _ _ _ _ _)); refine wpList_store_mid rfl 30 _ _ rfl w2.heap.size 0 c2.toArray rfl rfl t2 (infoPA l2) o2 ?_; rw [List.toList_toArray, ← H2.out]; clear t2 H2)
    | (go_at_call 10; refine cr2.mono ?_; clear cr2; rintro e w3 ⟨t3, rfl, hc3, hb3⟩; (replace hv := hv.still hb3); (replace le := le.still hb3); (replace h2 := h2.still hb3); (replace b := below_next b hb3); clear hb3; (obtain ⟨V3, hV3, h3, b3, u3⟩ := boxQ w3 t3); (have H3 := Hid.mk' hV3); clear hV3; (replace hv := hv.still b3); (replace le := le.still b3); (replace h2 := h2.still b3); (replace b := below_next b b3); clear b3; (have cs3 := cs g1 cap1 V3 hcap1 le.row hv); clear cs)
    | (with_reducible (refine id (?_ : wpList _ _ _ _ _ _)); refine wpList_store_mid rfl 38 _ _ rfl w3.heap.size 0 (q64 t3.X t3.Y t3.Z t3.T).toArray rfl rfl u3 (infoQA _ _ _ _) (oneQ _ _ _ _) ?_; rw [List.toList_toArray, ← H3.out]; clear u3 H3)
    | (go_at_call 11; refine (num6_any _ _).mono ?_; rintro e wn ⟨rfl, hwn⟩; subst hwn)
    | (go_at_call 12; refine cs3.mono ?_; clear cs3; rintro e w4 ⟨rfl, hb4⟩; (replace hv := hv.still hb4); (replace h2 := h2.still hb4); (replace h3 := h3.still hb4); (replace b := below_next b hb4); clear hb4 le; (have ck4 := ck w4 (kk _ _ hG b)); clear ck)
    | (go_at_call 13; refine ck4.mono ?_; clear ck4; rintro e w5 ⟨rfl, hb5⟩; (replace hv := hv.still hb5); (replace h2 := h2.still hb5); (replace h3 := h3.still hb5); (replace b := below_next b hb5); clear hb5))
  (try simp only [Act.put, List.setIfInBounds_toArray, List.set_cons_zero, List.set_cons_succ])
  have hdrew : Below w5.heap.size w5 w5.drew := (Below.refl _ _).drew
  replace h2 := h2.still hdrew
  replace b := below_next b hdrew
  clear hdrew
  refine wp_region_noPanic ?_
  refine wp_region_held_drew (S := fun w' => Below w5.drew.heap.size w5.drew w') (by kernel_rfl) (Below.refl _ _) (fun hHeld => ?_)
  clear hHeld
  refine wpAnyH_take (i := 0) (oi := { dst := some 36, op := Op.load 30 (Operand.tmp 4), type := 30, pos := "law.go:32", after := #[], guard := none }) (v := .agg c2.toArray) rfl (by kernel_rfl) (by kernel_rfl) (by kernel_rfl) (fun _ _ _ h => h) (yieldsIf_load_mid (by rfl) 30 _ rfl w2.heap.size 0 rfl (c2) _ (fun _ h => (h2.still h).range) Tryd.underlying30 rfl (infoP l2)) (Below.refl _ _) ?_
  (try simp only [Act.put, List.setIfInBounds_toArray, List.set_cons_zero, List.set_cons_succ])
  refine wpAnyH_ready (rs := [1]) (by kernel_rfl) (by simp) ?_
  refine AllReadyH.cons (o := { dst := some 37, op := Op.call { callee := Callee.value (Operand.func 15), args := #[], argTypes := #[] }, type := 30, pos := "law.go:32", after := #[], guard := none }) rfl (fun K hK => ?_) AllReadyH.nil
  go_simp
  (go_at_call 15; refine (czz _ (by first | exact kk _ _ hG b | exact kk _ _ hG (below_next b (Below.refl _ _)))).mono ?_; clear czz; rintro e w7 ⟨c7, rfl, hc7, hb7⟩)
  (try go_simp)
  refine hK.out _ _ hb7 (fun h => ?_)
  clear h hK K
  refine wpAnyH_narrow (S' := fun w' => Below w7.heap.size w7 w') (fun _ h => below_next hb7 h) _ _ _ _ ?_
  clear h2
  replace b := below_next b hb7
  clear hb7
  (try simp only [Act.put, List.setIfInBounds_toArray, List.set_cons_zero, List.set_cons_succ])
  refine wpAnyH_ready (rs := [2]) (by kernel_rfl) (by simp) ?_
  refine AllReadyH.cons (o := { dst := some 38, op := Op.call { callee := Callee.value (Operand.func 14), args := #[Operand.tmp 36, Operand.tmp 37], argTypes := #[30, 30] }, type := 4, pos := "law.go:32", after := #[{ on := 0, ground := Ground.data }, { on := 1, ground := Ground.data }, { on := 1, ground := Ground.chain }], guard := none }) rfl (fun K hK => ?_) AllReadyH.nil
  go_simp
  (go_at_call 14; refine (css c2 c7 _ hc2 hc7 (kk _ _ hG b)).mono ?_; clear css; rintro e w8 ⟨rfl, hb8⟩)
  (try go_simp)
  refine hK.out _ _ hb8 (fun h => ?_)
  clear h hK K
  refine wpAnyH_narrow (S' := fun w' => Below w8.heap.size w8 w') (fun _ h => below_next hb8 h) _ _ _ _ ?_
  replace b := below_next b hb8
  clear hb8
  (try simp only [Act.put, List.setIfInBounds_toArray, List.set_cons_zero, List.set_cons_succ])
  refine wpAnyH_take (i := 3) (oi := { dst := some 2, op := Op.assign (Operand.tmp 38), type := 4, pos := "law.go:32", after := #[{ on := 2, ground := Ground.data }, { on := 2, ground := Ground.chain }, { on := 0, ground := Ground.phase }, { on := 1, ground := Ground.phase }, { on := 2, ground := Ground.phase }], guard := none }) (v := ?va3) rfl (by kernel_rfl) (by kernel_rfl) (by kernel_rfl) (fun _ _ _ h => h) (Or.inl ⟨by rfl, ?ha3⟩) (Below.refl _ _) ?ra3
  case ha3 =>
    intro w hSw
    go_simp
    try with_reducible rfl
  (try simp only [Act.put, List.setIfInBounds_toArray, List.set_cons_zero, List.set_cons_succ])
  refine wpAnyH_done (by kernel_rfl) ?_ _
  refine NoPanic.normal ?_
  go_wp2
  go_ret
  exact ⟨rfl, b⟩
set_option maxRecDepth 20000 in
set_option maxHeartbeats 8000000 in
theorem pbytes_good {G : World → Prop} {R : List Value → Fp × Fp → Prop} (api : PointApi G R) (v : Value) (n : Nat) (bs : Nat → Nat) (hbs : ∀ j, bs j < 256) (hn : n < 140737488355000) (w : World) (hv : BytesIn w v n bs) (hG : G w) (hE : decE n bs = 0) :
    Calls Tryd.prog 3 #[v] w fun e w' => e = .returned (.bool true) ∧ Below w.heap.size w w' := by
  have hz := zeroP
  have hzq := zeroQ
  have kl := api.len
  have ko := api.one
  have kk := api.keep
  have cl := lent_any v n bs w hv hn
  have ck := fun w hG => knows6 api w hG
  have cd := fun x w hv hG => api_dec api x n bs hbs w hv hG
  have cr := fun w hv => ref_dec v n bs hbs w hv
  have cs := fun g cap w (hc : n + 2 ≤ cap) (hr : RowAt .u8 w g 0 (n + 2) (cat n bs room)) hv => stays_any g cap n v bs hbs w hn hc hr hv
  have hdec : ∀ c, DecR R c n bs → ∃ P, R c P ∧ ∀ j, j < 32 → encB P j = bs j := fun c h => (h.1 hE).2
  have hdecq : ∀ c, DecR P4.Pt c n bs → ∃ P, c.Pt P ∧ ∀ j, j < 32 → encB P j = bs j := fun c h => (h.1 hE).2
  have hse : ((strB n bs).toList == (strB n bs).toList) = true := beq_self_eq_true _
  have h32 : n = 32 := by
    by_cases h : n = 32
    · exact h
    · rw [decE_bad h] at hE; cases hE
  have ee : ∀ P, (∀ j, j < 32 → encB P j = bs j) → strB 32 (encB P) = strB n bs := fun P h => by rw [h32]; exact enc_back hbs h
  rw [hE] at cd cr
  clear hE h32
  go_enter Tryd.func3, Tryd.ntmps3
  go_upto_region 8 with (first
    | (go_at_call 8; refine cl.mono ?_; clear cl; rintro e w1 ⟨g1, cap1, rfl, hcap1, hg1, hr1, b⟩; (replace hv := hv.still b); (have cd1 := cd _ w1 (lentB hr1 hcap1) (kk _ _ hG b)); (have le := LentAt.mk hr1); clear cd hr1 hg1)
    | (go_at_call 9; refine cd1.mono ?_; clear cd1; rintro e w2 ⟨c2, rfl, hc2, hb2⟩; (replace hv := hv.still hb2); (replace le := le.still hb2); (replace b := below_next b hb2); clear hb2; (replace hc2 := hdec _ hc2); (obtain ⟨P2, hc2, e2⟩ := hc2); (have l2 := kl _ _ hc2); (have o2 := ko _ _ hc2); (obtain ⟨V2, hV2, h2, b2, t2⟩ := boxP w2 c2 l2); (have H2 := Hid.mk' hV2); clear hV2; (replace hv := hv.still b2); (replace le := le.still b2); (replace b := below_next b b2); clear b2; (have cr2 := cr V2 hv); clear cr)
    | (with_reducible (refine id (?_ : wpList _ _ _ _ _ _)); refine wpList_store_mid rfl 30 _ _ rfl w2.heap.size 0 c2.toArray rfl rfl t2 (infoPA l2) o2 ?_; rw [List.toList_toArray, ← H2.out]; clear t2 H2)
    | (go_at_call 10; refine cr2.mono ?_; clear cr2; rintro e w3 ⟨t3, rfl, hc3, hb3⟩; (replace hv := hv.still hb3); (replace le := le.still hb3); (replace h2 := h2.still hb3); (replace b := below_next b hb3); clear hb3; (obtain ⟨V3, hV3, h3, b3, u3⟩ := boxQ w3 t3); (have H3 := Hid.mk' hV3); clear hV3; (replace hv := hv.still b3); (replace le := le.still b3); (replace h2 := h2.still b3); (replace b := below_next b b3); clear b3; (have cs3 := cs g1 cap1 V3 hcap1 le.row hv); clear cs)
    | (with_reducible (refine id (?_ : wpList _ _ _ _ _ _)); refine wpList_store_mid rfl 38 _ _ rfl w3.heap.size 0 (q64 t3.X t3.Y t3.Z t3.T).toArray rfl rfl u3 (infoQA _ _ _ _) (oneQ _ _ _ _) ?_; rw [List.toList_toArray, ← H3.out]; clear u3 H3)
    | (go_at_call 11; refine (num6_any _ _).mono ?_; rintro e wn ⟨rfl, hwn⟩; subst hwn)
    | (go_at_call 12; refine cs3.mono ?_; clear cs3; rintro e w4 ⟨rfl, hb4⟩; (replace hv := hv.still hb4); (replace h2 := h2.still hb4); (replace h3 := h3.still hb4); (replace b := below_next b hb4); clear hb4 le; (have ck4 := ck w4 (kk _ _ hG b)); clear ck)
    | (go_at_call 13; refine ck4.mono ?_; clear ck4; rintro e w5 ⟨rfl, hb5⟩; (replace hv := hv.still hb5); (replace h2 := h2.still hb5); (replace h3 := h3.still hb5); (replace b := below_next b hb5); clear hb5))
  (try simp only [Act.put, List.setIfInBounds_toArray, List.set_cons_zero, List.set_cons_succ])
  obtain ⟨Q3, hq3, e3⟩ := hdecq _ hc3
  have ce := fun w hG => api.enc c2 P2 w hc2 hG
  have cq : ∀ W, Calls Tryd.prog 17 #[.agg (q64 t3.X t3.Y t3.Z t3.T).toArray] W fun e w' => ∃ v, e = .returned v ∧ NewC W w' v 32 (encB Q3) ∧ Below W.heap.size W w' := fun W => renc_pt hq3 W
  have eP := ee _ e2
  have eQ := ee _ e3
  have tb := Str.of hv hbs
  obtain ⟨xb, nb, kb, rfl⟩ := tb.form
  clear api hdec hdecq ee e2 e3 hc3
  generalize strB n bs = S at *
  have hdrew : Below w5.heap.size w5 w5.drew := (Below.refl _ _).drew
  replace h2 := h2.still hdrew
  replace h3 := h3.still hdrew
  replace tb := tb.still hdrew
  replace b := below_next b hdrew
  clear hdrew
  refine wp_region_noPanic ?_
  refine wp_region_held_drew (S := fun w' => Below w5.drew.heap.size w5.drew w') (by kernel_rfl) (Below.refl _ _) (fun hHeld => ?_)
  clear hHeld
  refine wpAnyH_take (i := 0) (oi := { dst := some 39, op := Op.load 30 (Operand.tmp 4), type := 30, pos := "law.go:34", after := #[], guard := none }) (v := .agg c2.toArray) rfl (by kernel_rfl) (by kernel_rfl) (by kernel_rfl) (fun _ _ _ h => h) (yieldsIf_load_mid (by rfl) 30 _ rfl w2.heap.size 0 rfl (c2) _ (fun _ h => (h2.still h).range) Tryd.underlying30 rfl (infoP l2)) (Below.refl _ _) ?_
  (try simp only [Act.put, List.setIfInBounds_toArray, List.set_cons_zero, List.set_cons_succ])
  refine wpAnyH_take (i := 3) (oi := { dst := some 42, op := Op.move (Operand.tmp 0), type := 22, pos := "law.go:34", after := #[], guard := none }) (v := ?vb3) rfl (by kernel_rfl) (by kernel_rfl) (by kernel_rfl) (fun _ _ _ h => h) (Or.inl ⟨by rfl, ?hb3⟩) (Below.refl _ _) ?rb3
  case hb3 =>
    intro w hSw
    go_simp
    try with_reducible rfl
  (try simp only [Act.put, List.setIfInBounds_toArray, List.set_cons_zero, List.set_cons_succ])
  refine wpAnyH_take (i := 4) (oi := { dst := some 43, op := Op.convert 22 9 (Operand.tmp 42), type := 9, pos := "law.go:34", after := #[{ on := 3, ground := Ground.data }], guard := none }) (v := ?vb4) rfl (by kernel_rfl) (by kernel_rfl) (by kernel_rfl) (fun _ _ _ h => h) (Or.inl ⟨by rfl, ?hb4⟩) (Below.refl _ _) ?rb4
  case hb4 =>
    intro w hSw
    have q := tb.conv w hSw
    go_simp
    try with_reducible rfl
  (try simp only [Act.put, List.setIfInBounds_toArray, List.set_cons_zero, List.set_cons_succ])
  refine wpAnyH_ready (rs := [1]) (by kernel_rfl) (by simp) ?_
  refine AllReadyH.cons (o := { dst := some 40, op := Op.call { callee := Callee.value (Operand.func 16), args := #[Operand.tmp 39], argTypes := #[30] }, type := 22, pos := "law.go:34", after := #[{ on := 0, ground := Ground.data }], guard := none }) rfl (fun K hK => ?_) AllReadyH.nil
  go_simp
  (go_at_call 16; refine (ce _ (kk _ _ hG b)).mono ?_; clear ce; rintro e w6 ⟨v6, rfl, hn6, hb6⟩; (have t6 := Str.of (NewC.bytes hn6 (by decide)) (encB_lt _)); (obtain ⟨x6, n6, k6, rfl⟩ := t6.form); rw [eP] at t6; clear hn6)
  (try go_simp)
  refine hK.out _ _ hb6 (fun h => ?_)
  clear h hK K
  refine wpAnyH_narrow (S' := fun w' => Below w6.heap.size w6 w') (fun _ h => below_next hb6 h) _ _ _ _ ?_
  clear h2
  replace h3 := h3.still hb6
  replace tb := tb.still hb6
  replace b := below_next b hb6
  clear hb6
  (try simp only [Act.put, List.setIfInBounds_toArray, List.set_cons_zero, List.set_cons_succ])
  refine wpAnyH_take (i := 2) (oi := { dst := some 41, op := Op.convert 22 9 (Operand.tmp 40), type := 9, pos := "law.go:34", after := #[{ on := 1, ground := Ground.data }], guard := none }) (v := ?vb2) rfl (by kernel_rfl) (by kernel_rfl) (by kernel_rfl) (fun _ _ _ h => h) (Or.inl ⟨by rfl, ?hb2⟩) (Below.refl _ _) ?rb2
  case hb2 =>
    intro w hSw
    have q := t6.conv w hSw
    go_simp
    try with_reducible rfl
  (try simp only [Act.put, List.setIfInBounds_toArray, List.set_cons_zero, List.set_cons_succ])
  refine wpAnyH_take (i := 5) (oi := { dst := some 44, op := Op.binOp BinOp.eql 9 (Operand.tmp 41) (Operand.tmp 43) 9, type := 4, pos := "law.go:34", after := #[{ on := 2, ground := Ground.data }, { on := 4, ground := Ground.data }], guard := none }) (v := ?vb5) rfl (by kernel_rfl) (by kernel_rfl) (by kernel_rfl) (fun _ _ _ h => h) (Or.inl ⟨by rfl, ?hb5⟩) (Below.refl _ _) ?rb5
  case hb5 =>
    intro w hSw
    go_simp
    try with_reducible rfl
  (try simp only [Act.put, List.setIfInBounds_toArray, List.set_cons_zero, List.set_cons_succ])
  refine wpAnyH_take (i := 6) (oi := { dst := some 45, op := Op.move (Operand.tmp 44), type := 4, pos := "law.go:34", after := #[{ on := 5, ground := Ground.data }, { on := 1, ground := Ground.chain }], guard := none }) (v := ?vb6) rfl (by kernel_rfl) (by kernel_rfl) (by kernel_rfl) (fun _ _ _ h => h) (Or.inl ⟨by rfl, ?hb6⟩) (Below.refl _ _) ?rb6
  case hb6 =>
    intro w hSw
    go_simp
    try with_reducible rfl
  (try simp only [Act.put, List.setIfInBounds_toArray, List.set_cons_zero, List.set_cons_succ])
  refine wpAnyH_take (i := 7) (oi := { dst := some 46, op := Op.load 38 (Operand.tmp 6), type := 38, pos := "law.go:34", after := #[{ on := 6, ground := Ground.guard }], guard := some (6, true) }) (v := .agg (q64 t3.X t3.Y t3.Z t3.T).toArray) rfl (by kernel_rfl) (by kernel_rfl) (by kernel_rfl) (fun _ _ _ h => h) (yieldsIf_load_mid (by rfl) 38 _ rfl w3.heap.size 0 rfl (q64 t3.X t3.Y t3.Z t3.T) _ (fun _ h => (h3.still h).range) Tryd.underlying38 rfl (infoQ _ _ _ _)) (Below.refl _ _) ?_
  (try simp only [Act.put, List.setIfInBounds_toArray, List.set_cons_zero, List.set_cons_succ])
  refine wpAnyH_take (i := 10) (oi := { dst := some 49, op := Op.move (Operand.tmp 0), type := 22, pos := "law.go:34", after := #[{ on := 6, ground := Ground.guard }], guard := some (6, true) }) (v := ?vb10) rfl (by kernel_rfl) (by kernel_rfl) (by kernel_rfl) (fun _ _ _ h => h) (Or.inl ⟨by rfl, ?hb10⟩) (Below.refl _ _) ?rb10
  case hb10 =>
    intro w hSw
    go_simp
    try with_reducible rfl
  (try simp only [Act.put, List.setIfInBounds_toArray, List.set_cons_zero, List.set_cons_succ])
  refine wpAnyH_take (i := 11) (oi := { dst := some 50, op := Op.convert 22 9 (Operand.tmp 49), type := 9, pos := "law.go:34", after := #[{ on := 10, ground := Ground.data }, { on := 6, ground := Ground.guard }], guard := some (6, true) }) (v := ?vb11) rfl (by kernel_rfl) (by kernel_rfl) (by kernel_rfl) (fun _ _ _ h => h) (Or.inl ⟨by rfl, ?hb11⟩) (Below.refl _ _) ?rb11
  case hb11 =>
    intro w hSw
    have q := tb.conv w hSw
    go_simp
    try with_reducible rfl
  (try simp only [Act.put, List.setIfInBounds_toArray, List.set_cons_zero, List.set_cons_succ])
  refine wpAnyH_ready (rs := [8]) (by kernel_rfl) (by simp) ?_
  refine AllReadyH.cons (o := { dst := some 47, op := Op.call { callee := Callee.value (Operand.func 17), args := #[Operand.tmp 46], argTypes := #[38] }, type := 22, pos := "law.go:34", after := #[{ on := 7, ground := Ground.data }, { on := 6, ground := Ground.chain }, { on := 6, ground := Ground.guard }], guard := some (6, true) }) rfl (fun K hK => ?_) AllReadyH.nil
  go_simp
  (go_at_call 17; refine (cq _).mono ?_; clear cq; rintro e w7 ⟨v7, rfl, hn7, hb7⟩; (have t7 := Str.of (NewC.bytes hn7 (by decide)) (encB_lt _)); (obtain ⟨x7, n7, k7, rfl⟩ := t7.form); rw [eQ] at t7; clear hn7)
  (try go_simp)
  refine hK.out _ _ hb7 (fun h => ?_)
  clear h hK K
  refine wpAnyH_narrow (S' := fun w' => Below w7.heap.size w7 w') (fun _ h => below_next hb7 h) _ _ _ _ ?_
  clear h3
  replace tb := tb.still hb7
  replace t6 := t6.still hb7
  replace b := below_next b hb7
  clear hb7
  (try simp only [Act.put, List.setIfInBounds_toArray, List.set_cons_zero, List.set_cons_succ])
  refine wpAnyH_take (i := 9) (oi := { dst := some 48, op := Op.convert 22 9 (Operand.tmp 47), type := 9, pos := "law.go:34", after := #[{ on := 8, ground := Ground.data }, { on := 6, ground := Ground.guard }], guard := some (6, true) }) (v := ?vb9) rfl (by kernel_rfl) (by kernel_rfl) (by kernel_rfl) (fun _ _ _ h => h) (Or.inl ⟨by rfl, ?hb9⟩) (Below.refl _ _) ?rb9
  case hb9 =>
    intro w hSw
    have q := t7.conv w hSw
    go_simp
    try with_reducible rfl
  (try simp only [Act.put, List.setIfInBounds_toArray, List.set_cons_zero, List.set_cons_succ])
  refine wpAnyH_take (i := 12) (oi := { dst := some 51, op := Op.binOp BinOp.eql 9 (Operand.tmp 48) (Operand.tmp 50) 9, type := 4, pos := "law.go:34", after := #[{ on := 9, ground := Ground.data }, { on := 11, ground := Ground.data }, { on := 6, ground := Ground.guard }], guard := some (6, true) }) (v := ?vb12) rfl (by kernel_rfl) (by kernel_rfl) (by kernel_rfl) (fun _ _ _ h => h) (Or.inl ⟨by rfl, ?hb12⟩) (Below.refl _ _) ?rb12
  case hb12 =>
    intro w hSw
    go_simp
    try with_reducible rfl
  (try simp only [Act.put, List.setIfInBounds_toArray, List.set_cons_zero, List.set_cons_succ])
  refine wpAnyH_take (i := 13) (oi := { dst := some 52, op := Op.pick (Operand.tmp 45) (Operand.tmp 51) (Operand.const (Value.bool false)), type := 4, pos := "law.go:34", after := #[{ on := 6, ground := Ground.data }, { on := 12, ground := Ground.data }], guard := none }) (v := ?vb13) rfl (by kernel_rfl) (by kernel_rfl) (by kernel_rfl) (fun _ _ _ h => h) (Or.inl ⟨by rfl, ?hb13⟩) (Below.refl _ _) ?rb13
  case hb13 =>
    intro w hSw
    go_simp
    try with_reducible rfl
  (try simp only [Act.put, List.setIfInBounds_toArray, List.set_cons_zero, List.set_cons_succ])
  refine wpAnyH_take (i := 14) (oi := { dst := some 2, op := Op.assign (Operand.tmp 52), type := 4, pos := "law.go:34", after := #[{ on := 13, ground := Ground.data }, { on := 8, ground := Ground.chain }, { on := 0, ground := Ground.phase }, { on := 1, ground := Ground.phase }, { on := 2, ground := Ground.phase }, { on := 3, ground := Ground.phase }, { on := 4, ground := Ground.phase }, { on := 5, ground := Ground.phase }, { on := 6, ground := Ground.phase }, { on := 7, ground := Ground.phase }, { on := 8, ground := Ground.phase }, { on := 9, ground := Ground.phase }, { on := 10, ground := Ground.phase }, { on := 11, ground := Ground.phase }, { on := 12, ground := Ground.phase }, { on := 13, ground := Ground.phase }], guard := none }) (v := ?vb14) rfl (by kernel_rfl) (by kernel_rfl) (by kernel_rfl) (fun _ _ _ h => h) (Or.inl ⟨by rfl, ?hb14⟩) (Below.refl _ _) ?rb14
  case hb14 =>
    intro w hSw
    go_simp
    try with_reducible rfl
  (try simp only [Act.put, List.setIfInBounds_toArray, List.set_cons_zero, List.set_cons_succ])
  refine wpAnyH_done (by kernel_rfl) ?_ _
  refine NoPanic.normal ?_
  go_wp2
  go_ret
  exact ⟨rfl, b⟩
theorem pbytes6 {G : World → Prop} {R : List Value → Fp × Fp → Prop} (api : PointApi G R) (v : Value) (n : Nat) (bs : Nat → Nat) (hbs : ∀ j, bs j < 256) (hn : n < 140737488355000) (w : World) (hv : BytesIn w v n bs) (hG : G w) :
    Calls Tryd.prog 3 #[v] w fun e w' => e = .returned (.bool true) ∧ Below w.heap.size w w' := by
  by_cases h : decE n bs = 0
  · exact pbytes_good api v n bs hbs hn w hv hG h
  · exact pbytes_bad api v n bs hbs hn w hv hG h
end Go.Proofs.YteekjcfbnoakgaaDoor
namespace Go.Proofs.YteekjcfbnoakgaaDoor
open Go.RowKit
/-- A point's cells. -/
def p16 (x y z t : Nat) : List Value := c4 x ++ (c4 y ++ (c4 z ++ c4 t))
def pV (x y z t : Nat) : Value := .agg (p16 x y z t).toArray
theorem p16_len (x y z t : Nat) : (p16 x y z t).length = 16 := rfl
theorem p16_same (x y z t x' y' z' t' : Nat) : (p16 x y z t).length = (p16 x' y' z' t').length := rfl
theorem zP_16 : zP = (p16 0 0 0 0).toArray := by kernel_rfl
theorem fresh16 (w : World) : ∃ w' g, w.alloc (.cells zP 30) = w' ∧ w.heap.size = g ∧ Below w.heap.size w w' ∧ RW w' g 0 (p16 0 0 0 0) := by
  refine ⟨_, _, rfl, rfl, (Below.refl _ _).alloc (Nat.le_refl _) _, ?_⟩
  rw [zP_16]; exact RW.fresh w _ _
theorem info16 (x y z t : Nat) : (Tryd.prog.info? 30).map (·.size) = some (p16 x y z t).length := infoPs
theorem info16A (x y z t : Nat) : (Tryd.prog.info? 30).map (·.size) = some (p16 x y z t).toArray.size := infoPs
theorem one16 (x y z t : Nat) : (p16 x y z t).toArray.all (·.oneCell') = true := by simp [p16, c4, Value.oneCell']
theorem thr16 {w : World} {g x y z t : Nat} (r : RW w g 0 (p16 x y z t)) (x' y' z' t' : Nat) : w.there g 0 (p16 x' y' z' t').toArray.size := r.there
theorem parts16 {w : World} {g x y z t : Nat} (r : RW w g 0 (p16 x y z t)) : RW w g 0 (c4 x) ∧ RW w g 4 (c4 y) ∧ RW w g 8 (c4 z) ∧ RW w g 12 (c4 t) :=
  ⟨RW.left r, RW.left (RW.right r), RW.left (RW.right (RW.right r)), RW.right (RW.right (RW.right r))⟩
theorem builtP4 (x y z t : Nat) : Tryd.prog.built 30 [(0, numV x), (1, numV y), (2, numV z), (3, numV t)] = some (p16 x y z t).toArray := by kernel_rfl
theorem builtP0 : Tryd.prog.built 30 [] = some (p16 0 0 0 0).toArray := by kernel_rfl
theorem eq_num_at (w : World) (d : Nat) {a b : Nat} (ha : a < pF) (hb : b < pF) : (Op.equalIn (d + 3) 28 (numV a) (numV b)).run Tryd.prog w = .ok (decide (a = b)) w := by
  unfold numV
  rw [show d + 3 = (d + 2) + 1 from rfl, run_equalIn_agg w (d + 2) 28 _ _ (by kernel_rfl) (by kernel_rfl)]
  simp only [Program.fieldsOf, Tryd.underlying28, Op.eqFields]
  rw [if_pos (by decide)]
  simp only [Sem.run_bind]
  rw [part_num]
  simp only [Result.andThen_ok]
  rw [part_num]
  simp only [Result.andThen_ok]
  rw [run_eq4 w d 26 24 .u64 (by kernel_rfl) (by kernel_rfl) (by kernel_rfl)]
  simp only [Result.andThen_ok]
  by_cases h : a = b
  · subst h
    simp
  · have hn : ((lw a 0 : Int) == (lw b 0 : Int) && (lw a 1 : Int) == (lw b 1 : Int) && (lw a 2 : Int) == (lw b 2 : Int) && (lw a 3 : Int) == (lw b 3 : Int)) = false := by
      rcases Bool.eq_false_or_eq_true ((lw a 0 : Int) == (lw b 0 : Int) && (lw a 1 : Int) == (lw b 1 : Int) && (lw a 2 : Int) == (lw b 2 : Int) && (lw a 3 : Int) == (lw b 3 : Int)) with e | e
      · exfalso
        simp only [Bool.and_eq_true, beq_iff_eq] at e
        exact h (lw_inj ha hb (by omega) (by omega) (by omega) (by omega))
      · exact e
    rw [hn, decide_eq_false h]
    simp
theorem part_p0 (w : World) (x y z t : Nat) : (part 28 (p16 x y z t).toArray 0).run Tryd.prog w = .ok (numV x) w := by kernel_rfl
theorem part_p1 (w : World) (x y z t : Nat) : (part 28 (p16 x y z t).toArray 4).run Tryd.prog w = .ok (numV y) w := by kernel_rfl
theorem part_p2 (w : World) (x y z t : Nat) : (part 28 (p16 x y z t).toArray 8).run Tryd.prog w = .ok (numV z) w := by kernel_rfl
theorem part_p3 (w : World) (x y z t : Nat) : (part 28 (p16 x y z t).toArray 12).run Tryd.prog w = .ok (numV t) w := by kernel_rfl
theorem eq_pt (w : World) {p q : N4} (hp : p.Ok) (hq : q.Ok) : (Op.equalIn 10000 30 (pV p.X p.Y p.Z p.T) (pV q.X q.Y q.Z q.T)).run Tryd.prog w = .ok (decide (p.X = q.X) && decide (p.Y = q.Y) && decide (p.Z = q.Z) && decide (p.T = q.T)) w := by
  unfold pV
  rw [show (10000 : Nat) = 9999 + 1 from rfl, run_equalIn_agg w 9999 30 _ _ (by kernel_rfl) (by kernel_rfl)]
  simp only [Program.fieldsOf, Tryd.underlying30, Op.eqFields]
  rw [show (9999 : Nat) = 9996 + 3 from rfl]
  simp only [Sem.run_bind, Sem.run_ite, part_p0, part_p1, part_p2, part_p3, Result.andThen_ok, eq_num_at w 9996 hp.X hq.X, eq_num_at w 9996 hp.Y hq.Y, eq_num_at w 9996 hp.Z hq.Z, eq_num_at w 9996 hp.T hq.T]
  cases h0 : decide (p.X = q.X) <;> cases h1 : decide (p.Y = q.Y) <;> cases h2 : decide (p.Z = q.Z) <;> cases h3 : decide (p.T = q.T) <;> simp
theorem exec_eqp (w : World) {p q : N4} (hp : p.Ok) (hq : q.Ok) (x y : Operand) : (do eqGuard .eql 30 x y (pV p.X p.Y p.Z p.T) (pV q.X q.Y q.Z q.T); binOp .eql 30 (pV p.X p.Y p.Z p.T) (pV q.X q.Y q.Z q.T) : Sem Value).run Tryd.prog w = .ok (.bool (decide (p.X = q.X) && decide (p.Y = q.Y) && decide (p.Z = q.Z) && decide (p.T = q.T))) w := by
  rw [Sem.run_bind, show (eqGuard .eql 30 x y (pV p.X p.Y p.Z p.T) (pV q.X q.Y q.Z q.T)).run Tryd.prog w = .ok () w from run_eqGuard_agg w .eql 30 x y _ _ (by kernel_rfl)]
  simp only [Result.andThen_ok]
  rw [show (binOp .eql 30 (pV p.X p.Y p.Z p.T) (pV q.X q.Y q.Z q.T)).run Tryd.prog w = ((Op.equalIn 10000 30 (pV p.X p.Y p.Z p.T) (pV q.X q.Y q.Z q.T)).run Tryd.prog w).andThen fun b w' => .ok (.bool b) w' from run_eql_struct w 30 _ _, eq_pt w hp hq]
  rfl
/-- A point and the zero one. -/
theorem wpList_eqp {ops : Array Oper} {rest : List Oper} {op : Oper} {a : Act} {w : World} {Q : Exit → Act → World → Prop} (hgd : op.guard = none) (x y : Operand) (t2 : TypeId) (ho : op.op = .binOp .eql 30 x y t2) (p : N4) (hp : p.Ok)
    (hx : a.eval x = .agg (p16 p.X p.Y p.Z p.T).toArray) (hy : a.eval y = .agg (p16 0 0 0 0).toArray) (z : Bool) (hz : (decide (p.X = 0) && decide (p.Y = 0) && decide (p.Z = 0) && decide (p.T = 0)) = z) (h : wpList Tryd.prog ops Q rest (a.put op.dst (.bool z)) w) : wpList Tryd.prog ops Q (op :: rest) a w :=
  wpList_plain hgd fun K hK => by
    have e := exec_eqp w hp (q := ⟨0, 0, 0, 0⟩) ⟨by decide, by decide, by decide, by decide⟩ x y
    unfold pV at e
    unfold Oper.wp execOp
    simp only [ho, hx, hy]
    rw [Sem.run_bind, e, hz]
    exact hK _ _ h
end Go.Proofs.YteekjcfbnoakgaaDoor
namespace Go.Proofs.YteekjcfbnoakgaaDoor
open Go.RowKit
set_option maxRecDepth 20000 in
set_option maxHeartbeats 4000000 in
theorem pnumber_any (v : Value) (n : Nat) (bs : Nat → Nat) (hbs : ∀ j, bs j < 256) (w : World) (hv : BytesIn w v n bs) :
    Calls Tryd.prog 33 #[v] w fun e w' => e = .returned (numV (fromN n bs)) ∧ Below w.heap.size w w' := by
  have cf : ∀ W, BytesIn W v n bs → Calls Tryd.prog 62 #[v] W fun e w' => e = .returned (.tuple #[.agg (c4 (fromN n bs)).toArray, .int .i64 (fromE n)]) ∧ Below W.heap.size W w' := fun W h => from_any v n bs hbs W h
  rw [show numV (fromN n bs) = .agg (c4 (fromN n bs)).toArray from rfl]
  generalize fromN n bs = m at *
  obtain ⟨W, g, eW, hg, b, h0⟩ := fresh4 w
  replace hv := hv.still b
  have HW : Hid (w.alloc (.cells #[.int .u64 0, .int .u64 0, .int .u64 0, .int .u64 0] 28) = W) := Hid.mk' eW
  have Hg : Hid (w.heap.size = g) := Hid.mk' hg
  have wg : w.heap.size ≤ g := Nat.le_of_eq hg
  clear eW hg
  go_enter Tryd.func33, Tryd.ntmps33
  go_wp2_with (first
    | (go_at_call 62; rw [HW.out, Hg.out]; refine (cf _ hv).mono ?_; clear cf HW Hg; rintro e w1 ⟨rfl, hb1⟩; (have l0 := h0.lt); (replace h0 := h0.still hb1); (replace b := below_next b hb1); (have n01 : g ≠ w1.heap.size := Nat.ne_of_lt (Nat.lt_of_lt_of_le l0 hb1.size)); clear hb1 l0 hv; (have z1 := fresh4' w1); (have t1 := fresh4t w1 m); (obtain ⟨V1, hV1⟩ : ∃ V, V = (w1.alloc (.cells #[.int .u64 0, .int .u64 0, .int .u64 0, .int .u64 0] 28)).setCells w1.heap.size 0 (c4 m) := ⟨_, rfl⟩); (have h1 : RW V1 w1.heap.size 0 (c4 m) := by rw [hV1]; exact z1.stored (c4 m) rfl); (have b1 : Below w1.heap.size w1 V1 := by rw [hV1]; exact below_setCells (Nat.le_refl _) _ _ _ ((Below.refl _ _).alloc (Nat.le_refl _) _)); (have H1 := Hid.mk' hV1); clear hV1 z1; (replace h0 := h0.still b1); (replace b := below_next b b1); clear b1; (have t0 : V1.there g 0 (c4 m).toArray.size := h0.there))
    | (with_reducible (refine id (?_ : wpList _ _ _ _ _ _)); refine wpList_store_mid rfl 28 _ _ rfl w1.heap.size 0 (c4 m).toArray rfl rfl t1 (info4a m) (one4 m) ?_; rw [List.toList_toArray, ← H1.out]; clear t1 H1)
    | (refine wpList_load_mid rfl 28 _ rfl w1.heap.size 0 rfl (c4 m) _ h1.range Tryd.underlying28 rfl info4 ?_)
    | (with_reducible (refine id (?_ : wpList _ _ _ _ _ _)); refine wpList_store_mid rfl 28 _ _ rfl g 0 (c4 m).toArray rfl rfl t0 (info4a m) (one4 m) ?_))
  (try simp only [Exit.inBlock, Exit.then])
  exact bodyPost_ret (results_cell_mid Tryd.results33 _ _ g 0 (c4 m) _ rfl (h0.stored (c4 m) rfl).range Tryd.underlying28 rfl info4) rfl ⟨rfl, below_setCells wg _ _ _ b⟩
end Go.Proofs.YteekjcfbnoakgaaDoor
namespace Go.Proofs.YteekjcfbnoakgaaDoor
open Go.RowKit
theorem row_bytes (w : World) (L : List Nat) (hL : L.length = 32) : BytesIn (w.alloc (.cells (L.map fun (b : Nat) => Value.int .u8 (b : Int)).toArray 5)) (.slice (some ⟨w.heap.size, 0, none⟩) 32 32) 32 (fun j => L.getD j 0) := by
  refine .inr ⟨w.heap.size, 0, 32, rfl, by simp, Nat.le_refl _, fun j hj => ?_⟩
  have hr := (RW.fresh w (L.map fun (b : Nat) => Value.int .u8 (b : Int)) 5).range
  have h := hr j (Value.int .u8 ((L.getD j 0 : Nat) : Int)) (by
    rw [List.getElem?_map, List.getElem?_eq_getElem (by omega)]
    simp [List.getD, List.getElem?_eq_getElem (show j < L.length by omega)])
  exact h
def curveDL : List Nat := [163, 120, 89, 19, 202, 77, 235, 117, 171, 216, 65, 65, 77, 10, 112, 0, 152, 232, 121, 119, 121, 64, 199, 140, 115, 254, 111, 43, 238, 108, 3, 82]
theorem curveDL_lt (j : Nat) : curveDL.getD j 0 < 256 := by
  rcases Nat.lt_or_ge j 32 with h | h
  · revert h j; decide
  · rw [List.getD, List.getElem?_eq_none h]; decide
theorem curveDL_is : fromN 32 (fun j => curveDL.getD j 0) = dN := by kernel_rfl
set_option maxRecDepth 20000 in
set_option maxHeartbeats 4000000 in
theorem curveD_any (w : World) : Calls Tryd.prog 66 #[] w fun e w' => e = .returned (numV dN) ∧ Below w.heap.size w w' := by
  have cn : ∀ W v, BytesIn W v 32 (fun j => curveDL.getD j 0) → Calls Tryd.prog 33 #[v] W fun e w' => e = .returned (.agg (c4 dN).toArray) ∧ Below W.heap.size W w' := fun W v h => by
    have k := pnumber_any v 32 _ curveDL_lt W h
    rw [curveDL_is] at k
    exact k
  rw [show numV dN = .agg (c4 dN).toArray from rfl]
  generalize dN = m at *
  obtain ⟨W, g, eW, hg, b, h0⟩ := fresh4 w
  have hs : W.heap.size = w.heap.size + 1 := by rw [← eW]; simp
  have hv : BytesIn (W.alloc (.cells #[.int .u8 163, .int .u8 120, .int .u8 89, .int .u8 19, .int .u8 202, .int .u8 77, .int .u8 235, .int .u8 117, .int .u8 171, .int .u8 216, .int .u8 65, .int .u8 65, .int .u8 77, .int .u8 10, .int .u8 112, .int .u8 0, .int .u8 152, .int .u8 232, .int .u8 121, .int .u8 119, .int .u8 121, .int .u8 64, .int .u8 199, .int .u8 140, .int .u8 115, .int .u8 254, .int .u8 111, .int .u8 43, .int .u8 238, .int .u8 108, .int .u8 3, .int .u8 82] 5)) (.slice (some ⟨w.heap.size + 1, 0, none⟩) 32 32) 32 (fun j => curveDL.getD j 0) := by rw [← hs]; exact row_bytes W curveDL rfl
  obtain ⟨V, eV⟩ : ∃ V, W.alloc (.cells #[.int .u8 163, .int .u8 120, .int .u8 89, .int .u8 19, .int .u8 202, .int .u8 77, .int .u8 235, .int .u8 117, .int .u8 171, .int .u8 216, .int .u8 65, .int .u8 65, .int .u8 77, .int .u8 10, .int .u8 112, .int .u8 0, .int .u8 152, .int .u8 232, .int .u8 121, .int .u8 119, .int .u8 121, .int .u8 64, .int .u8 199, .int .u8 140, .int .u8 115, .int .u8 254, .int .u8 111, .int .u8 43, .int .u8 238, .int .u8 108, .int .u8 3, .int .u8 82] 5) = V := ⟨_, rfl⟩
  have bV : Below W.heap.size W V := by rw [← eV]; exact (Below.refl _ _).alloc (Nat.le_refl _) _
  rw [eV] at hv
  have HV : Hid ((w.alloc (.cells #[.int .u64 0, .int .u64 0, .int .u64 0, .int .u64 0] 28)).alloc (.cells #[.int .u8 163, .int .u8 120, .int .u8 89, .int .u8 19, .int .u8 202, .int .u8 77, .int .u8 235, .int .u8 117, .int .u8 171, .int .u8 216, .int .u8 65, .int .u8 65, .int .u8 77, .int .u8 10, .int .u8 112, .int .u8 0, .int .u8 152, .int .u8 232, .int .u8 121, .int .u8 119, .int .u8 121, .int .u8 64, .int .u8 199, .int .u8 140, .int .u8 115, .int .u8 254, .int .u8 111, .int .u8 43, .int .u8 238, .int .u8 108, .int .u8 3, .int .u8 82] 5) = V) := Hid.mk' (by rw [eW, eV])
  have Hg : Hid (w.heap.size = g) := Hid.mk' hg
  have wg : w.heap.size ≤ g := Nat.le_of_eq hg
  replace h0 := h0.still bV
  replace b := below_next b bV
  clear eW hg eV bV hs W
  go_enter Tryd.func66, Tryd.ntmps66
  go_wp2_with (first
    | (go_at_call 33; rw [HV.out]; refine (cn _ _ hv).mono ?_; rw [Hg.out]; clear cn HV Hg; rintro e w1 ⟨rfl, hb1⟩; (replace h0 := h0.still hb1); (replace b := below_next b hb1); clear hb1; (have t0 : w1.there g 0 (c4 m).toArray.size := h0.there))
    | (with_reducible (refine id (?_ : wpList _ _ _ _ _ _)); refine wpList_store_mid rfl 28 _ _ rfl g 0 (c4 m).toArray rfl rfl t0 (info4a m) (one4 m) ?_))
  (try simp only [Exit.inBlock, Exit.then])
  exact bodyPost_ret (results_cell_mid Tryd.results66 _ _ g 0 (c4 m) _ rfl (h0.stored (c4 m) rfl).range Tryd.underlying28 rfl info4) rfl ⟨rfl, below_setCells wg _ _ _ b⟩
def baseXL : List Nat := [26, 213, 37, 143, 96, 45, 86, 201, 178, 167, 37, 149, 96, 199, 44, 105, 92, 220, 214, 253, 49, 226, 164, 192, 254, 83, 110, 205, 211, 54, 105, 33]
theorem baseXL_lt (j : Nat) : baseXL.getD j 0 < 256 := by
  rcases Nat.lt_or_ge j 32 with h | h
  · revert h j; decide
  · rw [List.getD, List.getElem?_eq_none h]; decide
theorem baseXL_is : fromN 32 (fun j => baseXL.getD j 0) = xB := by kernel_rfl
set_option maxRecDepth 20000 in
set_option maxHeartbeats 4000000 in
theorem baseX_any (w : World) : Calls Tryd.prog 54 #[] w fun e w' => e = .returned (numV xB) ∧ Below w.heap.size w w' := by
  have cn : ∀ W v, BytesIn W v 32 (fun j => baseXL.getD j 0) → Calls Tryd.prog 33 #[v] W fun e w' => e = .returned (.agg (c4 xB).toArray) ∧ Below W.heap.size W w' := fun W v h => by
    have k := pnumber_any v 32 _ baseXL_lt W h
    rw [baseXL_is] at k
    exact k
  rw [show numV xB = .agg (c4 xB).toArray from rfl]
  generalize xB = m at *
  obtain ⟨W, g, eW, hg, b, h0⟩ := fresh4 w
  have hs : W.heap.size = w.heap.size + 1 := by rw [← eW]; simp
  have hv : BytesIn (W.alloc (.cells #[.int .u8 26, .int .u8 213, .int .u8 37, .int .u8 143, .int .u8 96, .int .u8 45, .int .u8 86, .int .u8 201, .int .u8 178, .int .u8 167, .int .u8 37, .int .u8 149, .int .u8 96, .int .u8 199, .int .u8 44, .int .u8 105, .int .u8 92, .int .u8 220, .int .u8 214, .int .u8 253, .int .u8 49, .int .u8 226, .int .u8 164, .int .u8 192, .int .u8 254, .int .u8 83, .int .u8 110, .int .u8 205, .int .u8 211, .int .u8 54, .int .u8 105, .int .u8 33] 5)) (.slice (some ⟨w.heap.size + 1, 0, none⟩) 32 32) 32 (fun j => baseXL.getD j 0) := by rw [← hs]; exact row_bytes W baseXL rfl
  obtain ⟨V, eV⟩ : ∃ V, W.alloc (.cells #[.int .u8 26, .int .u8 213, .int .u8 37, .int .u8 143, .int .u8 96, .int .u8 45, .int .u8 86, .int .u8 201, .int .u8 178, .int .u8 167, .int .u8 37, .int .u8 149, .int .u8 96, .int .u8 199, .int .u8 44, .int .u8 105, .int .u8 92, .int .u8 220, .int .u8 214, .int .u8 253, .int .u8 49, .int .u8 226, .int .u8 164, .int .u8 192, .int .u8 254, .int .u8 83, .int .u8 110, .int .u8 205, .int .u8 211, .int .u8 54, .int .u8 105, .int .u8 33] 5) = V := ⟨_, rfl⟩
  have bV : Below W.heap.size W V := by rw [← eV]; exact (Below.refl _ _).alloc (Nat.le_refl _) _
  rw [eV] at hv
  have HV : Hid ((w.alloc (.cells #[.int .u64 0, .int .u64 0, .int .u64 0, .int .u64 0] 28)).alloc (.cells #[.int .u8 26, .int .u8 213, .int .u8 37, .int .u8 143, .int .u8 96, .int .u8 45, .int .u8 86, .int .u8 201, .int .u8 178, .int .u8 167, .int .u8 37, .int .u8 149, .int .u8 96, .int .u8 199, .int .u8 44, .int .u8 105, .int .u8 92, .int .u8 220, .int .u8 214, .int .u8 253, .int .u8 49, .int .u8 226, .int .u8 164, .int .u8 192, .int .u8 254, .int .u8 83, .int .u8 110, .int .u8 205, .int .u8 211, .int .u8 54, .int .u8 105, .int .u8 33] 5) = V) := Hid.mk' (by rw [eW, eV])
  have Hg : Hid (w.heap.size = g) := Hid.mk' hg
  have wg : w.heap.size ≤ g := Nat.le_of_eq hg
  replace h0 := h0.still bV
  replace b := below_next b bV
  clear eW hg eV bV hs W
  go_enter Tryd.func54, Tryd.ntmps54
  go_wp2_with (first
    | (go_at_call 33; rw [HV.out]; refine (cn _ _ hv).mono ?_; rw [Hg.out]; clear cn HV Hg; rintro e w1 ⟨rfl, hb1⟩; (replace h0 := h0.still hb1); (replace b := below_next b hb1); clear hb1; (have t0 : w1.there g 0 (c4 m).toArray.size := h0.there))
    | (with_reducible (refine id (?_ : wpList _ _ _ _ _ _)); refine wpList_store_mid rfl 28 _ _ rfl g 0 (c4 m).toArray rfl rfl t0 (info4a m) (one4 m) ?_))
  (try simp only [Exit.inBlock, Exit.then])
  exact bodyPost_ret (results_cell_mid Tryd.results54 _ _ g 0 (c4 m) _ rfl (h0.stored (c4 m) rfl).range Tryd.underlying28 rfl info4) rfl ⟨rfl, below_setCells wg _ _ _ b⟩
def baseYL : List Nat := [88, 102, 102, 102, 102, 102, 102, 102, 102, 102, 102, 102, 102, 102, 102, 102, 102, 102, 102, 102, 102, 102, 102, 102, 102, 102, 102, 102, 102, 102, 102, 102]
theorem baseYL_lt (j : Nat) : baseYL.getD j 0 < 256 := by
  rcases Nat.lt_or_ge j 32 with h | h
  · revert h j; decide
  · rw [List.getD, List.getElem?_eq_none h]; decide
theorem baseYL_is : fromN 32 (fun j => baseYL.getD j 0) = yB := by kernel_rfl
set_option maxRecDepth 20000 in
set_option maxHeartbeats 4000000 in
theorem baseY_any (w : World) : Calls Tryd.prog 55 #[] w fun e w' => e = .returned (numV yB) ∧ Below w.heap.size w w' := by
  have cn : ∀ W v, BytesIn W v 32 (fun j => baseYL.getD j 0) → Calls Tryd.prog 33 #[v] W fun e w' => e = .returned (.agg (c4 yB).toArray) ∧ Below W.heap.size W w' := fun W v h => by
    have k := pnumber_any v 32 _ baseYL_lt W h
    rw [baseYL_is] at k
    exact k
  rw [show numV yB = .agg (c4 yB).toArray from rfl]
  generalize yB = m at *
  obtain ⟨W, g, eW, hg, b, h0⟩ := fresh4 w
  have hs : W.heap.size = w.heap.size + 1 := by rw [← eW]; simp
  have hv : BytesIn (W.alloc (.cells #[.int .u8 88, .int .u8 102, .int .u8 102, .int .u8 102, .int .u8 102, .int .u8 102, .int .u8 102, .int .u8 102, .int .u8 102, .int .u8 102, .int .u8 102, .int .u8 102, .int .u8 102, .int .u8 102, .int .u8 102, .int .u8 102, .int .u8 102, .int .u8 102, .int .u8 102, .int .u8 102, .int .u8 102, .int .u8 102, .int .u8 102, .int .u8 102, .int .u8 102, .int .u8 102, .int .u8 102, .int .u8 102, .int .u8 102, .int .u8 102, .int .u8 102, .int .u8 102] 5)) (.slice (some ⟨w.heap.size + 1, 0, none⟩) 32 32) 32 (fun j => baseYL.getD j 0) := by rw [← hs]; exact row_bytes W baseYL rfl
  obtain ⟨V, eV⟩ : ∃ V, W.alloc (.cells #[.int .u8 88, .int .u8 102, .int .u8 102, .int .u8 102, .int .u8 102, .int .u8 102, .int .u8 102, .int .u8 102, .int .u8 102, .int .u8 102, .int .u8 102, .int .u8 102, .int .u8 102, .int .u8 102, .int .u8 102, .int .u8 102, .int .u8 102, .int .u8 102, .int .u8 102, .int .u8 102, .int .u8 102, .int .u8 102, .int .u8 102, .int .u8 102, .int .u8 102, .int .u8 102, .int .u8 102, .int .u8 102, .int .u8 102, .int .u8 102, .int .u8 102, .int .u8 102] 5) = V := ⟨_, rfl⟩
  have bV : Below W.heap.size W V := by rw [← eV]; exact (Below.refl _ _).alloc (Nat.le_refl _) _
  rw [eV] at hv
  have HV : Hid ((w.alloc (.cells #[.int .u64 0, .int .u64 0, .int .u64 0, .int .u64 0] 28)).alloc (.cells #[.int .u8 88, .int .u8 102, .int .u8 102, .int .u8 102, .int .u8 102, .int .u8 102, .int .u8 102, .int .u8 102, .int .u8 102, .int .u8 102, .int .u8 102, .int .u8 102, .int .u8 102, .int .u8 102, .int .u8 102, .int .u8 102, .int .u8 102, .int .u8 102, .int .u8 102, .int .u8 102, .int .u8 102, .int .u8 102, .int .u8 102, .int .u8 102, .int .u8 102, .int .u8 102, .int .u8 102, .int .u8 102, .int .u8 102, .int .u8 102, .int .u8 102, .int .u8 102] 5) = V) := Hid.mk' (by rw [eW, eV])
  have Hg : Hid (w.heap.size = g) := Hid.mk' hg
  have wg : w.heap.size ≤ g := Nat.le_of_eq hg
  replace h0 := h0.still bV
  replace b := below_next b bV
  clear eW hg eV bV hs W
  go_enter Tryd.func55, Tryd.ntmps55
  go_wp2_with (first
    | (go_at_call 33; rw [HV.out]; refine (cn _ _ hv).mono ?_; rw [Hg.out]; clear cn HV Hg; rintro e w1 ⟨rfl, hb1⟩; (replace h0 := h0.still hb1); (replace b := below_next b hb1); clear hb1; (have t0 : w1.there g 0 (c4 m).toArray.size := h0.there))
    | (with_reducible (refine id (?_ : wpList _ _ _ _ _ _)); refine wpList_store_mid rfl 28 _ _ rfl g 0 (c4 m).toArray rfl rfl t0 (info4a m) (one4 m) ?_))
  (try simp only [Exit.inBlock, Exit.then])
  exact bodyPost_ret (results_cell_mid Tryd.results55 _ _ g 0 (c4 m) _ rfl (h0.stored (c4 m) rfl).range Tryd.underlying28 rfl info4) rfl ⟨rfl, below_setCells wg _ _ _ b⟩
end Go.Proofs.YteekjcfbnoakgaaDoor
