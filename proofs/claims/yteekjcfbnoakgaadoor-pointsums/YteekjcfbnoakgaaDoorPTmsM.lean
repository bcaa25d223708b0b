/- What the proof stands on: PTms, RootApi, PEvn, PDcd. -/
import Derived.Test.YteekjcfbnoakgaaDoorPEncM
import Derived.Test.YteekjcfbnoakgaaDoorRefPow2M
import Derived.Test.YteekjcfbnoakgaaDoorRootQM
import Derived.Laws.Cover3
import Derived.ScopeJumps
import Derived.WalkMore
namespace Go.Proofs.YteekjcfbnoakgaaDoor
open Go.RowKit
theorem dig_bits {ks : Nat → Nat} (hlt : ∀ q, ks q < 256) (b : Nat) : bits .and .u8 ((ks (b / 8) : Int) / 2 ^ (b % 8)) 15 = ((digN ks b : Nat) : Int) := by
  unfold digN
  have e : ((ks (b / 8) : Int) / 2 ^ (b % 8)) = ((ks (b / 8) / 2 ^ (b % 8) : Nat) : Int) := by simp
  have hb : ks (b / 8) / 2 ^ (b % 8) < 256 := Nat.lt_of_le_of_lt (Nat.div_le_self _ _) (hlt _)
  rw [e, show (15 : Int) = ((15 : Nat) : Int) from rfl, u8_and_nat _ 15 hb (by decide)]
  generalize ks (b / 8) / 2 ^ (b % 8) = v
  congr 1
  exact Nat.and_two_pow_sub_one_eq_mod v 4
set_option maxRecDepth 20000 in
set_option maxHeartbeats 16000000 in
theorem ptm_good {c : List Value} {P : Fp × Fp} (hP : R6 c P) (v : Value) (ks : Nat → Nat) (hks : ∀ j, ks j < 256) (w : World) (hv : BytesIn w v 32 ks) :
    Calls Tryd.prog 20 #[.agg c.toArray, v] w fun e w' => ∃ c', e = .returned (.tuple #[.agg c'.toArray, .int .i64 0]) ∧ R6 c' (emul dE (ofB ks 32) P) ∧ Below w.heap.size w w' := by
  have hzp := zeroP
  have hzt := zeroTb
  have hon := hP.on
  have lc := hP.len
  have kc := fun W => pwhole_pt hP W
  have kw : ∀ (r : N4), W6 r P → ∀ W, Calls Tryd.prog 56 #[.agg (p16 r.X r.Y r.Z r.T).toArray] W fun e w' => ∃ f : Nat → N4, e = .returned (.agg (tabL f).toArray) ∧ (∀ j, j < 16 → W6 (f j) (emul dE j P)) ∧ Below W.heap.size W w' := fun r hr W => pwindow_pt hr W
  have kt : ∀ (t : N4) (Q : Fp × Fp), W6 t Q → ∀ W, Calls Tryd.prog 57 #[.agg (p16 t.X t.Y t.Z t.T).toArray] W fun e w' => ∃ r : N4, e = .returned (.agg (p16 r.X r.Y r.Z r.T).toArray) ∧ W6 r (eadd dE Q Q) ∧ Below W.heap.size W w' := fun t Q ht W => ptwice_pt ht W
  have ka : ∀ (t s : N4) (Q S : Fp × Fp), W6 t Q → W6 s S → ∀ W, Calls Tryd.prog 58 #[.agg (p16 t.X t.Y t.Z t.T).toArray, .agg (p16 s.X s.Y s.Z s.T).toArray] W fun e w' => ∃ r : N4, e = .returned (.agg (p16 r.X r.Y r.Z r.T).toArray) ∧ W6 r (eadd dE Q S) ∧ Below W.heap.size W w' := fun t s Q S ht hs W => padd_pt ht hs W
  obtain ⟨bb, ob, cap, hsl, hlb, hcap, hcl⟩ : ∃ bb ob cap, v = .slice (some ⟨bb, ob, none⟩) 32 cap ∧ bb < w.heap.size ∧ 32 ≤ cap ∧ ∀ j, j < 32 → w.cell? ⟨bb, ob + j, none⟩ = some (.int .u8 (ks j)) := hv.resolve_left (fun ⟨_, _, h⟩ => by omega)
  subst hsl
  obtain ⟨V1, g2, eg2, hg2, bg2, hc⟩ : ∃ V g, w.alloc (.cells c.toArray 30) = V ∧ w.heap.size = g ∧ Below w.heap.size w V ∧ RW V g 0 c := ⟨_, _, rfl, rfl, (Below.refl _ _).alloc (Nat.le_refl _) _, RW.fresh w _ _⟩
  obtain ⟨W, g4, eg4, hg4, bg4, hres⟩ := fresh16 V1
  have t1 : V1.heap.size = w.heap.size + 1 := by rw [← eg2]; simp
  have HW : Hid (W = (w.alloc (.cells c.toArray 30)).alloc (.cells zP 30)) := Hid.mk' (by rw [← eg4, ← eg2])
  have q2 : Hid (w.heap.size = g2) := Hid.mk' hg2
  have q4 : Hid (w.heap.size + 1 = g4) := Hid.mk' (by omega)
  replace hc := hc.still bg4
  have hbW : Below w.heap.size w W := bg2.trans (bg4.mono (by omega))
  have w4l : w.heap.size ≤ g4 := by omega
  clear eg2 eg4 hg2 hg4 bg2 bg4 t1 V1 hP hv
  go_enter Tryd.func20, Tryd.ntmps20
  go_wp2
  rw [← HW.out, q4.out, q2.out]
  clear HW q2 q4
  refine wp_scope_jumps 0 (fun a' wr => ∃ (j : Nat) (t : N4) (f : Nat → N4) (g6 g7 : Nat) (u9 u10 u11 u12 u13 u14 u15 u16 u17 u18 u19 u20 u21 u22 u23 u24 u25 u26 u27 u28 u29 u30 u31 u32 u33 u34 u35 u36 u37 u38 u39 u40 u41 u42 u43 : Value), a' = { tmps := #[.agg c.toArray, .slice (some ⟨bb, ob, none⟩) 32 cap, .pointer (some ⟨g2, 0, none⟩), undef, .pointer (some ⟨g4, 0, none⟩), .int .i64 0, .pointer (some ⟨g6, 0, none⟩), .pointer (some ⟨g7, 0, none⟩), .int .i64 (256 - (j : Int)), u9, u10, u11, u12, u13, u14, u15, u16, u17, u18, u19, u20, u21, u22, u23, u24, u25, u26, u27, u28, u29, u30, u31, u32, u33, u34, u35, u36, u37, u38, u39, u40, u41, u42, u43], defers := [] } ∧ 1 ≤ j ∧ j ≤ 255 ∧ W6 t (emul dE (accN ks j) P) ∧ (∀ i, i < 16 → W6 (f i) (emul dE i P)) ∧ RW wr g4 0 (p16 0 0 0 0) ∧ Tab wr g6 f ∧ RW wr g7 0 (p16 t.X t.Y t.Z t.T) ∧ g6 ≠ g7 ∧ g4 ≠ g7 ∧ w.heap.size ≤ g7 ∧ Below w.heap.size w wr) (fun a' _ => (intOf (a'.tmps.getD 8 undef)).toNat) rfl ?_ ?_
  · go_wp2_with (first
      | (refine wpList_load_mid rfl 30 _ rfl g2 0 rfl c _ hc.range Tryd.underlying30 rfl (infoP lc) ?_)
      | (go_at_call 49; refine (kc _).mono ?_; clear kc; rintro e w1 ⟨r, rfl, hr, hb1⟩; (replace hres := hres.still hb1); (replace hbW := below_next hbW hb1); clear hb1 hc; (have kw2 := kw r hr); clear kw)
      | (go_at_call 56; refine (kw2 _).mono ?_; clear kw2; rintro e w2 ⟨f, rfl, hf, hb2⟩; (replace hres := hres.still hb2); (replace hbW := below_next hbW hb2); clear hb2; (obtain ⟨A2, g6, eA, hg6, bA, hT⟩ := freshT w2); (have l4 := hres.lt); (have hT0 := hT.row); (have t6 : (w2.alloc (.cells zTb 80)).there w2.heap.size 0 (tabL f).toArray.size := by (rw [eA, hg6, List.size_toArray, tabL_len]; (have hh := hT0.there); rw [tabL_len] at hh; exact hh)); (obtain ⟨V2, hV2⟩ : ∃ V, V = (w2.alloc (.cells zTb 80)).setCells w2.heap.size 0 (tabL f) := ⟨_, rfl⟩); (have htab : Tab V2 g6 f := by (rw [hV2, eA, hg6]; exact Tab.of (hT0.stored (tabL f) (by rw [tabL_len, tabL_len])))); (have bV : Below w2.heap.size w2 V2 := by (rw [hV2]; exact below_setCells (Nat.le_refl _) _ _ _ ((Below.refl _ _).alloc (Nat.le_refl _) _))); (have H2 := Hid.mk' hV2); (have Q6 := Hid.mk' hg6); (have n46 : g4 ≠ g6 := by omega); clear hV2 eA bA hT hT0 hg6 l4; (replace hres := hres.still bV); (replace hbW := below_next hbW bV); clear bV; (obtain ⟨A3, g7, eA3, hg7, bA3, hS⟩ := fresh16 V2); (have l4 := hres.lt); (have l6 := (htab 0 (by decide)).lt); (have t7 : (V2.alloc (.cells zP 30)).there V2.heap.size 0 (p16 (f 0).X (f 0).Y (f 0).Z (f 0).T).toArray.size := by (rw [eA3, hg7]; exact thr16 hS _ _ _ _)); (have hrow := htab 0 (by decide)); (obtain ⟨V3, hV3⟩ : ∃ V, V = (V2.alloc (.cells zP 30)).setCells V2.heap.size 0 (p16 (f 0).X (f 0).Y (f 0).Z (f 0).T) := ⟨_, rfl⟩); (have h7 : RW V3 g7 0 (p16 (f 0).X (f 0).Y (f 0).Z (f 0).T) := by (rw [hV3, eA3, hg7]; exact hS.stored _ rfl)); (have bV3 : Below V2.heap.size V2 V3 := by (rw [hV3]; exact below_setCells (Nat.le_refl _) _ _ _ ((Below.refl _ _).alloc (Nat.le_refl _) _))); (have H3 := Hid.mk' hV3); (have Q7 := Hid.mk' hg7); (have n67 : g6 ≠ g7 := by omega); (have n47 : g4 ≠ g7 := by omega); (have w7l : w.heap.size ≤ g7 := by (have := hbW.size; omega)); clear hV3 eA3 bA3 hS hg7 l4 l6; (replace hres := hres.still bV3); (replace htab := htab.still bV3); (replace hbW := below_next hbW bV3); clear bV3)
      | (with_reducible (refine id (?_ : wpList _ _ _ _ _ _)); refine wpList_store_mid rfl 80 _ _ rfl w2.heap.size 0 (tabL f).toArray rfl rfl t6 (infoTA _) (oneT _) ?_; rw [List.toList_toArray, ← H2.out, Q6.out]; clear t6 H2 Q6)
      | (refine wpList_load_mid rfl 30 _ rfl g6 0 rfl (p16 (f 0).X (f 0).Y (f 0).Z (f 0).T) _ hrow.range Tryd.underlying30 rfl (info16 _ _ _ _) ?_; clear hrow)
      | (with_reducible (refine id (?_ : wpList _ _ _ _ _ _)); refine wpList_store_mid rfl 30 _ _ rfl V2.heap.size 0 (p16 (f 0).X (f 0).Y (f 0).Z (f 0).T).toArray rfl rfl t7 (info16A _ _ _ _) (one16 _ _ _ _) ?_; rw [List.toList_toArray, ← H3.out, Q7.out]; clear t7 H3 Q7))
    go_step3
    have kt2 := kt (f 0) _ (hf 0 (by decide))
    (have k4 := hres); (have ktab := htab); (have k7 := h7); (have kb := hbW)
    clear hres htab h7 hbW
    go_wp2_with (first
      | (refine wpList_load_mid rfl 30 _ rfl g7 0 rfl (p16 (f 0).X (f 0).Y (f 0).Z (f 0).T) _ k7.range Tryd.underlying30 rfl (info16 _ _ _ _) ?_)
      | (go_at_call 57; refine (kt2 _).mono ?_; clear kt2; rintro e w3 ⟨x, rfl, hx, hb3⟩; (replace k4 := k4.still hb3); (replace ktab := ktab.still hb3); (replace k7 := k7.still hb3); (replace kb := below_next kb hb3); clear hb3; (have t7 : w3.there g7 0 (p16 x.X x.Y x.Z x.T).toArray.size := thr16 k7 _ _ _ _); (obtain ⟨V3, hV3⟩ : ∃ V, V = w3.setCells g7 0 (p16 x.X x.Y x.Z x.T) := ⟨_, rfl⟩); (replace k7 := k7.stored (p16 x.X x.Y x.Z x.T) rfl); (replace k4 := k4.far g7 0 (p16 x.X x.Y x.Z x.T) (.inl n47)); (replace ktab := ktab.far g7 0 (p16 x.X x.Y x.Z x.T) n67); (replace kb := below_setCells w7l (p16 x.X x.Y x.Z x.T) 0 _ kb); rw [← hV3] at k7 k4 ktab kb; (have H3 := Hid.mk' hV3); clear hV3)
      | (with_reducible (refine id (?_ : wpList _ _ _ _ _ _)); refine wpList_store_mid rfl 30 _ _ rfl g7 0 (p16 x.X x.Y x.Z x.T).toArray rfl rfl t7 (info16A _ _ _ _) (one16 _ _ _ _) ?_; rw [List.toList_toArray, ← H3.out]; clear t7 H3))
    go_step3
    refine ⟨rfl, 1, x, f, g6, g7, _, _, _, _, _, _, _, _, _, _, _, _, _, _, _, _, _, _, _, _, _, _, _, _, _, _, _, _, _, _, _, _, _, _, _, rfl, Nat.le_refl _, by decide, ?_, hf, k4, ktab, k7, n67, n47, w7l, kb⟩
    rw [acc_skip (j := 0) (by decide), ← acc_dbl hon]
    exact hx
  · rintro a' wr ⟨j, t, f, g6, g7, u9, u10, u11, u12, u13, u14, u15, u16, u17, u18, u19, u20, u21, u22, u23, u24, u25, u26, u27, u28, u29, u30, u31, u32, u33, u34, u35, u36, u37, u38, u39, u40, u41, u42, u43, rfl, hj1, hj2, ht, hf, k4, ktab, k7, n67, n47, w7l, kb⟩
    clear hc hres hbW kc kw
    have kt2 := kt t _ ht
    have Hd := Hid.mk' (acc_dbl hon ks j)
    have cc := (kb.cell (p := ⟨bb, ob + (255 - j) / 8, none⟩) hlb).trans (hcl ((255 - j) / 8) (by omega))
    obtain ⟨m, hm⟩ : ∃ m, 255 - j = m := ⟨_, rfl⟩
    have e0 : IntKind.i64.wrap (256 - (j : Int) - 1) = (m : Int) := by simp only [IntKind.wrap_i64]; omega
    have e1 : 256 - ((j + 1 : Nat) : Int) = (m : Int) := by omega
    have E1 := Hid.mk' e1
    clear e1
    have hmj : m < j + 1 + 256 := by omega
    have hm2 : m ≤ 254 := by omega
    have Hm := Hid.mk' hm
    dsimp only
    have mu : Hid ((intOf (.int .i64 (256 - (j : Int)))).toNat = m + 1) := Hid.mk' (by show (256 - (j : Int)).toNat = m + 1; omega)
    by_cases h4 : m % 4 = 0
    · have e4 : (m : Int) % 4 = 0 := by omega
      obtain ⟨d, hd⟩ : ∃ d, d = digN ks m := ⟨_, rfl⟩
      have hd16 : d < 16 := by rw [hd]; exact dig_lt ks m
      have e6 : bits .and .u8 ((ks (m / 8) : Int) / 2 ^ (m % 8)) 15 = (d : Int) := by rw [hd]; exact dig_bits hks m
      have Hdg := Hid.mk' hd
      clear hd
      rw [hm] at cc
      go_upto_region 9 with (first
        | (refine wpList_load_mid rfl 30 _ rfl g7 0 rfl (p16 t.X t.Y t.Z t.T) _ k7.range Tryd.underlying30 rfl (info16 _ _ _ _) ?_)
        | (go_at_call 57; refine (kt2 _).mono ?_; clear kt2; rintro e w3 ⟨x, rfl, hx, hb3⟩; (replace k4 := k4.still hb3); (replace ktab := ktab.still hb3); (replace k7 := k7.still hb3); (replace kb := below_next kb hb3); clear hb3; (have t7 : w3.there g7 0 (p16 x.X x.Y x.Z x.T).toArray.size := thr16 k7 _ _ _ _); (obtain ⟨V3, hV3⟩ : ∃ V, V = w3.setCells g7 0 (p16 x.X x.Y x.Z x.T) := ⟨_, rfl⟩); (replace k7 := k7.stored (p16 x.X x.Y x.Z x.T) rfl); (replace k4 := k4.far g7 0 (p16 x.X x.Y x.Z x.T) (.inl n47)); (replace ktab := ktab.far g7 0 (p16 x.X x.Y x.Z x.T) n67); (replace kb := below_setCells w7l (p16 x.X x.Y x.Z x.T) 0 _ kb); rw [← hV3] at k7 k4 ktab kb; (have H3 := Hid.mk' hV3); clear hV3; clear cc; (have cc := (kb.cell (p := ⟨bb, ob + m / 8, none⟩) hlb).trans (hcl (m / 8) (by omega))))
        | (with_reducible (refine id (?_ : wpList _ _ _ _ _ _)); refine wpList_store_mid rfl 30 _ _ rfl g7 0 (p16 x.X x.Y x.Z x.T).toArray rfl rfl t7 (info16A _ _ _ _) (one16 _ _ _ _) ?_; rw [List.toList_toArray, ← H3.out]; clear t7 H3))
      have hrow := ktab d hd16
      have ka2 := ka x (f d) _ _ hx (hf d hd16)
      have e7 : ((d : Int)).toNat = d := by omega
      have e8 : ¬((d : Int) < 0) := by omega
      have e9 : (d : Int) < 16 := by omega
      have hfin : ∀ y : N4, W6 y (eadd dE (eadd dE (emul dE (accN ks j) P) (emul dE (accN ks j) P)) (emul dE d P)) → W6 y (emul dE (accN ks (j + 1)) P) := fun y hy => by
        rw [acc_take (j := j) (by omega), hm, ← Hdg.out, emul_add ns_dE hon, ← Hd.out]
        exact hy
      clear cc
      clear ka kt hcl
      have hdrew : Below V3.heap.size V3 V3.drew := (Below.refl _ _).drew
      replace k4 := k4.still hdrew
      replace ktab := ktab.still hdrew
      replace k7 := k7.still hdrew
      replace hrow := hrow.still hdrew
      refine wp_region_noPanic ?_
      refine wp_region_held_drew (S := fun _ => True) (by kernel_rfl) trivial (fun _ => ?_)
      replace kb := below_next kb hdrew
      generalize V3.drew = Vn_ at *
      refine wpAnyH_take (i := 1) (oi := { dst := some 37, op := Op.move (Operand.tmp 9), type := 5, pos := "point.go:78", after := #[], guard := none }) (v := ?vn_1) rfl (by kernel_rfl) (by kernel_rfl) (by kernel_rfl) (fun _ _ _ h => h) (Or.inl ⟨by rfl, ?hn_1⟩) trivial ?rn_1
      case hn_1 =>
        intro w hSw
        go_simp
        try with_reducible rfl
      (try simp only [Act.put, List.setIfInBounds_toArray, List.set_cons_zero, List.set_cons_succ])
      refine wpAnyH_take (i := 2) (oi := { dst := some 38, op := Op.indexAddr 80 (Operand.tmp 6) (Operand.tmp 37), type := 0, pos := "point.go:78", after := #[{ on := 1, ground := Ground.data }], guard := none }) (v := ?vn_2) rfl (by kernel_rfl) (by kernel_rfl) (by kernel_rfl) (fun _ _ _ h => h) (Or.inl ⟨by rfl, ?hn_2⟩) trivial ?rn_2
      case hn_2 =>
        intro w hSw
        go_simp
        try with_reducible rfl
      (try simp only [Act.put, List.setIfInBounds_toArray, List.set_cons_zero, List.set_cons_succ])
      refine wpAnyH_ready (rs := [0, 3]) (by kernel_rfl) (by simp) ?_
      refine AllReadyH.cons (o := { dst := some 36, op := Op.load 30 (Operand.tmp 7), type := 30, pos := "point.go:78", after := #[], guard := none }) rfl (fun K hK => ?_) (AllReadyH.cons (o := { dst := some 39, op := Op.load 30 (Operand.tmp 38), type := 30, pos := "point.go:78", after := #[{ on := 2, ground := Ground.data }], guard := none }) rfl (fun K hK => ?_) (AllReadyH.nil))
      · rw [if_pos (by rfl)]
        refine wp_load_mid 30 _ rfl g7 0 rfl (p16 x.X x.Y x.Z x.T) _ k7.range Tryd.underlying30 rfl (info16 _ _ _ _) ?_
        refine hK.out _ _ trivial (fun h => ?_)
        clear h hK K
        rw [show Value.agg (p16 x.X x.Y x.Z x.T).toArray = .agg (p16 x.X x.Y x.Z x.T).toArray from rfl]
        (try simp only [Act.put, List.setIfInBounds_toArray, List.set_cons_zero, List.set_cons_succ])
        refine wpAnyH_ready (rs := [3]) (by kernel_rfl) (by simp) ?_
        refine AllReadyH.cons (o := { dst := some 39, op := Op.load 30 (Operand.tmp 38), type := 30, pos := "point.go:78", after := #[{ on := 2, ground := Ground.data }], guard := none }) rfl (fun K hK => ?_) (AllReadyH.nil)
        rw [if_pos (by rfl)]
        refine wp_load_mid 30 _ rfl g6 (d * 16) rfl (p16 (f d).X (f d).Y (f d).Z (f d).T) _ hrow.range Tryd.underlying30 rfl (info16 _ _ _ _) ?_
        refine hK.out _ _ trivial (fun h => ?_)
        clear h hK K
        rw [show Value.agg (p16 (f d).X (f d).Y (f d).Z (f d).T).toArray = .agg (p16 (f d).X (f d).Y (f d).Z (f d).T).toArray from rfl]
        (try simp only [Act.put, List.setIfInBounds_toArray, List.set_cons_zero, List.set_cons_succ])
        refine wpAnyH_ready (rs := [4]) (by kernel_rfl) (by simp) ?_
        refine AllReadyH.cons (o := { dst := some 40, op := Op.call { callee := Callee.value (Operand.func 58), args := #[Operand.tmp 36, Operand.tmp 39], argTypes := #[30, 30] }, type := 30, pos := "point.go:78", after := #[{ on := 0, ground := Ground.data }, { on := 3, ground := Ground.data }], guard := none }) rfl (fun K hK => ?_) (AllReadyH.nil)
        go_simp
        (go_at_call 58; refine (ka2 _).mono ?_; clear ka2; rintro e wn_5 ⟨y, rfl, hy, hb9⟩; (replace k4 := k4.still hb9); (replace ktab := ktab.still hb9); (replace k7 := k7.still hb9); (replace kb := below_next kb hb9); clear hb9)
        (try go_simp)
        refine hK.out _ _ trivial (fun h => ?_)
        clear h hK K
        (try simp only [Act.put, List.setIfInBounds_toArray, List.set_cons_zero, List.set_cons_succ])
        refine wpAnyH_ready (rs := [5]) (by kernel_rfl) (by simp) ?_
        refine AllReadyH.cons (o := { dst := none, op := Op.store 30 (Operand.tmp 7) (Operand.tmp 40), type := 0, pos := "point.go:78", after := #[{ on := 4, ground := Ground.data }, { on := 4, ground := Ground.chain }, { on := 0, ground := Ground.phase }, { on := 1, ground := Ground.phase }, { on := 2, ground := Ground.phase }, { on := 3, ground := Ground.phase }, { on := 4, ground := Ground.phase }], guard := none }) rfl (fun K hK => ?_) (AllReadyH.nil)
        rw [if_pos (by rfl)]
        refine wp_store_mid 30 _ _ rfl g7 0 (p16 y.X y.Y y.Z y.T).toArray rfl rfl k7.there (info16A _ _ _ _) (one16 _ _ _ _) ?_
        have On_6 := Out.setCells (b := g7) (o := 0) (n := (p16 y.X y.Y y.Z y.T).length) wn_5 (p16 y.X y.Y y.Z y.T) (Nat.le_refl _) (Nat.le_refl _)
        replace ktab := ktab.far g7 0 (p16 y.X y.Y y.Z y.T) n67
        replace kb := below_setCells w7l (p16 y.X y.Y y.Z y.T) 0 _ kb
        replace k7 := k7.stored (p16 y.X y.Y y.Z y.T) rfl
        replace k4 := k4.far g7 0 (p16 y.X y.Y y.Z y.T) (.inl n47)
        obtain ⟨wn_6, hwn_6⟩ : ∃ W, wn_5.setCells g7 0 (p16 y.X y.Y y.Z y.T) = W := ⟨_, rfl⟩
        rw [hwn_6] at k4
        rw [hwn_6] at k7
        rw [hwn_6] at On_6
        rw [hwn_6] at ktab kb
        rw [show wn_5.setCells g7 0 (p16 y.X y.Y y.Z y.T).toArray.toList = wn_6 from hwn_6]
        refine hK.out _ _ trivial (fun h => ?_)
        clear h hK K hwn_6
        (try dsimp only [Act.put])
        refine wpAnyH_done (by kernel_rfl) ?_ _
        refine NoPanic.normal ?_
        replace hy := hfin y hy
        clear hfin
        rcases Nat.eq_zero_or_pos m with hm0 | hmp
        · have e10 : ¬((0 : Int) < (m : Int)) := by omega
          have hjj : j + 1 = 256 := by omega
          rw [hjj, acc_all hks] at hy
          have tt : wn_6.there g4 0 (p16 y.X y.Y y.Z y.T).toArray.size := thr16 k4 _ _ _ _
          clear hm0
          go_wp2_with (first
            | (refine wpList_load_mid rfl 30 _ rfl g7 0 rfl (p16 y.X y.Y y.Z y.T) _ k7.range Tryd.underlying30 rfl (info16 _ _ _ _) ?_)
            | (with_reducible (refine id (?_ : wpList _ _ _ _ _ _)); refine wpList_store_mid rfl 30 _ _ rfl g4 0 (p16 y.X y.Y y.Z y.T).toArray rfl rfl tt (info16A _ _ _ _) (one16 _ _ _ _) ?_))
          simp only [Exit.jump]
          exact bodyPost_ret (results_cell_tmp Tryd.results20 _ _ g4 0 (p16 y.X y.Y y.Z y.T) _ rfl (k4.stored (p16 y.X y.Y y.Z y.T) (p16_same _ _ _ _ _ _ _ _)).range Tryd.underlying30 rfl (info16 _ _ _ _)) rfl ⟨_, rfl, hy.r6, below_setCells w4l _ _ _ kb⟩
        · have e10 : (0 : Int) < (m : Int) := by omega
          go_wp2
          go_step3
          rw [← E1.out]
          refine ⟨rfl, ⟨j + 1, y, f, g6, g7, _, _, _, _, _, _, _, _, _, _, _, _, _, _, _, _, _, _, _, _, _, _, _, _, _, _, _, _, _, _, _, _, _, _, _, rfl, by omega, by omega, hy, hf, k4, ktab, k7, n67, n47, w7l, kb⟩, ?_⟩
          show (256 - ((j + 1 : Nat) : Int)).toNat < (256 - (j : Int)).toNat
          omega
      · rw [if_pos (by rfl)]
        refine wp_load_mid 30 _ rfl g6 (d * 16) rfl (p16 (f d).X (f d).Y (f d).Z (f d).T) _ hrow.range Tryd.underlying30 rfl (info16 _ _ _ _) ?_
        refine hK.out _ _ trivial (fun h => ?_)
        clear h hK K
        rw [show Value.agg (p16 (f d).X (f d).Y (f d).Z (f d).T).toArray = .agg (p16 (f d).X (f d).Y (f d).Z (f d).T).toArray from rfl]
        (try simp only [Act.put, List.setIfInBounds_toArray, List.set_cons_zero, List.set_cons_succ])
        refine wpAnyH_ready (rs := [0]) (by kernel_rfl) (by simp) ?_
        refine AllReadyH.cons (o := { dst := some 36, op := Op.load 30 (Operand.tmp 7), type := 30, pos := "point.go:78", after := #[], guard := none }) rfl (fun K hK => ?_) (AllReadyH.nil)
        rw [if_pos (by rfl)]
        refine wp_load_mid 30 _ rfl g7 0 rfl (p16 x.X x.Y x.Z x.T) _ k7.range Tryd.underlying30 rfl (info16 _ _ _ _) ?_
        refine hK.out _ _ trivial (fun h => ?_)
        clear h hK K
        rw [show Value.agg (p16 x.X x.Y x.Z x.T).toArray = .agg (p16 x.X x.Y x.Z x.T).toArray from rfl]
        (try simp only [Act.put, List.setIfInBounds_toArray, List.set_cons_zero, List.set_cons_succ])
        refine wpAnyH_ready (rs := [4]) (by kernel_rfl) (by simp) ?_
        refine AllReadyH.cons (o := { dst := some 40, op := Op.call { callee := Callee.value (Operand.func 58), args := #[Operand.tmp 36, Operand.tmp 39], argTypes := #[30, 30] }, type := 30, pos := "point.go:78", after := #[{ on := 0, ground := Ground.data }, { on := 3, ground := Ground.data }], guard := none }) rfl (fun K hK => ?_) (AllReadyH.nil)
        go_simp
        (go_at_call 58; refine (ka2 _).mono ?_; clear ka2; rintro e wn_9 ⟨y, rfl, hy, hb9⟩; (replace k4 := k4.still hb9); (replace ktab := ktab.still hb9); (replace k7 := k7.still hb9); (replace kb := below_next kb hb9); clear hb9)
        (try go_simp)
        refine hK.out _ _ trivial (fun h => ?_)
        clear h hK K
        (try simp only [Act.put, List.setIfInBounds_toArray, List.set_cons_zero, List.set_cons_succ])
        refine wpAnyH_ready (rs := [5]) (by kernel_rfl) (by simp) ?_
        refine AllReadyH.cons (o := { dst := none, op := Op.store 30 (Operand.tmp 7) (Operand.tmp 40), type := 0, pos := "point.go:78", after := #[{ on := 4, ground := Ground.data }, { on := 4, ground := Ground.chain }, { on := 0, ground := Ground.phase }, { on := 1, ground := Ground.phase }, { on := 2, ground := Ground.phase }, { on := 3, ground := Ground.phase }, { on := 4, ground := Ground.phase }], guard := none }) rfl (fun K hK => ?_) (AllReadyH.nil)
        rw [if_pos (by rfl)]
        refine wp_store_mid 30 _ _ rfl g7 0 (p16 y.X y.Y y.Z y.T).toArray rfl rfl k7.there (info16A _ _ _ _) (one16 _ _ _ _) ?_
        have On_10 := Out.setCells (b := g7) (o := 0) (n := (p16 y.X y.Y y.Z y.T).length) wn_9 (p16 y.X y.Y y.Z y.T) (Nat.le_refl _) (Nat.le_refl _)
        replace ktab := ktab.far g7 0 (p16 y.X y.Y y.Z y.T) n67
        replace kb := below_setCells w7l (p16 y.X y.Y y.Z y.T) 0 _ kb
        replace k7 := k7.stored (p16 y.X y.Y y.Z y.T) rfl
        replace k4 := k4.far g7 0 (p16 y.X y.Y y.Z y.T) (.inl n47)
        obtain ⟨wn_10, hwn_10⟩ : ∃ W, wn_9.setCells g7 0 (p16 y.X y.Y y.Z y.T) = W := ⟨_, rfl⟩
        rw [hwn_10] at k4
        rw [hwn_10] at k7
        rw [hwn_10] at On_10
        rw [hwn_10] at ktab kb
        rw [show wn_9.setCells g7 0 (p16 y.X y.Y y.Z y.T).toArray.toList = wn_10 from hwn_10]
        refine hK.out _ _ trivial (fun h => ?_)
        clear h hK K hwn_10
        (try dsimp only [Act.put])
        refine wpAnyH_done (by kernel_rfl) ?_ _
        refine NoPanic.normal ?_
        replace hy := hfin y hy
        clear hfin
        rcases Nat.eq_zero_or_pos m with hm0 | hmp
        · have e10 : ¬((0 : Int) < (m : Int)) := by omega
          have hjj : j + 1 = 256 := by omega
          rw [hjj, acc_all hks] at hy
          have tt : wn_10.there g4 0 (p16 y.X y.Y y.Z y.T).toArray.size := thr16 k4 _ _ _ _
          clear hm0
          go_wp2_with (first
            | (refine wpList_load_mid rfl 30 _ rfl g7 0 rfl (p16 y.X y.Y y.Z y.T) _ k7.range Tryd.underlying30 rfl (info16 _ _ _ _) ?_)
            | (with_reducible (refine id (?_ : wpList _ _ _ _ _ _)); refine wpList_store_mid rfl 30 _ _ rfl g4 0 (p16 y.X y.Y y.Z y.T).toArray rfl rfl tt (info16A _ _ _ _) (one16 _ _ _ _) ?_))
          simp only [Exit.jump]
          exact bodyPost_ret (results_cell_tmp Tryd.results20 _ _ g4 0 (p16 y.X y.Y y.Z y.T) _ rfl (k4.stored (p16 y.X y.Y y.Z y.T) (p16_same _ _ _ _ _ _ _ _)).range Tryd.underlying30 rfl (info16 _ _ _ _)) rfl ⟨_, rfl, hy.r6, below_setCells w4l _ _ _ kb⟩
        · have e10 : (0 : Int) < (m : Int) := by omega
          go_wp2
          go_step3
          rw [← E1.out]
          refine ⟨rfl, ⟨j + 1, y, f, g6, g7, _, _, _, _, _, _, _, _, _, _, _, _, _, _, _, _, _, _, _, _, _, _, _, _, _, _, _, _, _, _, _, _, _, _, _, rfl, by omega, by omega, hy, hf, k4, ktab, k7, n67, n47, w7l, kb⟩, ?_⟩
          show (256 - ((j + 1 : Nat) : Int)).toNat < (256 - (j : Int)).toNat
          omega
    · have e4 : ¬((m : Int) % 4 = 0) := by omega
      have e5 : (0 : Int) < (m : Int) := by omega
      clear cc
      go_wp2_with (first
        | (refine wpList_load_mid rfl 30 _ rfl g7 0 rfl (p16 t.X t.Y t.Z t.T) _ k7.range Tryd.underlying30 rfl (info16 _ _ _ _) ?_)
        | (go_at_call 57; refine (kt2 _).mono ?_; clear kt2; rintro e w3 ⟨x, rfl, hx, hb3⟩; (replace k4 := k4.still hb3); (replace ktab := ktab.still hb3); (replace k7 := k7.still hb3); (replace kb := below_next kb hb3); clear hb3; (have t7 : w3.there g7 0 (p16 x.X x.Y x.Z x.T).toArray.size := thr16 k7 _ _ _ _); (obtain ⟨V3, hV3⟩ : ∃ V, V = w3.setCells g7 0 (p16 x.X x.Y x.Z x.T) := ⟨_, rfl⟩); (replace k7 := k7.stored (p16 x.X x.Y x.Z x.T) rfl); (replace k4 := k4.far g7 0 (p16 x.X x.Y x.Z x.T) (.inl n47)); (replace ktab := ktab.far g7 0 (p16 x.X x.Y x.Z x.T) n67); (replace kb := below_setCells w7l (p16 x.X x.Y x.Z x.T) 0 _ kb); rw [← hV3] at k7 k4 ktab kb; (have H3 := Hid.mk' hV3); clear hV3)
        | (with_reducible (refine id (?_ : wpList _ _ _ _ _ _)); refine wpList_store_mid rfl 30 _ _ rfl g7 0 (p16 x.X x.Y x.Z x.T).toArray rfl rfl t7 (info16A _ _ _ _) (one16 _ _ _ _) ?_; rw [List.toList_toArray, ← H3.out]; clear t7 H3))
      go_step3
      rw [← E1.out]
      refine ⟨rfl, ⟨j + 1, x, f, g6, g7, _, _, _, _, _, _, _, _, _, _, _, _, _, _, _, _, _, _, _, _, _, _, _, _, _, _, _, _, _, _, _, _, _, _, _, rfl, by omega, by omega, ?_, hf, k4, ktab, k7, n67, n47, w7l, kb⟩, ?_⟩
      · rw [acc_skip (j := j) (by omega), ← Hd.out]
        exact hx
      · show (256 - ((j + 1 : Nat) : Int)).toNat < (256 - (j : Int)).toNat
        omega
end Go.Proofs.YteekjcfbnoakgaaDoor
namespace Go.Proofs.YteekjcfbnoakgaaDoor
open Go.RowKit
set_option maxRecDepth 20000 in
set_option maxHeartbeats 4000000 in
theorem froot_good (v u : Value) (bs cs : Nat → Nat) (hbs : ∀ j, bs j < 256) (hcs : ∀ j, cs j < 256) (w : World) (im : IM w) (hv : BytesIn w v 32 bs) (hu : BytesIn w u 32 cs) :
    Calls Tryd.prog 64 #[v, u] w fun e w' => ∃ s, e = .returned (.tuple #[s, .bool (rootP kP (ofB bs 32 % pF) (ofB cs 32 % pF)).isSome, .int .i64 0]) ∧ NewB w w' s 32 (byt ((rootP kP (ofB bs 32 % pF) (ofB cs 32 % pF)).getD 0)) ∧ Below w.heap.size w w' := by
  have cb := both_good v u bs cs hbs hcs w hv hu
  obtain ⟨xv, kv, rfl, -⟩ := hv.src
  obtain ⟨xu, ku, rfl, -⟩ := hu.src
  have hx : ofB bs 32 % pF < pF := Nat.mod_lt _ (by decide)
  have hy : ofB cs 32 % pF < pF := Nat.mod_lt _ (by decide)
  obtain ⟨x, hxe⟩ : ∃ x, x = ofB bs 32 % pF := ⟨_, rfl⟩
  obtain ⟨y, hye⟩ : ∃ y, y = ofB cs 32 % pF := ⟨_, rfl⟩
  rw [← hxe] at cb hx ⊢
  rw [← hye] at cb hy ⊢
  have cp := fun W (h : IM W) => rootq_any x y hx hy W h
  obtain ⟨N, hN⟩ : ∃ N, N = (rootP kP x y).getD 0 := ⟨_, rfl⟩
  obtain ⟨ok, hok⟩ : ∃ N, N = (rootP kP x y).isSome := ⟨_, rfl⟩
  have cq := fun W => bytes_any N W
  rw [← hN, ← hok] at cp
  rw [← hN, ← hok]
  obtain ⟨x0, x1, x2, x3, hxv⟩ := numV_ex x
  obtain ⟨y0, y1, y2, y3, hyv⟩ := numV_ex y
  obtain ⟨z0, z1, z2, z3, hzv⟩ := numV_ex N
  rw [hxv, hyv] at cb cp
  rw [hzv] at cp cq
  clear hv hu hxe hye hN hxv hyv hzv hok
  go_enter Tryd.func64, Tryd.ntmps64
  go_wp2_with (first
    | (go_at_call 82; refine cb.mono ?_; clear cb; rintro e w1 ⟨rfl, hb1⟩; (have im2 := fun (A B : Obj) => (im.still hb1).still (show Below w1.heap.size w1 ((w1.alloc A).alloc B) from ((Below.refl _ w1).alloc (Nat.le_refl _) _).alloc (by simp) _)))
    | (go_at_call 83; refine (cp _ (im2 _ _)).mono ?_; clear cp im2; rintro e w2 ⟨rfl, hb2⟩)
    | (go_at_call 65; refine (cq _).mono ?_; clear cq; rintro e w3 ⟨g, rfl, hg, hr, hb3⟩))
  go_ret3
  have hb12 : Below w1.heap.size w1 w2 := (((Below.refl _ w1).alloc (Nat.le_refl _) _).alloc (by simp) _).trans (hb2.mono (by simp; omega))
  have hbw2 : Below w.heap.size w w2 := hb1.trans (hb12.mono hb1.size)
  have hb23 : Below w2.heap.size w2 w3 := ((Below.refl _ w2).alloc (Nat.le_refl _) _).trans (hb3.mono (by simp))
  have hg2 : w2.heap.size ≤ g := Nat.le_trans (by simp) hg
  exact ⟨_, rfl, ⟨g, rfl, Nat.le_trans hbw2.size hg2, hr⟩, below_next hbw2 hb23⟩
end Go.Proofs.YteekjcfbnoakgaaDoor
namespace Go.Proofs.YteekjcfbnoakgaaDoor
open Go.RowKit
abbrev qev1x7 : Oper := { dst := none, op := Op.store 28 (Operand.tmp 5) (Operand.tmp 12), type := 0, pos := "curve.go:85", after := #[{ on := 5, ground := Ground.data }, { on := 3, ground := Ground.data }, { on := 6, ground := Ground.chain }, { on := 0, ground := Ground.phase }, { on := 1, ground := Ground.phase }, { on := 2, ground := Ground.phase }, { on := 3, ground := Ground.phase }, { on := 4, ground := Ground.phase }, { on := 5, ground := Ground.phase }, { on := 6, ground := Ground.phase }], guard := none }
abbrev qev1x6 : Oper := { dst := none, op := Op.store 28 (Operand.tmp 4) (Operand.tmp 9), type := 0, pos := "curve.go:85", after := #[{ on := 4, ground := Ground.data }, { on := 0, ground := Ground.data }, { on := 3, ground := Ground.chain }, { on := 0, ground := Ground.phase }, { on := 1, ground := Ground.textOnly Departure.lateStores }, { on := 2, ground := Ground.textOnly Departure.lateStores }, { on := 3, ground := Ground.textOnly Departure.lateStoresUnsure }, { on := 4, ground := Ground.phase }, { on := 5, ground := Ground.phase }], guard := none }
abbrev qev1x5 : Oper := { dst := some 5, op := Op.alloc 28, type := 0, pos := "curve.go:85", after := #[], guard := none }
abbrev qev1x4 : Oper := { dst := some 4, op := Op.alloc 28, type := 0, pos := "curve.go:85", after := #[], guard := none }
abbrev qev1x3 : Oper := { dst := some 12, op := Op.call { callee := Callee.value (Operand.func 51), args := #[Operand.tmp 10, Operand.tmp 11], argTypes := #[28, 28] }, type := 28, pos := "curve.go:85", after := #[{ on := 1, ground := Ground.data }, { on := 2, ground := Ground.data }, { on := 0, ground := Ground.chain }], guard := none }
abbrev qev1x0 : Oper := { dst := some 9, op := Op.call { callee := Callee.value (Operand.func 63), args := #[Operand.const (Value.int IntKind.i64 1)], argTypes := #[3] }, type := 28, pos := "curve.go:85", after := #[], guard := none }
set_option maxRecDepth 20000 in
set_option maxHeartbeats 16000000 in
theorem evenX_raw (y yy u dd dy v n : Nat) (ok : Bool)
    (k1 : ∀ W, Calls Tryd.prog 63 #[.int .i64 1] W fun e w' => e = .returned (numV 1) ∧ Below W.heap.size W w')
    (k2 : ∀ W, Calls Tryd.prog 51 #[numV y, numV y] W fun e w' => e = .returned (numV yy) ∧ Below W.heap.size W w')
    (k3 : ∀ W, Calls Tryd.prog 35 #[numV yy, numV 1] W fun e w' => e = .returned (numV u) ∧ Below W.heap.size W w')
    (k4 : ∀ W, Calls Tryd.prog 65 #[numV u] W fun e w' => ∃ s, e = .returned s ∧ BytesIn w' s 32 (byt u) ∧ Below W.heap.size W w')
    (k5 : ∀ W, Calls Tryd.prog 66 #[] W fun e w' => e = .returned (numV dd) ∧ Below W.heap.size W w')
    (k6 : ∀ W, Calls Tryd.prog 51 #[numV dd, numV yy] W fun e w' => e = .returned (numV dy) ∧ Below W.heap.size W w')
    (k7 : ∀ W, Calls Tryd.prog 67 #[numV dy, numV 1] W fun e w' => e = .returned (numV v) ∧ Below W.heap.size W w')
    (k8 : ∀ W, Calls Tryd.prog 65 #[numV v] W fun e w' => ∃ s, e = .returned s ∧ BytesIn w' s 32 (byt v) ∧ Below W.heap.size W w')
    (k9 : ∀ a b W, IM W → BytesIn W a 32 (byt u) → BytesIn W b 32 (byt v) → Calls Tryd.prog 64 #[a, b] W fun e w' => ∃ s, e = .returned (.tuple #[s, .bool ok, .int .i64 0]) ∧ NewB W w' s 32 (byt n) ∧ Below W.heap.size W w')
    (kn : ∀ a W, BytesIn W a 32 (byt n) → Calls Tryd.prog 33 #[a] W fun e w' => e = .returned (numV n) ∧ Below W.heap.size W w')
    (h0 : ok = false → n = 0) (w : World) (im : IM w) : Calls Tryd.prog 34 #[numV y] w fun e w' => e = .returned (.tuple #[numV n, .bool ok]) ∧ Below w.heap.size w w' := by
  obtain ⟨V1, g1, eg1, hg1, bg1, hy⟩ : ∃ V g, w.alloc (.cells (c4 y).toArray 28) = V ∧ w.heap.size = g ∧ Below w.heap.size w V ∧ RW V g 0 (c4 y) := ⟨_, _, rfl, rfl, (Below.refl _ _).alloc (Nat.le_refl _) _, RW.fresh w _ _⟩
  obtain ⟨W, g2, eg2, hg2, bg2, hres⟩ := fresh4 V1
  have t1 : V1.heap.size = w.heap.size + 1 := by rw [← eg1]; simp
  have HW : Hid (W = (w.alloc (.cells (c4 y).toArray 28)).alloc (.cells #[.int .u64 0, .int .u64 0, .int .u64 0, .int .u64 0] 28)) := Hid.mk' (by rw [← eg2, ← eg1])
  have q1 : Hid (w.heap.size = g1) := Hid.mk' hg1
  have q2 : Hid (w.heap.size + 1 = g2) := Hid.mk' (by omega)
  replace hy := hy.still bg2
  have hbW : Below w.heap.size w W := bg1.trans (bg2.mono (by omega))
  have w2l : w.heap.size ≤ g2 := by omega
  replace im := im.still hbW
  clear eg1 eg2 hg1 hg2 bg1 bg2 t1 V1
  rw [show numV y = .agg (c4 y).toArray from rfl, show numV n = .agg (c4 n).toArray from rfl]
  go_enter Tryd.func34, Tryd.ntmps34
  go_upto_region 1 with (fail)
  rw [← HW.out, q2.out, q1.out]
  clear HW q2 q1
  go_cut [4, 5] from 9 (fun s4 s5 wc => ∃ h4 h5 : Nat, s4 = .pointer (some ⟨h4, 0, none⟩) ∧ s5 = .pointer (some ⟨h5, 0, none⟩) ∧ Below W.heap.size W wc ∧ W.heap.size ≤ h4 ∧ W.heap.size ≤ h5 ∧ RW wc h4 0 (c4 1) ∧ RW wc h5 0 (c4 yy))
  case first =>
    clear k3 k4 k5 k6 k7 k8 k9 kn hres im hbW h0
    have hdrew : Below W.heap.size W W.drew := (Below.refl _ _).drew
    replace hy := hy.still hdrew
    refine wp_region_noPanic ?_
    refine wp_region_held_drew (S := fun w' => Below W.drew.heap.size W.drew w') (by kernel_rfl) (Below.refl _ _) (fun hS => ?_)
    generalize W.drew = Vev1_ at *
    refine wpAnyH_take (i := 1) (oi := { dst := some 10, op := Op.load 28 (Operand.tmp 1), type := 28, pos := "curve.go:85", after := #[], guard := none }) (v := numV y) rfl (by kernel_rfl) (by kernel_rfl) (by kernel_rfl) (fun _ _ _ h => h) (yieldsIf_load_mid (by rfl) 28 _ rfl g1 0 rfl (c4 y) _ (fun _ h => (hy.still h).range) Tryd.underlying28 rfl info4) hS ?_
    (try simp only [Act.put, List.setIfInBounds_toArray, List.set_cons_zero, List.set_cons_succ])
    refine wpAnyH_take (i := 2) (oi := { dst := some 11, op := Op.load 28 (Operand.tmp 1), type := 28, pos := "curve.go:85", after := #[], guard := none }) (v := numV y) rfl (by kernel_rfl) (by kernel_rfl) (by kernel_rfl) (fun _ _ _ h => h) (yieldsIf_load_mid (by rfl) 28 _ rfl g1 0 rfl (c4 y) _ (fun _ h => (hy.still h).range) Tryd.underlying28 rfl info4) hS ?_
    (try simp only [Act.put, List.setIfInBounds_toArray, List.set_cons_zero, List.set_cons_succ])
    refine dag_root (fun G hG0 => ?_)
    have hG := Hid.mk' hG0
    clear hG0
    obtain ⟨F, hF0⟩ : ∃ F : Value → Value → Value → Value → Act, ∀ v4 v5 v9 v12, F v4 v5 v9 v12 = { tmps := #[.agg (c4 y).toArray, .pointer (some ⟨g1, 0, none⟩), .pointer (some ⟨g2, 0, none⟩), .bool false, v4, v5, undef, undef, undef, v9, numV y, numV y, v12, undef, undef, undef, undef, undef, undef, undef, undef, undef, undef, undef, undef, undef, undef, undef, undef, undef, undef, undef, undef], defers := [] } := ⟨_, fun _ _ _ _ => rfl⟩
    have hF := Hid.mk' hF0
    clear hF0
    have stev1_0 : Hid (∀ (cur : World) (g4 g5 : Nat), Below Vev1_.heap.size Vev1_ cur → RW cur g4 0 (c4 (1)) → RW cur g5 0 (c4 (yy)) → Vev1_.heap.size ≤ g4 → Vev1_.heap.size ≤ g5 → g4 ≠ g5 → G 0 #[true, true, true, true, true, true, true, true] (F (.pointer (some ⟨g4, 0, none⟩)) (.pointer (some ⟨g5, 0, none⟩)) (numV 1) (numV yy)) cur) := Hid.mk' (by
      intro cur g4 g5 hS r4 r5 G4 G5 d4_5
      rw [hF.out, hG.out]
      refine wpAnyH_done (by kernel_rfl) ?_ _
      refine NoPanic.normal ?_
      go_wp2
      go_meet
      case rel => exact ⟨g4, g5, rfl, rfl, below_next hdrew hS, Nat.le_trans hdrew.size G4, Nat.le_trans hdrew.size G5, r4, r5⟩)
    have stev1_1 : Hid (∀ (cur : World) (g4 g5 : Nat), Below Vev1_.heap.size Vev1_ cur → RW cur g4 0 (c4 (1)) → RW cur g5 0 (c4 (0)) → Vev1_.heap.size ≤ g4 → Vev1_.heap.size ≤ g5 → g4 ≠ g5 → G 1 #[true, true, true, true, true, true, true, false] (F (.pointer (some ⟨g4, 0, none⟩)) (.pointer (some ⟨g5, 0, none⟩)) (numV 1) (numV yy)) cur) := Hid.mk' (by
      intro cur g4 g5 hS r4 r5 G4 G5 d4_5
      rw [hF.out, hG.out]
      refine wpAnyH_ready (rs := [7]) (by kernel_rfl) (by simp) ?_
      refine AllReadyH.cons (o := qev1x7) rfl (fun K hK => ?_) (AllReadyH.nil)
      · unfold qev1x7
        rw [if_pos (by rfl)]
        refine num_store _ _ rfl g5 0 (yy) rfl rfl r5 hS G5 (fun w1 r0 hS1 far => ?_)
        replace r4 := far _ _ _ (by omega) r4
        refine hK.out _ _ hS1 (fun h => ?_)
        clear h hK K far r5
        have r5 := r0
        clear r0
        (try dsimp only [Act.put])
        rw [← hG.out]
        exact dag_step3 (stev1_0.out w1 g4 g5 hS1 r4 r5 G4 G5 d4_5) (by kernel_rfl) (by kernel_rfl) (hF.out _ _ _ _))
    have stev1_2 : Hid (∀ (cur : World) (g4 g5 : Nat), Below Vev1_.heap.size Vev1_ cur → RW cur g4 0 (c4 (0)) → RW cur g5 0 (c4 (0)) → Vev1_.heap.size ≤ g4 → Vev1_.heap.size ≤ g5 → g4 ≠ g5 → G 2 #[true, true, true, true, true, true, false, false] (F (.pointer (some ⟨g4, 0, none⟩)) (.pointer (some ⟨g5, 0, none⟩)) (numV 1) (numV yy)) cur) := Hid.mk' (by
      intro cur g4 g5 hS r4 r5 G4 G5 d4_5
      rw [hF.out, hG.out]
      clear stev1_0
      refine wpAnyH_ready (rs := [6]) (by kernel_rfl) (by simp) ?_
      refine AllReadyH.cons (o := qev1x6) rfl (fun K hK => ?_) (AllReadyH.nil)
      · unfold qev1x6
        rw [if_pos (by rfl)]
        refine num_store _ _ rfl g4 0 (1) rfl rfl r4 hS G4 (fun w1 r0 hS1 far => ?_)
        replace r5 := far _ _ _ (by omega) r5
        refine hK.out _ _ hS1 (fun h => ?_)
        clear h hK K far r4
        have r4 := r0
        clear r0
        (try dsimp only [Act.put])
        rw [← hG.out]
        exact dag_step3 (stev1_1.out w1 g4 g5 hS1 r4 r5 G4 G5 d4_5) (by kernel_rfl) (by kernel_rfl) (hF.out _ _ _ _))
    have stev1_3 : Hid (∀ (cur : World) (g4 : Nat), Below Vev1_.heap.size Vev1_ cur → RW cur g4 0 (c4 (0)) → Vev1_.heap.size ≤ g4 → G 3 #[true, true, true, true, true, false, false, false] (F (.pointer (some ⟨g4, 0, none⟩)) undef (numV 1) (numV yy)) cur) := Hid.mk' (by
      intro cur g4 hS r4 G4
      rw [hF.out, hG.out]
      clear stev1_0 stev1_1
      refine wpAnyH_ready (rs := [5]) (by kernel_rfl) (by simp) ?_
      refine AllReadyH.cons (o := qev1x5) rfl (fun K hK => ?_) (AllReadyH.nil)
      · unfold qev1x5
        go_simp
        obtain ⟨w1, g5, hw1, hg1, hb1, r5⟩ := fresh4 cur
        rw [hw1, hg1]
        have hS1 := below_next hS hb1
        have G5 : Vev1_.heap.size ≤ g5 := by have := hS.size; omega
        have d4_5 : g4 ≠ g5 := by have := r4.lt; omega
        replace r4 := r4.still hb1
        refine hK.out _ _ hS1 (fun h => ?_)
        clear h hK K hb1 hw1 hg1
        rw [← hG.out]
        exact dag_step3 (stev1_2.out w1 g4 g5 hS1 r4 r5 G4 G5 d4_5) (by kernel_rfl) (by kernel_rfl) (hF.out _ _ _ _))
    have stev1_4 : Hid (∀ (cur : World) (g5 : Nat), Below Vev1_.heap.size Vev1_ cur → RW cur g5 0 (c4 (0)) → Vev1_.heap.size ≤ g5 → G 3 #[true, true, true, true, false, true, false, false] (F undef (.pointer (some ⟨g5, 0, none⟩)) (numV 1) (numV yy)) cur) := Hid.mk' (by
      intro cur g5 hS r5 G5
      rw [hF.out, hG.out]
      clear stev1_0 stev1_1 stev1_3
      refine wpAnyH_ready (rs := [4]) (by kernel_rfl) (by simp) ?_
      refine AllReadyH.cons (o := qev1x4) rfl (fun K hK => ?_) (AllReadyH.nil)
      · unfold qev1x4
        go_simp
        obtain ⟨w1, g4, hw1, hg1, hb1, r4⟩ := fresh4 cur
        rw [hw1, hg1]
        have hS1 := below_next hS hb1
        have G4 : Vev1_.heap.size ≤ g4 := by have := hS.size; omega
        have d4_5 : g4 ≠ g5 := by have := r5.lt; omega
        replace r5 := r5.still hb1
        refine hK.out _ _ hS1 (fun h => ?_)
        clear h hK K hb1 hw1 hg1
        rw [← hG.out]
        exact dag_step3 (stev1_2.out w1 g4 g5 hS1 r4 r5 G4 G5 d4_5) (by kernel_rfl) (by kernel_rfl) (hF.out _ _ _ _))
    have stev1_5 : Hid (∀ (cur : World), Below Vev1_.heap.size Vev1_ cur → G 4 #[true, true, true, true, false, false, false, false] (F undef undef (numV 1) (numV yy)) cur) := Hid.mk' (by
      intro cur  hS 
      rw [hF.out, hG.out]
      clear stev1_0 stev1_1 stev1_2
      refine wpAnyH_ready (rs := [4, 5]) (by kernel_rfl) (by simp) ?_
      refine AllReadyH.cons (o := qev1x4) rfl (fun K hK => ?_) (AllReadyH.cons (o := qev1x5) rfl (fun K hK => ?_) (AllReadyH.nil))
      · unfold qev1x4
        go_simp
        obtain ⟨w1, g4, hw1, hg1, hb1, r4⟩ := fresh4 cur
        rw [hw1, hg1]
        have hS1 := below_next hS hb1
        have G4 : Vev1_.heap.size ≤ g4 := by have := hS.size; omega
        refine hK.out _ _ hS1 (fun h => ?_)
        clear h hK K hb1 hw1 hg1
        rw [← hG.out]
        exact dag_step3 (stev1_3.out w1 g4 hS1 r4 G4) (by kernel_rfl) (by kernel_rfl) (hF.out _ _ _ _)
      · unfold qev1x5
        go_simp
        obtain ⟨w1, g5, hw1, hg1, hb1, r5⟩ := fresh4 cur
        rw [hw1, hg1]
        have hS1 := below_next hS hb1
        have G5 : Vev1_.heap.size ≤ g5 := by have := hS.size; omega
        refine hK.out _ _ hS1 (fun h => ?_)
        clear h hK K hb1 hw1 hg1
        rw [← hG.out]
        exact dag_step3 (stev1_4.out w1 g5 hS1 r5 G5) (by kernel_rfl) (by kernel_rfl) (hF.out _ _ _ _))
    have stev1_6 : Hid (∀ (cur : World) (g4 g5 : Nat), Below Vev1_.heap.size Vev1_ cur → RW cur g4 0 (c4 (0)) → RW cur g5 0 (c4 (0)) → Vev1_.heap.size ≤ g4 → Vev1_.heap.size ≤ g5 → g4 ≠ g5 → G 3 #[true, true, true, false, true, true, false, false] (F (.pointer (some ⟨g4, 0, none⟩)) (.pointer (some ⟨g5, 0, none⟩)) (numV 1) undef) cur) := Hid.mk' (by
      intro cur g4 g5 hS r4 r5 G4 G5 d4_5
      rw [hF.out, hG.out]
      clear stev1_0 stev1_1 stev1_3 stev1_4 stev1_5
      refine wpAnyH_ready (rs := [3]) (by kernel_rfl) (by simp) ?_
      refine AllReadyH.cons (o := qev1x3) rfl (fun K hK => ?_) (AllReadyH.nil)
      · unfold qev1x3
        go_simp
        (go_at_call 51; refine (k2 _).mono ?_; rintro e w1 ⟨rfl, hb1⟩)
        (try go_simp)
        have hS1 := below_next hS hb1
        replace r4 := r4.still hb1
        replace r5 := r5.still hb1
        refine hK.out _ _ hS1 (fun h => ?_)
        clear h hK K hb1
        rw [← hG.out]
        exact dag_step3 (stev1_2.out w1 g4 g5 hS1 r4 r5 G4 G5 d4_5) (by kernel_rfl) (by kernel_rfl) (hF.out _ _ _ _))
    have stev1_7 : Hid (∀ (cur : World) (g4 : Nat), Below Vev1_.heap.size Vev1_ cur → RW cur g4 0 (c4 (0)) → Vev1_.heap.size ≤ g4 → G 4 #[true, true, true, false, true, false, false, false] (F (.pointer (some ⟨g4, 0, none⟩)) undef (numV 1) undef) cur) := Hid.mk' (by
      intro cur g4 hS r4 G4
      rw [hF.out, hG.out]
      clear stev1_0 stev1_1 stev1_2 stev1_4 stev1_5
      refine wpAnyH_ready (rs := [3, 5]) (by kernel_rfl) (by simp) ?_
      refine AllReadyH.cons (o := qev1x3) rfl (fun K hK => ?_) (AllReadyH.cons (o := qev1x5) rfl (fun K hK => ?_) (AllReadyH.nil))
      · unfold qev1x3
        go_simp
        (go_at_call 51; refine (k2 _).mono ?_; rintro e w1 ⟨rfl, hb1⟩)
        (try go_simp)
        have hS1 := below_next hS hb1
        replace r4 := r4.still hb1
        refine hK.out _ _ hS1 (fun h => ?_)
        clear h hK K hb1
        rw [← hG.out]
        exact dag_step3 (stev1_3.out w1 g4 hS1 r4 G4) (by kernel_rfl) (by kernel_rfl) (hF.out _ _ _ _)
      · unfold qev1x5
        go_simp
        obtain ⟨w1, g5, hw1, hg1, hb1, r5⟩ := fresh4 cur
        rw [hw1, hg1]
        have hS1 := below_next hS hb1
        have G5 : Vev1_.heap.size ≤ g5 := by have := hS.size; omega
        have d4_5 : g4 ≠ g5 := by have := r4.lt; omega
        replace r4 := r4.still hb1
        refine hK.out _ _ hS1 (fun h => ?_)
        clear h hK K hb1 hw1 hg1
        rw [← hG.out]
        exact dag_step3 (stev1_6.out w1 g4 g5 hS1 r4 r5 G4 G5 d4_5) (by kernel_rfl) (by kernel_rfl) (hF.out _ _ _ _))
    have stev1_8 : Hid (∀ (cur : World) (g5 : Nat), Below Vev1_.heap.size Vev1_ cur → RW cur g5 0 (c4 (0)) → Vev1_.heap.size ≤ g5 → G 4 #[true, true, true, false, false, true, false, false] (F undef (.pointer (some ⟨g5, 0, none⟩)) (numV 1) undef) cur) := Hid.mk' (by
      intro cur g5 hS r5 G5
      rw [hF.out, hG.out]
      clear stev1_0 stev1_1 stev1_2 stev1_3 stev1_5 stev1_7
      refine wpAnyH_ready (rs := [3, 4]) (by kernel_rfl) (by simp) ?_
      refine AllReadyH.cons (o := qev1x3) rfl (fun K hK => ?_) (AllReadyH.cons (o := qev1x4) rfl (fun K hK => ?_) (AllReadyH.nil))
      · unfold qev1x3
        go_simp
        (go_at_call 51; refine (k2 _).mono ?_; rintro e w1 ⟨rfl, hb1⟩)
        (try go_simp)
        have hS1 := below_next hS hb1
        replace r5 := r5.still hb1
        refine hK.out _ _ hS1 (fun h => ?_)
        clear h hK K hb1
        rw [← hG.out]
        exact dag_step3 (stev1_4.out w1 g5 hS1 r5 G5) (by kernel_rfl) (by kernel_rfl) (hF.out _ _ _ _)
      · unfold qev1x4
        go_simp
        obtain ⟨w1, g4, hw1, hg1, hb1, r4⟩ := fresh4 cur
        rw [hw1, hg1]
        have hS1 := below_next hS hb1
        have G4 : Vev1_.heap.size ≤ g4 := by have := hS.size; omega
        have d4_5 : g4 ≠ g5 := by have := r5.lt; omega
        replace r5 := r5.still hb1
        refine hK.out _ _ hS1 (fun h => ?_)
        clear h hK K hb1 hw1 hg1
        rw [← hG.out]
        exact dag_step3 (stev1_6.out w1 g4 g5 hS1 r4 r5 G4 G5 d4_5) (by kernel_rfl) (by kernel_rfl) (hF.out _ _ _ _))
    have stev1_9 : Hid (∀ (cur : World), Below Vev1_.heap.size Vev1_ cur → G 5 #[true, true, true, false, false, false, false, false] (F undef undef (numV 1) undef) cur) := Hid.mk' (by
      intro cur  hS 
      rw [hF.out, hG.out]
      clear stev1_0 stev1_1 stev1_2 stev1_3 stev1_4 stev1_6
      refine wpAnyH_ready (rs := [3, 4, 5]) (by kernel_rfl) (by simp) ?_
      refine AllReadyH.cons (o := qev1x3) rfl (fun K hK => ?_) (AllReadyH.cons (o := qev1x4) rfl (fun K hK => ?_) (AllReadyH.cons (o := qev1x5) rfl (fun K hK => ?_) (AllReadyH.nil)))
      · unfold qev1x3
        go_simp
        (go_at_call 51; refine (k2 _).mono ?_; rintro e w1 ⟨rfl, hb1⟩)
        (try go_simp)
        have hS1 := below_next hS hb1
        refine hK.out _ _ hS1 (fun h => ?_)
        clear h hK K hb1
        rw [← hG.out]
        exact dag_step3 (stev1_5.out w1  hS1 ) (by kernel_rfl) (by kernel_rfl) (hF.out _ _ _ _)
      · unfold qev1x4
        go_simp
        obtain ⟨w1, g4, hw1, hg1, hb1, r4⟩ := fresh4 cur
        rw [hw1, hg1]
        have hS1 := below_next hS hb1
        have G4 : Vev1_.heap.size ≤ g4 := by have := hS.size; omega
        refine hK.out _ _ hS1 (fun h => ?_)
        clear h hK K hb1 hw1 hg1
        rw [← hG.out]
        exact dag_step3 (stev1_7.out w1 g4 hS1 r4 G4) (by kernel_rfl) (by kernel_rfl) (hF.out _ _ _ _)
      · unfold qev1x5
        go_simp
        obtain ⟨w1, g5, hw1, hg1, hb1, r5⟩ := fresh4 cur
        rw [hw1, hg1]
        have hS1 := below_next hS hb1
        have G5 : Vev1_.heap.size ≤ g5 := by have := hS.size; omega
        refine hK.out _ _ hS1 (fun h => ?_)
        clear h hK K hb1 hw1 hg1
        rw [← hG.out]
        exact dag_step3 (stev1_8.out w1 g5 hS1 r5 G5) (by kernel_rfl) (by kernel_rfl) (hF.out _ _ _ _))
    have stev1_10 : Hid (∀ (cur : World) (g4 g5 : Nat), Below Vev1_.heap.size Vev1_ cur → RW cur g4 0 (c4 (0)) → RW cur g5 0 (c4 (0)) → Vev1_.heap.size ≤ g4 → Vev1_.heap.size ≤ g5 → g4 ≠ g5 → G 4 #[false, true, true, false, true, true, false, false] (F (.pointer (some ⟨g4, 0, none⟩)) (.pointer (some ⟨g5, 0, none⟩)) undef undef) cur) := Hid.mk' (by
      intro cur g4 g5 hS r4 r5 G4 G5 d4_5
      rw [hF.out, hG.out]
      clear stev1_0 stev1_1 stev1_2 stev1_3 stev1_4 stev1_5 stev1_7 stev1_8 stev1_9
      refine wpAnyH_ready (rs := [0]) (by kernel_rfl) (by simp) ?_
      refine AllReadyH.cons (o := qev1x0) rfl (fun K hK => ?_) (AllReadyH.nil)
      · unfold qev1x0
        go_simp
        (go_at_call 63; refine (k1 _).mono ?_; rintro e w1 ⟨rfl, hb1⟩)
        (try go_simp)
        have hS1 := below_next hS hb1
        replace r4 := r4.still hb1
        replace r5 := r5.still hb1
        refine hK.out _ _ hS1 (fun h => ?_)
        clear h hK K hb1
        rw [← hG.out]
        exact dag_step3 (stev1_6.out w1 g4 g5 hS1 r4 r5 G4 G5 d4_5) (by kernel_rfl) (by kernel_rfl) (hF.out _ _ _ _))
    have stev1_11 : Hid (∀ (cur : World) (g4 : Nat), Below Vev1_.heap.size Vev1_ cur → RW cur g4 0 (c4 (0)) → Vev1_.heap.size ≤ g4 → G 5 #[false, true, true, false, true, false, false, false] (F (.pointer (some ⟨g4, 0, none⟩)) undef undef undef) cur) := Hid.mk' (by
      intro cur g4 hS r4 G4
      rw [hF.out, hG.out]
      clear stev1_0 stev1_1 stev1_2 stev1_3 stev1_4 stev1_5 stev1_6 stev1_8 stev1_9
      refine wpAnyH_ready (rs := [0, 5]) (by kernel_rfl) (by simp) ?_
      refine AllReadyH.cons (o := qev1x0) rfl (fun K hK => ?_) (AllReadyH.cons (o := qev1x5) rfl (fun K hK => ?_) (AllReadyH.nil))
      · unfold qev1x0
        go_simp
        (go_at_call 63; refine (k1 _).mono ?_; rintro e w1 ⟨rfl, hb1⟩)
        (try go_simp)
        have hS1 := below_next hS hb1
        replace r4 := r4.still hb1
        refine hK.out _ _ hS1 (fun h => ?_)
        clear h hK K hb1
        rw [← hG.out]
        exact dag_step3 (stev1_7.out w1 g4 hS1 r4 G4) (by kernel_rfl) (by kernel_rfl) (hF.out _ _ _ _)
      · unfold qev1x5
        go_simp
        obtain ⟨w1, g5, hw1, hg1, hb1, r5⟩ := fresh4 cur
        rw [hw1, hg1]
        have hS1 := below_next hS hb1
        have G5 : Vev1_.heap.size ≤ g5 := by have := hS.size; omega
        have d4_5 : g4 ≠ g5 := by have := r4.lt; omega
        replace r4 := r4.still hb1
        refine hK.out _ _ hS1 (fun h => ?_)
        clear h hK K hb1 hw1 hg1
        rw [← hG.out]
        exact dag_step3 (stev1_10.out w1 g4 g5 hS1 r4 r5 G4 G5 d4_5) (by kernel_rfl) (by kernel_rfl) (hF.out _ _ _ _))
    have stev1_12 : Hid (∀ (cur : World) (g5 : Nat), Below Vev1_.heap.size Vev1_ cur → RW cur g5 0 (c4 (0)) → Vev1_.heap.size ≤ g5 → G 5 #[false, true, true, false, false, true, false, false] (F undef (.pointer (some ⟨g5, 0, none⟩)) undef undef) cur) := Hid.mk' (by
      intro cur g5 hS r5 G5
      rw [hF.out, hG.out]
      clear stev1_0 stev1_1 stev1_2 stev1_3 stev1_4 stev1_5 stev1_6 stev1_7 stev1_9 stev1_11
      refine wpAnyH_ready (rs := [0, 4]) (by kernel_rfl) (by simp) ?_
      refine AllReadyH.cons (o := qev1x0) rfl (fun K hK => ?_) (AllReadyH.cons (o := qev1x4) rfl (fun K hK => ?_) (AllReadyH.nil))
      · unfold qev1x0
        go_simp
        (go_at_call 63; refine (k1 _).mono ?_; rintro e w1 ⟨rfl, hb1⟩)
        (try go_simp)
        have hS1 := below_next hS hb1
        replace r5 := r5.still hb1
        refine hK.out _ _ hS1 (fun h => ?_)
        clear h hK K hb1
        rw [← hG.out]
        exact dag_step3 (stev1_8.out w1 g5 hS1 r5 G5) (by kernel_rfl) (by kernel_rfl) (hF.out _ _ _ _)
      · unfold qev1x4
        go_simp
        obtain ⟨w1, g4, hw1, hg1, hb1, r4⟩ := fresh4 cur
        rw [hw1, hg1]
        have hS1 := below_next hS hb1
        have G4 : Vev1_.heap.size ≤ g4 := by have := hS.size; omega
        have d4_5 : g4 ≠ g5 := by have := r5.lt; omega
        replace r5 := r5.still hb1
        refine hK.out _ _ hS1 (fun h => ?_)
        clear h hK K hb1 hw1 hg1
        rw [← hG.out]
        exact dag_step3 (stev1_10.out w1 g4 g5 hS1 r4 r5 G4 G5 d4_5) (by kernel_rfl) (by kernel_rfl) (hF.out _ _ _ _))
    have stev1_13 : Hid (∀ (cur : World), Below Vev1_.heap.size Vev1_ cur → G 6 #[false, true, true, false, false, false, false, false] (F undef undef undef undef) cur) := Hid.mk' (by
      intro cur  hS 
      rw [hF.out, hG.out]
      clear stev1_0 stev1_1 stev1_2 stev1_3 stev1_4 stev1_5 stev1_6 stev1_7 stev1_8 stev1_10
      refine wpAnyH_ready (rs := [0, 4, 5]) (by kernel_rfl) (by simp) ?_
      refine AllReadyH.cons (o := qev1x0) rfl (fun K hK => ?_) (AllReadyH.cons (o := qev1x4) rfl (fun K hK => ?_) (AllReadyH.cons (o := qev1x5) rfl (fun K hK => ?_) (AllReadyH.nil)))
      · unfold qev1x0
        go_simp
        (go_at_call 63; refine (k1 _).mono ?_; rintro e w1 ⟨rfl, hb1⟩)
        (try go_simp)
        have hS1 := below_next hS hb1
        refine hK.out _ _ hS1 (fun h => ?_)
        clear h hK K hb1
        rw [← hG.out]
        exact dag_step3 (stev1_9.out w1  hS1 ) (by kernel_rfl) (by kernel_rfl) (hF.out _ _ _ _)
      · unfold qev1x4
        go_simp
        obtain ⟨w1, g4, hw1, hg1, hb1, r4⟩ := fresh4 cur
        rw [hw1, hg1]
        have hS1 := below_next hS hb1
        have G4 : Vev1_.heap.size ≤ g4 := by have := hS.size; omega
        refine hK.out _ _ hS1 (fun h => ?_)
        clear h hK K hb1 hw1 hg1
        rw [← hG.out]
        exact dag_step3 (stev1_11.out w1 g4 hS1 r4 G4) (by kernel_rfl) (by kernel_rfl) (hF.out _ _ _ _)
      · unfold qev1x5
        go_simp
        obtain ⟨w1, g5, hw1, hg1, hb1, r5⟩ := fresh4 cur
        rw [hw1, hg1]
        have hS1 := below_next hS hb1
        have G5 : Vev1_.heap.size ≤ g5 := by have := hS.size; omega
        refine hK.out _ _ hS1 (fun h => ?_)
        clear h hK K hb1 hw1 hg1
        rw [← hG.out]
        exact dag_step3 (stev1_12.out w1 g5 hS1 r5 G5) (by kernel_rfl) (by kernel_rfl) (hF.out _ _ _ _))
    exact dag_step3 (stev1_13.out Vev1_ hS) (by kernel_rfl) (by kernel_rfl) (hF.out _ _ _ _)
  case rest =>
  obtain ⟨b4, b5, rfl, rfl, hb1, B4, B5, h4, h5⟩ := hcut
  replace hres := hres.still hb1
  replace im := im.still hb1
  replace hbW := below_next hbW hb1
  obtain ⟨U, hU⟩ : ∃ W, W = wc := ⟨_, rfl⟩
  rw [← hU]
  rw [← hU] at hres im hbW h4 h5
  clear hU hb1 B4 B5 hy k1 k2
  go_upto_region 2 with (fail)
  have hdrew : Below U.heap.size U U.drew := (Below.refl _ _).drew
  replace hres := hres.still hdrew
  replace h4 := h4.still hdrew
  replace h5 := h5.still hdrew
  replace im := im.still hdrew
  replace hbW := below_next hbW hdrew
  clear hdrew
  refine wp_region_noPanic ?_
  refine wp_region_held_drew (S := fun w' => Below U.drew.heap.size U.drew w') (by kernel_rfl) (Below.refl _ _) (fun hHeld => ?_)
  clear hHeld
  refine wpAnyH_take (i := 0) (oi := { dst := some 14, op := Op.load 28 (Operand.tmp 5), type := 28, pos := "curve.go:86", after := #[], guard := none }) (v := numV yy) rfl (by kernel_rfl) (by kernel_rfl) (by kernel_rfl) (fun _ _ _ h => h) (yieldsIf_load_mid (by rfl) 28 _ rfl b5 0 rfl (c4 yy) _ (fun _ h => (h5.still h).range) Tryd.underlying28 rfl info4) (Below.refl _ _) ?_
  (try simp only [Act.put, List.setIfInBounds_toArray, List.set_cons_zero, List.set_cons_succ])
  refine wpAnyH_take (i := 1) (oi := { dst := some 15, op := Op.load 28 (Operand.tmp 4), type := 28, pos := "curve.go:86", after := #[], guard := none }) (v := numV 1) rfl (by kernel_rfl) (by kernel_rfl) (by kernel_rfl) (fun _ _ _ h => h) (yieldsIf_load_mid (by rfl) 28 _ rfl b4 0 rfl (c4 1) _ (fun _ h => (h4.still h).range) Tryd.underlying28 rfl info4) (Below.refl _ _) ?_
  (try simp only [Act.put, List.setIfInBounds_toArray, List.set_cons_zero, List.set_cons_succ])
  refine wpAnyH_take (i := 5) (oi := { dst := some 19, op := Op.load 28 (Operand.tmp 5), type := 28, pos := "curve.go:86", after := #[], guard := none }) (v := numV yy) rfl (by kernel_rfl) (by kernel_rfl) (by kernel_rfl) (fun _ _ _ h => h) (yieldsIf_load_mid (by rfl) 28 _ rfl b5 0 rfl (c4 yy) _ (fun _ h => (h5.still h).range) Tryd.underlying28 rfl info4) (Below.refl _ _) ?_
  (try simp only [Act.put, List.setIfInBounds_toArray, List.set_cons_zero, List.set_cons_succ])
  refine wpAnyH_take (i := 7) (oi := { dst := some 21, op := Op.load 28 (Operand.tmp 4), type := 28, pos := "curve.go:86", after := #[], guard := none }) (v := numV 1) rfl (by kernel_rfl) (by kernel_rfl) (by kernel_rfl) (fun _ _ _ h => h) (yieldsIf_load_mid (by rfl) 28 _ rfl b4 0 rfl (c4 1) _ (fun _ h => (h4.still h).range) Tryd.underlying28 rfl info4) (Below.refl _ _) ?_
  (try simp only [Act.put, List.setIfInBounds_toArray, List.set_cons_zero, List.set_cons_succ])
  refine wpAnyH_ready (rs := [2]) (by kernel_rfl) (by simp) ?_
  refine AllReadyH.cons (o := { dst := some 16, op := Op.call { callee := Callee.value (Operand.func 35), args := #[Operand.tmp 14, Operand.tmp 15], argTypes := #[28, 28] }, type := 28, pos := "curve.go:86", after := #[{ on := 0, ground := Ground.data }, { on := 1, ground := Ground.data }], guard := none }) rfl (fun K hK => ?_) AllReadyH.nil
  go_simp
  (go_at_call 35; refine (k3 _).mono ?_; clear k3; rintro e w1 ⟨rfl, hb1⟩)
  (try go_simp)
  refine hK.out _ _ hb1 (fun h => ?_)
  clear h hK K
  refine wpAnyH_narrow (S' := fun w' => Below w1.heap.size w1 w') (fun _ h => below_next hb1 h) _ _ _ _ ?_
  replace hres := hres.still hb1
  replace h4 := h4.still hb1
  replace h5 := h5.still hb1
  replace im := im.still hb1
  replace hbW := below_next hbW hb1
  clear hb1
  (try simp only [Act.put, List.setIfInBounds_toArray, List.set_cons_zero, List.set_cons_succ])
  refine wpAnyH_ready (rs := [3]) (by kernel_rfl) (by simp) ?_
  refine AllReadyH.cons (o := { dst := some 17, op := Op.call { callee := Callee.value (Operand.func 65), args := #[Operand.tmp 16], argTypes := #[28] }, type := 22, pos := "curve.go:86", after := #[{ on := 2, ground := Ground.data }, { on := 2, ground := Ground.chain }], guard := none }) rfl (fun K hK => ?_) AllReadyH.nil
  go_simp
  (go_at_call 65; refine (k4 _).mono ?_; clear k4; rintro e w2 ⟨s2, rfl, tu, hb2⟩)
  (try go_simp)
  refine hK.out _ _ hb2 (fun h => ?_)
  clear h hK K
  refine wpAnyH_narrow (S' := fun w' => Below w2.heap.size w2 w') (fun _ h => below_next hb2 h) _ _ _ _ ?_
  replace hres := hres.still hb2
  replace h4 := h4.still hb2
  replace h5 := h5.still hb2
  replace im := im.still hb2
  replace hbW := below_next hbW hb2
  clear hb2
  (try simp only [Act.put, List.setIfInBounds_toArray, List.set_cons_zero, List.set_cons_succ])
  refine wpAnyH_ready (rs := [4]) (by kernel_rfl) (by simp) ?_
  refine AllReadyH.cons (o := { dst := some 18, op := Op.call { callee := Callee.value (Operand.func 66), args := #[], argTypes := #[] }, type := 28, pos := "curve.go:86", after := #[{ on := 3, ground := Ground.chain }], guard := none }) rfl (fun K hK => ?_) AllReadyH.nil
  go_simp
  (go_at_call 66; refine (k5 _).mono ?_; clear k5; rintro e w3 ⟨rfl, hb3⟩)
  (try go_simp)
  refine hK.out _ _ hb3 (fun h => ?_)
  clear h hK K
  refine wpAnyH_narrow (S' := fun w' => Below w3.heap.size w3 w') (fun _ h => below_next hb3 h) _ _ _ _ ?_
  replace hres := hres.still hb3
  replace h4 := h4.still hb3
  replace h5 := h5.still hb3
  replace im := im.still hb3
  replace tu := tu.still hb3
  replace hbW := below_next hbW hb3
  clear hb3
  (try simp only [Act.put, List.setIfInBounds_toArray, List.set_cons_zero, List.set_cons_succ])
  refine wpAnyH_ready (rs := [6]) (by kernel_rfl) (by simp) ?_
  refine AllReadyH.cons (o := { dst := some 20, op := Op.call { callee := Callee.value (Operand.func 51), args := #[Operand.tmp 18, Operand.tmp 19], argTypes := #[28, 28] }, type := 28, pos := "curve.go:86", after := #[{ on := 4, ground := Ground.data }, { on := 5, ground := Ground.data }, { on := 4, ground := Ground.chain }], guard := none }) rfl (fun K hK => ?_) AllReadyH.nil
  go_simp
  (go_at_call 51; refine (k6 _).mono ?_; clear k6; rintro e w4 ⟨rfl, hb4⟩)
  (try go_simp)
  refine hK.out _ _ hb4 (fun h => ?_)
  clear h hK K
  refine wpAnyH_narrow (S' := fun w' => Below w4.heap.size w4 w') (fun _ h => below_next hb4 h) _ _ _ _ ?_
  replace hres := hres.still hb4
  replace h4 := h4.still hb4
  replace h5 := h5.still hb4
  replace im := im.still hb4
  replace tu := tu.still hb4
  replace hbW := below_next hbW hb4
  clear hb4
  (try simp only [Act.put, List.setIfInBounds_toArray, List.set_cons_zero, List.set_cons_succ])
  refine wpAnyH_ready (rs := [8]) (by kernel_rfl) (by simp) ?_
  refine AllReadyH.cons (o := { dst := some 22, op := Op.call { callee := Callee.value (Operand.func 67), args := #[Operand.tmp 20, Operand.tmp 21], argTypes := #[28, 28] }, type := 28, pos := "curve.go:86", after := #[{ on := 6, ground := Ground.data }, { on := 7, ground := Ground.data }, { on := 6, ground := Ground.chain }], guard := none }) rfl (fun K hK => ?_) AllReadyH.nil
  go_simp
  (go_at_call 67; refine (k7 _).mono ?_; clear k7; rintro e w5 ⟨rfl, hb5⟩)
  (try go_simp)
  refine hK.out _ _ hb5 (fun h => ?_)
  clear h hK K
  refine wpAnyH_narrow (S' := fun w' => Below w5.heap.size w5 w') (fun _ h => below_next hb5 h) _ _ _ _ ?_
  replace hres := hres.still hb5
  replace h4 := h4.still hb5
  replace h5 := h5.still hb5
  replace im := im.still hb5
  replace tu := tu.still hb5
  replace hbW := below_next hbW hb5
  clear hb5
  (try simp only [Act.put, List.setIfInBounds_toArray, List.set_cons_zero, List.set_cons_succ])
  refine wpAnyH_ready (rs := [9]) (by kernel_rfl) (by simp) ?_
  refine AllReadyH.cons (o := { dst := some 23, op := Op.call { callee := Callee.value (Operand.func 65), args := #[Operand.tmp 22], argTypes := #[28] }, type := 22, pos := "curve.go:86", after := #[{ on := 8, ground := Ground.data }, { on := 8, ground := Ground.chain }], guard := none }) rfl (fun K hK => ?_) AllReadyH.nil
  go_simp
  (go_at_call 65; refine (k8 _).mono ?_; clear k8; rintro e w6 ⟨s6, rfl, tv, hb6⟩)
  (try go_simp)
  refine hK.out _ _ hb6 (fun h => ?_)
  clear h hK K
  refine wpAnyH_narrow (S' := fun w' => Below w6.heap.size w6 w') (fun _ h => below_next hb6 h) _ _ _ _ ?_
  replace hres := hres.still hb6
  replace h4 := h4.still hb6
  replace h5 := h5.still hb6
  replace im := im.still hb6
  replace tu := tu.still hb6
  replace hbW := below_next hbW hb6
  clear hb6
  (try simp only [Act.put, List.setIfInBounds_toArray, List.set_cons_zero, List.set_cons_succ])
  refine wpAnyH_ready (rs := [10]) (by kernel_rfl) (by simp) ?_
  refine AllReadyH.cons (o := { dst := some 24, op := Op.call { callee := Callee.value (Operand.func 64), args := #[Operand.tmp 17, Operand.tmp 23], argTypes := #[22, 22] }, type := 90, pos := "curve.go:86", after := #[{ on := 3, ground := Ground.data }, { on := 9, ground := Ground.data }, { on := 9, ground := Ground.chain }], guard := none }) rfl (fun K hK => ?_) AllReadyH.nil
  go_simp
  (go_at_call 64; refine (k9 _ _ _ im tu tv).mono ?_; clear k9; rintro e w7 ⟨s7, rfl, tr, hb7⟩; (obtain ⟨gr, hsr, -, hrr⟩ := tr); (have lgr := block_lt_of_cell (hrr 0 (by decide)).1); subst hsr)
  (try go_simp)
  refine hK.out _ _ hb7 (fun h => ?_)
  clear h hK K
  refine wpAnyH_narrow (S' := fun w' => Below w7.heap.size w7 w') (fun _ h => below_next hb7 h) _ _ _ _ ?_
  clear tu
  clear tv
  clear im
  clear h4
  clear h5
  replace hres := hres.still hb7
  replace hbW := below_next hbW hb7
  clear hb7
  (try simp only [Act.put, List.setIfInBounds_toArray, List.set_cons_zero, List.set_cons_succ])
  refine wpAnyH_take (i := 11) (oi := { dst := some 13, op := Op.move (Operand.tmp 24), type := 90, pos := "curve.go:86", after := #[{ on := 10, ground := Ground.data }], guard := none }) (v := ?ve11) rfl (by kernel_rfl) (by kernel_rfl) (by kernel_rfl) (fun _ _ _ h => h) (Or.inl ⟨by rfl, ?he11⟩) (Below.refl _ _) ?re11
  case he11 =>
    intro w hSw
    go_simp
    try with_reducible rfl
  (try simp only [Act.put, List.setIfInBounds_toArray, List.set_cons_zero, List.set_cons_succ])
  refine wpAnyH_take (i := 12) (oi := { dst := some 25, op := Op.extract (Operand.tmp 13) 0, type := 22, pos := "curve.go:86", after := #[{ on := 11, ground := Ground.data }], guard := none }) (v := ?ve12) rfl (by kernel_rfl) (by kernel_rfl) (by kernel_rfl) (fun _ _ _ h => h) (Or.inl ⟨by rfl, ?he12⟩) (Below.refl _ _) ?re12
  case he12 =>
    intro w hSw
    go_simp
    try with_reducible rfl
  (try simp only [Act.put, List.setIfInBounds_toArray, List.set_cons_zero, List.set_cons_succ])
  refine wpAnyH_take (i := 13) (oi := { dst := some 26, op := Op.extract (Operand.tmp 13) 1, type := 4, pos := "curve.go:86", after := #[{ on := 11, ground := Ground.data }, { on := 15, ground := Ground.gcOnly Departure.lateStores }], guard := none }) (v := ?ve13) rfl (by kernel_rfl) (by kernel_rfl) (by kernel_rfl) (fun _ _ _ h => h) (Or.inl ⟨by rfl, ?he13⟩) (Below.refl _ _) ?re13
  case he13 =>
    intro w hSw
    go_simp
    try with_reducible rfl
  (try simp only [Act.put, List.setIfInBounds_toArray, List.set_cons_zero, List.set_cons_succ])
  refine wpAnyH_take (i := 14) (oi := { dst := some 27, op := Op.extract (Operand.tmp 13) 2, type := 31, pos := "curve.go:86", after := #[{ on := 11, ground := Ground.data }, { on := 16, ground := Ground.gcOnly Departure.lateStores }], guard := none }) (v := ?ve14) rfl (by kernel_rfl) (by kernel_rfl) (by kernel_rfl) (fun _ _ _ h => h) (Or.inl ⟨by rfl, ?he14⟩) (Below.refl _ _) ?re14
  case he14 =>
    intro w hSw
    go_simp
    try with_reducible rfl
  (try simp only [Act.put, List.setIfInBounds_toArray, List.set_cons_zero, List.set_cons_succ])
  refine wpAnyH_take (i := 15) (oi := { dst := some 6, op := Op.assign (Operand.tmp 25), type := 22, pos := "curve.go:86", after := #[{ on := 12, ground := Ground.data }, { on := 10, ground := Ground.chain }, { on := 0, ground := Ground.phase }, { on := 1, ground := Ground.phase }, { on := 2, ground := Ground.phase }, { on := 3, ground := Ground.phase }, { on := 4, ground := Ground.phase }, { on := 5, ground := Ground.phase }, { on := 6, ground := Ground.phase }, { on := 7, ground := Ground.phase }, { on := 8, ground := Ground.phase }, { on := 9, ground := Ground.phase }, { on := 10, ground := Ground.phase }, { on := 11, ground := Ground.phase }, { on := 12, ground := Ground.phase }, { on := 13, ground := Ground.textOnly Departure.lateStores }, { on := 14, ground := Ground.textOnly Departure.lateStores }], guard := none }) (v := ?ve15) rfl (by kernel_rfl) (by kernel_rfl) (by kernel_rfl) (fun _ _ _ h => h) (Or.inl ⟨by rfl, ?he15⟩) (Below.refl _ _) ?re15
  case he15 =>
    intro w hSw
    go_simp
    try with_reducible rfl
  (try simp only [Act.put, List.setIfInBounds_toArray, List.set_cons_zero, List.set_cons_succ])
  refine wpAnyH_take (i := 16) (oi := { dst := some 7, op := Op.assign (Operand.tmp 26), type := 4, pos := "curve.go:86", after := #[{ on := 13, ground := Ground.data }, { on := 15, ground := Ground.chain }, { on := 0, ground := Ground.phase }, { on := 1, ground := Ground.phase }, { on := 2, ground := Ground.phase }, { on := 3, ground := Ground.phase }, { on := 4, ground := Ground.phase }, { on := 5, ground := Ground.phase }, { on := 6, ground := Ground.phase }, { on := 7, ground := Ground.phase }, { on := 8, ground := Ground.phase }, { on := 9, ground := Ground.phase }, { on := 10, ground := Ground.phase }, { on := 11, ground := Ground.phase }, { on := 12, ground := Ground.phase }, { on := 13, ground := Ground.phase }, { on := 14, ground := Ground.textOnly Departure.lateStores }, { on := 15, ground := Ground.phase }], guard := none }) (v := ?ve16) rfl (by kernel_rfl) (by kernel_rfl) (by kernel_rfl) (fun _ _ _ h => h) (Or.inl ⟨by rfl, ?he16⟩) (Below.refl _ _) ?re16
  case he16 =>
    intro w hSw
    go_simp
    try with_reducible rfl
  (try simp only [Act.put, List.setIfInBounds_toArray, List.set_cons_zero, List.set_cons_succ])
  refine wpAnyH_take (i := 17) (oi := { dst := some 8, op := Op.assign (Operand.tmp 27), type := 31, pos := "curve.go:86", after := #[{ on := 14, ground := Ground.data }, { on := 16, ground := Ground.chain }, { on := 0, ground := Ground.phase }, { on := 1, ground := Ground.phase }, { on := 2, ground := Ground.phase }, { on := 3, ground := Ground.phase }, { on := 4, ground := Ground.phase }, { on := 5, ground := Ground.phase }, { on := 6, ground := Ground.phase }, { on := 7, ground := Ground.phase }, { on := 8, ground := Ground.phase }, { on := 9, ground := Ground.phase }, { on := 10, ground := Ground.phase }, { on := 11, ground := Ground.phase }, { on := 12, ground := Ground.phase }, { on := 13, ground := Ground.phase }, { on := 14, ground := Ground.phase }, { on := 15, ground := Ground.phase }, { on := 16, ground := Ground.phase }], guard := none }) (v := ?ve17) rfl (by kernel_rfl) (by kernel_rfl) (by kernel_rfl) (fun _ _ _ h => h) (Or.inl ⟨by rfl, ?he17⟩) (Below.refl _ _) ?re17
  case he17 =>
    intro w hSw
    go_simp
    try with_reducible rfl
  (try simp only [Act.put, List.setIfInBounds_toArray, List.set_cons_zero, List.set_cons_succ])
  refine wpAnyH_done (by kernel_rfl) ?_ _
  refine NoPanic.normal ?_
  have hB : BytesIn w7 (.slice (some ⟨gr, 0, none⟩) 32 32) 32 (byt n) := .inr ⟨gr, 0, 32, rfl, lgr, Nat.le_refl _, fun j hj => (hrr j hj).1⟩
  cases hok : ok with
  | false =>
    have HOk := Hid.mk' hok
    have hn := h0 hok
    have Hn := Hid.mk' hn
    clear h0 hok hrr hB kn hn
    have t2 : w7.there g2 0 (c4 0).toArray.size := hres.there
    go_wp2_with (first
      | (refine wpList_build0 rfl 28 rfl _ built0 ?_)
      | (with_reducible (refine id (?_ : wpList _ _ _ _ _ _)); refine wpList_store_mid rfl 28 _ _ rfl g2 0 (c4 0).toArray rfl rfl t2 (info4a 0) (one4 0) ?_))
    (try simp only [Exit.inBlock, Exit.then])
    rw [Hn.out]
    exact bodyPost_ret (results_cell_tmp Tryd.results34 _ _ g2 0 (c4 0) _ rfl (hres.stored (c4 0) rfl).range Tryd.underlying28 rfl info4) rfl ⟨by rw [HOk.out]; rfl, below_setCells w2l _ _ _ hbW⟩
  | true =>
    have HOk := Hid.mk' hok
    have kn2 : Calls Tryd.prog 33 #[.slice (some ⟨gr, 0, none⟩) 32 32] w7 fun e w' => e = .returned (.agg (c4 n).toArray) ∧ Below w7.heap.size w7 w' := kn _ _ hB
    clear h0 hok hrr hB kn
    go_wp2_with (first
      | (go_at_call 33; refine kn2.mono ?_; clear kn2; rintro e w8 ⟨rfl, hb8⟩; (replace hres := hres.still hb8); (replace hbW := below_next hbW hb8); clear hb8; (have t2 : w8.there g2 0 (c4 n).toArray.size := hres.there))
      | (with_reducible (refine id (?_ : wpList _ _ _ _ _ _)); refine wpList_store_mid rfl 28 _ _ rfl g2 0 (c4 n).toArray rfl rfl t2 (info4a n) (one4 n) ?_))
    (try simp only [Exit.inBlock, Exit.then])
    exact bodyPost_ret (results_cell_tmp Tryd.results34 _ _ g2 0 (c4 n) _ rfl (hres.stored (c4 n) rfl).range Tryd.underlying28 rfl info4) rfl ⟨by rw [HOk.out]; rfl, below_setCells w2l _ _ _ hbW⟩
theorem ofB_small {n : Nat} (h : n < pF) : ofB (byt n) 32 % pF = n := by
  have hp : pF < 256 ^ 32 := by decide
  rw [ofB_byt, Nat.mod_eq_of_lt (Nat.lt_trans h hp), Nat.mod_eq_of_lt h]
theorem num_of {n : Nat} (h : n < pF) : fromN 32 (byt n) = n := by
  unfold fromN
  rw [if_pos rfl, ofB_small h]
theorem bytes_in (n : Nat) (w : World) : Calls Tryd.prog 65 #[numV n] w fun e w' => ∃ s, e = .returned s ∧ BytesIn w' s 32 (byt n) ∧ Below w.heap.size w w' :=
  (bytes_any n w).mono fun _ _ ⟨g, he, hg, hr, hb⟩ => ⟨_, he, NewB.bytes ⟨g, rfl, hg, hr⟩ (by decide), hb⟩
theorem rootP_lt {k u v : Nat} (hk : 8 * k + 5 = pF) (hu : u < pF) (hv : v < pF) : (rootP k u v).getD 0 < pF := by
  rw [root_same hk hu hv]; exact rootR_lt6 k u v
theorem none_zero (o : Option Nat) (h : o.isSome = false) : o.getD 0 = 0 := by cases o with | none => rfl | some x => cases h
theorem evenX_any (y : Nat) (hy : y < pF) (w : World) (im : IM w) :
    Calls Tryd.prog 34 #[numV y] w fun e w' => e = .returned (.tuple #[numV ((rootP kP (decU y) (decV y)).getD 0), .bool (rootP kP (decU y) (decV y)).isSome]) ∧ Below w.heap.size w w' := by
  have hu : decU y < pF := fsub_lt _ _
  have hv : decV y < pF := fadd_lt _ _
  have hl := rootP_lt kP_eq hu hv
  have k9 : ∀ a b W, IM W → BytesIn W a 32 (byt (decU y)) → BytesIn W b 32 (byt (decV y)) → Calls Tryd.prog 64 #[a, b] W fun e w' => ∃ s, e = .returned (.tuple #[s, .bool (rootP kP (decU y) (decV y)).isSome, .int .i64 0]) ∧ NewB W w' s 32 (byt ((rootP kP (decU y) (decV y)).getD 0)) ∧ Below W.heap.size W w' := fun a b W im ha hb => by
    have k := froot_good a b _ _ (byt_all _) (byt_all _) W im ha hb
    rw [ofB_small hu, ofB_small hv] at k
    exact k
  have kn : ∀ a W, BytesIn W a 32 (byt ((rootP kP (decU y) (decV y)).getD 0)) → Calls Tryd.prog 33 #[a] W fun e w' => e = .returned (numV ((rootP kP (decU y) (decV y)).getD 0)) ∧ Below W.heap.size W w' := fun a W ha => by
    have k := pnumber_any a 32 _ (byt_all _) W ha
    rw [num_of hl] at k
    exact k
  have hz := none_zero (rootP kP (decU y) (decV y))
  generalize rootP kP (decU y) (decV y) = R at *
  exact evenX_raw y (fmul y y) (decU y) dN (fmul dN (fmul y y)) (decV y) (R.getD 0) R.isSome (fun W => fsmall_pos 1 (by decide) W) (fun W => times_any y y hy hy W) (fun W => minus_any _ _ (fmul_lt _ _) (by decide) W) (fun W => bytes_in _ W) (fun W => curveD_any W) (fun W => times_any _ _ dN_lt (fmul_lt _ _) W) (fun W => plus_any _ _ (fmul_lt _ _) (by decide) W) (fun W => bytes_in _ W) k9 kn hz w im
end Go.Proofs.YteekjcfbnoakgaaDoor
namespace Go.Proofs.YteekjcfbnoakgaaDoor
open Go.RowKit
theorem run_eql_slice_nil {P : Program} (w : World) (t e : TypeId) (a : Option Addr) (l c : Nat) (h : P.underlying t = some (.slice e)) : (binOp .eql t (.slice a l c) (.slice none 0 0)).run P w = .ok (.bool a.isNone) w := by
  simp only [binOp]
  simp [run_equal_slice_nil w t e a l c h]
/-- A slice that is there and nil. -/
theorem wpList_eqnil {ops : Array Oper} {rest : List Oper} {op : Oper} {a : Act} {w : World} {Q : Exit → Act → World → Prop} (hgd : op.guard = none) (x y : Operand) (t2 : TypeId) (ho : op.op = .binOp .eql 22 x y t2) (ad : Addr) (l c : Nat)
    (hx : a.eval x = .slice (some ad) l c) (hy : a.eval y = .slice none 0 0) (h : wpList Tryd.prog ops Q rest (a.put op.dst (.bool false)) w) : wpList Tryd.prog ops Q (op :: rest) a w :=
  wpList_plain hgd fun K hK => by
    unfold Oper.wp execOp
    simp only [ho, hx, hy]
    have e : (eqGuard .eql 22 x y (.slice (some ad) l c) (.slice none 0 0)).run Tryd.prog w = .ok () w := by
      simp [eqGuard]
    rw [Sem.run_bind, Sem.run_bind, e]
    simp only [Result.andThen_ok]
    rw [run_eql_slice_nil w 22 5 (some ad) l c Tryd.underlying22]
    exact hK _ _ h
set_option maxRecDepth 20000 in
set_option maxHeartbeats 4000000 in
theorem clone_any (v : Value) (bs : Nat → Nat) (w : World) (hv : BytesIn w v 32 bs) :
    Calls Tryd.prog 32 #[v] w fun e w' => ∃ g cap, e = .returned (.slice (some ⟨g, 0, none⟩) 32 cap) ∧ w.heap.size ≤ g ∧ g < w'.heap.size ∧ 32 ≤ cap ∧ RowAt .u8 w' g 0 32 bs ∧ Below w.heap.size w w' := by
  obtain ⟨bb, ob, cap, hsl, hlb, hcap, hc⟩ : ∃ bb ob cap, v = .slice (some ⟨bb, ob, none⟩) 32 cap ∧ bb < w.heap.size ∧ 32 ≤ cap ∧ ∀ j, j < 32 → w.cell? ⟨bb, ob + j, none⟩ = some (.int .u8 (bs j)) := hv.resolve_left (fun ⟨_, _, h⟩ => by omega)
  have src0 := (BytesIn.src hv)
  subst hsl
  obtain ⟨xo, kv, hxo, hun, -, hsrc⟩ := src0
  have src1 := hsrc (w.alloc (.cells #[] 5)) ((Below.refl _ _).alloc (Nat.le_refl _) _)
  obtain ⟨rfl, rfl⟩ : some (⟨bb, ob, none⟩ : Addr) = xo ∧ cap = kv := by injection hxo with a b c; exact ⟨a, c⟩
  clear hsrc hxo hv hc
  go_enter Tryd.func32, Tryd.ntmps32
  go_wp2_with (first
    | (refine wpList_eqnil rfl _ _ _ rfl ⟨bb, ob, none⟩ 32 cap rfl rfl ?_)
    | (at_builtin; refine wpList_append_empty rfl (.tmp 5) (.tmp 6) rfl w.heap.size bs _ rfl rfl (some ⟨bb, ob, none⟩) 32 cap rfl src1 hun (by omega) (Nat.le_refl _) ?_; intro v4 w4 own4 hb4; clear src1; (obtain ⟨g4, cap4, hv4, hg4, hgl4, hcap4, row4⟩ : ∃ g cap, v4 = .slice (some ⟨g, 0, none⟩) 32 cap ∧ w.heap.size ≤ g ∧ g < w4.heap.size ∧ 32 ≤ cap ∧ RowAt .u8 w4 g 0 32 bs := own4.form.resolve_left (fun h => by omega)); subst hv4; clear own4))
  go_ret
  exact ⟨g4, cap4, rfl, hg4, hgl4, hcap4, row4, hb4⟩
theorem high_u8 : ∀ b : Nat, b < 256 → bits .and .u8 (b : Int) 128 = ((128 * (b / 128) : Nat) : Int) := by decide +kernel
theorem low_u8 : ∀ b : Nat, b < 256 → bits .andNot .u8 (b : Int) 128 = ((b % 128 : Nat) : Int) := by decide +kernel
theorem encXY_lt (x : Nat) {y : Nat} (hy : y < pF) (j : Nat) : encXY x y j < 256 := by
  have h := byt31_lt hy
  have h2 := byt_lt y j
  unfold encXY
  split <;> omega
theorem enc_str_t {x y : Nat} (hy : y < pF) {bs : Nat → Nat} (hbs : ∀ j, bs j < 256) (h : ∀ j, j < 32 → encXY x y j = bs j) : ((strB 32 (encXY x y)).toList == (strB 32 bs).toList) = true := by
  rw [(strB_eq (encXY_lt x hy) hbs).2 ⟨rfl, h⟩]; exact beq_self_eq_true _
theorem enc_str_f {x y : Nat} (hy : y < pF) {bs : Nat → Nat} (hbs : ∀ j, bs j < 256) (h : ¬∀ j, j < 32 → encXY x y j = bs j) : ((strB 32 (encXY x y)).toList == (strB 32 bs).toList) = false := by
  rw [ByteArray.toList_eq, ByteArray.toList_eq]
  exact beq_false_of_ne (fun e => h ((strB_eq (encXY_lt x hy) hbs).1 (WideShapes.bytes_inj e)).2)
/-- x, or its negative where the highest bit is set. -/
def sgnX (bs : Nat → Nat) (x : Nat) : Nat := if bs 31 / 128 = 1 then fsub 0 x else x
theorem sgnX_lt (bs : Nat → Nat) {x : Nat} (hx : x < pF) : sgnX bs x < pF := by unfold sgnX; split; exact fsub_lt _ _; exact hx
theorem rootS (y : Nat) : rootP kP (decU y) (decV y) = rootR kP (decU y) (decV y) := root_same kP_eq (fsub_lt _ _) (fadd_lt _ _)
theorem decN_no {bs : Nat → Nat} (h : ofB (lo6 bs) 32 < pF) (ho : rootR kP (decU (ofB (lo6 bs) 32)) (decV (ofB (lo6 bs) 32)) = none) : decN bs = none := by
  unfold decN
  rw [if_pos h, ho]
theorem decN_yes {bs : Nat → Nat} (h : ofB (lo6 bs) 32 < pF) {x : Nat} (ho : rootR kP (decU (ofB (lo6 bs) 32)) (decV (ofB (lo6 bs) 32)) = some x) : decN bs = if bs 31 / 128 = 1 ∧ x = 0 then none else some (ofXY (sgnX bs x) (ofB (lo6 bs) 32)) := by
  unfold decN sgnX
  rw [if_pos h, ho]
theorem decN_big {bs : Nat → Nat} (h : ¬ofB (lo6 bs) 32 < pF) : decN bs = none := by unfold decN; rw [if_neg h]
/-- No x: no point. -/
theorem dec_none {bs : Nat → Nat} {y : Nat} (hy : ofB (lo6 bs) 32 % pF = y) (hR : rootP kP (decU y) (decV y) = none) : decN bs = none := by
  by_cases h : ofB (lo6 bs) 32 < pF
  · rw [Nat.mod_eq_of_lt h] at hy
    rw [rootS, ← hy] at hR
    exact decN_no h hR
  · exact decN_big h
theorem enc_parity {bs : Nat → Nat} (hbs : ∀ j, bs j < 256) {x y : Nat} (hy : y < pF) (h : ∀ j, j < 32 → encXY x y j = bs j) : (∀ j, j < 32 → byt y j = lo6 bs j) ∧ x % 2 = bs 31 / 128 := by
  have h31 := h 31 (by decide)
  have hl := byt31_lt hy
  have hb := hbs 31
  unfold encXY at h31
  rw [if_pos rfl] at h31
  refine ⟨fun j hj => ?_, by omega⟩
  unfold lo6
  by_cases e : j = 31
  · rw [if_pos e, e]; omega
  · rw [if_neg e]
    have := h j hj
    unfold encXY at this
    rwa [if_neg e] at this
/-- Bytes that are those of the point at x and y: it is told. -/
theorem dec_some {bs : Nat → Nat} (hbs : ∀ j, bs j < 256) {x y : Nat} (hy : ofB (lo6 bs) 32 % pF = y) (hR : rootP kP (decU y) (decV y) = some x) (h : ∀ j, j < 32 → encXY (sgnX bs x) y j = bs j) : decN bs = some (ofXY (sgnX bs x) y) := by
  have hyl : y < pF := by rw [← hy]; exact Nat.mod_lt _ (by decide)
  obtain ⟨h1, h2⟩ := enc_parity hbs hyl h
  have hp : pF < 256 ^ 32 := by decide
  have e : y = ofB (lo6 bs) 32 := by
    have := ofB_congr 32 h1
    rwa [ofB_byt, Nat.mod_eq_of_lt (Nat.lt_trans hyl hp)] at this
  rw [rootS, e] at hR
  rw [decN_yes (by rw [← e]; exact hyl) hR, ← e, if_neg]
  intro ⟨ho, h0⟩
  unfold sgnX at h2
  rw [if_pos ho, ho, h0] at h2
  exact absurd h2 (by decide)
/-- Bytes that are not those: no point. -/
theorem dec_other {bs : Nat → Nat} (hbs : ∀ j, bs j < 256) {x y : Nat} (hy : ofB (lo6 bs) 32 % pF = y) (hR : rootP kP (decU y) (decV y) = some x) (hx : x < pF) (h : ¬∀ j, j < 32 → encXY (sgnX bs x) y j = bs j) : decN bs = none := by
  by_cases hl : ofB (lo6 bs) 32 < pF
  · rw [Nat.mod_eq_of_lt hl] at hy
    obtain ⟨-, h2⟩ := root_is (fsub_lt _ _) hR
    have hR' := hR
    rw [rootS, ← hy] at hR'
    rw [decN_yes hl hR']
    by_cases hz : bs 31 / 128 = 1 ∧ x = 0
    · rw [if_pos hz]
    · exfalso
      refine h fun j hj => ?_
      have hb := hbs 31
      have hodd : sgnX bs x % 2 = bs 31 / 128 := by
        unfold sgnX
        by_cases ho : bs 31 / 128 = 1
        · rw [if_pos ho, ho]; exact fsub_odd (fun h0 => hz ⟨ho, h0⟩) hx h2
        · rw [if_neg ho]; omega
      have hbyt : byt y j = lo6 bs j := by rw [← hy]; exact byt_ofB _ (lo6_lt hbs) 32 j hj
      unfold lo6 at hbyt
      unfold encXY
      by_cases e : j = 31
      · rw [if_pos e] at hbyt ⊢
        rw [e] at hbyt ⊢
        rw [hbyt, hodd]; omega
      · rw [if_neg e] at hbyt ⊢
        exact hbyt
  · exact decN_big hl
end Go.Proofs.YteekjcfbnoakgaaDoor
