/- What the proof stands on: PDcw, PInst, Kit, FLaid. -/
import Derived.Test.YteekjcfbnoakgaaDoorBaseM
import Derived.Test.YteekjcfbnoakgaaDoorCards
import Derived.Test.YteekjcfbnoakgaaDoorPTmsM
import Derived.Test.YteekjcfbnoakgaaDoorRootQM
import Derived.Test.YteekjcfbnoakgaaDoorTie
import Derived.ChangeOld
import Derived.ChangeSlices
import Derived.Deep.DeepHandedRow
import Derived.Lib.LaidTab
import Derived.OpenShut
import Derived.ProofKit
import Derived.SizedLaws
import Derived.WalkKit
namespace Go.Proofs.YteekjcfbnoakgaaDoor
open Go.RowKit
set_option maxRecDepth 20000 in
set_option maxHeartbeats 16000000 in
theorem pdec_good (v : Value) (bs : Nat → Nat) (hbs : ∀ j, bs j < 256) (w : World) (im : IM w) (hv : BytesIn w v 32 bs) :
    Calls Tryd.prog 9 #[v] w fun e w' => ∃ (c : List Value) (er : Int), e = .returned (.tuple #[.agg c.toArray, .int .i64 er]) ∧ Below w.heap.size w w' ∧
      ((er = 30 ∧ R6 c ezero ∧ decN bs = none) ∨ (er = 0 ∧ (decN bs).isSome = true ∧ ∃ P, R6 c P ∧ ∀ j, j < 32 → encB P j = bs j)) := by
  have hzp := zeroP
  have hv0 := hv
  obtain ⟨bb, ob, cap, hsl, hlb, hcap, hcl⟩ : ∃ bb ob cap, v = .slice (some ⟨bb, ob, none⟩) 32 cap ∧ bb < w.heap.size ∧ 32 ≤ cap ∧ ∀ j, j < 32 → w.cell? ⟨bb, ob + j, none⟩ = some (.int .u8 (bs j)) := hv.resolve_left (fun ⟨_, _, h⟩ => by omega)
  obtain ⟨y, hy⟩ : ∃ y, ofB (lo6 bs) 32 % pF = y := ⟨_, rfl⟩
  have hyl : y < pF := by rw [← hy]; exact Nat.mod_lt _ (by decide)
  have kc := fun W h => clone_any v bs W h
  have kn : ∀ W s, BytesIn W s 32 (lo6 bs) → Calls Tryd.prog 33 #[s] W fun e w' => e = .returned (.agg (c4 y).toArray) ∧ Below W.heap.size W w' := fun W s h => by
    have k := pnumber_any s 32 _ (lo6_lt hbs) W h
    rw [show fromN 32 (lo6 bs) = y from by unfold fromN; rw [if_pos rfl]; exact hy] at k
    exact k
  have kx := fun W im => evenX_any y hyl W im
  have hxl0 := rootP_lt (u := decU y) (v := decV y) kP_eq (fsub_lt _ _) (fadd_lt _ _)
  have hno := fun h => dec_none (bs := bs) hy h
  have hds := fun x h hh => dec_some (bs := bs) hbs (x := x) hy h hh
  have hdo := fun x h hl hh => dec_other (bs := bs) hbs (x := x) hy h hl hh
  have e31 := low_u8 (bs 31) (hbs 31)
  obtain ⟨q1, hq1⟩ : ∃ q, q = bs 31 % 128 := ⟨_, rfl⟩
  rw [← hq1] at e31
  have hq3 : ∀ j, j < 32 → upd bs 31 q1 j = lo6 bs j := fun j _ => by unfold lo6 upd; rw [hq1]
  have z0 : ∀ (w w1 : World) (g cap : Nat), RowAt .u8 w1 g 0 32 bs → 32 ≤ cap → g < w1.heap.size → Below w.heap.size w w1 → w.heap.size ≤ g → ∃ V, V = w1.setCell ⟨g, 31, none⟩ (.int .u8 (q1 : Int)) ∧ BytesIn V (.slice (some ⟨g, 0, none⟩) 32 cap) 32 (lo6 bs) ∧ Below w.heap.size w V ∧ ∀ k cs, k ≠ g → RW w1 k 0 cs → RW V k 0 cs := fun w w1 g cap hr hc hg hb hw => by
    have r := hr.set (i := 31) (by decide) (v := (q1 : Int)) rfl
    rw [Nat.zero_add] at r
    have r' := r.congr hq3
    exact ⟨_, rfl, .inr ⟨g, 0, cap, rfl, block_lt_of_cell (r' 0 (by decide)).1, hc, fun j hj => (r' j hj).1⟩, below_setCells hw [_] 31 _ hb, fun k cs hk h => h.far g 31 [_] (.inl hk)⟩
  clear hq1 hq3
  have Hy := Hid.mk' hy
  clear hy
  obtain ⟨W, g2, eW, hg2, b, h2⟩ := fresh16 w
  have HW : Hid (w.alloc (.cells zP 30) = W) := Hid.mk' eW
  have Hg : Hid (w.heap.size = g2) := Hid.mk' hg2
  have w2l : w.heap.size ≤ g2 := Nat.le_of_eq hg2
  replace kc := kc W (hv.still b)
  clear eW hg2 hv
  subst hsl
  go_enter Tryd.func9, Tryd.ntmps9
  go_upto_region 7 with (first
    | (go_at_call 32; rw [HW.out, Hg.out]; refine kc.mono ?_; clear kc HW Hg; rintro e w1 ⟨g4, cap4, rfl, hg4, hgl4, hcap4, row4, hb1⟩; (have n24 : g2 ≠ g4 := Nat.ne_of_lt (Nat.lt_of_lt_of_le h2.lt hg4)); (replace h2 := h2.still hb1); (have sb := b.size); (replace b := below_next b hb1); clear hb1; (have wg4 : w.heap.size ≤ g4 := Nat.le_trans sb hg4); (have c31 := (row4 31 (by decide)).1); (have f31 := (row4 31 (by decide)).2); rw [Nat.zero_add] at c31 f31; (obtain ⟨V1, hV1, hl1, bV1, far1⟩ := z0 w w1 g4 cap4 row4 hcap4 hgl4 b wg4); (replace h2 := far1 g2 _ n24 h2); (have HV1 := Hid.mk' hV1); clear hV1 far1 z0 b row4; (have b := bV1); clear bV1; (have kn2 := kn V1 _ hl1); clear kn)
    | (go_at_call 33; rw [← HV1.out]; refine kn2.mono ?_; clear kn2 HV1 hl1; rintro e w2 ⟨rfl, hb2⟩; (replace h2 := h2.still hb2); (replace b := below_next b hb2); clear hb2; (have z2 := fresh4' w2); (have t5 := fresh4t w2 y); (obtain ⟨V2, hV2⟩ : ∃ V, V = (w2.alloc (.cells #[.int .u64 0, .int .u64 0, .int .u64 0, .int .u64 0] 28)).setCells w2.heap.size 0 (c4 y) := ⟨_, rfl⟩); (have h5 : RW V2 w2.heap.size 0 (c4 y) := by rw [hV2]; exact z2.stored (c4 y) rfl); (have bV : Below w2.heap.size w2 V2 := by rw [hV2]; exact below_setCells (Nat.le_refl _) _ _ _ ((Below.refl _ _).alloc (Nat.le_refl _) _)); (have HV2 := Hid.mk' hV2); clear hV2 z2; (replace h2 := h2.still bV); (replace b := below_next b bV); clear bV; (have kx2 := kx V2 (im.still b)); clear kx)
    | (with_reducible (refine id (?_ : wpList _ _ _ _ _ _)); refine wpList_store_mid rfl 28 _ _ rfl w2.heap.size 0 (c4 y).toArray rfl rfl t5 (info4a y) (one4 y) ?_; rw [List.toList_toArray, ← HV2.out]; clear t5 HV2)
    | (refine wpList_load_mid rfl 28 _ rfl w2.heap.size 0 rfl (c4 y) _ h5.range Tryd.underlying28 rfl info4 ?_)
    | (go_at_call 34; refine kx2.mono ?_; clear kx2; (generalize rootP kP (decU y) (decV y) = R at *); rintro e w3 ⟨rfl, hb3⟩; (obtain ⟨x, hx⟩ : ∃ x, x = R.getD 0 := ⟨_, rfl⟩); (rw [← hx]; rw [← hx] at hxl0); rw [show numV x = .agg (c4 x).toArray from rfl]; (obtain ⟨ok, hok⟩ : ∃ ok, ok = R.isSome := ⟨_, rfl⟩); rw [← hok]; (have Hx := Hid.mk' hx); (have Hok := Hid.mk' hok); clear hx hok; (have l5 := h5.lt); (replace h5 := h5.still hb3); (replace h2 := h2.still hb3); (replace b := below_next b hb3); (have n56 : w2.heap.size ≠ w3.heap.size := Nat.ne_of_lt (Nat.lt_of_lt_of_le l5 hb3.size)); clear hb3 l5; (have z3 := fresh4' w3); (have t6 := fresh4t w3 x); (obtain ⟨V3, hV3⟩ : ∃ V, V = (w3.alloc (.cells #[.int .u64 0, .int .u64 0, .int .u64 0, .int .u64 0] 28)).setCells w3.heap.size 0 (c4 x) := ⟨_, rfl⟩); (have h6 : RW V3 w3.heap.size 0 (c4 x) := by rw [hV3]; exact z3.stored (c4 x) rfl); (have bV : Below w3.heap.size w3 V3 := by rw [hV3]; exact below_setCells (Nat.le_refl _) _ _ _ ((Below.refl _ _).alloc (Nat.le_refl _) _)); (have HV3 := Hid.mk' hV3); clear hV3 z3; (have w6l : w.heap.size ≤ w3.heap.size := b.size); (have l2 := h2.lt); (have n26 : g2 ≠ w3.heap.size := Nat.ne_of_lt l2); clear l2; (replace h5 := h5.still bV); (replace h2 := h2.still bV); (replace b := below_next b bV); clear bV)
    | (with_reducible (refine id (?_ : wpList _ _ _ _ _ _)); refine wpList_store_mid rfl 28 _ _ rfl w3.heap.size 0 (c4 x).toArray rfl rfl t6 (info4a x) (one4 x) ?_; rw [List.toList_toArray, ← HV3.out]; clear t6 HV3))
  (try dsimp only [Act.put])
  generalize w2.heap.size = g5 at *
  generalize w3.heap.size = g6 at *
  cases hk : ok with
  | false =>
    have hnone : decN bs = none := hno (by
      have h := Hok.out
      rw [hk] at h
      cases R with
      | none => rfl
      | some _ => cases h)
    have t2 : V3.there g2 0 (p16 0 0 0 0).toArray.size := thr16 h2 _ _ _ _
    clear hno hds hdo hk
    go_wp2_with (first
      | (refine wpList_build0 rfl 30 rfl _ builtP0 ?_)
      | (with_reducible (refine id (?_ : wpList _ _ _ _ _ _)); refine wpList_store_mid rfl 30 _ _ rfl g2 0 (p16 0 0 0 0).toArray rfl rfl t2 (info16A _ _ _ _) (one16 _ _ _ _) ?_))
    (try simp only [Exit.inBlock, Exit.then])
    exact bodyPost_ret (results_cell_tmp Tryd.results9 _ _ g2 0 (p16 0 0 0 0) _ rfl (h2.stored (p16 0 0 0 0) rfl).range Tryd.underlying30 rfl (info16 _ _ _ _)) rfl ⟨_, 30, rfl, below_setCells w2l _ _ _ b, .inl ⟨rfl, r6_zero, hnone⟩⟩
  | true =>
    have hR : R = some x := by
      have h := Hok.out
      rw [hk] at h
      cases R with
      | none => cases h
      | some _ => rw [Hx.out]; rfl
    obtain ⟨xs, hxs⟩ : ∃ xs, xs = sgnX bs x := ⟨_, rfl⟩
    have hxsl : xs < pF := by rw [hxs]; exact sgnX_lt bs hxl0
    have hds2 := hds x hR
    have hdo2 := hdo x hR hxl0
    rw [← hxs] at hds2 hdo2
    have HX := Hid.mk' hxs
    clear hno hds hdo hk hR hxs Hx Hok
    obtain ⟨tt, ht⟩ : ∃ tt, tt = fmul xs y := ⟨_, rfl⟩
    have kB : ∀ W, Calls Tryd.prog 37 #[.agg (c4 xs).toArray, .agg (c4 y).toArray] W fun e w' => ∃ s, e = .returned s ∧ NewC W w' s 32 (encXY xs y) ∧ Below W.heap.size W w' := fun W => bytesOf_any xs y hyl W
    have kA : ∀ W, Calls Tryd.prog 38 #[.agg (c4 xs).toArray, .agg (c4 y).toArray] W fun e w' => e = .returned (.agg (p16 xs y 1 tt).toArray) ∧ Below W.heap.size W w' := fun W => by rw [ht]; exact pat_any xs y hxsl hyl W
    have Ht := Hid.mk' ht
    clear ht
    have c31 := (b.cell (p := ⟨bb, ob + 31, none⟩) hlb).trans (hcl 31 (by decide))
    have e9 := high_u8 (bs 31) (hbs 31)
    have hb31 := hbs 31
    by_cases ho : bs 31 / 128 = 1
    · rw [ho] at e9
      have e9' : bits .and .u8 (bs 31 : Int) 128 = 128 := e9
      have hxv : xs = fsub 0 x := by rw [HX.out]; unfold sgnX; rw [if_pos ho]
      have km : ∀ W, Calls Tryd.prog 35 #[.agg (c4 0).toArray, .agg (c4 x).toArray] W fun e w' => e = .returned (.agg (c4 xs).toArray) ∧ Below W.heap.size W w' := fun W => by rw [hxv]; exact minus_any 0 x (by decide) hxl0 W
      clear e9 hxv
      go_upto_region 11 with (first
        | (refine wpList_build0 rfl 28 rfl _ built0 ?_)
        | (refine wpList_load_mid rfl 28 _ rfl g6 0 rfl (c4 x) _ h6.range Tryd.underlying28 rfl info4 ?_)
        | (go_at_call 35; refine (km _).mono ?_; clear km; rintro e w4 ⟨rfl, hb4⟩; (replace h2 := h2.still hb4); (replace h5 := h5.still hb4); (replace h6 := h6.still hb4); (replace b := below_next b hb4); clear hb4; (have t6 : w4.there g6 0 (c4 xs).toArray.size := h6.there); (obtain ⟨VV, hVV⟩ : ∃ V, V = w4.setCells g6 0 (c4 xs) := ⟨_, rfl⟩); (replace h6 := h6.stored (c4 xs) rfl); (replace h2 := h2.far g6 0 (c4 xs) (.inl n26)); (replace h5 := h5.far g6 0 (c4 xs) (.inl n56)); (replace b := below_setCells w6l (c4 xs) 0 _ b); rw [← hVV] at h6 h2 h5 b; (have HV4 := Hid.mk' hVV); clear hVV)
        | (with_reducible (refine id (?_ : wpList _ _ _ _ _ _)); refine wpList_store_mid rfl 28 _ _ rfl g6 0 (c4 xs).toArray rfl rfl t6 (info4a xs) (one4 xs) ?_; rw [List.toList_toArray, ← HV4.out]; clear t6 HV4))
      (try dsimp only [Act.put])
      clear e9' c31
      have kb2 := fun W => kB W
      clear kB
      by_cases heq : ∀ j, j < 32 → encXY xs y j = bs j
      · have es := enc_str_t hyl hbs heq
        have hdec := hds2 heq
        obtain ⟨kok, P, hext, hon, hencP⟩ := dec_pt hbs hdec
        have hr6 : R6 (p16 xs y 1 tt) P := by rw [Ht.out]; exact W6.r6 (p := ofXY xs y) ⟨kok, hon, hext⟩
        have hsome : (decN bs).isSome = true := by rw [hdec]; rfl
        have ke : ∀ W s, NewC VV W s 32 (encXY xs y) → Below VV.heap.size VV W → Calls Tryd.prog 36 #[s, .slice (some ⟨bb, ob, none⟩) 32 cap] W fun e w' => e = .returned (.bool true) ∧ Below W.heap.size W w' := fun W s hs hb => by
          have := peqb_any (Str.of (hs.bytes (by decide)) (encXY_lt xs hyl)) (Str.of ((hv0.still b).still hb) hbs)
          rw [es] at this; exact this
        clear heq es hdec kok hext hon
        go_wp2_with (first
          | (refine wpList_load_mid rfl 28 _ rfl g6 0 rfl (c4 xs) _ h6.range Tryd.underlying28 rfl info4 ?_)
          | (refine wpList_load_mid rfl 28 _ rfl g5 0 rfl (c4 y) _ h5.range Tryd.underlying28 rfl info4 ?_)
          | (go_at_call 37; refine (kb2 _).mono ?_; clear kb2; rintro e w7 ⟨s7, rfl, hn7, hb7⟩; (have ke2 := ke w7 s7 hn7 hb7); clear ke; (replace h6 := h6.still hb7); (replace h5 := h5.still hb7); (replace h2 := h2.still hb7); (replace b := below_next b hb7); clear hb7 hn7)
          | (go_at_call 36; refine ke2.mono ?_; clear ke2; rintro e w8 ⟨rfl, hb8⟩; (replace h6 := h6.still hb8); (replace h5 := h5.still hb8); (replace h2 := h2.still hb8); (replace b := below_next b hb8); clear hb8)
          | (go_at_call 38; refine (kA _).mono ?_; clear kA; rintro e w9 ⟨rfl, hb9⟩; (replace h2 := h2.still hb9); (replace b := below_next b hb9); clear hb9; (have t2 : w9.there g2 0 (p16 xs y 1 tt).toArray.size := thr16 h2 _ _ _ _))
          | (with_reducible (refine id (?_ : wpList _ _ _ _ _ _)); refine wpList_store_mid rfl 30 _ _ rfl g2 0 (p16 xs y 1 tt).toArray rfl rfl t2 (info16A _ _ _ _) (one16 _ _ _ _) ?_))
        (try simp only [Exit.inBlock, Exit.then])
        exact bodyPost_ret (results_cell_tmp Tryd.results9 _ _ g2 0 (p16 xs y 1 tt) _ rfl (h2.stored (p16 xs y 1 tt) rfl).range Tryd.underlying30 rfl (info16 _ _ _ _)) rfl ⟨_, 0, rfl, below_setCells w2l _ _ _ b, .inr ⟨rfl, hsome, P, hr6, hencP⟩⟩
      · have es := enc_str_f hyl hbs heq
        have hnone := hdo2 heq
        have ke : ∀ W s, NewC VV W s 32 (encXY xs y) → Below VV.heap.size VV W → Calls Tryd.prog 36 #[s, .slice (some ⟨bb, ob, none⟩) 32 cap] W fun e w' => e = .returned (.bool false) ∧ Below W.heap.size W w' := fun W s hs hb => by
          have := peqb_any (Str.of (hs.bytes (by decide)) (encXY_lt xs hyl)) (Str.of ((hv0.still b).still hb) hbs)
          rw [es] at this; exact this
        clear heq es kA
        go_wp2_with (first
          | (refine wpList_load_mid rfl 28 _ rfl g6 0 rfl (c4 xs) _ h6.range Tryd.underlying28 rfl info4 ?_)
          | (refine wpList_load_mid rfl 28 _ rfl g5 0 rfl (c4 y) _ h5.range Tryd.underlying28 rfl info4 ?_)
          | (go_at_call 37; refine (kb2 _).mono ?_; clear kb2; rintro e w7 ⟨s7, rfl, hn7, hb7⟩; (have ke2 := ke w7 s7 hn7 hb7); clear ke; (replace h2 := h2.still hb7); (replace b := below_next b hb7); clear hb7 hn7)
          | (go_at_call 36; refine ke2.mono ?_; clear ke2; rintro e w8 ⟨rfl, hb8⟩; (replace h2 := h2.still hb8); (replace b := below_next b hb8); clear hb8; (have t2 : w8.there g2 0 (p16 0 0 0 0).toArray.size := thr16 h2 _ _ _ _))
          | (refine wpList_build0 rfl 30 rfl _ builtP0 ?_)
          | (with_reducible (refine id (?_ : wpList _ _ _ _ _ _)); refine wpList_store_mid rfl 30 _ _ rfl g2 0 (p16 0 0 0 0).toArray rfl rfl t2 (info16A _ _ _ _) (one16 _ _ _ _) ?_))
        (try simp only [Exit.inBlock, Exit.then])
        exact bodyPost_ret (results_cell_tmp Tryd.results9 _ _ g2 0 (p16 0 0 0 0) _ rfl (h2.stored (p16 0 0 0 0) rfl).range Tryd.underlying30 rfl (info16 _ _ _ _)) rfl ⟨_, 30, rfl, below_setCells w2l _ _ _ b, .inl ⟨rfl, r6_zero, hnone⟩⟩
    · have e9' : bits .and .u8 (bs 31 : Int) 128 = 0 := by rw [e9, show bs 31 / 128 = 0 by omega]; rfl
      obtain rfl : xs = x := by rw [HX.out]; unfold sgnX; rw [if_neg ho]
      clear e9
      go_upto_region 11 with (fail)
      obtain ⟨VV, hVV⟩ : ∃ V, V = V3 := ⟨_, rfl⟩
      rw [← hVV]
      rw [← hVV] at h6 h2 h5 b
      clear hVV c31 e9'
      have kb2 := fun W => kB W
      clear kB
      by_cases heq : ∀ j, j < 32 → encXY xs y j = bs j
      · have es := enc_str_t hyl hbs heq
        have hdec := hds2 heq
        obtain ⟨kok, P, hext, hon, hencP⟩ := dec_pt hbs hdec
        have hr6 : R6 (p16 xs y 1 tt) P := by rw [Ht.out]; exact W6.r6 (p := ofXY xs y) ⟨kok, hon, hext⟩
        have hsome : (decN bs).isSome = true := by rw [hdec]; rfl
        have ke : ∀ W s, NewC VV W s 32 (encXY xs y) → Below VV.heap.size VV W → Calls Tryd.prog 36 #[s, .slice (some ⟨bb, ob, none⟩) 32 cap] W fun e w' => e = .returned (.bool true) ∧ Below W.heap.size W w' := fun W s hs hb => by
          have := peqb_any (Str.of (hs.bytes (by decide)) (encXY_lt xs hyl)) (Str.of ((hv0.still b).still hb) hbs)
          rw [es] at this; exact this
        clear heq es hdec kok hext hon
        go_wp2_with (first
          | (refine wpList_load_mid rfl 28 _ rfl g6 0 rfl (c4 xs) _ h6.range Tryd.underlying28 rfl info4 ?_)
          | (refine wpList_load_mid rfl 28 _ rfl g5 0 rfl (c4 y) _ h5.range Tryd.underlying28 rfl info4 ?_)
          | (go_at_call 37; refine (kb2 _).mono ?_; clear kb2; rintro e w7 ⟨s7, rfl, hn7, hb7⟩; (have ke2 := ke w7 s7 hn7 hb7); clear ke; (replace h6 := h6.still hb7); (replace h5 := h5.still hb7); (replace h2 := h2.still hb7); (replace b := below_next b hb7); clear hb7 hn7)
          | (go_at_call 36; refine ke2.mono ?_; clear ke2; rintro e w8 ⟨rfl, hb8⟩; (replace h6 := h6.still hb8); (replace h5 := h5.still hb8); (replace h2 := h2.still hb8); (replace b := below_next b hb8); clear hb8)
          | (go_at_call 38; refine (kA _).mono ?_; clear kA; rintro e w9 ⟨rfl, hb9⟩; (replace h2 := h2.still hb9); (replace b := below_next b hb9); clear hb9; (have t2 : w9.there g2 0 (p16 xs y 1 tt).toArray.size := thr16 h2 _ _ _ _))
          | (with_reducible (refine id (?_ : wpList _ _ _ _ _ _)); refine wpList_store_mid rfl 30 _ _ rfl g2 0 (p16 xs y 1 tt).toArray rfl rfl t2 (info16A _ _ _ _) (one16 _ _ _ _) ?_))
        (try simp only [Exit.inBlock, Exit.then])
        exact bodyPost_ret (results_cell_tmp Tryd.results9 _ _ g2 0 (p16 xs y 1 tt) _ rfl (h2.stored (p16 xs y 1 tt) rfl).range Tryd.underlying30 rfl (info16 _ _ _ _)) rfl ⟨_, 0, rfl, below_setCells w2l _ _ _ b, .inr ⟨rfl, hsome, P, hr6, hencP⟩⟩
      · have es := enc_str_f hyl hbs heq
        have hnone := hdo2 heq
        have ke : ∀ W s, NewC VV W s 32 (encXY xs y) → Below VV.heap.size VV W → Calls Tryd.prog 36 #[s, .slice (some ⟨bb, ob, none⟩) 32 cap] W fun e w' => e = .returned (.bool false) ∧ Below W.heap.size W w' := fun W s hs hb => by
          have := peqb_any (Str.of (hs.bytes (by decide)) (encXY_lt xs hyl)) (Str.of ((hv0.still b).still hb) hbs)
          rw [es] at this; exact this
        clear heq es kA
        go_wp2_with (first
          | (refine wpList_load_mid rfl 28 _ rfl g6 0 rfl (c4 xs) _ h6.range Tryd.underlying28 rfl info4 ?_)
          | (refine wpList_load_mid rfl 28 _ rfl g5 0 rfl (c4 y) _ h5.range Tryd.underlying28 rfl info4 ?_)
          | (go_at_call 37; refine (kb2 _).mono ?_; clear kb2; rintro e w7 ⟨s7, rfl, hn7, hb7⟩; (have ke2 := ke w7 s7 hn7 hb7); clear ke; (replace h2 := h2.still hb7); (replace b := below_next b hb7); clear hb7 hn7)
          | (go_at_call 36; refine ke2.mono ?_; clear ke2; rintro e w8 ⟨rfl, hb8⟩; (replace h2 := h2.still hb8); (replace b := below_next b hb8); clear hb8; (have t2 : w8.there g2 0 (p16 0 0 0 0).toArray.size := thr16 h2 _ _ _ _))
          | (refine wpList_build0 rfl 30 rfl _ builtP0 ?_)
          | (with_reducible (refine id (?_ : wpList _ _ _ _ _ _)); refine wpList_store_mid rfl 30 _ _ rfl g2 0 (p16 0 0 0 0).toArray rfl rfl t2 (info16A _ _ _ _) (one16 _ _ _ _) ?_))
        (try simp only [Exit.inBlock, Exit.then])
        exact bodyPost_ret (results_cell_tmp Tryd.results9 _ _ g2 0 (p16 0 0 0 0) _ rfl (h2.stored (p16 0 0 0 0) rfl).range Tryd.underlying30 rfl (info16 _ _ _ _)) rfl ⟨_, 30, rfl, below_setCells w2l _ _ _ b, .inl ⟨rfl, r6_zero, hnone⟩⟩
set_option maxRecDepth 20000 in
set_option maxHeartbeats 4000000 in
theorem pdec_bad (v : Value) (n : Nat) (bs : Nat → Nat) (w : World) (hv : BytesIn w v n bs) (hn : n ≠ 32) :
    Calls Tryd.prog 9 #[v] w fun e w' => ∃ c, e = .returned (.tuple #[.agg c.toArray, .int .i64 1]) ∧ R6 c ezero ∧ Below w.heap.size w w' := by
  have hzp := zeroP
  obtain ⟨xv, kv, rfl, -⟩ := hv.src
  have h1 : ¬((n : Int) = 32) := by omega
  obtain ⟨W, g2, eW, hg2, b, h2⟩ := fresh16 w
  have HW : Hid (w.alloc (.cells zP 30) = W) := Hid.mk' eW
  have Hg : Hid (w.heap.size = g2) := Hid.mk' hg2
  have w2l : w.heap.size ≤ g2 := Nat.le_of_eq hg2
  have t2 : W.there g2 0 (p16 0 0 0 0).toArray.size := thr16 h2 _ _ _ _
  clear eW hg2 hv hn
  go_enter Tryd.func9, Tryd.ntmps9
  go_wp2_with (first
    | (refine wpList_build0 rfl 30 rfl _ builtP0 ?_)
    | (with_reducible (refine id (?_ : wpList _ _ _ _ _ _)); rw [HW.out, Hg.out]; refine wpList_store_mid rfl 30 _ _ rfl g2 0 (p16 0 0 0 0).toArray rfl rfl t2 (info16A _ _ _ _) (one16 _ _ _ _) ?_; clear HW Hg))
  (try simp only [Exit.inBlock, Exit.then])
  exact bodyPost_ret (results_cell_tmp Tryd.results9 _ _ g2 0 (p16 0 0 0 0) _ rfl (h2.stored (p16 0 0 0 0) rfl).range Tryd.underlying30 rfl (info16 _ _ _ _)) rfl ⟨_, rfl, r6_zero, below_setCells w2l _ _ _ b⟩
set_option maxRecDepth 20000 in
set_option maxHeartbeats 4000000 in
theorem ptm_bad (c : List Value) (v : Value) (n : Nat) (ks : Nat → Nat) (w : World) (hv : BytesIn w v n ks) (hn : n ≠ 32) :
    Calls Tryd.prog 20 #[.agg c.toArray, v] w fun e w' => ∃ c', e = .returned (.tuple #[.agg c'.toArray, .int .i64 1]) ∧ R6 c' ezero ∧ Below w.heap.size w w' := by
  have hzp := zeroP
  obtain ⟨xv, kv, rfl, -⟩ := hv.src
  have h1 : ¬((n : Int) = 32) := by omega
  obtain ⟨V1, e1, b1⟩ : ∃ V, w.alloc (.cells c.toArray 30) = V ∧ Below w.heap.size w V := ⟨_, rfl, (Below.refl _ _).alloc (Nat.le_refl _) _⟩
  obtain ⟨W, g4, e4, hg4, b4, h4⟩ := fresh16 V1
  have t1 : V1.heap.size = w.heap.size + 1 := by rw [← e1]; simp
  have HW : Hid (W = (w.alloc (.cells c.toArray 30)).alloc (.cells zP 30)) := Hid.mk' (by rw [← e4, ← e1])
  have q4 : Hid (w.heap.size + 1 = g4) := Hid.mk' (by omega)
  have w4l : w.heap.size ≤ g4 := by omega
  have hbW : Below w.heap.size w W := below_next b1 b4
  have t4 : W.there g4 0 (p16 0 0 0 0).toArray.size := thr16 h4 _ _ _ _
  clear e1 e4 hg4 b1 b4 t1 V1 hv hn
  go_enter Tryd.func20, Tryd.ntmps20
  go_wp2
  go_step3
  go_wp2_with (first
    | (refine wpList_build0 rfl 30 rfl _ builtP0 ?_)
    | (with_reducible (refine id (?_ : wpList _ _ _ _ _ _)); rw [← HW.out, q4.out]; refine wpList_store_mid rfl 30 _ _ rfl g4 0 (p16 0 0 0 0).toArray rfl rfl t4 (info16A _ _ _ _) (one16 _ _ _ _) ?_; clear HW q4))
  rw [Exit.noGoto_ret]
  (try simp only [Exit.inBlock, Exit.then])
  exact bodyPost_ret (results_cell_tmp Tryd.results20 _ _ g4 0 (p16 0 0 0 0) _ rfl (h4.stored (p16 0 0 0 0) rfl).range Tryd.underlying30 rfl (info16 _ _ _ _)) rfl ⟨_, rfl, r6_zero, below_setCells w4l _ _ _ hbW⟩
end Go.Proofs.YteekjcfbnoakgaaDoor
namespace Go.Proofs.YteekjcfbnoakgaaDoor
open Go.RowKit
theorem point_api : PointApi IM R6 where
  keep := fun _ _ h hb => h.still hb
  len := fun _ _ h => h.len
  one := fun _ _ h => h.one
  on := fun _ _ h => h.on
  base := fun w _ => pbase_pt w
  zero := fun w _ => (pzero_pt w).mono fun _ _ ⟨he, hb⟩ => ⟨_, he, r6_zero, hb⟩
  enc := fun _ _ w h _ => penc_pt h w
  plus := fun _ _ _ _ w h k _ => pplus_pt h k w
  neg := fun _ _ w h _ => pneg_pt h w
  same := fun _ _ _ _ w h k _ => psame_pt h k w
  times := fun _ _ v ks w h hks hv _ => ptm_good h v ks hks w hv
  timesBad := fun c _ v n ks w _ hn hv _ => ptm_bad c v n ks w hv hn
  dec := fun v bs w hbs hv im => pdec_good v bs hbs w im hv
  decBad := fun v n bs w hn hv _ => pdec_bad v n bs w hv hn
end Go.Proofs.YteekjcfbnoakgaaDoor
namespace Go.Proofs.YteekjcfbnoakgaaDoor
open Go.ChangeShapes Go.WideShapes Go.ChangeAt Go.RowKit
theorem ownKnobs : ownKnob Tryd.prog.godebug = none := by kernel_rfl
theorem laidOut : laidOutB Tryd.prog = true := by kernel_rfl
theorem cellsOfByte : Tryd.prog.cellsOf 5 = 1 := by kernel_rfl
theorem bytesOfByte : Tryd.prog.bytesOf 5 = 1 := by kernel_rfl
set_option maxRecDepth 20000 in
/-- A slice of bytes that came in: bytes in memory; how many. -/
theorem open_bytes {H : Type} {enc : TypeId × Value → H} {W : World} {base : Nat} {v : Value} {d : DataW H} {ps : List MemPlace} (hval : Value.okWide Tryd.prog W .any base 22 v) (h : DataW.Trod enc Tryd.prog W 0 (fun _ => true) true 22 v d ps) :
    ∃ n bs, BytesIn W v n bs ∧ (∀ j, bs j < 256) ∧ (n = 0 ∨ ∃ elems spare, d = .slice elems spare ∧ elems.length = n) := by
  obtain ⟨a0, len, cap, rfl⟩ := okWide_slice Tryd.underlying22 hval
  obtain ⟨fuel, hf⟩ := h
  have hc : Cell.ok Tryd.prog W .any base 22 (.slice a0 len cap) := by
    unfold Value.okWide Cell.okWide at hval
    simp only [Tryd.underlying22] at hval
    exact hval
  rcases open_ints Tryd.underlying22 Tryd.underlying5 cellsOfByte hf with ⟨hcs, hx⟩ | ⟨a, len', cap', zs, hcs, _, hl, hm, hz, hx, hcell, hwz⟩
  · simp [Value.cells] at hcs
    obtain ⟨rfl, rfl, rfl⟩ := hcs
    exact ⟨0, fun _ => 0, .inl ⟨none, rfl, rfl⟩, fun _ => Nat.zero_lt_succ _, .inl rfl⟩
  · simp [Value.cells] at hcs
    obtain ⟨rfl, rfl, rfl⟩ := hcs
    simp only [Prod.mk.injEq] at hx
    obtain ⟨rfl, rfl⟩ := hx
    simp only [if_true] at hz
    unfold Cell.ok at hc
    simp only [Tryd.underlying22] at hc
    obtain ⟨_, _, _, hs, row, cells, hsh, _⟩ := hc
    obtain ⟨b, off, spot⟩ := a
    subst hs
    have hbl : b < W.heap.size := by
      rcases Nat.lt_or_ge b W.heap.size with h | h
      · exact h
      · unfold World.shape? at hsh
        rw [Array.getElem?_eq_none h] at hsh
        cases hsh
    have hn : ∀ j, 0 ≤ zs.getD j 0 ∧ zs.getD j 0 < 256 := fun j => by
      rw [List.getD_eq_getElem?_getD]
      cases h : zs[j]? with
      | none => simp
      | some x =>
        have := hwz x (List.mem_of_getElem? h)
        have h0 : (0 : Int) ≤ x ∧ x ≤ 255 := by simpa [Lit.wf, IntKind.min, IntKind.max, IntKind.signed, IntKind.bits] using this
        show 0 ≤ x ∧ x < 256
        omega
    refine ⟨len, fun j => (zs.getD j 0).toNat, .inr ⟨b, off, cap, rfl, hbl, hl, fun j hj => ?_⟩, fun j => ?_, .inr ⟨_, _, rfl, ?_⟩⟩
    · have h := hcell j (by omega)
      rw [Addr.add_mid] at h
      rw [h, Int.toNat_of_nonneg (hn j).1]
    · have := hn j
      show (zs.getD j 0).toNat < 256
      omega
    · simp [lits]; omega
theorem bytes_reach {H : Type} {ts : List TypeId} {ds : List (DataW H)} (hR : (DataW.weightsEach Tryd.prog ts ds).all (· ≤ reachBytes) = true) {j n : Nat} {d : DataW H} (ht : ts[j]? = some 22) (hd : ds[j]? = some d) (h : n = 0 ∨ ∃ elems spare, d = .slice elems spare ∧ elems.length = n) : n < 140737488355000 := by
  rcases h with h | ⟨elems, spare, rfl, rfl⟩
  · omega
  · have := sized_slice hR ht hd Tryd.underlying22
    rw [bytesOfByte] at this
    unfold reachBytes at this
    omega
end Go.Proofs.YteekjcfbnoakgaaDoor
namespace Go.Proofs.YteekjcfbnoakgaaDoor
open Go
def rootL : List Nat := [14190309331451158704, 3405592160176694392, 3120150775007532967, 3135389899092516619]
theorem cellsOfWord : Tryd.prog.cellsOf 24 = 1 := by kernel_rfl
theorem cellsOfLimbs : Tryd.prog.cellsOf 26 = 4 := by kernel_rfl
theorem rootL_eq : Rows.laid_synod_field_rootOfMinusOne = (Lib.tabData .u64 (rootL.map fun n : Nat => (n : Int)) : DataW Unit) := rfl
theorem gRoot : Tryd.prog.globalNamed "synod/field.rootOfMinusOne" = some 1 := by kernel_rfl
theorem tRoot : (Tryd.prog.globals[1]?).map (·.type) = some 26 := by kernel_rfl
theorem c4_iM : c4 iM = (rootL.map fun n : Nat => Value.int .u64 (n : Int)) := by kernel_rfl
theorem im_of_laid {W : World} (h : laidMetH Tryd.prog [("synod/field.rootOfMinusOne", Rows.laid_synod_field_rootOfMinusOne)] W) : IM W := by
  have h' : laidMet Tryd.prog [("synod/field.rootOfMinusOne", Rows.laid_synod_field_rootOfMinusOne)] W := h
  obtain ⟨ps, ⟨g1, t1, cs1, f1, p1, q1, hg1, ht1, hv1, hd1, _, _⟩, _⟩ := h'
  obtain rfl := Option.some.inj (gRoot.symm.trans hg1)
  obtain rfl := Option.some.inj (tRoot.symm.trans ht1)
  rw [rootL_eq] at hd1
  have c1 := Lib.cells_of_tab Tryd.underlying26 Tryd.underlying24 cellsOfWord cellsOfLimbs hd1
  have hr : W.rangeAt 1 0 (c4 iM) := fun j v hv => by
    rw [Nat.zero_add, World.var?_cell gRoot hv1 j, ← Array.getElem?_toList, c1, ← hv, c4_iM]
    simp [rootL]
  exact ⟨hr, block_lt_of_cell (hr 0 _ rfl)⟩
/-- A variable's block with these cells. -/
def lay (cs : Array Value) : Obj → Obj
  | .cells _ t frozen => .cells cs t frozen
  | o => o
/-- A WORLD FOR THE WITNESS: the settled one, the variable holding what its initialiser lays. -/
noncomputable def laidWorld (os : Os) : World :=
  { World.holding Tryd.prog os ⟨#[], #[], []⟩ with heap := (World.holding Tryd.prog os ⟨#[], #[], []⟩).heap.modify 1 (lay #[.int .u64 14190309331451158704, .int .u64 3405592160176694392, .int .u64 3120150775007532967, .int .u64 3135389899092516619]) }
end Go.Proofs.YteekjcfbnoakgaaDoor
