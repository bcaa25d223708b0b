/- What the proof stands on: SqMath, PtE, RSame6, Fit, PApi, PSome, PKnow, PDoub, PCel, PNumb, PCon, PAt. -/
import Derived.Test.YteekjcfbnoakgaaDoorBothM
import Derived.Test.YteekjcfbnoakgaaDoorPtD
import Derived.Test.YteekjcfbnoakgaaDoorRQM
namespace Go.Proofs.YteekjcfbnoakgaaDoor
theorem sub_sq {p x : Nat} (hx : x ≤ p) : (p - x) * (p - x) % p = x * x % p := by
  obtain ⟨d, rfl⟩ : ∃ d, p = x + d := ⟨p - x, by omega⟩
  rw [Nat.add_sub_cancel_left]
  have e : d * d + (x + d) * x = x * x + (x + d) * d := by
    rw [Nat.add_mul, Nat.add_mul, Nat.mul_comm d x]; omega
  have h1 : (d * d + (x + d) * x) % (x + d) = d * d % (x + d) := Nat.add_mul_mod_self_left _ _ _
  have h2 : (x * x + (x + d) * d) % (x + d) = x * x % (x + d) := Nat.add_mul_mod_self_left _ _ _
  rw [← h1, e, h2]
theorem evn_sq {x : Nat} (hx : x < pF) : evn x * evn x % pF = x * x % pF := by
  unfold evn
  split
  · rw [Nat.zero_add, ← Nat.mul_mod]
    exact sub_sq (Nat.le_of_lt hx)
  · rfl
theorem evn_two {x : Nat} (hx : x < pF) : evn x % 2 = 0 := by
  have hp : pF % 2 = 1 := by decide
  unfold evn
  by_cases h : x % 2 = 1
  · rw [if_pos h, Nat.zero_add, Nat.mod_eq_of_lt (a := pF - x) (b := pF) (by omega)]
    generalize pF = p at *
    omega
  · rw [if_neg h]
    omega
theorem rootX_lt (k u v : Nat) : rootX k u v < pF := Nat.mod_lt _ pF_pos
/-- What is found is a root, and even. -/
theorem root_is {k u v r : Nat} (hu : u < pF) (h : rootP k u v = some r) : r * r % pF * v % pF = u ∧ r % 2 = 0 := by
  unfold rootP at h
  have hX := rootX_lt k u v
  generalize rootX k u v = X at *
  by_cases h1 : X * X % pF * v % pF = u
  · rw [if_pos h1] at h
    obtain rfl := Option.some.inj h
    exact ⟨by rw [evn_sq hX]; exact h1, evn_two hX⟩
  · rw [if_neg h1] at h
    by_cases h2 : X * X % pF * v % pF = (0 + pF - u) % pF
    · rw [if_pos h2] at h
      obtain rfl := Option.some.inj h
      have hl : X * iM % pF < pF := Nat.mod_lt _ pF_pos
      refine ⟨?_, evn_two hl⟩
      rw [evn_sq hl, times_sq iM_sq, neg_mul _ v (Nat.mod_lt _ pF_pos), h2]
      exact (neg_neg (neg_lt u) hu).2 rfl
    · rw [if_neg h2] at h
      cases h
end Go.Proofs.YteekjcfbnoakgaaDoor
namespace Go.Proofs.YteekjcfbnoakgaaDoor
open Go.RowKit
theorem encXY_encB {p : N4} {P : Fp × Fp} (hp : p.Ok) (h : Ext4 p P) : encXY (fmul p.X (finv p.Z)) (fmul p.Y (finv p.Z)) = encB P := by
  have e := enc_xy hp h
  rw [e.1, e.2]
  rfl
theorem val_of_byt {a b : Nat} (ha : a < pF) (hb : b < pF) (h : ∀ j, j < 32 → byt a j = byt b j) : a = b := by
  have e := ofB_congr 32 h
  have hp : pF < 256 ^ 32 := by decide
  rw [ofB_byt, ofB_byt, Nat.mod_eq_of_lt (Nat.lt_trans ha hp), Nat.mod_eq_of_lt (Nat.lt_trans hb hp)] at e
  exact e
theorem sq_neg {n : Nat} [NeZero n] {x : Fin n} : (0 - x) * (0 - x) = x * x := by grind
theorem fsub_odd {x : Nat} (h0 : x ≠ 0) (hx : x < pF) (h2 : x % 2 = 0) : fsub 0 x % 2 = 1 := by
  have hp : pF % 2 = 1 := by decide
  unfold fsub
  rw [Nat.zero_add, Nat.mod_eq_of_lt (a := pF - x) (b := pF) (by omega)]
  generalize pF = p at *
  omega
/-- What is told by bytes is a point of the curve, and these are its bytes. -/
theorem dec_pt {bs : Nat → Nat} (hbs : ∀ j, bs j < 256) {p : N4} (h : decN bs = some p) : p.Ok ∧ ∃ P, Ext4 p P ∧ On dE P ∧ ∀ j, j < 32 → encB P j = bs j := by
  unfold decN at h
  have hb31 := hbs 31
  have hbyt : ∀ j, j < 32 → byt (ofB (lo6 bs) 32) j = lo6 bs j := fun j hj => byt_ofB _ (lo6_lt hbs) 32 j hj
  generalize ofB (lo6 bs) 32 = y at *
  by_cases hy : y < pF
  · rw [if_pos hy] at h
    have hlt := rootR_lt6 kP (decU y) (decV y)
    cases hr : rootR kP (decU y) (decV y) with
    | none => rw [hr] at h; cases h
    | some x =>
      rw [hr] at h hlt
      replace hlt : x < pF := hlt
      change (if bs 31 / 128 = 1 ∧ x = 0 then none else some (ofXY (if bs 31 / 128 = 1 then fsub 0 x else x) y)) = some p at h
      have hu : decU y < pF := fsub_lt _ _
      have hv : decV y < pF := fadd_lt _ _
      rw [← root_same kP_eq hu hv] at hr
      obtain ⟨hq, h2⟩ := root_is hu hr
      have e : cF x * cF x * (cF dN * (cF y * cF y) + 1) = cF y * cF y - 1 := by
        have e0 : fmul (fmul x x) (decV y) = decU y := hq
        have e1 := congrArg cF e0
        unfold decU decV at e1
        simpa only [cF_mul, cF_add, cF_sub _ 1 (by decide), cF_one] using e1
      by_cases hz : bs 31 / 128 = 1 ∧ x = 0
      · rw [if_pos hz] at h; cases h
      · rw [if_neg hz] at h
        obtain rfl := Option.some.inj h
        obtain ⟨x', hx'⟩ : ∃ x', x' = if bs 31 / 128 = 1 then fsub 0 x else x := ⟨_, rfl⟩
        rw [← hx']
        have hl' : x' < pF := by rw [hx']; split; exact fsub_lt _ _; exact hlt
        have hodd : x' % 2 = bs 31 / 128 := by
          rw [hx']
          by_cases ho : bs 31 / 128 = 1
          · rw [if_pos ho, ho]
            exact fsub_odd (fun h0 => hz ⟨ho, h0⟩) hlt h2
          · rw [if_neg ho]; omega
        have e' : cF x' * cF x' * (cF dN * (cF y * cF y) + 1) = cF y * cF y - 1 := by
          rw [← e]
          congr 1
          rw [hx']
          split
          · rw [cF_sub _ _ hlt, cF_zero, sq_neg]
          · rfl
        refine ⟨ofXY_ok hl' hy, ptXY x' y, ofXY_ext x' y, ptXY_on e', fun j hj => ?_⟩
        unfold encB
        rw [ptXY_x y hl', ptXY_y x' hy]
        have hj' := hbyt j hj
        unfold lo6 at hj'
        by_cases h31 : j = 31
        · rw [if_pos h31] at hj' ⊢
          rw [h31] at hj' ⊢
          rw [hj', hodd]
          omega
        · rw [if_neg h31] at hj' ⊢
          exact hj'
  · rw [if_neg hy] at h; cases h
def baseP : Fp × Fp := ptXY xB yB
end Go.Proofs.YteekjcfbnoakgaaDoor
namespace Go.Proofs.YteekjcfbnoakgaaDoor
open Go.RowKit
theorem two_rows (w : World) (A B : List Value) (t : TypeId) : RW ((w.alloc (.cells A.toArray t)).alloc (.cells B.toArray t)) w.heap.size 0 A ∧ RW ((w.alloc (.cells A.toArray t)).alloc (.cells B.toArray t)) (w.heap.size + 1) 0 B := by
  have h1 : RW (w.alloc (.cells A.toArray t)) w.heap.size 0 A := RW.fresh w _ _
  have h2 : RW ((w.alloc (.cells A.toArray t)).alloc (.cells B.toArray t)) (w.alloc (.cells A.toArray t)).heap.size 0 B := RW.fresh _ _ _
  rw [World.size_alloc] at h2
  exact ⟨h1.still ((Below.refl _ _).alloc (Nat.le_refl _) _), h2⟩
end Go.Proofs.YteekjcfbnoakgaaDoor
namespace Go.Proofs.YteekjcfbnoakgaaDoor
open Go.RowKit
/-- The first bytes of any, zeros behind. -/
def fitB (n : Nat) (bs : Nat → Nat) (j : Nat) : Nat := if j < n then bs j else 0
theorem fitB_lt {n : Nat} {bs : Nat → Nat} (h : ∀ j, bs j < 256) (j : Nat) : fitB n bs j < 256 := by
  unfold fitB; split
  · exact h j
  · decide
theorem infoByte : (Tryd.prog.info? 5).map (·.size) = some 1 := by kernel_rfl
set_option maxRecDepth 20000 in
theorem fit_any (v : Value) (n : Nat) (bs : Nat → Nat) (w : World) (hv : BytesIn w v n bs) : Calls Tryd.prog 23 #[v] w fun e w' => ∃ s, e = .returned s ∧ NewB w w' s 32 (fitB n bs) ∧ Below w.heap.size w w' := by
  have hmk := make_bytes w 32 32 rfl (by decide)
  obtain ⟨W, hW⟩ : ∃ W, W = w.alloc (.cells (zb 32) 5) := ⟨_, rfl⟩
  have hrow : RowAt .u8 W w.heap.size 0 32 (fun _ => 0) := by rw [hW]; exact RowAt.fresh (fun j hj => zb_at 32 j hj)
  have hb : Below w.heap.size w W := by rw [hW]; exact (Below.refl _ _).alloc (Nat.le_refl _) _
  obtain ⟨xo, c, rfl, hxn, hnc, hsrc⟩ := hv.src
  have src := hsrc W hb
  have hth := hrow.there
  obtain ⟨m, hm⟩ : ∃ m, m = Nat.min n 32 := ⟨_, rfl⟩
  have hsp := hrow.splice 0 m bs (by rw [hm, Nat.zero_add]; exact Nat.min_le_right _ _)
  rw [← hW] at hmk
  have Hm := Hid.mk' hm
  clear hW hv hsrc hm
  go_enter Tryd.func23, Tryd.ntmps23
  go_wp2_with (first
    | rw [hmk]
    | (refine wpList_copy_bytes rfl _ _ 22 22 rfl 5 Tryd.underlying22 infoByte w.heap.size 0 32 32 xo n c rfl rfl m bs src Hm.out hth ?_))
  go_ret
  refine ⟨_, rfl, ⟨w.heap.size, rfl, Nat.le_refl _, ?_⟩, below_setCells (Nat.le_refl _) _ _ _ hb⟩
  refine hsp.congr (fun j hj => ?_)
  have := Hm.out
  unfold over fitB
  by_cases e : j < n
  · rw [if_pos ⟨Nat.zero_le _, by rw [Nat.zero_add, this]; exact Nat.lt_min.2 ⟨e, hj⟩⟩, if_pos e, Nat.sub_zero]
  · rw [if_neg (fun h => by have h2 := h.2; rw [Nat.zero_add, this] at h2; exact e (Nat.lt_min.1 h2).1), if_neg e]
end Go.Proofs.YteekjcfbnoakgaaDoor
namespace Go.Proofs.YteekjcfbnoakgaaDoor
open Go.RowKit
def zP : Array Value := ((List.range 16).map fun _ => Value.int .u64 0).toArray
theorem zeroP (w : World) : Sem.run Tryd.prog (zeroValue 30) w = .ok (.agg zP) w := by kernel_rfl
theorem infoPs : (Tryd.prog.info? 30).map (·.size) = some 16 := by kernel_rfl
/-- The calls, with any way to hold a point: R: these cells hold this point; G: what stays true of the world. -/
structure PointApi (G : World → Prop) (R : List Value → Fp × Fp → Prop) : Prop where
  keep : ∀ w w', G w → Below w.heap.size w w' → G w'
  len : ∀ c P, R c P → c.length = 16
  one : ∀ c P, R c P → c.toArray.all (·.oneCell') = true
  on : ∀ c P, R c P → On dE P
  base : ∀ w, G w → Calls Tryd.prog 18 #[] w fun e w' => ∃ c, e = .returned (.agg c.toArray) ∧ R c baseP ∧ Below w.heap.size w w'
  zero : ∀ w, G w → Calls Tryd.prog 15 #[] w fun e w' => ∃ c, e = .returned (.agg c.toArray) ∧ R c ezero ∧ Below w.heap.size w w'
  enc : ∀ c P w, R c P → G w → Calls Tryd.prog 16 #[.agg c.toArray] w fun e w' => ∃ s, e = .returned s ∧ NewC w w' s 32 (encB P) ∧ Below w.heap.size w w'
  plus : ∀ c P d Q w, R c P → R d Q → G w → Calls Tryd.prog 24 #[.agg c.toArray, .agg d.toArray] w fun e w' => ∃ c', e = .returned (.agg c'.toArray) ∧ R c' (eadd dE P Q) ∧ Below w.heap.size w w'
  neg : ∀ c P w, R c P → G w → Calls Tryd.prog 27 #[.agg c.toArray] w fun e w' => ∃ c', e = .returned (.agg c'.toArray) ∧ R c' (eneg P) ∧ Below w.heap.size w w'
  same : ∀ c P d Q w, R c P → R d Q → G w → Calls Tryd.prog 14 #[.agg c.toArray, .agg d.toArray] w fun e w' => e = .returned (.bool (decide (P = Q))) ∧ Below w.heap.size w w'
  times : ∀ c P v ks w, R c P → (∀ j, ks j < 256) → BytesIn w v 32 ks → G w → Calls Tryd.prog 20 #[.agg c.toArray, v] w fun e w' => ∃ c', e = .returned (.tuple #[.agg c'.toArray, .int .i64 0]) ∧ R c' (emul dE (ofB ks 32) P) ∧ Below w.heap.size w w'
  timesBad : ∀ c P v n ks w, R c P → n ≠ 32 → BytesIn w v n ks → G w → Calls Tryd.prog 20 #[.agg c.toArray, v] w fun e w' => ∃ c', e = .returned (.tuple #[.agg c'.toArray, .int .i64 1]) ∧ R c' ezero ∧ Below w.heap.size w w'
  dec : ∀ v bs w, (∀ j, bs j < 256) → BytesIn w v 32 bs → G w → Calls Tryd.prog 9 #[v] w fun e w' => ∃ (c : List Value) (er : Int), e = .returned (.tuple #[.agg c.toArray, .int .i64 er]) ∧ Below w.heap.size w w' ∧
      ((er = 30 ∧ R c ezero ∧ decN bs = none) ∨ (er = 0 ∧ (decN bs).isSome = true ∧ ∃ P, R c P ∧ ∀ j, j < 32 → encB P j = bs j))
  decBad : ∀ v n bs w, n ≠ 32 → BytesIn w v n bs → G w → Calls Tryd.prog 9 #[v] w fun e w' => ∃ c, e = .returned (.tuple #[.agg c.toArray, .int .i64 1]) ∧ R c ezero ∧ Below w.heap.size w w'
theorem freshP (w : World) : RW (w.alloc (.cells zP 30)) w.heap.size 0 ((List.range 16).map fun _ => Value.int .u64 0) := RW.fresh w _ _
theorem infoP {c : List Value} (h : c.length = 16) : (Tryd.prog.info? 30).map (·.size) = some c.length := by rw [h]; exact infoPs
theorem infoPA {c : List Value} (h : c.length = 16) : (Tryd.prog.info? 30).map (·.size) = some c.toArray.size := by rw [List.size_toArray, h]; exact infoPs
theorem num6_any (n : Int) (w : World) : Calls Tryd.prog 11 #[.int .i64 n] w fun e w' => e = .returned (.int .i64 n) ∧ w' = w := by
  go_enter Tryd.func11, Tryd.ntmps11
  go_wp2
  go_ret
  exact ⟨rfl, rfl⟩
theorem enc_base0 : encB baseP 0 = 88 ∧ encB baseP 31 = 102 := by
  unfold encB baseP
  rw [ptXY_x yB xB_lt, ptXY_y xB yB_lt]
  exact ⟨by decide, by decide⟩
theorem enc_zero0 : encB ezero 0 = 1 := by
  unfold encB ezero
  rw [if_neg (by decide)]
  decide
end Go.Proofs.YteekjcfbnoakgaaDoor
namespace Go.Proofs.YteekjcfbnoakgaaDoor
open Go.RowKit
/-- A load that is wanted, whatever its guard. -/
theorem wpList_load_on {P : Program} {ops : Array Oper} {rest : List Oper} {op : Oper} {a : Act} {w : World} {Q : Exit → Act → World → Prop} (hw : Region.wanted op (yielded ops a.tmps) = true) (ty : TypeId) (x : Operand) (ho : op.op = .load ty x) (b o : Nat) (hx : a.eval x = .pointer (some ⟨b, o, none⟩)) (cs : List Value) (d : TypeDesc) (hc : w.rangeAt b o cs) (hu : P.underlying ty = some d) (hd : d.isRow = true) (hi : (P.info? ty).map (·.size) = some cs.length) (h : wpList P ops Q rest (a.put op.dst (.agg cs.toArray)) w) : wpList P ops Q (op :: rest) a w := by
  unfold wpList
  rw [if_pos hw]
  exact .inl (wp_load_mid ty x ho b o hx cs d hc hu hd hi h)
theorem thereP {w : World} {g : Nat} {c d : List Value} (r : RW w g 0 c) (hc : c.length = 16) (hd : d.length = 16) : w.there g 0 d.toArray.size := by
  have h := r.there
  rw [hc] at h
  rw [List.size_toArray, hd]; exact h
theorem boxP (w : World) (c : List Value) (hl : c.length = 16) : ∃ V, V = (w.alloc (.cells zP 30)).setCells w.heap.size 0 c ∧ RW V w.heap.size 0 c ∧ Below w.heap.size w V ∧ (w.alloc (.cells zP 30)).there w.heap.size 0 c.toArray.size :=
  ⟨_, rfl, (freshP w).stored _ (by rw [hl]; rfl), below_setCells (Nat.le_refl _) _ _ _ ((Below.refl _ _).alloc (Nat.le_refl _) _), thereP (freshP w) rfl hl⟩
set_option maxRecDepth 20000 in
set_option maxHeartbeats 4000000 in
theorem some6 {G : World → Prop} {R : List Value → Fp × Fp → Prop} (api : PointApi G R) (v : Value) (n : Nat) (bs : Nat → Nat) (hbs : ∀ j, bs j < 256) (w : World) (hv : BytesIn w v n bs) (hG : G w) :
    Calls Tryd.prog 22 #[v] w fun e w' => ∃ c, e = .returned (.agg c.toArray) ∧ R c (emul dE (ofB (fitB n bs) 32) baseP) ∧ Below w.heap.size w w' := by
  have hz := zeroP
  have hfl := fitB_lt (n := n) hbs
  have kl := api.len
  have ko := api.one
  have kk := api.keep
  have cb := api.base
  have ct := fun c v w hR hv hG => api.times c baseP v (fitB n bs) w hR hfl hv hG
  generalize emul dE (ofB (fitB n bs) 32) baseP = pr at *
  generalize baseP = pb at *
  clear hfl api
  obtain ⟨W, g0, eW, hg0, b, h0⟩ : ∃ V g, w.alloc (.cells zP 30) = V ∧ w.heap.size = g ∧ Below w.heap.size w V ∧ RW V g 0 ((List.range 16).map fun _ => Value.int .u64 0) := ⟨_, _, rfl, rfl, (Below.refl _ _).alloc (Nat.le_refl _) _, freshP w⟩
  have HW : Hid (w.alloc (.cells zP 30) = W) := Hid.mk' eW
  have Hg : Hid (w.heap.size = g0) := Hid.mk' hg0
  have w0 : w.heap.size ≤ g0 := Nat.le_of_eq hg0
  replace hG := kk _ _ hG b
  replace hv := hv.still b
  clear eW hg0
  go_enter Tryd.func22, Tryd.ntmps22
  go_wp2_with (first
    | (go_at_call 18; rw [HW.out, Hg.out]; refine (cb _ hG).mono ?_; clear cb HW Hg; rintro e w1 ⟨c1, rfl, hc1, hb1⟩; (replace h0 := h0.still hb1); (replace b := below_next b hb1); (replace hG := kk _ _ hG hb1); (replace hv := hv.still hb1); clear hb1)
    | (go_at_call 23; refine (fit_any v n bs _ hv).mono ?_; clear hv; rintro e w2 ⟨s2, rfl, hn2, hb2⟩; (replace h0 := h0.still hb2); (replace b := below_next b hb2); (replace hG := kk _ _ hG hb2); clear hb2; (have ct3 := ct c1 s2 w2 hc1 (NewB.bytes hn2 (by decide)) hG); clear ct hn2)
    | (go_at_call 20; refine ct3.mono ?_; clear ct3 hc1; rintro e w3 ⟨c3, rfl, hc3, hb3⟩; (replace h0 := h0.still hb3); (replace b := below_next b hb3); clear hb3 hG; (have l3 := kl _ _ hc3); (have o3 := ko _ _ hc3); (obtain ⟨V3, hV3, h3, b3, t3⟩ := boxP w3 c3 l3); (have H3 := Hid.mk' hV3); clear hV3; (replace h0 := h0.still b3); (replace b := below_next b b3); clear b3; (have t0 : V3.there g0 0 c3.toArray.size := thereP h0 rfl l3))
    | (with_reducible (refine id (?_ : wpList _ _ _ _ _ _)); refine wpList_store_mid rfl 30 _ _ rfl w3.heap.size 0 c3.toArray rfl rfl t3 (infoPA l3) o3 ?_; rw [List.toList_toArray, ← H3.out]; clear t3 H3)
    | (refine wpList_load_mid rfl 30 _ rfl w3.heap.size 0 rfl c3 _ h3.range Tryd.underlying30 rfl (infoP l3) ?_)
    | (with_reducible (refine id (?_ : wpList _ _ _ _ _ _)); refine wpList_store_mid rfl 30 _ _ rfl g0 0 c3.toArray rfl rfl t0 (infoPA l3) o3 ?_))
  (try simp only [Exit.inBlock, Exit.then])
  exact bodyPost_ret (results_cell_mid Tryd.results22 _ _ g0 0 c3 _ rfl (h0.stored c3 (by rw [l3]; rfl)).range Tryd.underlying30 rfl (infoP l3)) rfl ⟨c3, rfl, hc3, below_setCells w0 _ _ _ b⟩
end Go.Proofs.YteekjcfbnoakgaaDoor
namespace Go.Proofs.YteekjcfbnoakgaaDoor
open Go.RowKit
theorem bytesNil {w : World} : BytesIn w (.slice none 0 0) 0 (fun _ => 0) := .inl ⟨none, rfl, rfl⟩
set_option maxRecDepth 20000 in
set_option maxHeartbeats 8000000 in
theorem knows6 {G : World → Prop} {R : List Value → Fp × Fp → Prop} (api : PointApi G R) (w : World) (hG : G w) :
    Calls Tryd.prog 13 #[] w fun e w' => e = .returned (.bool true) ∧ Below w.heap.size w w' := by
  have hz := zeroP
  have kl := api.len
  have ko := api.one
  have kk := api.keep
  have cb := api.base
  have cz := api.zero
  have ceb := fun c w => api.enc c baseP w
  have cez := fun c w => api.enc c ezero w
  have cd := fun w hG => api.decBad (.slice none 0 0) 0 (fun _ => 0) w (by decide) bytesNil hG
  obtain ⟨e1, e2⟩ := enc_base0
  have e3 := enc_zero0
  generalize baseP = pb at *
  generalize ezero = pz at *
  generalize encB pb = XB at *
  generalize encB pz = XZ at *
  have b := Below.refl w.heap.size w
  clear api
  go_enter Tryd.func13, Tryd.ntmps13
  go_upto_region 4 with (first
    | (go_at_call 18; refine (cb _ hG).mono ?_; clear cb; rintro e w1 ⟨c1, rfl, hc1, hb1⟩; (replace b := below_next b hb1); (replace hG := kk _ _ hG hb1); clear hb1)
    | (go_at_call 16; refine (ceb c1 _ hc1 hG).mono ?_; clear ceb hc1; rintro e w2 ⟨s2, rfl, hn2, hb2⟩; (replace b := below_next b hb2); (replace hG := kk _ _ hG hb2); clear hb2; (obtain ⟨g2, k2, rfl, hk2, hg2, hr2⟩ := hn2); clear hg2)
    | (go_at_call 15; refine (cz _ hG).mono ?_; clear cz; rintro e w3 ⟨c3, rfl, hc3, hb3⟩; (replace b := below_next b hb3); (replace hG := kk _ _ hG hb3); (replace hr2 := hr2.below hb3 (block_lt_of_cell (hr2 0 (by decide)).1)); clear hb3)
    | (go_at_call 16; refine (cez c3 _ hc3 hG).mono ?_; clear cez hc3; rintro e w4 ⟨s4, rfl, hn4, hb4⟩; (replace b := below_next b hb4); (replace hG := kk _ _ hG hb4); (replace hr2 := hr2.below hb4 (block_lt_of_cell (hr2 0 (by decide)).1)); clear hb4; (obtain ⟨g4, k4, rfl, hk4, hg4, hr4⟩ := hn4); clear hg4)
    | (go_at_call 9; refine (cd _ hG).mono ?_; clear cd; rintro e w5 ⟨c5, rfl, hc5, hb5⟩; (replace b := below_next b hb5); clear hG; (replace hr2 := hr2.below hb5 (block_lt_of_cell (hr2 0 (by decide)).1)); (replace hr4 := hr4.below hb5 (block_lt_of_cell (hr4 0 (by decide)).1)); clear hb5; (have l5 := kl _ _ hc5); (have o5 := ko _ _ hc5); (obtain ⟨V5, hV5, h5, b5, t5⟩ := boxP w5 c5 l5); (have H5 := Hid.mk' hV5); clear hV5 hc5; (replace b := below_next b b5); (replace hr2 := hr2.below b5 (block_lt_of_cell (hr2 0 (by decide)).1)); (replace hr4 := hr4.below b5 (block_lt_of_cell (hr4 0 (by decide)).1)); clear b5)
    | (with_reducible (refine id (?_ : wpList _ _ _ _ _ _)); refine wpList_store_mid rfl 30 _ _ rfl w5.heap.size 0 c5.toArray rfl rfl t5 (infoPA l5) o5 ?_; rw [List.toList_toArray, ← H5.out]; clear t5 H5))
  (try dsimp only [Act.put])
  have q0 := (hr2 0 (by decide)).1
  have q31 := (hr2 31 (by decide)).1
  have z0 := (hr4 0 (by decide)).1
  rw [Nat.zero_add, e1] at q0
  rw [Nat.zero_add, e2] at q31
  rw [Nat.zero_add, e3] at z0
  clear hr2 hr4 e1 e2 e3 h5 kl ko kk
  go_wp2_with (go_at_call 11; refine (num6_any _ _).mono ?_; rintro e wn ⟨rfl, hwn⟩; subst hwn)
  go_ret
  exact ⟨rfl, b⟩
end Go.Proofs.YteekjcfbnoakgaaDoor
namespace Go.Proofs.YteekjcfbnoakgaaDoor
open Go.RowKit
theorem emul_two {P : Fp × Fp} (hP : On dE P) (j : Nat) : eadd dE (emul dE (2 ^ j) P) (emul dE (2 ^ j) P) = emul dE (2 ^ (j + 1)) P := by
  rw [← emul_add ns_dE hP, Nat.pow_succ, Nat.mul_two]
theorem tmod12 (k : Int) : ∃ m : Nat, m < 12 ∧ (wrap64 (k.tmod 12 + 12)).tmod 12 = (m : Int) := by
  have h1 := Int.tmod_lt_of_pos k (show (0 : Int) < 12 by decide)
  have h2 := Int.lt_tmod_of_pos k (show (0 : Int) < 12 by decide)
  generalize k.tmod 12 = t at *
  have e : wrap64 (t + 12) = t + 12 := by unfold wrap64; omega
  rw [e, Int.tmod_eq_emod_of_nonneg (by omega)]
  exact ⟨((t + 12) % 12).toNat, by omega, by omega⟩
theorem emul_1 (P : Fp × Fp) : emul dE (2 ^ 0) P = P := by
  show eadd dE ezero P = P
  exact zero_eadd _ _
theorem two_bytes : ∀ m : Nat, m < 12 → ofB (upd (fun _ => 0) (m / 8) (2 ^ (m % 8))) 32 = 2 ^ m := by decide
theorem two_int (j : Nat) : ((2 : Int) ^ (j % 8) % 256) = ((2 ^ (j % 8) : Nat) : Int) := by
  have h : 2 ^ (j % 8) ≤ 2 ^ 7 := Nat.pow_le_pow_right (by decide) (by omega)
  have e : (2 : Int) ^ (j % 8) = ((2 ^ (j % 8) : Nat) : Int) := by simp
  rw [e]
  generalize 2 ^ (j % 8) = x at *
  omega
theorem two_lt : ∀ m : Nat, m < 12 → ∀ j, upd (fun _ => 0) (m / 8) (2 ^ (m % 8)) j < 256 := fun m _ j => by
  have h : 2 ^ (m % 8) ≤ 2 ^ 7 := Nat.pow_le_pow_right (by decide) (by omega)
  unfold upd
  dsimp only
  split <;> omega
set_option maxRecDepth 20000 in
set_option maxHeartbeats 8000000 in
theorem doubles6 {G : World → Prop} {R : List Value → Fp × Fp → Prop} (api : PointApi G R) (v : Value) (n : Nat) (bs : Nat → Nat) (hbs : ∀ j, bs j < 256) (k : Int) (w : World) (hv : BytesIn w v n bs) (hG : G w) :
    Calls Tryd.prog 7 #[v, .int .i64 k] w fun e w' => e = .returned (.bool true) ∧ Below w.heap.size w w' := by
  have hz := zeroP
  have kl := api.len
  have ko := api.one
  have kk := api.keep
  have hG0 := hG
  have cs := some6 api v n bs hbs w hv hG
  have ck := fun w hG => knows6 api w hG
  have oN : On dE (emul dE (ofB (fitB n bs) 32) baseP) := emul_on ns_dE base_on _
  generalize emul dE (ofB (fitB n bs) 32) baseP = P at *
  go_enter Tryd.func7, Tryd.ntmps7
  go_upto_region 4 with (first
    | (go_at_call 22; refine cs.mono ?_; clear cs; rintro e w1 ⟨c1, rfl, hc1, b⟩; (replace hG := kk _ _ hG b); clear hv; (have l1 := kl _ _ hc1); (have o1 := ko _ _ hc1); (obtain ⟨V1, hV1, h1, b1, t1⟩ := boxP w1 c1 l1); (have H1 := Hid.mk' hV1); clear hV1; (replace hG := kk _ _ hG b1); (have s1 := b.size); (replace b := below_next b b1); clear b1; (have x1 := h1.lt); (obtain ⟨V2, hV2, h2, b2, t2⟩ := boxP V1 c1 l1); (have H2 := Hid.mk' hV2); clear hV2; (replace hG := kk _ _ hG b2); (have s2 := b.size); (replace b := below_next b b2); (have H1' := h1); (replace h1 := h1.still b2); clear b2)
    | (with_reducible (refine id (?_ : wpList _ _ _ _ _ _)); refine wpList_store_mid rfl 30 _ _ rfl w1.heap.size 0 c1.toArray rfl rfl t1 (infoPA l1) o1 ?_; rw [List.toList_toArray, ← H1.out]; clear t1 H1)
    | (refine wpList_load_mid rfl 30 _ rfl w1.heap.size 0 rfl c1 _ H1'.range Tryd.underlying30 rfl (infoP l1) ?_)
    | (with_reducible (refine id (?_ : wpList _ _ _ _ _ _)); refine wpList_store_mid rfl 30 _ _ rfl V1.heap.size 0 c1.toArray rfl rfl t2 (infoPA l1) o1 ?_; rw [List.toList_toArray, ← H2.out]; clear t2 H2))
  obtain ⟨m, hm, em⟩ := tmod12 k
  rw [em]
  clear em H1'
  have n12 : w1.heap.size ≠ V1.heap.size := Nat.ne_of_lt x1
  clear x1
  generalize w1.heap.size = g1 at *
  generalize V1.heap.size = g2 at *
  (try dsimp only [Act.put])
  go_wp2
  go_loopw [7] (fun i wr => ∃ (j : Nat) (c : List Value), j ≤ m ∧ i = .int .i64 (j : Int) ∧ R c (emul dE (2 ^ j) P) ∧ RW wr g1 0 c1 ∧ RW wr g2 0 c ∧ Below w.heap.size w wr) (fun i _ => m - (intOf i).toNat)
  case atStart => exact ⟨0, c1, Nat.zero_le _, rfl, by rw [emul_1]; exact hc1, h1, h2, b⟩
  case round =>
    obtain ⟨j, c, hj, rfl, hc, k1, k2, kb⟩ := hrel
    clear h1 h2 b
    have lc := kl _ _ hc
    have hGr := kk _ _ hG0 kb
    by_cases hj2 : j < m
    · have cp := api.plus c _ c _ wr hc hc hGr
      rw [emul_two oN] at cp
      have hlt : (j : Int) < (m : Int) := by omega
      clear api ck
      go_wp2_with (first
        | (refine wpList_load_mid rfl 30 _ rfl g2 0 rfl c _ k2.range Tryd.underlying30 rfl (infoP lc) ?_)
        | (go_at_call 24; refine cp.mono ?_; clear cp; rintro e w9 ⟨d, rfl, hd, hb9⟩; (replace k1 := k1.still hb9); (replace k2 := k2.still hb9); (replace kb := below_next kb hb9); clear hb9; (have ld := kl _ _ hd); (have od := ko _ _ hd); (have tA : w9.there g2 0 d.toArray.size := thereP k2 lc ld); (obtain ⟨V9, hV9⟩ : ∃ V, V = w9.setCells g2 0 d := ⟨_, rfl⟩); (have k3 := k2.stored d (by rw [ld, lc])); clear k2; (replace k1 := k1.far g2 0 d (.inl n12)); (replace kb := below_setCells s2 d 0 _ kb); rw [← hV9] at k1 k3 kb; (have HA := Hid.mk' hV9); clear hV9)
        | (with_reducible (refine id (?_ : wpList _ _ _ _ _ _)); refine wpList_store_mid rfl 30 _ _ rfl g2 0 d.toArray rfl rfl tA (infoPA ld) od ?_; rw [List.toList_toArray, ← HA.out]; clear tA HA))
      go_roundw
      case rel => exact ⟨j + 1, d, by omega, by go_num, hd, k1, k3, kb⟩
      case measure => simp [intOf]; omega
    · obtain rfl : j = m := by omega
      clear hj hj2
      have hmk := make_bytes wr 32 32 rfl (by decide)
      obtain ⟨W, hW⟩ : ∃ W, W = wr.alloc (.cells (zb 32) 5) := ⟨_, rfl⟩
      have hrow : RowAt .u8 W wr.heap.size 0 32 (fun _ => 0) := by rw [hW]; exact RowAt.fresh (fun j hj => zb_at 32 j hj)
      have hbW : Below wr.heap.size wr W := by rw [hW]; exact (Below.refl _ _).alloc (Nat.le_refl _) _
      rw [← hW] at hmk
      have s8 := kb.size
      have n18 := Nat.ne_of_lt k1.lt
      have n28 := Nat.ne_of_lt k2.lt
      replace k1 := k1.still hbW
      replace k2 := k2.still hbW
      replace kb := below_next kb hbW
      clear hW hbW hGr
      generalize wr.heap.size = g8 at *
      have cc := (hrow (j / 8) (by omega)).1
      have ff := (hrow (j / 8) (by omega)).2
      rw [Nat.zero_add] at cc ff
      have hset := hrow.set (i := j / 8) (by omega) (v := 2 ^ (j % 8) % 256) (u := 2 ^ (j % 8)) (two_int j)
      rw [Nat.zero_add] at hset
      obtain ⟨V8, hV8⟩ : ∃ V, V = W.setCell ⟨g8, j / 8, none⟩ (.int .u8 (2 ^ (j % 8) % 256)) := ⟨_, rfl⟩
      replace k1 := k1.far g8 (j / 8) [.int .u8 (2 ^ (j % 8) % 256)] (.inl n18)
      replace k2 := k2.far g8 (j / 8) [.int .u8 (2 ^ (j % 8) % 256)] (.inl n28)
      replace kb : Below w.heap.size w V8 := by rw [hV8]; exact below_setCells s8 [_] (j / 8) _ kb
      replace k1 : RW V8 g1 0 c1 := by rw [hV8]; exact k1
      replace k2 : RW V8 g2 0 c := by rw [hV8]; exact k2
      rw [← hV8] at hset
      have H8 := Hid.mk' hV8
      have ct := api.times c1 P (.slice (some ⟨g8, 0, none⟩) 32 32) _ V8 hc1 (two_lt j hm) (.inr ⟨g8, 0, 32, rfl, block_lt_of_cell (hset 0 (by decide)).1, Nat.le_refl _, fun i hi => (hset i hi).1⟩) (kk _ _ hG0 kb)
      rw [two_bytes j hm] at ct
      have cS := fun d w (hd : R d (emul dE (2 ^ j) P)) hG => api.same c _ d _ w hc hd hG
      rw [decide_eq_true (rfl : emul dE (2 ^ j) P = emul dE (2 ^ j) P)] at cS
      clear hrow hset hV8 api
      go_upto_region 10 with (rw [hmk])
      (try simp only [Act.put, List.setIfInBounds_toArray, List.set_cons_zero, List.set_cons_succ])
      rw [← H8.out]
      clear H8 hmk cc ff
      generalize emul dE (2 ^ j) P = Q at *
      go_wp2_with (first
        | (refine wpList_load_mid rfl 30 _ rfl g1 0 rfl c1 _ k1.range Tryd.underlying30 rfl (infoP l1) ?_)
        | (go_at_call 20; refine ct.mono ?_; clear ct; rintro e w3 ⟨c3, rfl, hc3, hb3⟩; (replace k2 := k2.still hb3); (replace kb := below_next kb hb3); clear hb3 k1; (have l3 := kl _ _ hc3); (have o3 := ko _ _ hc3); (obtain ⟨V3, hV3, h3, b3, t3⟩ := boxP w3 c3 l3); (have H3 := Hid.mk' hV3); clear hV3; (replace k2 := k2.still b3); (replace kb := below_next kb b3); clear b3; (have cS3 := cS c3 V3 hc3 (kk _ _ hG0 kb)); clear cS)
        | (with_reducible (refine id (?_ : wpList _ _ _ _ _ _)); refine wpList_store_mid rfl 30 _ _ rfl w3.heap.size 0 c3.toArray rfl rfl t3 (infoPA l3) o3 ?_; rw [List.toList_toArray, ← H3.out]; clear t3 H3)
        | (go_at_call 11; refine (num6_any _ _).mono ?_; rintro e wn ⟨rfl, hwn⟩; subst hwn)
        | (refine wpList_load_on rfl 30 _ rfl g2 0 rfl c _ k2.range Tryd.underlying30 rfl (infoP lc) ?_)
        | (refine wpList_load_on rfl 30 _ rfl w3.heap.size 0 rfl c3 _ h3.range Tryd.underlying30 rfl (infoP l3) ?_)
        | (go_at_call 14; refine cS3.mono ?_; clear cS3; rintro e w4 ⟨rfl, hb4⟩; (replace kb := below_next kb hb4); clear hb4 h3 k2; (have ck4 := ck w4 (kk _ _ hG0 kb)); clear ck)
        | (go_at_call 13; refine ck4.mono ?_; clear ck4; rintro e w5 ⟨rfl, hb5⟩; (replace kb := below_next kb hb5); clear hb5))
      (try simp only [Exit.inBlock, Exit.then])
      go_ret
      exact ⟨rfl, kb⟩
end Go.Proofs.YteekjcfbnoakgaaDoor
namespace Go.Proofs.YteekjcfbnoakgaaDoor
open Go.RowKit
/-- A point's cells. -/
def p16 (x y z t : Nat) : List Value := c4 x ++ (c4 y ++ (c4 z ++ c4 t))
def pV (x y z t : Nat) : Value := .agg (p16 x y z t).toArray
theorem p16_len (x y z t : Nat) : (p16 x y z t).length = 16 := rfl
theorem p16_same (x y z t x' y' z' t' : Nat) : (p16 x y z t).length = (p16 x' y' z' t').length := rfl
theorem zP_16 : zP = (p16 0 0 0 0).toArray := by kernel_rfl
theorem fresh16 (w : World) : ∃ w' g, w.alloc (.cells zP 30) = w' ∧ w.heap.size = g ∧ Below w.heap.size w w' ∧ RW w' g 0 (p16 0 0 0 0) := by
  refine ⟨_, _, rfl, rfl, (Below.refl _ _).alloc (Nat.le_refl _) _, ?_⟩
  rw [zP_16]; exact RW.fresh w _ _
theorem info16 (x y z t : Nat) : (Tryd.prog.info? 30).map (·.size) = some (p16 x y z t).length := infoPs
theorem info16A (x y z t : Nat) : (Tryd.prog.info? 30).map (·.size) = some (p16 x y z t).toArray.size := infoPs
theorem one16 (x y z t : Nat) : (p16 x y z t).toArray.all (·.oneCell') = true := by simp [p16, c4, Value.oneCell']
theorem thr16 {w : World} {g x y z t : Nat} (r : RW w g 0 (p16 x y z t)) (x' y' z' t' : Nat) : w.there g 0 (p16 x' y' z' t').toArray.size := r.there
theorem parts16 {w : World} {g x y z t : Nat} (r : RW w g 0 (p16 x y z t)) : RW w g 0 (c4 x) ∧ RW w g 4 (c4 y) ∧ RW w g 8 (c4 z) ∧ RW w g 12 (c4 t) :=
  ⟨RW.left r, RW.left (RW.right r), RW.left (RW.right (RW.right r)), RW.right (RW.right (RW.right r))⟩
theorem builtP4 (x y z t : Nat) : Tryd.prog.built 30 [(0, numV x), (1, numV y), (2, numV z), (3, numV t)] = some (p16 x y z t).toArray := by kernel_rfl
theorem builtP0 : Tryd.prog.built 30 [] = some (p16 0 0 0 0).toArray := by kernel_rfl
theorem eq_num_at (w : World) (d : Nat) {a b : Nat} (ha : a < pF) (hb : b < pF) : (Op.equalIn (d + 3) 28 (numV a) (numV b)).run Tryd.prog w = .ok (decide (a = b)) w := by
  unfold numV
  rw [show d + 3 = (d + 2) + 1 from rfl, run_equalIn_agg w (d + 2) 28 _ _ (by kernel_rfl) (by kernel_rfl)]
  simp only [Program.fieldsOf, Tryd.underlying28, Op.eqFields]
  rw [if_pos (by decide)]
  simp only [Sem.run_bind]
  rw [part_num]
  simp only [Result.andThen_ok]
  rw [part_num]
  simp only [Result.andThen_ok]
  rw [run_eq4 w d 26 24 .u64 (by kernel_rfl) (by kernel_rfl) (by kernel_rfl)]
  simp only [Result.andThen_ok]
  by_cases h : a = b
  · subst h
    simp
  · have hn : ((lw a 0 : Int) == (lw b 0 : Int) && (lw a 1 : Int) == (lw b 1 : Int) && (lw a 2 : Int) == (lw b 2 : Int) && (lw a 3 : Int) == (lw b 3 : Int)) = false := by
      rcases Bool.eq_false_or_eq_true ((lw a 0 : Int) == (lw b 0 : Int) && (lw a 1 : Int) == (lw b 1 : Int) && (lw a 2 : Int) == (lw b 2 : Int) && (lw a 3 : Int) == (lw b 3 : Int)) with e | e
      · exfalso
        simp only [Bool.and_eq_true, beq_iff_eq] at e
        exact h (lw_inj ha hb (by omega) (by omega) (by omega) (by omega))
      · exact e
    rw [hn, decide_eq_false h]
    simp
theorem part_p0 (w : World) (x y z t : Nat) : (part 28 (p16 x y z t).toArray 0).run Tryd.prog w = .ok (numV x) w := by kernel_rfl
theorem part_p1 (w : World) (x y z t : Nat) : (part 28 (p16 x y z t).toArray 4).run Tryd.prog w = .ok (numV y) w := by kernel_rfl
theorem part_p2 (w : World) (x y z t : Nat) : (part 28 (p16 x y z t).toArray 8).run Tryd.prog w = .ok (numV z) w := by kernel_rfl
theorem part_p3 (w : World) (x y z t : Nat) : (part 28 (p16 x y z t).toArray 12).run Tryd.prog w = .ok (numV t) w := by kernel_rfl
theorem eq_pt (w : World) {p q : N4} (hp : p.Ok) (hq : q.Ok) : (Op.equalIn 10000 30 (pV p.X p.Y p.Z p.T) (pV q.X q.Y q.Z q.T)).run Tryd.prog w = .ok (decide (p.X = q.X) && decide (p.Y = q.Y) && decide (p.Z = q.Z) && decide (p.T = q.T)) w := by
  unfold pV
  rw [show (10000 : Nat) = 9999 + 1 from rfl, run_equalIn_agg w 9999 30 _ _ (by kernel_rfl) (by kernel_rfl)]
  simp only [Program.fieldsOf, Tryd.underlying30, Op.eqFields]
  rw [show (9999 : Nat) = 9996 + 3 from rfl]
  simp only [Sem.run_bind, Sem.run_ite, part_p0, part_p1, part_p2, part_p3, Result.andThen_ok, eq_num_at w 9996 hp.X hq.X, eq_num_at w 9996 hp.Y hq.Y, eq_num_at w 9996 hp.Z hq.Z, eq_num_at w 9996 hp.T hq.T]
  cases h0 : decide (p.X = q.X) <;> cases h1 : decide (p.Y = q.Y) <;> cases h2 : decide (p.Z = q.Z) <;> cases h3 : decide (p.T = q.T) <;> simp
theorem exec_eqp (w : World) {p q : N4} (hp : p.Ok) (hq : q.Ok) (x y : Operand) : (do eqGuard .eql 30 x y (pV p.X p.Y p.Z p.T) (pV q.X q.Y q.Z q.T); binOp .eql 30 (pV p.X p.Y p.Z p.T) (pV q.X q.Y q.Z q.T) : Sem Value).run Tryd.prog w = .ok (.bool (decide (p.X = q.X) && decide (p.Y = q.Y) && decide (p.Z = q.Z) && decide (p.T = q.T))) w := by
  rw [Sem.run_bind, show (eqGuard .eql 30 x y (pV p.X p.Y p.Z p.T) (pV q.X q.Y q.Z q.T)).run Tryd.prog w = .ok () w from run_eqGuard_agg w .eql 30 x y _ _ (by kernel_rfl)]
  simp only [Result.andThen_ok]
  rw [show (binOp .eql 30 (pV p.X p.Y p.Z p.T) (pV q.X q.Y q.Z q.T)).run Tryd.prog w = ((Op.equalIn 10000 30 (pV p.X p.Y p.Z p.T) (pV q.X q.Y q.Z q.T)).run Tryd.prog w).andThen fun b w' => .ok (.bool b) w' from run_eql_struct w 30 _ _, eq_pt w hp hq]
  rfl
/-- A point and the zero one. -/
theorem wpList_eqp {ops : Array Oper} {rest : List Oper} {op : Oper} {a : Act} {w : World} {Q : Exit → Act → World → Prop} (hgd : op.guard = none) (x y : Operand) (t2 : TypeId) (ho : op.op = .binOp .eql 30 x y t2) (p : N4) (hp : p.Ok)
    (hx : a.eval x = .agg (p16 p.X p.Y p.Z p.T).toArray) (hy : a.eval y = .agg (p16 0 0 0 0).toArray) (z : Bool) (hz : (decide (p.X = 0) && decide (p.Y = 0) && decide (p.Z = 0) && decide (p.T = 0)) = z) (h : wpList Tryd.prog ops Q rest (a.put op.dst (.bool z)) w) : wpList Tryd.prog ops Q (op :: rest) a w :=
  wpList_plain hgd fun K hK => by
    have e := exec_eqp w hp (q := ⟨0, 0, 0, 0⟩) ⟨by decide, by decide, by decide, by decide⟩ x y
    unfold pV at e
    unfold Oper.wp execOp
    simp only [ho, hx, hy]
    rw [Sem.run_bind, e, hz]
    exact hK _ _ h
end Go.Proofs.YteekjcfbnoakgaaDoor
namespace Go.Proofs.YteekjcfbnoakgaaDoor
open Go.RowKit
set_option maxRecDepth 20000 in
set_option maxHeartbeats 4000000 in
theorem pnumber_any (v : Value) (n : Nat) (bs : Nat → Nat) (hbs : ∀ j, bs j < 256) (w : World) (hv : BytesIn w v n bs) :
    Calls Tryd.prog 33 #[v] w fun e w' => e = .returned (numV (fromN n bs)) ∧ Below w.heap.size w w' := by
  have cf : ∀ W, BytesIn W v n bs → Calls Tryd.prog 62 #[v] W fun e w' => e = .returned (.tuple #[.agg (c4 (fromN n bs)).toArray, .int .i64 (fromE n)]) ∧ Below W.heap.size W w' := fun W h => from_any v n bs hbs W h
  rw [show numV (fromN n bs) = .agg (c4 (fromN n bs)).toArray from rfl]
  generalize fromN n bs = m at *
  obtain ⟨W, g, eW, hg, b, h0⟩ := fresh4 w
  replace hv := hv.still b
  have HW : Hid (w.alloc (.cells #[.int .u64 0, .int .u64 0, .int .u64 0, .int .u64 0] 28) = W) := Hid.mk' eW
  have Hg : Hid (w.heap.size = g) := Hid.mk' hg
  have wg : w.heap.size ≤ g := Nat.le_of_eq hg
  clear eW hg
  go_enter Tryd.func33, Tryd.ntmps33
  go_wp2_with (first
    | (go_at_call 62; rw [HW.out, Hg.out]; refine (cf _ hv).mono ?_; clear cf HW Hg; rintro e w1 ⟨rfl, hb1⟩; (have l0 := h0.lt); (replace h0 := h0.still hb1); (replace b := below_next b hb1); (have n01 : g ≠ w1.heap.size := Nat.ne_of_lt (Nat.lt_of_lt_of_le l0 hb1.size)); clear hb1 l0 hv; (have z1 := fresh4' w1); (have t1 := fresh4t w1 m); (obtain ⟨V1, hV1⟩ : ∃ V, V = (w1.alloc (.cells #[.int .u64 0, .int .u64 0, .int .u64 0, .int .u64 0] 28)).setCells w1.heap.size 0 (c4 m) := ⟨_, rfl⟩); (have h1 : RW V1 w1.heap.size 0 (c4 m) := by rw [hV1]; exact z1.stored (c4 m) rfl); (have b1 : Below w1.heap.size w1 V1 := by rw [hV1]; exact below_setCells (Nat.le_refl _) _ _ _ ((Below.refl _ _).alloc (Nat.le_refl _) _)); (have H1 := Hid.mk' hV1); clear hV1 z1; (replace h0 := h0.still b1); (replace b := below_next b b1); clear b1; (have t0 : V1.there g 0 (c4 m).toArray.size := h0.there))
    | (with_reducible (refine id (?_ : wpList _ _ _ _ _ _)); refine wpList_store_mid rfl 28 _ _ rfl w1.heap.size 0 (c4 m).toArray rfl rfl t1 (info4a m) (one4 m) ?_; rw [List.toList_toArray, ← H1.out]; clear t1 H1)
    | (refine wpList_load_mid rfl 28 _ rfl w1.heap.size 0 rfl (c4 m) _ h1.range Tryd.underlying28 rfl info4 ?_)
    | (with_reducible (refine id (?_ : wpList _ _ _ _ _ _)); refine wpList_store_mid rfl 28 _ _ rfl g 0 (c4 m).toArray rfl rfl t0 (info4a m) (one4 m) ?_))
  (try simp only [Exit.inBlock, Exit.then])
  exact bodyPost_ret (results_cell_mid Tryd.results33 _ _ g 0 (c4 m) _ rfl (h0.stored (c4 m) rfl).range Tryd.underlying28 rfl info4) rfl ⟨rfl, below_setCells wg _ _ _ b⟩
end Go.Proofs.YteekjcfbnoakgaaDoor
namespace Go.Proofs.YteekjcfbnoakgaaDoor
open Go.RowKit
theorem row_bytes (w : World) (L : List Nat) (hL : L.length = 32) : BytesIn (w.alloc (.cells (L.map fun (b : Nat) => Value.int .u8 (b : Int)).toArray 5)) (.slice (some ⟨w.heap.size, 0, none⟩) 32 32) 32 (fun j => L.getD j 0) := by
  refine .inr ⟨w.heap.size, 0, 32, rfl, by simp, Nat.le_refl _, fun j hj => ?_⟩
  have hr := (RW.fresh w (L.map fun (b : Nat) => Value.int .u8 (b : Int)) 5).range
  have h := hr j (Value.int .u8 ((L.getD j 0 : Nat) : Int)) (by
    rw [List.getElem?_map, List.getElem?_eq_getElem (by omega)]
    simp [List.getD, List.getElem?_eq_getElem (show j < L.length by omega)])
  exact h
def curveDL : List Nat := [163, 120, 89, 19, 202, 77, 235, 117, 171, 216, 65, 65, 77, 10, 112, 0, 152, 232, 121, 119, 121, 64, 199, 140, 115, 254, 111, 43, 238, 108, 3, 82]
theorem curveDL_lt (j : Nat) : curveDL.getD j 0 < 256 := by
  rcases Nat.lt_or_ge j 32 with h | h
  · revert h j; decide
  · rw [List.getD, List.getElem?_eq_none h]; decide
theorem curveDL_is : fromN 32 (fun j => curveDL.getD j 0) = dN := by kernel_rfl
set_option maxRecDepth 20000 in
set_option maxHeartbeats 4000000 in
theorem curveD_any (w : World) : Calls Tryd.prog 66 #[] w fun e w' => e = .returned (numV dN) ∧ Below w.heap.size w w' := by
  have cn : ∀ W v, BytesIn W v 32 (fun j => curveDL.getD j 0) → Calls Tryd.prog 33 #[v] W fun e w' => e = .returned (.agg (c4 dN).toArray) ∧ Below W.heap.size W w' := fun W v h => by
    have k := pnumber_any v 32 _ curveDL_lt W h
    rw [curveDL_is] at k
    exact k
  rw [show numV dN = .agg (c4 dN).toArray from rfl]
  generalize dN = m at *
  obtain ⟨W, g, eW, hg, b, h0⟩ := fresh4 w
  have hs : W.heap.size = w.heap.size + 1 := by rw [← eW]; simp
  have hv : BytesIn (W.alloc (.cells #[.int .u8 163, .int .u8 120, .int .u8 89, .int .u8 19, .int .u8 202, .int .u8 77, .int .u8 235, .int .u8 117, .int .u8 171, .int .u8 216, .int .u8 65, .int .u8 65, .int .u8 77, .int .u8 10, .int .u8 112, .int .u8 0, .int .u8 152, .int .u8 232, .int .u8 121, .int .u8 119, .int .u8 121, .int .u8 64, .int .u8 199, .int .u8 140, .int .u8 115, .int .u8 254, .int .u8 111, .int .u8 43, .int .u8 238, .int .u8 108, .int .u8 3, .int .u8 82] 5)) (.slice (some ⟨w.heap.size + 1, 0, none⟩) 32 32) 32 (fun j => curveDL.getD j 0) := by rw [← hs]; exact row_bytes W curveDL rfl
  obtain ⟨V, eV⟩ : ∃ V, W.alloc (.cells #[.int .u8 163, .int .u8 120, .int .u8 89, .int .u8 19, .int .u8 202, .int .u8 77, .int .u8 235, .int .u8 117, .int .u8 171, .int .u8 216, .int .u8 65, .int .u8 65, .int .u8 77, .int .u8 10, .int .u8 112, .int .u8 0, .int .u8 152, .int .u8 232, .int .u8 121, .int .u8 119, .int .u8 121, .int .u8 64, .int .u8 199, .int .u8 140, .int .u8 115, .int .u8 254, .int .u8 111, .int .u8 43, .int .u8 238, .int .u8 108, .int .u8 3, .int .u8 82] 5) = V := ⟨_, rfl⟩
  have bV : Below W.heap.size W V := by rw [← eV]; exact (Below.refl _ _).alloc (Nat.le_refl _) _
  rw [eV] at hv
  have HV : Hid ((w.alloc (.cells #[.int .u64 0, .int .u64 0, .int .u64 0, .int .u64 0] 28)).alloc (.cells #[.int .u8 163, .int .u8 120, .int .u8 89, .int .u8 19, .int .u8 202, .int .u8 77, .int .u8 235, .int .u8 117, .int .u8 171, .int .u8 216, .int .u8 65, .int .u8 65, .int .u8 77, .int .u8 10, .int .u8 112, .int .u8 0, .int .u8 152, .int .u8 232, .int .u8 121, .int .u8 119, .int .u8 121, .int .u8 64, .int .u8 199, .int .u8 140, .int .u8 115, .int .u8 254, .int .u8 111, .int .u8 43, .int .u8 238, .int .u8 108, .int .u8 3, .int .u8 82] 5) = V) := Hid.mk' (by rw [eW, eV])
  have Hg : Hid (w.heap.size = g) := Hid.mk' hg
  have wg : w.heap.size ≤ g := Nat.le_of_eq hg
  replace h0 := h0.still bV
  replace b := below_next b bV
  clear eW hg eV bV hs W
  go_enter Tryd.func66, Tryd.ntmps66
  go_wp2_with (first
    | (go_at_call 33; rw [HV.out]; refine (cn _ _ hv).mono ?_; rw [Hg.out]; clear cn HV Hg; rintro e w1 ⟨rfl, hb1⟩; (replace h0 := h0.still hb1); (replace b := below_next b hb1); clear hb1; (have t0 : w1.there g 0 (c4 m).toArray.size := h0.there))
    | (with_reducible (refine id (?_ : wpList _ _ _ _ _ _)); refine wpList_store_mid rfl 28 _ _ rfl g 0 (c4 m).toArray rfl rfl t0 (info4a m) (one4 m) ?_))
  (try simp only [Exit.inBlock, Exit.then])
  exact bodyPost_ret (results_cell_mid Tryd.results66 _ _ g 0 (c4 m) _ rfl (h0.stored (c4 m) rfl).range Tryd.underlying28 rfl info4) rfl ⟨rfl, below_setCells wg _ _ _ b⟩
def baseXL : List Nat := [26, 213, 37, 143, 96, 45, 86, 201, 178, 167, 37, 149, 96, 199, 44, 105, 92, 220, 214, 253, 49, 226, 164, 192, 254, 83, 110, 205, 211, 54, 105, 33]
theorem baseXL_lt (j : Nat) : baseXL.getD j 0 < 256 := by
  rcases Nat.lt_or_ge j 32 with h | h
  · revert h j; decide
  · rw [List.getD, List.getElem?_eq_none h]; decide
theorem baseXL_is : fromN 32 (fun j => baseXL.getD j 0) = xB := by kernel_rfl
set_option maxRecDepth 20000 in
set_option maxHeartbeats 4000000 in
theorem baseX_any (w : World) : Calls Tryd.prog 54 #[] w fun e w' => e = .returned (numV xB) ∧ Below w.heap.size w w' := by
  have cn : ∀ W v, BytesIn W v 32 (fun j => baseXL.getD j 0) → Calls Tryd.prog 33 #[v] W fun e w' => e = .returned (.agg (c4 xB).toArray) ∧ Below W.heap.size W w' := fun W v h => by
    have k := pnumber_any v 32 _ baseXL_lt W h
    rw [baseXL_is] at k
    exact k
  rw [show numV xB = .agg (c4 xB).toArray from rfl]
  generalize xB = m at *
  obtain ⟨W, g, eW, hg, b, h0⟩ := fresh4 w
  have hs : W.heap.size = w.heap.size + 1 := by rw [← eW]; simp
  have hv : BytesIn (W.alloc (.cells #[.int .u8 26, .int .u8 213, .int .u8 37, .int .u8 143, .int .u8 96, .int .u8 45, .int .u8 86, .int .u8 201, .int .u8 178, .int .u8 167, .int .u8 37, .int .u8 149, .int .u8 96, .int .u8 199, .int .u8 44, .int .u8 105, .int .u8 92, .int .u8 220, .int .u8 214, .int .u8 253, .int .u8 49, .int .u8 226, .int .u8 164, .int .u8 192, .int .u8 254, .int .u8 83, .int .u8 110, .int .u8 205, .int .u8 211, .int .u8 54, .int .u8 105, .int .u8 33] 5)) (.slice (some ⟨w.heap.size + 1, 0, none⟩) 32 32) 32 (fun j => baseXL.getD j 0) := by rw [← hs]; exact row_bytes W baseXL rfl
  obtain ⟨V, eV⟩ : ∃ V, W.alloc (.cells #[.int .u8 26, .int .u8 213, .int .u8 37, .int .u8 143, .int .u8 96, .int .u8 45, .int .u8 86, .int .u8 201, .int .u8 178, .int .u8 167, .int .u8 37, .int .u8 149, .int .u8 96, .int .u8 199, .int .u8 44, .int .u8 105, .int .u8 92, .int .u8 220, .int .u8 214, .int .u8 253, .int .u8 49, .int .u8 226, .int .u8 164, .int .u8 192, .int .u8 254, .int .u8 83, .int .u8 110, .int .u8 205, .int .u8 211, .int .u8 54, .int .u8 105, .int .u8 33] 5) = V := ⟨_, rfl⟩
  have bV : Below W.heap.size W V := by rw [← eV]; exact (Below.refl _ _).alloc (Nat.le_refl _) _
  rw [eV] at hv
  have HV : Hid ((w.alloc (.cells #[.int .u64 0, .int .u64 0, .int .u64 0, .int .u64 0] 28)).alloc (.cells #[.int .u8 26, .int .u8 213, .int .u8 37, .int .u8 143, .int .u8 96, .int .u8 45, .int .u8 86, .int .u8 201, .int .u8 178, .int .u8 167, .int .u8 37, .int .u8 149, .int .u8 96, .int .u8 199, .int .u8 44, .int .u8 105, .int .u8 92, .int .u8 220, .int .u8 214, .int .u8 253, .int .u8 49, .int .u8 226, .int .u8 164, .int .u8 192, .int .u8 254, .int .u8 83, .int .u8 110, .int .u8 205, .int .u8 211, .int .u8 54, .int .u8 105, .int .u8 33] 5) = V) := Hid.mk' (by rw [eW, eV])
  have Hg : Hid (w.heap.size = g) := Hid.mk' hg
  have wg : w.heap.size ≤ g := Nat.le_of_eq hg
  replace h0 := h0.still bV
  replace b := below_next b bV
  clear eW hg eV bV hs W
  go_enter Tryd.func54, Tryd.ntmps54
  go_wp2_with (first
    | (go_at_call 33; rw [HV.out]; refine (cn _ _ hv).mono ?_; rw [Hg.out]; clear cn HV Hg; rintro e w1 ⟨rfl, hb1⟩; (replace h0 := h0.still hb1); (replace b := below_next b hb1); clear hb1; (have t0 : w1.there g 0 (c4 m).toArray.size := h0.there))
    | (with_reducible (refine id (?_ : wpList _ _ _ _ _ _)); refine wpList_store_mid rfl 28 _ _ rfl g 0 (c4 m).toArray rfl rfl t0 (info4a m) (one4 m) ?_))
  (try simp only [Exit.inBlock, Exit.then])
  exact bodyPost_ret (results_cell_mid Tryd.results54 _ _ g 0 (c4 m) _ rfl (h0.stored (c4 m) rfl).range Tryd.underlying28 rfl info4) rfl ⟨rfl, below_setCells wg _ _ _ b⟩
def baseYL : List Nat := [88, 102, 102, 102, 102, 102, 102, 102, 102, 102, 102, 102, 102, 102, 102, 102, 102, 102, 102, 102, 102, 102, 102, 102, 102, 102, 102, 102, 102, 102, 102, 102]
theorem baseYL_lt (j : Nat) : baseYL.getD j 0 < 256 := by
  rcases Nat.lt_or_ge j 32 with h | h
  · revert h j; decide
  · rw [List.getD, List.getElem?_eq_none h]; decide
theorem baseYL_is : fromN 32 (fun j => baseYL.getD j 0) = yB := by kernel_rfl
set_option maxRecDepth 20000 in
set_option maxHeartbeats 4000000 in
theorem baseY_any (w : World) : Calls Tryd.prog 55 #[] w fun e w' => e = .returned (numV yB) ∧ Below w.heap.size w w' := by
  have cn : ∀ W v, BytesIn W v 32 (fun j => baseYL.getD j 0) → Calls Tryd.prog 33 #[v] W fun e w' => e = .returned (.agg (c4 yB).toArray) ∧ Below W.heap.size W w' := fun W v h => by
    have k := pnumber_any v 32 _ baseYL_lt W h
    rw [baseYL_is] at k
    exact k
  rw [show numV yB = .agg (c4 yB).toArray from rfl]
  generalize yB = m at *
  obtain ⟨W, g, eW, hg, b, h0⟩ := fresh4 w
  have hs : W.heap.size = w.heap.size + 1 := by rw [← eW]; simp
  have hv : BytesIn (W.alloc (.cells #[.int .u8 88, .int .u8 102, .int .u8 102, .int .u8 102, .int .u8 102, .int .u8 102, .int .u8 102, .int .u8 102, .int .u8 102, .int .u8 102, .int .u8 102, .int .u8 102, .int .u8 102, .int .u8 102, .int .u8 102, .int .u8 102, .int .u8 102, .int .u8 102, .int .u8 102, .int .u8 102, .int .u8 102, .int .u8 102, .int .u8 102, .int .u8 102, .int .u8 102, .int .u8 102, .int .u8 102, .int .u8 102, .int .u8 102, .int .u8 102, .int .u8 102, .int .u8 102] 5)) (.slice (some ⟨w.heap.size + 1, 0, none⟩) 32 32) 32 (fun j => baseYL.getD j 0) := by rw [← hs]; exact row_bytes W baseYL rfl
  obtain ⟨V, eV⟩ : ∃ V, W.alloc (.cells #[.int .u8 88, .int .u8 102, .int .u8 102, .int .u8 102, .int .u8 102, .int .u8 102, .int .u8 102, .int .u8 102, .int .u8 102, .int .u8 102, .int .u8 102, .int .u8 102, .int .u8 102, .int .u8 102, .int .u8 102, .int .u8 102, .int .u8 102, .int .u8 102, .int .u8 102, .int .u8 102, .int .u8 102, .int .u8 102, .int .u8 102, .int .u8 102, .int .u8 102, .int .u8 102, .int .u8 102, .int .u8 102, .int .u8 102, .int .u8 102, .int .u8 102, .int .u8 102] 5) = V := ⟨_, rfl⟩
  have bV : Below W.heap.size W V := by rw [← eV]; exact (Below.refl _ _).alloc (Nat.le_refl _) _
  rw [eV] at hv
  have HV : Hid ((w.alloc (.cells #[.int .u64 0, .int .u64 0, .int .u64 0, .int .u64 0] 28)).alloc (.cells #[.int .u8 88, .int .u8 102, .int .u8 102, .int .u8 102, .int .u8 102, .int .u8 102, .int .u8 102, .int .u8 102, .int .u8 102, .int .u8 102, .int .u8 102, .int .u8 102, .int .u8 102, .int .u8 102, .int .u8 102, .int .u8 102, .int .u8 102, .int .u8 102, .int .u8 102, .int .u8 102, .int .u8 102, .int .u8 102, .int .u8 102, .int .u8 102, .int .u8 102, .int .u8 102, .int .u8 102, .int .u8 102, .int .u8 102, .int .u8 102, .int .u8 102, .int .u8 102] 5) = V) := Hid.mk' (by rw [eW, eV])
  have Hg : Hid (w.heap.size = g) := Hid.mk' hg
  have wg : w.heap.size ≤ g := Nat.le_of_eq hg
  replace h0 := h0.still bV
  replace b := below_next b bV
  clear eW hg eV bV hs W
  go_enter Tryd.func55, Tryd.ntmps55
  go_wp2_with (first
    | (go_at_call 33; rw [HV.out]; refine (cn _ _ hv).mono ?_; rw [Hg.out]; clear cn HV Hg; rintro e w1 ⟨rfl, hb1⟩; (replace h0 := h0.still hb1); (replace b := below_next b hb1); clear hb1; (have t0 : w1.there g 0 (c4 m).toArray.size := h0.there))
    | (with_reducible (refine id (?_ : wpList _ _ _ _ _ _)); refine wpList_store_mid rfl 28 _ _ rfl g 0 (c4 m).toArray rfl rfl t0 (info4a m) (one4 m) ?_))
  (try simp only [Exit.inBlock, Exit.then])
  exact bodyPost_ret (results_cell_mid Tryd.results55 _ _ g 0 (c4 m) _ rfl (h0.stored (c4 m) rfl).range Tryd.underlying28 rfl info4) rfl ⟨rfl, below_setCells wg _ _ _ b⟩
end Go.Proofs.YteekjcfbnoakgaaDoor
namespace Go.Proofs.YteekjcfbnoakgaaDoor
open Go.RowKit
abbrev qa1x2 : Oper := { dst := some 7, op := Op.call { callee := Callee.value (Operand.func 63), args := #[Operand.const (Value.int IntKind.i64 1)], argTypes := #[3] }, type := 28, pos := "curve.go:41", after := #[], guard := none }
abbrev qa1x5 : Oper := { dst := some 10, op := Op.call { callee := Callee.value (Operand.func 51), args := #[Operand.tmp 8, Operand.tmp 9], argTypes := #[28, 28] }, type := 28, pos := "curve.go:41", after := #[{ on := 3, ground := Ground.data }, { on := 4, ground := Ground.data }, { on := 2, ground := Ground.chain }], guard := none }
abbrev qa1x7 : Oper := { dst := none, op := Op.store 30 (Operand.tmp 4) (Operand.tmp 11), type := 0, pos := "curve.go:41", after := #[{ on := 6, ground := Ground.data }, { on := 5, ground := Ground.chain }, { on := 0, ground := Ground.phase }, { on := 1, ground := Ground.phase }, { on := 2, ground := Ground.phase }, { on := 3, ground := Ground.phase }, { on := 4, ground := Ground.phase }, { on := 5, ground := Ground.phase }, { on := 6, ground := Ground.phase }], guard := none }
abbrev qa2x2 : Oper := { dst := some 11, op := Op.call { callee := Callee.value (Operand.func 51), args := #[Operand.tmp 9, Operand.tmp 10], argTypes := #[28, 28] }, type := 28, pos := "curve.go:70", after := #[{ on := 0, ground := Ground.data }, { on := 1, ground := Ground.data }], guard := none }
abbrev qa2x5 : Oper := { dst := some 14, op := Op.call { callee := Callee.value (Operand.func 51), args := #[Operand.tmp 12, Operand.tmp 13], argTypes := #[28, 28] }, type := 28, pos := "curve.go:70", after := #[{ on := 3, ground := Ground.data }, { on := 4, ground := Ground.data }, { on := 2, ground := Ground.chain }], guard := none }
abbrev qa2x8 : Oper := { dst := some 17, op := Op.call { callee := Callee.value (Operand.func 51), args := #[Operand.tmp 15, Operand.tmp 16], argTypes := #[28, 28] }, type := 28, pos := "curve.go:70", after := #[{ on := 6, ground := Ground.data }, { on := 7, ground := Ground.data }, { on := 5, ground := Ground.chain }], guard := none }
abbrev qa2x11 : Oper := { dst := some 20, op := Op.call { callee := Callee.value (Operand.func 51), args := #[Operand.tmp 18, Operand.tmp 19], argTypes := #[28, 28] }, type := 28, pos := "curve.go:70", after := #[{ on := 9, ground := Ground.data }, { on := 10, ground := Ground.data }, { on := 8, ground := Ground.chain }], guard := none }
abbrev qa2x13 : Oper := { dst := none, op := Op.store 30 (Operand.tmp 8) (Operand.tmp 21), type := 0, pos := "curve.go:70", after := #[{ on := 12, ground := Ground.data }, { on := 11, ground := Ground.chain }, { on := 0, ground := Ground.phase }, { on := 1, ground := Ground.phase }, { on := 2, ground := Ground.phase }, { on := 3, ground := Ground.phase }, { on := 4, ground := Ground.phase }, { on := 5, ground := Ground.phase }, { on := 6, ground := Ground.phase }, { on := 7, ground := Ground.phase }, { on := 8, ground := Ground.phase }, { on := 9, ground := Ground.phase }, { on := 10, ground := Ground.phase }, { on := 11, ground := Ground.phase }, { on := 12, ground := Ground.phase }], guard := none }
set_option maxRecDepth 20000 in
set_option maxHeartbeats 4000000 in
theorem pat_raw (x y t : Nat)
    (ct : ∀ W, Calls Tryd.prog 51 #[numV x, numV y] W fun e w' => e = .returned (numV t) ∧ Below W.heap.size W w')
    (w : World) : Calls Tryd.prog 38 #[numV x, numV y] w fun e w' => e = .returned (pV x y 1 t) ∧ Below w.heap.size w w' := by
  have hzp := zeroP
  have c1 : ∀ W, Calls Tryd.prog 63 #[.int .i64 1] W fun e w' => e = .returned (numV 1) ∧ Below W.heap.size W w' := fsmall_pos 1 (by decide)
  obtain ⟨V1, g2, eg2, hg2, bg2, hx⟩ : ∃ V g, w.alloc (.cells (c4 x).toArray 28) = V ∧ w.heap.size = g ∧ Below w.heap.size w V ∧ RW V g 0 (c4 x) := ⟨_, _, rfl, rfl, (Below.refl _ _).alloc (Nat.le_refl _) _, RW.fresh w _ _⟩
  obtain ⟨V2, g3, eg3, hg3, bg3, hy⟩ : ∃ V g, V1.alloc (.cells (c4 y).toArray 28) = V ∧ V1.heap.size = g ∧ Below V1.heap.size V1 V ∧ RW V g 0 (c4 y) := ⟨_, _, rfl, rfl, (Below.refl _ _).alloc (Nat.le_refl _) _, RW.fresh V1 _ _⟩
  obtain ⟨W, g4, e4, hg4, b4, hres⟩ := fresh16 V2
  have t1 : V1.heap.size = w.heap.size + 1 := by rw [← eg2]; simp
  have t2 : V2.heap.size = V1.heap.size + 1 := by rw [← eg3]; simp
  have HW : Hid (W = ((w.alloc (.cells (c4 x).toArray 28)).alloc (.cells (c4 y).toArray 28)).alloc (.cells zP 30)) := Hid.mk' (by rw [← e4, ← eg3, ← eg2])
  have q2 : Hid (w.heap.size = g2) := Hid.mk' hg2
  have q3 : Hid (w.heap.size + 1 = g3) := Hid.mk' (by omega)
  have q4 : Hid (w.heap.size + 1 + 1 = g4) := Hid.mk' (by omega)
  replace hx := (hx.still bg3).still b4
  replace hy := hy.still b4
  have hbW : Below w.heap.size w W := (bg2.trans (bg3.mono (by omega))).trans (b4.mono (by omega))
  have w4 : w.heap.size ≤ g4 := by omega
  have n24 : g2 ≠ g4 := by omega
  have n34 : g3 ≠ g4 := by omega
  have l4 := hres.lt
  clear eg2 eg3 e4 hg2 hg3 hg4 bg2 bg3 b4 t1 t2 V1 V2
  rw [show numV x = .agg (c4 x).toArray from rfl, show numV y = .agg (c4 y).toArray from rfl]
  go_enter Tryd.func38, Tryd.ntmps38
  go_upto_region 1 with (fail)
  rw [← HW.out, q4.out, q3.out, q2.out]
  clear HW q2 q3 q4
  have hdrew : Below W.heap.size W W.drew := (Below.refl _ _).drew
  replace hx := hx.still hdrew
  replace hy := hy.still hdrew
  replace hres := hres.still hdrew
  refine wp_region_noPanic ?_
  replace l4 := Nat.lt_of_lt_of_le l4 hdrew.size
  refine wp_region_held_drew (S := fun w' => Out g4 0 16 W.drew w') (by kernel_rfl) (Out.refl _ _ _ _) (fun hS => ?_)
  generalize W.drew = Va1_ at *
  refine wpAnyH_take (i := 0) (oi := { dst := some 5, op := Op.load 28 (Operand.tmp 2), type := 28, pos := "curve.go:41", after := #[], guard := none }) (v := numV x) rfl (by kernel_rfl) (by kernel_rfl) (by kernel_rfl) (fun _ _ _ h => h) (yieldsIf_load_mid (by rfl) 28 _ rfl g2 0 rfl (c4 x) _ (fun _ h => (hx.out h n24).range) Tryd.underlying28 rfl info4) hS ?_
  (try simp only [Act.put, List.setIfInBounds_toArray, List.set_cons_zero, List.set_cons_succ])
  refine wpAnyH_take (i := 1) (oi := { dst := some 6, op := Op.load 28 (Operand.tmp 3), type := 28, pos := "curve.go:41", after := #[], guard := none }) (v := numV y) rfl (by kernel_rfl) (by kernel_rfl) (by kernel_rfl) (fun _ _ _ h => h) (yieldsIf_load_mid (by rfl) 28 _ rfl g3 0 rfl (c4 y) _ (fun _ h => (hy.out h n34).range) Tryd.underlying28 rfl info4) hS ?_
  (try simp only [Act.put, List.setIfInBounds_toArray, List.set_cons_zero, List.set_cons_succ])
  refine wpAnyH_take (i := 3) (oi := { dst := some 8, op := Op.load 28 (Operand.tmp 2), type := 28, pos := "curve.go:41", after := #[], guard := none }) (v := numV x) rfl (by kernel_rfl) (by kernel_rfl) (by kernel_rfl) (fun _ _ _ h => h) (yieldsIf_load_mid (by rfl) 28 _ rfl g2 0 rfl (c4 x) _ (fun _ h => (hx.out h n24).range) Tryd.underlying28 rfl info4) hS ?_
  (try simp only [Act.put, List.setIfInBounds_toArray, List.set_cons_zero, List.set_cons_succ])
  refine wpAnyH_take (i := 4) (oi := { dst := some 9, op := Op.load 28 (Operand.tmp 3), type := 28, pos := "curve.go:41", after := #[], guard := none }) (v := numV y) rfl (by kernel_rfl) (by kernel_rfl) (by kernel_rfl) (fun _ _ _ h => h) (yieldsIf_load_mid (by rfl) 28 _ rfl g3 0 rfl (c4 y) _ (fun _ h => (hy.out h n34).range) Tryd.underlying28 rfl info4) hS ?_
  (try simp only [Act.put, List.setIfInBounds_toArray, List.set_cons_zero, List.set_cons_succ])
  refine wpAnyH_ready (rs := [2]) (by kernel_rfl) (by simp) ?_
  refine AllReadyH.cons (o := qa1x2) rfl (fun K hK => ?_) (AllReadyH.nil)
  unfold qa1x2
  go_simp
  (go_at_call 63; refine (c1 _).mono ?_; clear c1; rintro e wa1_1 ⟨rfl, hba1_1⟩)
  (try go_simp)
  have hSa1_1 := hS.trans (Out.of_below hba1_1 l4)
  replace l4 := Nat.lt_of_lt_of_le l4 hba1_1.size
  replace hres := hres.still hba1_1
  refine hK.out _ _ hSa1_1 (fun h => ?_)
  clear h hK K hba1_1
  (try simp only [Act.put, List.setIfInBounds_toArray, List.set_cons_zero, List.set_cons_succ])
  refine wpAnyH_ready (rs := [5]) (by kernel_rfl) (by simp) ?_
  refine AllReadyH.cons (o := qa1x5) rfl (fun K hK => ?_) (AllReadyH.nil)
  unfold qa1x5
  go_simp
  (go_at_call 51; refine (ct _).mono ?_; clear ct; rintro e wa1_2 ⟨rfl, hba1_2⟩)
  (try go_simp)
  have hSa1_2 := hSa1_1.trans (Out.of_below hba1_2 l4)
  replace l4 := Nat.lt_of_lt_of_le l4 hba1_2.size
  replace hres := hres.still hba1_2
  refine hK.out _ _ hSa1_2 (fun h => ?_)
  clear h hK K hba1_2
  (try simp only [Act.put, List.setIfInBounds_toArray, List.set_cons_zero, List.set_cons_succ])
  refine wpAnyH_take (i := 6) (oi := { dst := some 11, op := Op.build 30 #[(0, Operand.tmp 5), (1, Operand.tmp 6), (2, Operand.tmp 7), (3, Operand.tmp 10)], type := 30, pos := "curve.go:41", after := #[{ on := 0, ground := Ground.data }, { on := 1, ground := Ground.data }, { on := 2, ground := Ground.data }, { on := 5, ground := Ground.data }], guard := none }) (v := pV x y 1 t) rfl (by kernel_rfl) (by kernel_rfl) (by kernel_rfl) (fun _ _ _ h => h) (yields_build4 (by rfl) 30 _ _ _ _ rfl (numV x) (numV y) (numV 1) (numV t) rfl rfl rfl rfl _ (builtP4 _ _ _ _)) hSa1_2 ?_
  (try simp only [Act.put, List.setIfInBounds_toArray, List.set_cons_zero, List.set_cons_succ])
  refine wpAnyH_ready (rs := [7]) (by kernel_rfl) (by simp) ?_
  refine AllReadyH.cons (o := qa1x7) rfl (fun K hK => ?_) (AllReadyH.nil)
  unfold qa1x7
  rw [if_pos (by rfl)]
  refine wp_store_mid 30 _ _ rfl g4 0 (p16 x y 1 t).toArray rfl rfl (thr16 hres _ _ _ _) (info16A _ _ _ _) (one16 _ _ _ _) ?_
  have hSa1_3 := hSa1_2.trans (Out.setCells (b := g4) (o := 0) (n := 16) wa1_2 (p16 x y 1 t) (Nat.le_refl _) (by rw [p16_len]; exact Nat.le_refl _))
  replace hres := hres.stored (p16 x y 1 t) (p16_same _ _ _ _ _ _ _ _)
  obtain ⟨wa1_3, hwa1_3⟩ : ∃ W, wa1_2.setCells g4 0 (p16 x y 1 t) = W := ⟨_, rfl⟩
  rw [hwa1_3] at hres
  rw [hwa1_3] at hSa1_3
  rw [show wa1_2.setCells g4 0 (p16 x y 1 t).toArray.toList = wa1_3 from hwa1_3]
  refine hK.out _ _ hSa1_3 (fun h => ?_)
  clear h hK K hwa1_3
  (try dsimp only [Act.put])
  refine wpAnyH_done (by kernel_rfl) ?_ _
  refine NoPanic.normal ?_
  have fin := (hbW.trans (hdrew.mono hbW.size)).trans (hSa1_3.below w4 (Nat.le_trans hbW.size hdrew.size))
  go_wp2
  exact bodyPost_ret (results_cell_mid Tryd.results38 _ _ g4 0 (p16 x y 1 t) _ rfl hres.range Tryd.underlying30 rfl (info16 _ _ _ _)) rfl ⟨rfl, fin⟩
theorem pat_any (x y : Nat) (hx : x < pF) (hy : y < pF) (w : World) : Calls Tryd.prog 38 #[numV x, numV y] w fun e w' => e = .returned (pV x y 1 (fmul x y)) ∧ Below w.heap.size w w' :=
  pat_raw x y (fmul x y) (fun W => times_any x y hx hy W) w
set_option maxRecDepth 20000 in
set_option maxHeartbeats 8000000 in
theorem quot_raw (a b c d o1 o2 o3 o4 : Nat)
    (k1 : ∀ W, Calls Tryd.prog 51 #[numV a, numV d] W fun e w' => e = .returned (numV o1) ∧ Below W.heap.size W w')
    (k2 : ∀ W, Calls Tryd.prog 51 #[numV c, numV b] W fun e w' => e = .returned (numV o2) ∧ Below W.heap.size W w')
    (k3 : ∀ W, Calls Tryd.prog 51 #[numV b, numV d] W fun e w' => e = .returned (numV o3) ∧ Below W.heap.size W w')
    (k4 : ∀ W, Calls Tryd.prog 51 #[numV a, numV c] W fun e w' => e = .returned (numV o4) ∧ Below W.heap.size W w')
    (w : World) : Calls Tryd.prog 75 #[numV a, numV b, numV c, numV d] w fun e w' => e = .returned (pV o1 o2 o3 o4) ∧ Below w.heap.size w w' := by
  have hzp := zeroP
  obtain ⟨V1, g4, eg4, hg4, bg4, ha⟩ : ∃ V g, w.alloc (.cells (c4 a).toArray 28) = V ∧ w.heap.size = g ∧ Below w.heap.size w V ∧ RW V g 0 (c4 a) := ⟨_, _, rfl, rfl, (Below.refl _ _).alloc (Nat.le_refl _) _, RW.fresh w _ _⟩
  obtain ⟨V2, g5, eg5, hg5, bg5, hb⟩ : ∃ V g, V1.alloc (.cells (c4 b).toArray 28) = V ∧ V1.heap.size = g ∧ Below V1.heap.size V1 V ∧ RW V g 0 (c4 b) := ⟨_, _, rfl, rfl, (Below.refl _ _).alloc (Nat.le_refl _) _, RW.fresh V1 _ _⟩
  obtain ⟨V3, g6, eg6, hg6, bg6, hc⟩ : ∃ V g, V2.alloc (.cells (c4 c).toArray 28) = V ∧ V2.heap.size = g ∧ Below V2.heap.size V2 V ∧ RW V g 0 (c4 c) := ⟨_, _, rfl, rfl, (Below.refl _ _).alloc (Nat.le_refl _) _, RW.fresh V2 _ _⟩
  obtain ⟨V4, g7, eg7, hg7, bg7, hd⟩ : ∃ V g, V3.alloc (.cells (c4 d).toArray 28) = V ∧ V3.heap.size = g ∧ Below V3.heap.size V3 V ∧ RW V g 0 (c4 d) := ⟨_, _, rfl, rfl, (Below.refl _ _).alloc (Nat.le_refl _) _, RW.fresh V3 _ _⟩
  obtain ⟨W, g8, e8, hg8, b8, hres⟩ := fresh16 V4
  have t1 : V1.heap.size = w.heap.size + 1 := by rw [← eg4]; simp
  have t2 : V2.heap.size = V1.heap.size + 1 := by rw [← eg5]; simp
  have t3 : V3.heap.size = V2.heap.size + 1 := by rw [← eg6]; simp
  have t4 : V4.heap.size = V3.heap.size + 1 := by rw [← eg7]; simp
  have HW : Hid (W = ((((w.alloc (.cells (c4 a).toArray 28)).alloc (.cells (c4 b).toArray 28)).alloc (.cells (c4 c).toArray 28)).alloc (.cells (c4 d).toArray 28)).alloc (.cells zP 30)) := Hid.mk' (by rw [← e8, ← eg7, ← eg6, ← eg5, ← eg4])
  have q4 : Hid (w.heap.size = g4) := Hid.mk' hg4
  have q5 : Hid (w.heap.size + 1 = g5) := Hid.mk' (by omega)
  have q6 : Hid (w.heap.size + 1 + 1 = g6) := Hid.mk' (by omega)
  have q7 : Hid (w.heap.size + 1 + 1 + 1 = g7) := Hid.mk' (by omega)
  have q8 : Hid (w.heap.size + 1 + 1 + 1 + 1 = g8) := Hid.mk' (by omega)
  replace ha := (((ha.still bg5).still bg6).still bg7).still b8
  replace hb := ((hb.still bg6).still bg7).still b8
  replace hc := (hc.still bg7).still b8
  replace hd := hd.still b8
  have hbW : Below w.heap.size w W := (((bg4.trans (bg5.mono (by omega))).trans (bg6.mono (by omega))).trans (bg7.mono (by omega))).trans (b8.mono (by omega))
  have w8 : w.heap.size ≤ g8 := by omega
  have n48 : g4 ≠ g8 := by omega
  have n58 : g5 ≠ g8 := by omega
  have n68 : g6 ≠ g8 := by omega
  have n78 : g7 ≠ g8 := by omega
  have l8 := hres.lt
  clear eg4 eg5 eg6 eg7 e8 hg4 hg5 hg6 hg7 hg8 bg4 bg5 bg6 bg7 b8 t1 t2 t3 t4 V1 V2 V3 V4
  rw [show numV a = .agg (c4 a).toArray from rfl, show numV b = .agg (c4 b).toArray from rfl, show numV c = .agg (c4 c).toArray from rfl, show numV d = .agg (c4 d).toArray from rfl]
  go_enter Tryd.func75, Tryd.ntmps75
  go_upto_region 1 with (fail)
  rw [← HW.out, q8.out, q7.out, q6.out, q5.out, q4.out]
  clear HW q4 q5 q6 q7 q8
  have hdrew : Below W.heap.size W W.drew := (Below.refl _ _).drew
  replace ha := ha.still hdrew
  replace hb := hb.still hdrew
  replace hc := hc.still hdrew
  replace hd := hd.still hdrew
  replace hres := hres.still hdrew
  refine wp_region_noPanic ?_
  replace l8 := Nat.lt_of_lt_of_le l8 hdrew.size
  refine wp_region_held_drew (S := fun w' => Out g8 0 16 W.drew w') (by kernel_rfl) (Out.refl _ _ _ _) (fun hS => ?_)
  generalize W.drew = Va2_ at *
  refine wpAnyH_take (i := 0) (oi := { dst := some 9, op := Op.load 28 (Operand.tmp 4), type := 28, pos := "curve.go:70", after := #[], guard := none }) (v := numV a) rfl (by kernel_rfl) (by kernel_rfl) (by kernel_rfl) (fun _ _ _ h => h) (yieldsIf_load_mid (by rfl) 28 _ rfl g4 0 rfl (c4 a) _ (fun _ h => (ha.out h n48).range) Tryd.underlying28 rfl info4) hS ?_
  (try simp only [Act.put, List.setIfInBounds_toArray, List.set_cons_zero, List.set_cons_succ])
  refine wpAnyH_take (i := 1) (oi := { dst := some 10, op := Op.load 28 (Operand.tmp 7), type := 28, pos := "curve.go:70", after := #[], guard := none }) (v := numV d) rfl (by kernel_rfl) (by kernel_rfl) (by kernel_rfl) (fun _ _ _ h => h) (yieldsIf_load_mid (by rfl) 28 _ rfl g7 0 rfl (c4 d) _ (fun _ h => (hd.out h n78).range) Tryd.underlying28 rfl info4) hS ?_
  (try simp only [Act.put, List.setIfInBounds_toArray, List.set_cons_zero, List.set_cons_succ])
  refine wpAnyH_take (i := 3) (oi := { dst := some 12, op := Op.load 28 (Operand.tmp 6), type := 28, pos := "curve.go:70", after := #[], guard := none }) (v := numV c) rfl (by kernel_rfl) (by kernel_rfl) (by kernel_rfl) (fun _ _ _ h => h) (yieldsIf_load_mid (by rfl) 28 _ rfl g6 0 rfl (c4 c) _ (fun _ h => (hc.out h n68).range) Tryd.underlying28 rfl info4) hS ?_
  (try simp only [Act.put, List.setIfInBounds_toArray, List.set_cons_zero, List.set_cons_succ])
  refine wpAnyH_take (i := 4) (oi := { dst := some 13, op := Op.load 28 (Operand.tmp 5), type := 28, pos := "curve.go:70", after := #[], guard := none }) (v := numV b) rfl (by kernel_rfl) (by kernel_rfl) (by kernel_rfl) (fun _ _ _ h => h) (yieldsIf_load_mid (by rfl) 28 _ rfl g5 0 rfl (c4 b) _ (fun _ h => (hb.out h n58).range) Tryd.underlying28 rfl info4) hS ?_
  (try simp only [Act.put, List.setIfInBounds_toArray, List.set_cons_zero, List.set_cons_succ])
  refine wpAnyH_take (i := 6) (oi := { dst := some 15, op := Op.load 28 (Operand.tmp 5), type := 28, pos := "curve.go:70", after := #[], guard := none }) (v := numV b) rfl (by kernel_rfl) (by kernel_rfl) (by kernel_rfl) (fun _ _ _ h => h) (yieldsIf_load_mid (by rfl) 28 _ rfl g5 0 rfl (c4 b) _ (fun _ h => (hb.out h n58).range) Tryd.underlying28 rfl info4) hS ?_
  (try simp only [Act.put, List.setIfInBounds_toArray, List.set_cons_zero, List.set_cons_succ])
  refine wpAnyH_take (i := 7) (oi := { dst := some 16, op := Op.load 28 (Operand.tmp 7), type := 28, pos := "curve.go:70", after := #[], guard := none }) (v := numV d) rfl (by kernel_rfl) (by kernel_rfl) (by kernel_rfl) (fun _ _ _ h => h) (yieldsIf_load_mid (by rfl) 28 _ rfl g7 0 rfl (c4 d) _ (fun _ h => (hd.out h n78).range) Tryd.underlying28 rfl info4) hS ?_
  (try simp only [Act.put, List.setIfInBounds_toArray, List.set_cons_zero, List.set_cons_succ])
  refine wpAnyH_take (i := 9) (oi := { dst := some 18, op := Op.load 28 (Operand.tmp 4), type := 28, pos := "curve.go:70", after := #[], guard := none }) (v := numV a) rfl (by kernel_rfl) (by kernel_rfl) (by kernel_rfl) (fun _ _ _ h => h) (yieldsIf_load_mid (by rfl) 28 _ rfl g4 0 rfl (c4 a) _ (fun _ h => (ha.out h n48).range) Tryd.underlying28 rfl info4) hS ?_
  (try simp only [Act.put, List.setIfInBounds_toArray, List.set_cons_zero, List.set_cons_succ])
  refine wpAnyH_take (i := 10) (oi := { dst := some 19, op := Op.load 28 (Operand.tmp 6), type := 28, pos := "curve.go:70", after := #[], guard := none }) (v := numV c) rfl (by kernel_rfl) (by kernel_rfl) (by kernel_rfl) (fun _ _ _ h => h) (yieldsIf_load_mid (by rfl) 28 _ rfl g6 0 rfl (c4 c) _ (fun _ h => (hc.out h n68).range) Tryd.underlying28 rfl info4) hS ?_
  (try simp only [Act.put, List.setIfInBounds_toArray, List.set_cons_zero, List.set_cons_succ])
  refine wpAnyH_ready (rs := [2]) (by kernel_rfl) (by simp) ?_
  refine AllReadyH.cons (o := qa2x2) rfl (fun K hK => ?_) (AllReadyH.nil)
  unfold qa2x2
  go_simp
  (go_at_call 51; refine (k1 _).mono ?_; clear k1; rintro e wa2_1 ⟨rfl, hba2_1⟩)
  (try go_simp)
  have hSa2_1 := hS.trans (Out.of_below hba2_1 l8)
  replace l8 := Nat.lt_of_lt_of_le l8 hba2_1.size
  replace hres := hres.still hba2_1
  refine hK.out _ _ hSa2_1 (fun h => ?_)
  clear h hK K hba2_1
  (try simp only [Act.put, List.setIfInBounds_toArray, List.set_cons_zero, List.set_cons_succ])
  refine wpAnyH_ready (rs := [5]) (by kernel_rfl) (by simp) ?_
  refine AllReadyH.cons (o := qa2x5) rfl (fun K hK => ?_) (AllReadyH.nil)
  unfold qa2x5
  go_simp
  (go_at_call 51; refine (k2 _).mono ?_; clear k2; rintro e wa2_2 ⟨rfl, hba2_2⟩)
  (try go_simp)
  have hSa2_2 := hSa2_1.trans (Out.of_below hba2_2 l8)
  replace l8 := Nat.lt_of_lt_of_le l8 hba2_2.size
  replace hres := hres.still hba2_2
  refine hK.out _ _ hSa2_2 (fun h => ?_)
  clear h hK K hba2_2
  (try simp only [Act.put, List.setIfInBounds_toArray, List.set_cons_zero, List.set_cons_succ])
  refine wpAnyH_ready (rs := [8]) (by kernel_rfl) (by simp) ?_
  refine AllReadyH.cons (o := qa2x8) rfl (fun K hK => ?_) (AllReadyH.nil)
  unfold qa2x8
  go_simp
  (go_at_call 51; refine (k3 _).mono ?_; clear k3; rintro e wa2_3 ⟨rfl, hba2_3⟩)
  (try go_simp)
  have hSa2_3 := hSa2_2.trans (Out.of_below hba2_3 l8)
  replace l8 := Nat.lt_of_lt_of_le l8 hba2_3.size
  replace hres := hres.still hba2_3
  refine hK.out _ _ hSa2_3 (fun h => ?_)
  clear h hK K hba2_3
  (try simp only [Act.put, List.setIfInBounds_toArray, List.set_cons_zero, List.set_cons_succ])
  refine wpAnyH_ready (rs := [11]) (by kernel_rfl) (by simp) ?_
  refine AllReadyH.cons (o := qa2x11) rfl (fun K hK => ?_) (AllReadyH.nil)
  unfold qa2x11
  go_simp
  (go_at_call 51; refine (k4 _).mono ?_; clear k4; rintro e wa2_4 ⟨rfl, hba2_4⟩)
  (try go_simp)
  have hSa2_4 := hSa2_3.trans (Out.of_below hba2_4 l8)
  replace l8 := Nat.lt_of_lt_of_le l8 hba2_4.size
  replace hres := hres.still hba2_4
  refine hK.out _ _ hSa2_4 (fun h => ?_)
  clear h hK K hba2_4
  (try simp only [Act.put, List.setIfInBounds_toArray, List.set_cons_zero, List.set_cons_succ])
  refine wpAnyH_take (i := 12) (oi := { dst := some 21, op := Op.build 30 #[(0, Operand.tmp 11), (1, Operand.tmp 14), (2, Operand.tmp 17), (3, Operand.tmp 20)], type := 30, pos := "curve.go:70", after := #[{ on := 2, ground := Ground.data }, { on := 5, ground := Ground.data }, { on := 8, ground := Ground.data }, { on := 11, ground := Ground.data }], guard := none }) (v := pV o1 o2 o3 o4) rfl (by kernel_rfl) (by kernel_rfl) (by kernel_rfl) (fun _ _ _ h => h) (yields_build4 (by rfl) 30 _ _ _ _ rfl (numV o1) (numV o2) (numV o3) (numV o4) rfl rfl rfl rfl _ (builtP4 _ _ _ _)) hSa2_4 ?_
  (try simp only [Act.put, List.setIfInBounds_toArray, List.set_cons_zero, List.set_cons_succ])
  refine wpAnyH_ready (rs := [13]) (by kernel_rfl) (by simp) ?_
  refine AllReadyH.cons (o := qa2x13) rfl (fun K hK => ?_) (AllReadyH.nil)
  unfold qa2x13
  rw [if_pos (by rfl)]
  refine wp_store_mid 30 _ _ rfl g8 0 (p16 o1 o2 o3 o4).toArray rfl rfl (thr16 hres _ _ _ _) (info16A _ _ _ _) (one16 _ _ _ _) ?_
  have hSa2_5 := hSa2_4.trans (Out.setCells (b := g8) (o := 0) (n := 16) wa2_4 (p16 o1 o2 o3 o4) (Nat.le_refl _) (by rw [p16_len]; exact Nat.le_refl _))
  replace hres := hres.stored (p16 o1 o2 o3 o4) (p16_same _ _ _ _ _ _ _ _)
  obtain ⟨wa2_5, hwa2_5⟩ : ∃ W, wa2_4.setCells g8 0 (p16 o1 o2 o3 o4) = W := ⟨_, rfl⟩
  rw [hwa2_5] at hres
  rw [hwa2_5] at hSa2_5
  rw [show wa2_4.setCells g8 0 (p16 o1 o2 o3 o4).toArray.toList = wa2_5 from hwa2_5]
  refine hK.out _ _ hSa2_5 (fun h => ?_)
  clear h hK K hwa2_5
  (try dsimp only [Act.put])
  refine wpAnyH_done (by kernel_rfl) ?_ _
  refine NoPanic.normal ?_
  have fin := (hbW.trans (hdrew.mono hbW.size)).trans (hSa2_5.below w8 (Nat.le_trans hbW.size hdrew.size))
  go_wp2
  exact bodyPost_ret (results_cell_mid Tryd.results75 _ _ g8 0 (p16 o1 o2 o3 o4) _ rfl hres.range Tryd.underlying30 rfl (info16 _ _ _ _)) rfl ⟨rfl, fin⟩
theorem quot_any (a b c d : Nat) (ha : a < pF) (hb : b < pF) (hc : c < pF) (hd : d < pF) (w : World) : Calls Tryd.prog 75 #[numV a, numV b, numV c, numV d] w fun e w' => e = .returned (pV (fmul a d) (fmul c b) (fmul b d) (fmul a c)) ∧ Below w.heap.size w w' :=
  quot_raw a b c d _ _ _ _ (fun W => times_any a d ha hd W) (fun W => times_any c b hc hb W) (fun W => times_any b d hb hd W) (fun W => times_any a c ha hc W) w
end Go.Proofs.YteekjcfbnoakgaaDoor
