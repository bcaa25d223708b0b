/- What the proof stands on: PEnc, PTab, PWin, PAcc. -/
import Derived.Test.YteekjcfbnoakgaaDoorPWholeM
namespace Go.Proofs.YteekjcfbnoakgaaDoor
open Go.RowKit
theorem NewC.from {w v w' : World} {s : Value} {n : Nat} {X : Nat → Nat} (h : NewC v w' s n X) (hs : w.heap.size ≤ v.heap.size) : NewC w w' s n X := by
  obtain ⟨g, cap, e, hc, hg, hr⟩ := h
  exact ⟨g, cap, e, hc, Nat.le_trans hs hg, hr⟩
theorem finverse_any (x : Nat) (hx : x < pF) (w : World) : Calls Tryd.prog 52 #[numV x] w fun e w' => e = .returned (numV (finv x)) ∧ Below w.heap.size w w' := by
  unfold finv
  exact inverse_any x hx w
theorem enc_parts {r : N4} {P : Fp × Fp} (hr : W6 r P) : ∃ iz ax ay : Nat,
    (∀ W, Calls Tryd.prog 52 #[numV r.Z] W fun e w' => e = .returned (numV iz) ∧ Below W.heap.size W w') ∧
    (∀ W, Calls Tryd.prog 51 #[numV r.X, numV iz] W fun e w' => e = .returned (numV ax) ∧ Below W.heap.size W w') ∧
    (∀ W, Calls Tryd.prog 51 #[numV r.Y, numV iz] W fun e w' => e = .returned (numV ay) ∧ Below W.heap.size W w') ∧
    (∀ W, Calls Tryd.prog 37 #[numV ax, numV ay] W fun e w' => ∃ s, e = .returned s ∧ NewC W w' s 32 (encB P) ∧ Below W.heap.size W w') := by
  have e := encXY_encB hr.ok hr.ext
  have k := fun W => finverse_any r.Z hr.ok.Z W
  have l := finv_lt r.Z
  generalize finv r.Z = iz at *
  refine ⟨iz, fmul r.X iz, fmul r.Y iz, k, fun W => times_any _ _ hr.ok.X l W, fun W => times_any _ _ hr.ok.Y l W, fun W => ?_⟩
  rw [← e]
  exact bytesOf_any _ _ (fmul_lt _ _) W
set_option maxRecDepth 20000 in
set_option maxHeartbeats 8000000 in
theorem penc_pt {c : List Value} {P : Fp × Fp} (hP : R6 c P) (w : World) :
    Calls Tryd.prog 16 #[.agg c.toArray] w fun e w' => ∃ s, e = .returned s ∧ NewC w w' s 32 (encB P) ∧ Below w.heap.size w w' := by
  have kc := fun W => pwhole_pt hP W
  have lc := hP.len
  clear hP
  obtain ⟨W, g1, eg1, hg1, hw, hc⟩ : ∃ V g, w.alloc (.cells c.toArray 30) = V ∧ w.heap.size = g ∧ Below w.heap.size w V ∧ RW V g 0 c := ⟨_, _, rfl, rfl, (Below.refl _ _).alloc (Nat.le_refl _) _, RW.fresh w _ _⟩
  have HW : Hid (w.alloc (.cells c.toArray 30) = W) := Hid.mk' eg1
  have q1 : Hid (w.heap.size = g1) := Hid.mk' hg1
  have w1l : w.heap.size ≤ g1 := Nat.le_of_eq hg1
  clear eg1 hg1
  go_enter Tryd.func16, Tryd.ntmps16
  go_upto_region 3 with (first
    | (rw [HW.out, q1.out]; refine wpList_load_mid rfl 30 _ rfl g1 0 rfl c _ hc.range Tryd.underlying30 rfl (infoP lc) ?_; clear HW q1)
    | (go_at_call 49; refine (kc _).mono ?_; clear kc; rintro e w4 ⟨r, rfl, hr, hb4⟩; (replace hc := hc.still hb4); (replace hw := below_next hw hb4); clear hb4; (have t4 : w4.there g1 0 (p16 r.X r.Y r.Z r.T).toArray.size := thereP hc lc rfl); (obtain ⟨V4, hV4⟩ : ∃ V, V = w4.setCells g1 0 (p16 r.X r.Y r.Z r.T) := ⟨_, rfl⟩); (have hp : RW V4 g1 0 (p16 r.X r.Y r.Z r.T) := by rw [hV4]; exact hc.stored _ lc.symm); (replace hw := below_setCells w1l (p16 r.X r.Y r.Z r.T) 0 _ hw); rw [← hV4] at hw; (have H4 := Hid.mk' hV4); clear hV4 hc; (obtain ⟨hX, hY, hZ, -⟩ := parts16 hp); clear hp; (obtain ⟨iz, ax, ay, kI2', cX, cY, cB⟩ := enc_parts hr); (have kI2 : ∀ W, Calls Tryd.prog 52 #[.agg (c4 r.Z).toArray] W fun e w' => e = .returned (.agg (c4 iz).toArray) ∧ Below W.heap.size W w' := kI2'); clear kI2'; clear hr)
    | (with_reducible (refine id (?_ : wpList _ _ _ _ _ _)); refine wpList_store_mid rfl 30 _ _ rfl g1 0 (p16 r.X r.Y r.Z r.T).toArray rfl rfl t4 (info16A _ _ _ _) (one16 _ _ _ _) ?_; rw [List.toList_toArray, ← H4.out]; clear t4 H4)
    | (refine wpList_load_mid rfl 28 _ rfl g1 8 rfl (c4 r.Z) _ hZ.range Tryd.underlying28 rfl info4 ?_)
    | (go_at_call 52; refine (kI2 _).mono ?_; clear kI2 hZ; rintro e w1 ⟨rfl, hb1⟩; (replace hX := hX.still hb1); (replace hY := hY.still hb1); (replace hw := below_next hw hb1); clear hb1; (have z1 := fresh4' w1); (have t1 := fresh4t w1 iz); (obtain ⟨V5, hV5⟩ : ∃ V, V = (w1.alloc (.cells #[.int .u64 0, .int .u64 0, .int .u64 0, .int .u64 0] 28)).setCells w1.heap.size 0 (c4 iz) := ⟨_, rfl⟩); (have h3 : RW V5 w1.heap.size 0 (c4 iz) := by rw [hV5]; exact z1.stored (c4 iz) rfl); (have b1 : Below w1.heap.size w1 V5 := by rw [hV5]; exact below_setCells (Nat.le_refl _) _ _ _ ((Below.refl _ _).alloc (Nat.le_refl _) _)); (have H5 := Hid.mk' hV5); clear hV5 z1; (replace hX := hX.still b1); (replace hY := hY.still b1); (replace hw := below_next hw b1); clear b1)
    | (with_reducible (refine id (?_ : wpList _ _ _ _ _ _)); refine wpList_store_mid rfl 28 _ _ rfl w1.heap.size 0 (c4 iz).toArray rfl rfl t1 (info4a iz) (one4 iz) ?_; rw [List.toList_toArray, ← H5.out]; clear t1 H5))
  (try dsimp only [Act.put])
  generalize w1.heap.size = g3 at *
  have hdrew : Below V5.heap.size V5 V5.drew := (Below.refl _ _).drew
  replace hX := hX.still hdrew
  replace hY := hY.still hdrew
  replace h3 := h3.still hdrew
  replace hw := below_next hw hdrew
  clear hdrew
  refine wp_region_noPanic ?_
  refine wp_region_held_drew (S := fun w' => Below V5.drew.heap.size V5.drew w') (by kernel_rfl) (Below.refl _ _) (fun hHeld => ?_)
  clear hHeld
  refine wpAnyH_take (i := 0) (oi := { dst := some 9, op := Op.fieldAddr 30 (Operand.tmp 1) 0, type := 0, pos := "point.go:53", after := #[], guard := none }) (v := ?ve0) rfl (by kernel_rfl) (by kernel_rfl) (by kernel_rfl) (fun _ _ _ h => h) (Or.inl ⟨by rfl, ?he0⟩) (Below.refl _ _) ?re0
  case he0 =>
    intro w hSw
    go_simp
    try with_reducible rfl
  (try simp only [Act.put, List.setIfInBounds_toArray, List.set_cons_zero, List.set_cons_succ])
  refine wpAnyH_take (i := 1) (oi := { dst := some 10, op := Op.load 28 (Operand.tmp 9), type := 28, pos := "point.go:53", after := #[{ on := 0, ground := Ground.data }], guard := none }) (v := numV r.X) rfl (by kernel_rfl) (by kernel_rfl) (by kernel_rfl) (fun _ _ _ h => h) (yieldsIf_load_mid (by rfl) 28 _ rfl g1 0 rfl (c4 r.X) _ (fun _ h => (hX.still h).range) Tryd.underlying28 rfl info4) (Below.refl _ _) ?_
  (try simp only [Act.put, List.setIfInBounds_toArray, List.set_cons_zero, List.set_cons_succ])
  refine wpAnyH_take (i := 2) (oi := { dst := some 11, op := Op.load 28 (Operand.tmp 3), type := 28, pos := "point.go:53", after := #[], guard := none }) (v := numV iz) rfl (by kernel_rfl) (by kernel_rfl) (by kernel_rfl) (fun _ _ _ h => h) (yieldsIf_load_mid (by rfl) 28 _ rfl g3 0 rfl (c4 iz) _ (fun _ h => (h3.still h).range) Tryd.underlying28 rfl info4) (Below.refl _ _) ?_
  (try simp only [Act.put, List.setIfInBounds_toArray, List.set_cons_zero, List.set_cons_succ])
  refine wpAnyH_take (i := 4) (oi := { dst := some 13, op := Op.fieldAddr 30 (Operand.tmp 1) 1, type := 0, pos := "point.go:53", after := #[], guard := none }) (v := ?ve4) rfl (by kernel_rfl) (by kernel_rfl) (by kernel_rfl) (fun _ _ _ h => h) (Or.inl ⟨by rfl, ?he4⟩) (Below.refl _ _) ?re4
  case he4 =>
    intro w hSw
    go_simp
    try with_reducible rfl
  (try simp only [Act.put, List.setIfInBounds_toArray, List.set_cons_zero, List.set_cons_succ])
  refine wpAnyH_take (i := 5) (oi := { dst := some 14, op := Op.load 28 (Operand.tmp 13), type := 28, pos := "point.go:53", after := #[{ on := 4, ground := Ground.data }], guard := none }) (v := numV r.Y) rfl (by kernel_rfl) (by kernel_rfl) (by kernel_rfl) (fun _ _ _ h => h) (yieldsIf_load_mid (by rfl) 28 _ rfl g1 4 rfl (c4 r.Y) _ (fun _ h => (hY.still h).range) Tryd.underlying28 rfl info4) (Below.refl _ _) ?_
  (try simp only [Act.put, List.setIfInBounds_toArray, List.set_cons_zero, List.set_cons_succ])
  refine wpAnyH_take (i := 6) (oi := { dst := some 15, op := Op.load 28 (Operand.tmp 3), type := 28, pos := "point.go:53", after := #[], guard := none }) (v := numV iz) rfl (by kernel_rfl) (by kernel_rfl) (by kernel_rfl) (fun _ _ _ h => h) (yieldsIf_load_mid (by rfl) 28 _ rfl g3 0 rfl (c4 iz) _ (fun _ h => (h3.still h).range) Tryd.underlying28 rfl info4) (Below.refl _ _) ?_
  (try simp only [Act.put, List.setIfInBounds_toArray, List.set_cons_zero, List.set_cons_succ])
  refine wpAnyH_ready (rs := [3]) (by kernel_rfl) (by simp) ?_
  refine AllReadyH.cons (o := { dst := some 12, op := Op.call { callee := Callee.value (Operand.func 51), args := #[Operand.tmp 10, Operand.tmp 11], argTypes := #[28, 28] }, type := 28, pos := "point.go:53", after := #[{ on := 1, ground := Ground.data }, { on := 2, ground := Ground.data }], guard := none }) rfl (fun K hK => ?_) AllReadyH.nil
  go_simp
  (go_at_call 51; refine (cX _).mono ?_; clear cX; rintro e w5 ⟨rfl, hb5⟩)
  (try go_simp)
  refine hK.out _ _ hb5 (fun h => ?_)
  clear h hK K
  refine wpAnyH_narrow (S' := fun w' => Below w5.heap.size w5 w') (fun _ h => below_next hb5 h) _ _ _ _ ?_
  clear hX
  replace hY := hY.still hb5
  replace h3 := h3.still hb5
  replace hw := below_next hw hb5
  clear hb5
  (try simp only [Act.put, List.setIfInBounds_toArray, List.set_cons_zero, List.set_cons_succ])
  refine wpAnyH_ready (rs := [7]) (by kernel_rfl) (by simp) ?_
  refine AllReadyH.cons (o := { dst := some 16, op := Op.call { callee := Callee.value (Operand.func 51), args := #[Operand.tmp 14, Operand.tmp 15], argTypes := #[28, 28] }, type := 28, pos := "point.go:53", after := #[{ on := 5, ground := Ground.data }, { on := 6, ground := Ground.data }, { on := 3, ground := Ground.chain }], guard := none }) rfl (fun K hK => ?_) AllReadyH.nil
  go_simp
  (go_at_call 51; refine (cY _).mono ?_; clear cY; rintro e w6 ⟨rfl, hb6⟩)
  (try go_simp)
  refine hK.out _ _ hb6 (fun h => ?_)
  clear h hK K
  refine wpAnyH_narrow (S' := fun w' => Below w6.heap.size w6 w') (fun _ h => below_next hb6 h) _ _ _ _ ?_
  clear hY
  clear h3
  replace hw := below_next hw hb6
  clear hb6
  (try simp only [Act.put, List.setIfInBounds_toArray, List.set_cons_zero, List.set_cons_succ])
  refine wpAnyH_ready (rs := [8]) (by kernel_rfl) (by simp) ?_
  refine AllReadyH.cons (o := { dst := some 17, op := Op.call { callee := Callee.value (Operand.func 37), args := #[Operand.tmp 12, Operand.tmp 16], argTypes := #[28, 28] }, type := 22, pos := "point.go:53", after := #[{ on := 3, ground := Ground.data }, { on := 7, ground := Ground.data }, { on := 7, ground := Ground.chain }], guard := none }) rfl (fun K hK => ?_) AllReadyH.nil
  go_simp
  (go_at_call 37; refine (cB _).mono ?_; clear cB; rintro e w7 ⟨s7, rfl, hn7, hb7⟩; (have hq := NewC.from hn7 hw.size); clear hn7)
  (try go_simp)
  refine hK.out _ _ hb7 (fun h => ?_)
  clear h hK K
  refine wpAnyH_narrow (S' := fun w' => Below w7.heap.size w7 w') (fun _ h => below_next hb7 h) _ _ _ _ ?_
  replace hw := below_next hw hb7
  clear hb7
  (try simp only [Act.put, List.setIfInBounds_toArray, List.set_cons_zero, List.set_cons_succ])
  refine wpAnyH_take (i := 9) (oi := { dst := some 2, op := Op.assign (Operand.tmp 17), type := 22, pos := "point.go:53", after := #[{ on := 8, ground := Ground.data }, { on := 8, ground := Ground.chain }, { on := 0, ground := Ground.phase }, { on := 1, ground := Ground.phase }, { on := 2, ground := Ground.phase }, { on := 3, ground := Ground.phase }, { on := 4, ground := Ground.phase }, { on := 5, ground := Ground.phase }, { on := 6, ground := Ground.phase }, { on := 7, ground := Ground.phase }, { on := 8, ground := Ground.phase }], guard := none }) (v := ?ve9) rfl (by kernel_rfl) (by kernel_rfl) (by kernel_rfl) (fun _ _ _ h => h) (Or.inl ⟨by rfl, ?he9⟩) (Below.refl _ _) ?re9
  case he9 =>
    intro w hSw
    go_simp
    try with_reducible rfl
  (try simp only [Act.put, List.setIfInBounds_toArray, List.set_cons_zero, List.set_cons_succ])
  refine wpAnyH_done (by kernel_rfl) ?_ _
  refine NoPanic.normal ?_
  go_wp2
  go_ret
  exact ⟨_, rfl, hq, hw⟩
theorem same_n {r s : N4} {P Q : Fp × Fp} (hr : W6 r P) (hs : W6 s Q) : (fmul r.X s.Z = fmul s.X r.Z ∧ fmul r.Y s.Z = fmul s.Y r.Z) ↔ P = Q := by
  rw [← ext_same hr.ext hs.ext, ← cF_mul, ← cF_mul, ← cF_mul, ← cF_mul]
  exact ⟨fun ⟨h1, h2⟩ => ⟨by rw [h1], by rw [h2]⟩, fun ⟨h1, h2⟩ => ⟨cF_inj (fmul_lt _ _) (fmul_lt _ _) h1, cF_inj (fmul_lt _ _) (fmul_lt _ _) h2⟩⟩
set_option maxRecDepth 20000 in
set_option maxHeartbeats 16000000 in
theorem psame_pt {c d : List Value} {P Q : Fp × Fp} (hP : R6 c P) (hQ : R6 d Q) (w : World) :
    Calls Tryd.prog 14 #[.agg c.toArray, .agg d.toArray] w fun e w' => e = .returned (.bool (decide (P = Q))) ∧ Below w.heap.size w w' := by
  have kc := fun W => pwhole_pt hP W
  have kd := fun W => pwhole_pt hQ W
  have lc := hP.len
  have ld := hQ.len
  clear hP hQ
  obtain ⟨z, hz⟩ : ∃ z, z = decide (P = Q) := ⟨_, rfl⟩
  rw [← hz]
  have Hz := Hid.mk' hz
  clear hz
  obtain ⟨V1, g2, eg2, hg2, bg2, hc⟩ : ∃ V g, w.alloc (.cells c.toArray 30) = V ∧ w.heap.size = g ∧ Below w.heap.size w V ∧ RW V g 0 c := ⟨_, _, rfl, rfl, (Below.refl _ _).alloc (Nat.le_refl _) _, RW.fresh w _ _⟩
  obtain ⟨W, g3, eg3, hg3, bg3, hd⟩ : ∃ V g, V1.alloc (.cells d.toArray 30) = V ∧ V1.heap.size = g ∧ Below V1.heap.size V1 V ∧ RW V g 0 d := ⟨_, _, rfl, rfl, (Below.refl _ _).alloc (Nat.le_refl _) _, RW.fresh V1 _ _⟩
  have t1 : V1.heap.size = w.heap.size + 1 := by rw [← eg2]; simp
  have HW : Hid (W = (w.alloc (.cells c.toArray 30)).alloc (.cells d.toArray 30)) := Hid.mk' (by rw [← eg3, ← eg2])
  have q2 : Hid (w.heap.size = g2) := Hid.mk' hg2
  have q3 : Hid (w.heap.size + 1 = g3) := Hid.mk' (by omega)
  replace hc := hc.still bg3
  have hbW : Below w.heap.size w W := bg2.trans (bg3.mono (by omega))
  have w2l : w.heap.size ≤ g2 := by omega
  have w3l : w.heap.size ≤ g3 := by omega
  have n23 : g2 ≠ g3 := by omega
  clear eg2 eg3 hg2 hg3 bg2 bg3 t1 V1
  go_enter Tryd.func14, Tryd.ntmps14
  go_upto_region 1 with (fail)
  rw [← HW.out, q3.out, q2.out]
  clear HW q3 q2
  go_cut [] from 5 (fun wc => ∃ r s : N4, W6 r P ∧ W6 s Q ∧ Below w.heap.size w wc ∧ RW wc g2 0 (p16 r.X r.Y r.Z r.T) ∧ RW wc g3 0 (p16 s.X s.Y s.Z s.T))
  case first =>
    clear Hz
    have hdrew : Below W.heap.size W W.drew := (Below.refl _ _).drew
    replace hc := hc.still hdrew
    replace hd := hd.still hdrew
    refine wp_region_noPanic ?_
    refine wp_region_held_drew (S := fun _ => True) (by kernel_rfl) trivial (fun _ => ?_)
    replace hbW := below_next hbW hdrew
    generalize W.drew = Vs_ at *
    refine wpAnyH_ready (rs := [0, 2]) (by kernel_rfl) (by simp) ?_
    refine AllReadyH.cons (o := { dst := some 5, op := Op.load 30 (Operand.tmp 2), type := 30, pos := "point.go:88", after := #[], guard := none }) rfl (fun K hK => ?_) (AllReadyH.cons (o := { dst := some 7, op := Op.load 30 (Operand.tmp 3), type := 30, pos := "point.go:88", after := #[], guard := none }) rfl (fun K hK => ?_) (AllReadyH.nil))
    · rw [if_pos (by rfl)]
      refine wp_load_mid 30 _ rfl g2 0 rfl (c) _ hc.range Tryd.underlying30 rfl (infoP lc) ?_
      refine hK.out _ _ trivial (fun h => ?_)
      clear h hK K
      rw [show Value.agg (c).toArray = .agg c.toArray from rfl]
      (try simp only [Act.put, List.setIfInBounds_toArray, List.set_cons_zero, List.set_cons_succ])
      refine wpAnyH_ready (rs := [1, 2]) (by kernel_rfl) (by simp) ?_
      refine AllReadyH.cons (o := { dst := some 6, op := Op.call { callee := Callee.value (Operand.func 49), args := #[Operand.tmp 5], argTypes := #[30] }, type := 30, pos := "point.go:88", after := #[{ on := 0, ground := Ground.data }], guard := none }) rfl (fun K hK => ?_) (AllReadyH.cons (o := { dst := some 7, op := Op.load 30 (Operand.tmp 3), type := 30, pos := "point.go:88", after := #[], guard := none }) rfl (fun K hK => ?_) (AllReadyH.nil))
      · go_simp
        (go_at_call 49; refine (kc _).mono ?_; clear kc; rintro e ws_2 ⟨r, rfl, hr, hb9⟩; (replace hc := hc.still hb9); (replace hd := hd.still hb9); (replace hbW := below_next hbW hb9); clear hb9)
        (try go_simp)
        refine hK.out _ _ trivial (fun h => ?_)
        clear h hK K
        (try simp only [Act.put, List.setIfInBounds_toArray, List.set_cons_zero, List.set_cons_succ])
        refine wpAnyH_ready (rs := [2]) (by kernel_rfl) (by simp) ?_
        refine AllReadyH.cons (o := { dst := some 7, op := Op.load 30 (Operand.tmp 3), type := 30, pos := "point.go:88", after := #[], guard := none }) rfl (fun K hK => ?_) (AllReadyH.nil)
        rw [if_pos (by rfl)]
        refine wp_load_mid 30 _ rfl g3 0 rfl (d) _ hd.range Tryd.underlying30 rfl (infoP ld) ?_
        refine hK.out _ _ trivial (fun h => ?_)
        clear h hK K
        rw [show Value.agg (d).toArray = .agg d.toArray from rfl]
        (try simp only [Act.put, List.setIfInBounds_toArray, List.set_cons_zero, List.set_cons_succ])
        refine wpAnyH_ready (rs := [3]) (by kernel_rfl) (by simp) ?_
        refine AllReadyH.cons (o := { dst := some 8, op := Op.call { callee := Callee.value (Operand.func 49), args := #[Operand.tmp 7], argTypes := #[30] }, type := 30, pos := "point.go:88", after := #[{ on := 2, ground := Ground.data }, { on := 1, ground := Ground.chain }], guard := none }) rfl (fun K hK => ?_) (AllReadyH.nil)
        go_simp
        (go_at_call 49; refine (kd _).mono ?_; clear kd; rintro e ws_4 ⟨s, rfl, hs, hb9⟩; (replace hc := hc.still hb9); (replace hd := hd.still hb9); (replace hbW := below_next hbW hb9); clear hb9)
        (try go_simp)
        refine hK.out _ _ trivial (fun h => ?_)
        clear h hK K
        (try simp only [Act.put, List.setIfInBounds_toArray, List.set_cons_zero, List.set_cons_succ])
        refine wpAnyH_ready (rs := [4]) (by kernel_rfl) (by simp) ?_
        refine AllReadyH.cons (o := { dst := none, op := Op.store 30 (Operand.tmp 2) (Operand.tmp 6), type := 0, pos := "point.go:88", after := #[{ on := 1, ground := Ground.data }, { on := 3, ground := Ground.chain }, { on := 0, ground := Ground.phase }, { on := 1, ground := Ground.phase }, { on := 2, ground := Ground.textOnly Departure.lateStores }, { on := 3, ground := Ground.textOnly Departure.lateStoresUnsure }], guard := none }) rfl (fun K hK => ?_) (AllReadyH.nil)
        rw [if_pos (by rfl)]
        refine wp_store_mid 30 _ _ rfl g2 0 (p16 r.X r.Y r.Z r.T).toArray rfl rfl (thereP hc lc rfl) (info16A _ _ _ _) (one16 _ _ _ _) ?_
        have Os_5 := Out.setCells (b := g2) (o := 0) (n := (p16 r.X r.Y r.Z r.T).length) ws_4 (p16 r.X r.Y r.Z r.T) (Nat.le_refl _) (Nat.le_refl _)
        replace hbW := below_setCells w2l (p16 r.X r.Y r.Z r.T) 0 _ hbW
        replace hc := hc.stored (p16 r.X r.Y r.Z r.T) lc.symm
        replace hd := hd.far g2 0 (p16 r.X r.Y r.Z r.T) (.inl (by omega))
        obtain ⟨ws_5, hws_5⟩ : ∃ W, ws_4.setCells g2 0 (p16 r.X r.Y r.Z r.T) = W := ⟨_, rfl⟩
        rw [hws_5] at hd
        rw [hws_5] at hc
        rw [hws_5] at Os_5
        rw [hws_5] at hbW
        rw [show ws_4.setCells g2 0 (p16 r.X r.Y r.Z r.T).toArray.toList = ws_5 from hws_5]
        refine hK.out _ _ trivial (fun h => ?_)
        clear h hK K hws_5
        (try dsimp only [Act.put])
        refine wpAnyH_ready (rs := [5]) (by kernel_rfl) (by simp) ?_
        refine AllReadyH.cons (o := { dst := none, op := Op.store 30 (Operand.tmp 3) (Operand.tmp 8), type := 0, pos := "point.go:88", after := #[{ on := 3, ground := Ground.data }, { on := 4, ground := Ground.chain }, { on := 0, ground := Ground.phase }, { on := 1, ground := Ground.phase }, { on := 2, ground := Ground.phase }, { on := 3, ground := Ground.phase }, { on := 4, ground := Ground.phase }], guard := none }) rfl (fun K hK => ?_) (AllReadyH.nil)
        rw [if_pos (by rfl)]
        refine wp_store_mid 30 _ _ rfl g3 0 (p16 s.X s.Y s.Z s.T).toArray rfl rfl (thereP hd ld rfl) (info16A _ _ _ _) (one16 _ _ _ _) ?_
        have Os_6 := Out.setCells (b := g3) (o := 0) (n := (p16 s.X s.Y s.Z s.T).length) ws_5 (p16 s.X s.Y s.Z s.T) (Nat.le_refl _) (Nat.le_refl _)
        replace hbW := below_setCells w3l (p16 s.X s.Y s.Z s.T) 0 _ hbW
        replace hd := hd.stored (p16 s.X s.Y s.Z s.T) ld.symm
        replace hc := hc.far g3 0 (p16 s.X s.Y s.Z s.T) (.inl (by omega))
        obtain ⟨ws_6, hws_6⟩ : ∃ W, ws_5.setCells g3 0 (p16 s.X s.Y s.Z s.T) = W := ⟨_, rfl⟩
        rw [hws_6] at hc
        rw [hws_6] at hd
        rw [hws_6] at Os_6
        rw [hws_6] at hbW
        rw [show ws_5.setCells g3 0 (p16 s.X s.Y s.Z s.T).toArray.toList = ws_6 from hws_6]
        refine hK.out _ _ trivial (fun h => ?_)
        clear h hK K hws_6
        (try dsimp only [Act.put])
        refine wpAnyH_done (by kernel_rfl) ?_ _
        refine NoPanic.normal ?_
        go_wp2
        go_meet
        case rel => exact ⟨r, s, hr, hs, hbW, hc, hd⟩
      · rw [if_pos (by rfl)]
        refine wp_load_mid 30 _ rfl g3 0 rfl (d) _ hd.range Tryd.underlying30 rfl (infoP ld) ?_
        refine hK.out _ _ trivial (fun h => ?_)
        clear h hK K
        rw [show Value.agg (d).toArray = .agg d.toArray from rfl]
        (try simp only [Act.put, List.setIfInBounds_toArray, List.set_cons_zero, List.set_cons_succ])
        refine wpAnyH_ready (rs := [1]) (by kernel_rfl) (by simp) ?_
        refine AllReadyH.cons (o := { dst := some 6, op := Op.call { callee := Callee.value (Operand.func 49), args := #[Operand.tmp 5], argTypes := #[30] }, type := 30, pos := "point.go:88", after := #[{ on := 0, ground := Ground.data }], guard := none }) rfl (fun K hK => ?_) (AllReadyH.nil)
        go_simp
        (go_at_call 49; refine (kc _).mono ?_; clear kc; rintro e ws_8 ⟨r, rfl, hr, hb9⟩; (replace hc := hc.still hb9); (replace hd := hd.still hb9); (replace hbW := below_next hbW hb9); clear hb9)
        (try go_simp)
        refine hK.out _ _ trivial (fun h => ?_)
        clear h hK K
        (try simp only [Act.put, List.setIfInBounds_toArray, List.set_cons_zero, List.set_cons_succ])
        refine wpAnyH_ready (rs := [3]) (by kernel_rfl) (by simp) ?_
        refine AllReadyH.cons (o := { dst := some 8, op := Op.call { callee := Callee.value (Operand.func 49), args := #[Operand.tmp 7], argTypes := #[30] }, type := 30, pos := "point.go:88", after := #[{ on := 2, ground := Ground.data }, { on := 1, ground := Ground.chain }], guard := none }) rfl (fun K hK => ?_) (AllReadyH.nil)
        go_simp
        (go_at_call 49; refine (kd _).mono ?_; clear kd; rintro e ws_9 ⟨s, rfl, hs, hb9⟩; (replace hc := hc.still hb9); (replace hd := hd.still hb9); (replace hbW := below_next hbW hb9); clear hb9)
        (try go_simp)
        refine hK.out _ _ trivial (fun h => ?_)
        clear h hK K
        (try simp only [Act.put, List.setIfInBounds_toArray, List.set_cons_zero, List.set_cons_succ])
        refine wpAnyH_ready (rs := [4]) (by kernel_rfl) (by simp) ?_
        refine AllReadyH.cons (o := { dst := none, op := Op.store 30 (Operand.tmp 2) (Operand.tmp 6), type := 0, pos := "point.go:88", after := #[{ on := 1, ground := Ground.data }, { on := 3, ground := Ground.chain }, { on := 0, ground := Ground.phase }, { on := 1, ground := Ground.phase }, { on := 2, ground := Ground.textOnly Departure.lateStores }, { on := 3, ground := Ground.textOnly Departure.lateStoresUnsure }], guard := none }) rfl (fun K hK => ?_) (AllReadyH.nil)
        rw [if_pos (by rfl)]
        refine wp_store_mid 30 _ _ rfl g2 0 (p16 r.X r.Y r.Z r.T).toArray rfl rfl (thereP hc lc rfl) (info16A _ _ _ _) (one16 _ _ _ _) ?_
        have Os_10 := Out.setCells (b := g2) (o := 0) (n := (p16 r.X r.Y r.Z r.T).length) ws_9 (p16 r.X r.Y r.Z r.T) (Nat.le_refl _) (Nat.le_refl _)
        replace hbW := below_setCells w2l (p16 r.X r.Y r.Z r.T) 0 _ hbW
        replace hc := hc.stored (p16 r.X r.Y r.Z r.T) lc.symm
        replace hd := hd.far g2 0 (p16 r.X r.Y r.Z r.T) (.inl (by omega))
        obtain ⟨ws_10, hws_10⟩ : ∃ W, ws_9.setCells g2 0 (p16 r.X r.Y r.Z r.T) = W := ⟨_, rfl⟩
        rw [hws_10] at hd
        rw [hws_10] at hc
        rw [hws_10] at Os_10
        rw [hws_10] at hbW
        rw [show ws_9.setCells g2 0 (p16 r.X r.Y r.Z r.T).toArray.toList = ws_10 from hws_10]
        refine hK.out _ _ trivial (fun h => ?_)
        clear h hK K hws_10
        (try dsimp only [Act.put])
        refine wpAnyH_ready (rs := [5]) (by kernel_rfl) (by simp) ?_
        refine AllReadyH.cons (o := { dst := none, op := Op.store 30 (Operand.tmp 3) (Operand.tmp 8), type := 0, pos := "point.go:88", after := #[{ on := 3, ground := Ground.data }, { on := 4, ground := Ground.chain }, { on := 0, ground := Ground.phase }, { on := 1, ground := Ground.phase }, { on := 2, ground := Ground.phase }, { on := 3, ground := Ground.phase }, { on := 4, ground := Ground.phase }], guard := none }) rfl (fun K hK => ?_) (AllReadyH.nil)
        rw [if_pos (by rfl)]
        refine wp_store_mid 30 _ _ rfl g3 0 (p16 s.X s.Y s.Z s.T).toArray rfl rfl (thereP hd ld rfl) (info16A _ _ _ _) (one16 _ _ _ _) ?_
        have Os_11 := Out.setCells (b := g3) (o := 0) (n := (p16 s.X s.Y s.Z s.T).length) ws_10 (p16 s.X s.Y s.Z s.T) (Nat.le_refl _) (Nat.le_refl _)
        replace hbW := below_setCells w3l (p16 s.X s.Y s.Z s.T) 0 _ hbW
        replace hd := hd.stored (p16 s.X s.Y s.Z s.T) ld.symm
        replace hc := hc.far g3 0 (p16 s.X s.Y s.Z s.T) (.inl (by omega))
        obtain ⟨ws_11, hws_11⟩ : ∃ W, ws_10.setCells g3 0 (p16 s.X s.Y s.Z s.T) = W := ⟨_, rfl⟩
        rw [hws_11] at hc
        rw [hws_11] at hd
        rw [hws_11] at Os_11
        rw [hws_11] at hbW
        rw [show ws_10.setCells g3 0 (p16 s.X s.Y s.Z s.T).toArray.toList = ws_11 from hws_11]
        refine hK.out _ _ trivial (fun h => ?_)
        clear h hK K hws_11
        (try dsimp only [Act.put])
        refine wpAnyH_done (by kernel_rfl) ?_ _
        refine NoPanic.normal ?_
        go_wp2
        go_meet
        case rel => exact ⟨r, s, hr, hs, hbW, hc, hd⟩
    · rw [if_pos (by rfl)]
      refine wp_load_mid 30 _ rfl g3 0 rfl (d) _ hd.range Tryd.underlying30 rfl (infoP ld) ?_
      refine hK.out _ _ trivial (fun h => ?_)
      clear h hK K
      rw [show Value.agg (d).toArray = .agg d.toArray from rfl]
      (try simp only [Act.put, List.setIfInBounds_toArray, List.set_cons_zero, List.set_cons_succ])
      refine wpAnyH_ready (rs := [0]) (by kernel_rfl) (by simp) ?_
      refine AllReadyH.cons (o := { dst := some 5, op := Op.load 30 (Operand.tmp 2), type := 30, pos := "point.go:88", after := #[], guard := none }) rfl (fun K hK => ?_) (AllReadyH.nil)
      rw [if_pos (by rfl)]
      refine wp_load_mid 30 _ rfl g2 0 rfl (c) _ hc.range Tryd.underlying30 rfl (infoP lc) ?_
      refine hK.out _ _ trivial (fun h => ?_)
      clear h hK K
      rw [show Value.agg (c).toArray = .agg c.toArray from rfl]
      (try simp only [Act.put, List.setIfInBounds_toArray, List.set_cons_zero, List.set_cons_succ])
      refine wpAnyH_ready (rs := [1]) (by kernel_rfl) (by simp) ?_
      refine AllReadyH.cons (o := { dst := some 6, op := Op.call { callee := Callee.value (Operand.func 49), args := #[Operand.tmp 5], argTypes := #[30] }, type := 30, pos := "point.go:88", after := #[{ on := 0, ground := Ground.data }], guard := none }) rfl (fun K hK => ?_) (AllReadyH.nil)
      go_simp
      (go_at_call 49; refine (kc _).mono ?_; clear kc; rintro e ws_14 ⟨r, rfl, hr, hb9⟩; (replace hc := hc.still hb9); (replace hd := hd.still hb9); (replace hbW := below_next hbW hb9); clear hb9)
      (try go_simp)
      refine hK.out _ _ trivial (fun h => ?_)
      clear h hK K
      (try simp only [Act.put, List.setIfInBounds_toArray, List.set_cons_zero, List.set_cons_succ])
      refine wpAnyH_ready (rs := [3]) (by kernel_rfl) (by simp) ?_
      refine AllReadyH.cons (o := { dst := some 8, op := Op.call { callee := Callee.value (Operand.func 49), args := #[Operand.tmp 7], argTypes := #[30] }, type := 30, pos := "point.go:88", after := #[{ on := 2, ground := Ground.data }, { on := 1, ground := Ground.chain }], guard := none }) rfl (fun K hK => ?_) (AllReadyH.nil)
      go_simp
      (go_at_call 49; refine (kd _).mono ?_; clear kd; rintro e ws_15 ⟨s, rfl, hs, hb9⟩; (replace hc := hc.still hb9); (replace hd := hd.still hb9); (replace hbW := below_next hbW hb9); clear hb9)
      (try go_simp)
      refine hK.out _ _ trivial (fun h => ?_)
      clear h hK K
      (try simp only [Act.put, List.setIfInBounds_toArray, List.set_cons_zero, List.set_cons_succ])
      refine wpAnyH_ready (rs := [4]) (by kernel_rfl) (by simp) ?_
      refine AllReadyH.cons (o := { dst := none, op := Op.store 30 (Operand.tmp 2) (Operand.tmp 6), type := 0, pos := "point.go:88", after := #[{ on := 1, ground := Ground.data }, { on := 3, ground := Ground.chain }, { on := 0, ground := Ground.phase }, { on := 1, ground := Ground.phase }, { on := 2, ground := Ground.textOnly Departure.lateStores }, { on := 3, ground := Ground.textOnly Departure.lateStoresUnsure }], guard := none }) rfl (fun K hK => ?_) (AllReadyH.nil)
      rw [if_pos (by rfl)]
      refine wp_store_mid 30 _ _ rfl g2 0 (p16 r.X r.Y r.Z r.T).toArray rfl rfl (thereP hc lc rfl) (info16A _ _ _ _) (one16 _ _ _ _) ?_
      have Os_16 := Out.setCells (b := g2) (o := 0) (n := (p16 r.X r.Y r.Z r.T).length) ws_15 (p16 r.X r.Y r.Z r.T) (Nat.le_refl _) (Nat.le_refl _)
      replace hbW := below_setCells w2l (p16 r.X r.Y r.Z r.T) 0 _ hbW
      replace hc := hc.stored (p16 r.X r.Y r.Z r.T) lc.symm
      replace hd := hd.far g2 0 (p16 r.X r.Y r.Z r.T) (.inl (by omega))
      obtain ⟨ws_16, hws_16⟩ : ∃ W, ws_15.setCells g2 0 (p16 r.X r.Y r.Z r.T) = W := ⟨_, rfl⟩
      rw [hws_16] at hd
      rw [hws_16] at hc
      rw [hws_16] at Os_16
      rw [hws_16] at hbW
      rw [show ws_15.setCells g2 0 (p16 r.X r.Y r.Z r.T).toArray.toList = ws_16 from hws_16]
      refine hK.out _ _ trivial (fun h => ?_)
      clear h hK K hws_16
      (try dsimp only [Act.put])
      refine wpAnyH_ready (rs := [5]) (by kernel_rfl) (by simp) ?_
      refine AllReadyH.cons (o := { dst := none, op := Op.store 30 (Operand.tmp 3) (Operand.tmp 8), type := 0, pos := "point.go:88", after := #[{ on := 3, ground := Ground.data }, { on := 4, ground := Ground.chain }, { on := 0, ground := Ground.phase }, { on := 1, ground := Ground.phase }, { on := 2, ground := Ground.phase }, { on := 3, ground := Ground.phase }, { on := 4, ground := Ground.phase }], guard := none }) rfl (fun K hK => ?_) (AllReadyH.nil)
      rw [if_pos (by rfl)]
      refine wp_store_mid 30 _ _ rfl g3 0 (p16 s.X s.Y s.Z s.T).toArray rfl rfl (thereP hd ld rfl) (info16A _ _ _ _) (one16 _ _ _ _) ?_
      have Os_17 := Out.setCells (b := g3) (o := 0) (n := (p16 s.X s.Y s.Z s.T).length) ws_16 (p16 s.X s.Y s.Z s.T) (Nat.le_refl _) (Nat.le_refl _)
      replace hbW := below_setCells w3l (p16 s.X s.Y s.Z s.T) 0 _ hbW
      replace hd := hd.stored (p16 s.X s.Y s.Z s.T) ld.symm
      replace hc := hc.far g3 0 (p16 s.X s.Y s.Z s.T) (.inl (by omega))
      obtain ⟨ws_17, hws_17⟩ : ∃ W, ws_16.setCells g3 0 (p16 s.X s.Y s.Z s.T) = W := ⟨_, rfl⟩
      rw [hws_17] at hc
      rw [hws_17] at hd
      rw [hws_17] at Os_17
      rw [hws_17] at hbW
      rw [show ws_16.setCells g3 0 (p16 s.X s.Y s.Z s.T).toArray.toList = ws_17 from hws_17]
      refine hK.out _ _ trivial (fun h => ?_)
      clear h hK K hws_17
      (try dsimp only [Act.put])
      refine wpAnyH_done (by kernel_rfl) ?_ _
      refine NoPanic.normal ?_
      go_wp2
      go_meet
      case rel => exact ⟨r, s, hr, hs, hbW, hc, hd⟩
  case rest =>
  clear hbW hc hd kc kd lc ld
  obtain ⟨r, s, hr, hs, hbW, hc, hd⟩ := hcut
  obtain ⟨U, hU⟩ : ∃ W, W = wc := ⟨_, rfl⟩
  rw [← hU]
  rw [← hU] at hbW hc hd
  clear hU
  go_upto_region 2 with (fail)
  obtain ⟨rX, rY, rZ, -⟩ := parts16 hc
  obtain ⟨sX, sY, sZ, -⟩ := parts16 hd
  have k1 : ∀ W, Calls Tryd.prog 51 #[numV r.X, numV s.Z] W fun e w' => e = .returned (numV (fmul r.X s.Z)) ∧ Below W.heap.size W w' := fun W => times_any _ _ hr.ok.X hs.ok.Z W
  have k2 : ∀ W, Calls Tryd.prog 51 #[numV s.X, numV r.Z] W fun e w' => e = .returned (numV (fmul s.X r.Z)) ∧ Below W.heap.size W w' := fun W => times_any _ _ hs.ok.X hr.ok.Z W
  have k4 : ∀ W, Calls Tryd.prog 51 #[numV r.Y, numV s.Z] W fun e w' => e = .returned (numV (fmul r.Y s.Z)) ∧ Below W.heap.size W w' := fun W => times_any _ _ hr.ok.Y hs.ok.Z W
  have k5 : ∀ W, Calls Tryd.prog 51 #[numV s.Y, numV r.Z] W fun e w' => e = .returned (numV (fmul s.Y r.Z)) ∧ Below W.heap.size W w' := fun W => times_any _ _ hs.ok.Y hr.ok.Z W
  have k3 : ∀ W, Calls Tryd.prog 50 #[numV (fmul r.X s.Z), numV (fmul s.X r.Z)] W fun e w' => e = .returned (.bool (decide (fmul r.X s.Z = fmul s.X r.Z))) ∧ Below W.heap.size W w' := fun W => pequal_any _ _ (fmul_lt _ _) (fmul_lt _ _) W
  have k6 : ∀ W, Calls Tryd.prog 50 #[numV (fmul r.Y s.Z), numV (fmul s.Y r.Z)] W fun e w' => e = .returned (.bool (decide (fmul r.Y s.Z = fmul s.Y r.Z))) ∧ Below W.heap.size W w' := fun W => pequal_any _ _ (fmul_lt _ _) (fmul_lt _ _) W
  have hsm := same_n hr hs
  clear hc hd hr hs
  generalize fmul r.X s.Z = xa at *
  generalize fmul s.X r.Z = xb at *
  generalize fmul r.Y s.Z = ya at *
  generalize fmul s.Y r.Z = yb at *
  by_cases hx : xa = xb
  · have hzz : z = decide (ya = yb) := by
      rw [Hz.out]
      exact decide_eq_decide.2 ⟨fun h => (hsm.2 h).2, fun h => hsm.1 ⟨hx, h⟩⟩
    rw [decide_eq_true hx] at k3
    rw [← hzz] at k6
    clear hsm hx hzz Hz
    have hdrew : Below U.heap.size U U.drew := (Below.refl _ _).drew
    replace rX := rX.still hdrew
    replace rY := rY.still hdrew
    replace rZ := rZ.still hdrew
    replace sX := sX.still hdrew
    replace sY := sY.still hdrew
    replace sZ := sZ.still hdrew
    replace hbW := below_next hbW hdrew
    clear hdrew
    refine wp_region_noPanic ?_
    refine wp_region_held_drew (S := fun w' => Below U.drew.heap.size U.drew w') (by kernel_rfl) (Below.refl _ _) (fun hHeld => ?_)
    clear hHeld
    refine wpAnyH_take (i := 0) (oi := { dst := some 9, op := Op.fieldAddr 30 (Operand.tmp 2) 0, type := 0, pos := "point.go:89", after := #[], guard := none }) (v := ?vt0) rfl (by kernel_rfl) (by kernel_rfl) (by kernel_rfl) (fun _ _ _ h => h) (Or.inl ⟨by rfl, ?ht0⟩) (Below.refl _ _) ?rt0
    case ht0 =>
      intro w hSw
      go_simp
      try with_reducible rfl
    (try simp only [Act.put, List.setIfInBounds_toArray, List.set_cons_zero, List.set_cons_succ])
    refine wpAnyH_take (i := 1) (oi := { dst := some 10, op := Op.load 28 (Operand.tmp 9), type := 28, pos := "point.go:89", after := #[{ on := 0, ground := Ground.data }], guard := none }) (v := numV r.X) rfl (by kernel_rfl) (by kernel_rfl) (by kernel_rfl) (fun _ _ _ h => h) (yieldsIf_load_mid (by rfl) 28 _ rfl g2 0 rfl (c4 r.X) _ (fun _ h => (rX.still h).range) Tryd.underlying28 rfl info4) (Below.refl _ _) ?_
    (try simp only [Act.put, List.setIfInBounds_toArray, List.set_cons_zero, List.set_cons_succ])
    refine wpAnyH_take (i := 2) (oi := { dst := some 11, op := Op.fieldAddr 30 (Operand.tmp 3) 2, type := 0, pos := "point.go:89", after := #[], guard := none }) (v := ?vt2) rfl (by kernel_rfl) (by kernel_rfl) (by kernel_rfl) (fun _ _ _ h => h) (Or.inl ⟨by rfl, ?ht2⟩) (Below.refl _ _) ?rt2
    case ht2 =>
      intro w hSw
      go_simp
      try with_reducible rfl
    (try simp only [Act.put, List.setIfInBounds_toArray, List.set_cons_zero, List.set_cons_succ])
    refine wpAnyH_take (i := 3) (oi := { dst := some 12, op := Op.load 28 (Operand.tmp 11), type := 28, pos := "point.go:89", after := #[{ on := 2, ground := Ground.data }], guard := none }) (v := numV s.Z) rfl (by kernel_rfl) (by kernel_rfl) (by kernel_rfl) (fun _ _ _ h => h) (yieldsIf_load_mid (by rfl) 28 _ rfl g3 8 rfl (c4 s.Z) _ (fun _ h => (sZ.still h).range) Tryd.underlying28 rfl info4) (Below.refl _ _) ?_
    (try simp only [Act.put, List.setIfInBounds_toArray, List.set_cons_zero, List.set_cons_succ])
    refine wpAnyH_take (i := 5) (oi := { dst := some 14, op := Op.fieldAddr 30 (Operand.tmp 3) 0, type := 0, pos := "point.go:89", after := #[], guard := none }) (v := ?vt5) rfl (by kernel_rfl) (by kernel_rfl) (by kernel_rfl) (fun _ _ _ h => h) (Or.inl ⟨by rfl, ?ht5⟩) (Below.refl _ _) ?rt5
    case ht5 =>
      intro w hSw
      go_simp
      try with_reducible rfl
    (try simp only [Act.put, List.setIfInBounds_toArray, List.set_cons_zero, List.set_cons_succ])
    refine wpAnyH_take (i := 6) (oi := { dst := some 15, op := Op.load 28 (Operand.tmp 14), type := 28, pos := "point.go:89", after := #[{ on := 5, ground := Ground.data }], guard := none }) (v := numV s.X) rfl (by kernel_rfl) (by kernel_rfl) (by kernel_rfl) (fun _ _ _ h => h) (yieldsIf_load_mid (by rfl) 28 _ rfl g3 0 rfl (c4 s.X) _ (fun _ h => (sX.still h).range) Tryd.underlying28 rfl info4) (Below.refl _ _) ?_
    (try simp only [Act.put, List.setIfInBounds_toArray, List.set_cons_zero, List.set_cons_succ])
    refine wpAnyH_take (i := 7) (oi := { dst := some 16, op := Op.fieldAddr 30 (Operand.tmp 2) 2, type := 0, pos := "point.go:89", after := #[], guard := none }) (v := ?vt7) rfl (by kernel_rfl) (by kernel_rfl) (by kernel_rfl) (fun _ _ _ h => h) (Or.inl ⟨by rfl, ?ht7⟩) (Below.refl _ _) ?rt7
    case ht7 =>
      intro w hSw
      go_simp
      try with_reducible rfl
    (try simp only [Act.put, List.setIfInBounds_toArray, List.set_cons_zero, List.set_cons_succ])
    refine wpAnyH_take (i := 8) (oi := { dst := some 17, op := Op.load 28 (Operand.tmp 16), type := 28, pos := "point.go:89", after := #[{ on := 7, ground := Ground.data }], guard := none }) (v := numV r.Z) rfl (by kernel_rfl) (by kernel_rfl) (by kernel_rfl) (fun _ _ _ h => h) (yieldsIf_load_mid (by rfl) 28 _ rfl g2 8 rfl (c4 r.Z) _ (fun _ h => (rZ.still h).range) Tryd.underlying28 rfl info4) (Below.refl _ _) ?_
    (try simp only [Act.put, List.setIfInBounds_toArray, List.set_cons_zero, List.set_cons_succ])
    refine wpAnyH_ready (rs := [4]) (by kernel_rfl) (by simp) ?_
    refine AllReadyH.cons (o := { dst := some 13, op := Op.call { callee := Callee.value (Operand.func 51), args := #[Operand.tmp 10, Operand.tmp 12], argTypes := #[28, 28] }, type := 28, pos := "point.go:89", after := #[{ on := 1, ground := Ground.data }, { on := 3, ground := Ground.data }], guard := none }) rfl (fun K hK => ?_) AllReadyH.nil
    go_simp
    (go_at_call 51; refine (k1 _).mono ?_; clear k1; rintro e w1 ⟨rfl, hb1⟩)
    (try go_simp)
    refine hK.out _ _ hb1 (fun h => ?_)
    clear h hK K
    refine wpAnyH_narrow (S' := fun w' => Below w1.heap.size w1 w') (fun _ h => below_next hb1 h) _ _ _ _ ?_
    replace rX := rX.still hb1
    replace rY := rY.still hb1
    replace rZ := rZ.still hb1
    replace sX := sX.still hb1
    replace sY := sY.still hb1
    replace sZ := sZ.still hb1
    replace hbW := below_next hbW hb1
    clear hb1
    (try simp only [Act.put, List.setIfInBounds_toArray, List.set_cons_zero, List.set_cons_succ])
    refine wpAnyH_ready (rs := [9]) (by kernel_rfl) (by simp) ?_
    refine AllReadyH.cons (o := { dst := some 18, op := Op.call { callee := Callee.value (Operand.func 51), args := #[Operand.tmp 15, Operand.tmp 17], argTypes := #[28, 28] }, type := 28, pos := "point.go:89", after := #[{ on := 6, ground := Ground.data }, { on := 8, ground := Ground.data }, { on := 4, ground := Ground.chain }], guard := none }) rfl (fun K hK => ?_) AllReadyH.nil
    go_simp
    (go_at_call 51; refine (k2 _).mono ?_; clear k2; rintro e w2 ⟨rfl, hb2⟩)
    (try go_simp)
    refine hK.out _ _ hb2 (fun h => ?_)
    clear h hK K
    refine wpAnyH_narrow (S' := fun w' => Below w2.heap.size w2 w') (fun _ h => below_next hb2 h) _ _ _ _ ?_
    replace rX := rX.still hb2
    replace rY := rY.still hb2
    replace rZ := rZ.still hb2
    replace sX := sX.still hb2
    replace sY := sY.still hb2
    replace sZ := sZ.still hb2
    replace hbW := below_next hbW hb2
    clear hb2
    (try simp only [Act.put, List.setIfInBounds_toArray, List.set_cons_zero, List.set_cons_succ])
    refine wpAnyH_ready (rs := [10]) (by kernel_rfl) (by simp) ?_
    refine AllReadyH.cons (o := { dst := some 19, op := Op.call { callee := Callee.value (Operand.func 50), args := #[Operand.tmp 13, Operand.tmp 18], argTypes := #[28, 28] }, type := 4, pos := "point.go:89", after := #[{ on := 4, ground := Ground.data }, { on := 9, ground := Ground.data }, { on := 9, ground := Ground.chain }], guard := none }) rfl (fun K hK => ?_) AllReadyH.nil
    go_simp
    (go_at_call 50; refine (k3 _).mono ?_; clear k3; rintro e w3 ⟨rfl, hb3⟩)
    (try go_simp)
    refine hK.out _ _ hb3 (fun h => ?_)
    clear h hK K
    refine wpAnyH_narrow (S' := fun w' => Below w3.heap.size w3 w') (fun _ h => below_next hb3 h) _ _ _ _ ?_
    replace rX := rX.still hb3
    replace rY := rY.still hb3
    replace rZ := rZ.still hb3
    replace sX := sX.still hb3
    replace sY := sY.still hb3
    replace sZ := sZ.still hb3
    replace hbW := below_next hbW hb3
    clear hb3
    (try simp only [Act.put, List.setIfInBounds_toArray, List.set_cons_zero, List.set_cons_succ])
    refine wpAnyH_take (i := 11) (oi := { dst := some 20, op := Op.move (Operand.tmp 19), type := 4, pos := "point.go:89", after := #[{ on := 10, ground := Ground.data }, { on := 10, ground := Ground.chain }], guard := none }) (v := ?vt11) rfl (by kernel_rfl) (by kernel_rfl) (by kernel_rfl) (fun _ _ _ h => h) (Or.inl ⟨by rfl, ?ht11⟩) (Below.refl _ _) ?rt11
    case ht11 =>
      intro w hSw
      go_simp
      try with_reducible rfl
    (try simp only [Act.put, List.setIfInBounds_toArray, List.set_cons_zero, List.set_cons_succ])
    refine wpAnyH_take (i := 12) (oi := { dst := some 21, op := Op.fieldAddr 30 (Operand.tmp 2) 1, type := 0, pos := "point.go:89", after := #[{ on := 11, ground := Ground.guard }], guard := some (11, true) }) (v := ?vt12) rfl (by kernel_rfl) (by kernel_rfl) (by kernel_rfl) (fun _ _ _ h => h) (Or.inl ⟨by rfl, ?ht12⟩) (Below.refl _ _) ?rt12
    case ht12 =>
      intro w hSw
      go_simp
      try with_reducible rfl
    (try simp only [Act.put, List.setIfInBounds_toArray, List.set_cons_zero, List.set_cons_succ])
    refine wpAnyH_take (i := 13) (oi := { dst := some 22, op := Op.load 28 (Operand.tmp 21), type := 28, pos := "point.go:89", after := #[{ on := 12, ground := Ground.data }, { on := 11, ground := Ground.guard }], guard := some (11, true) }) (v := numV r.Y) rfl (by kernel_rfl) (by kernel_rfl) (by kernel_rfl) (fun _ _ _ h => h) (yieldsIf_load_mid (by rfl) 28 _ rfl g2 4 rfl (c4 r.Y) _ (fun _ h => (rY.still h).range) Tryd.underlying28 rfl info4) (Below.refl _ _) ?_
    (try simp only [Act.put, List.setIfInBounds_toArray, List.set_cons_zero, List.set_cons_succ])
    refine wpAnyH_take (i := 14) (oi := { dst := some 23, op := Op.fieldAddr 30 (Operand.tmp 3) 2, type := 0, pos := "point.go:89", after := #[{ on := 11, ground := Ground.guard }], guard := some (11, true) }) (v := ?vt14) rfl (by kernel_rfl) (by kernel_rfl) (by kernel_rfl) (fun _ _ _ h => h) (Or.inl ⟨by rfl, ?ht14⟩) (Below.refl _ _) ?rt14
    case ht14 =>
      intro w hSw
      go_simp
      try with_reducible rfl
    (try simp only [Act.put, List.setIfInBounds_toArray, List.set_cons_zero, List.set_cons_succ])
    refine wpAnyH_take (i := 15) (oi := { dst := some 24, op := Op.load 28 (Operand.tmp 23), type := 28, pos := "point.go:89", after := #[{ on := 14, ground := Ground.data }, { on := 11, ground := Ground.guard }], guard := some (11, true) }) (v := numV s.Z) rfl (by kernel_rfl) (by kernel_rfl) (by kernel_rfl) (fun _ _ _ h => h) (yieldsIf_load_mid (by rfl) 28 _ rfl g3 8 rfl (c4 s.Z) _ (fun _ h => (sZ.still h).range) Tryd.underlying28 rfl info4) (Below.refl _ _) ?_
    (try simp only [Act.put, List.setIfInBounds_toArray, List.set_cons_zero, List.set_cons_succ])
    refine wpAnyH_take (i := 17) (oi := { dst := some 26, op := Op.fieldAddr 30 (Operand.tmp 3) 1, type := 0, pos := "point.go:89", after := #[{ on := 11, ground := Ground.guard }], guard := some (11, true) }) (v := ?vt17) rfl (by kernel_rfl) (by kernel_rfl) (by kernel_rfl) (fun _ _ _ h => h) (Or.inl ⟨by rfl, ?ht17⟩) (Below.refl _ _) ?rt17
    case ht17 =>
      intro w hSw
      go_simp
      try with_reducible rfl
    (try simp only [Act.put, List.setIfInBounds_toArray, List.set_cons_zero, List.set_cons_succ])
    refine wpAnyH_take (i := 18) (oi := { dst := some 27, op := Op.load 28 (Operand.tmp 26), type := 28, pos := "point.go:89", after := #[{ on := 17, ground := Ground.data }, { on := 11, ground := Ground.guard }], guard := some (11, true) }) (v := numV s.Y) rfl (by kernel_rfl) (by kernel_rfl) (by kernel_rfl) (fun _ _ _ h => h) (yieldsIf_load_mid (by rfl) 28 _ rfl g3 4 rfl (c4 s.Y) _ (fun _ h => (sY.still h).range) Tryd.underlying28 rfl info4) (Below.refl _ _) ?_
    (try simp only [Act.put, List.setIfInBounds_toArray, List.set_cons_zero, List.set_cons_succ])
    refine wpAnyH_take (i := 19) (oi := { dst := some 28, op := Op.fieldAddr 30 (Operand.tmp 2) 2, type := 0, pos := "point.go:89", after := #[{ on := 11, ground := Ground.guard }], guard := some (11, true) }) (v := ?vt19) rfl (by kernel_rfl) (by kernel_rfl) (by kernel_rfl) (fun _ _ _ h => h) (Or.inl ⟨by rfl, ?ht19⟩) (Below.refl _ _) ?rt19
    case ht19 =>
      intro w hSw
      go_simp
      try with_reducible rfl
    (try simp only [Act.put, List.setIfInBounds_toArray, List.set_cons_zero, List.set_cons_succ])
    refine wpAnyH_take (i := 20) (oi := { dst := some 29, op := Op.load 28 (Operand.tmp 28), type := 28, pos := "point.go:89", after := #[{ on := 19, ground := Ground.data }, { on := 11, ground := Ground.guard }], guard := some (11, true) }) (v := numV r.Z) rfl (by kernel_rfl) (by kernel_rfl) (by kernel_rfl) (fun _ _ _ h => h) (yieldsIf_load_mid (by rfl) 28 _ rfl g2 8 rfl (c4 r.Z) _ (fun _ h => (rZ.still h).range) Tryd.underlying28 rfl info4) (Below.refl _ _) ?_
    (try simp only [Act.put, List.setIfInBounds_toArray, List.set_cons_zero, List.set_cons_succ])
    refine wpAnyH_ready (rs := [16]) (by kernel_rfl) (by simp) ?_
    refine AllReadyH.cons (o := { dst := some 25, op := Op.call { callee := Callee.value (Operand.func 51), args := #[Operand.tmp 22, Operand.tmp 24], argTypes := #[28, 28] }, type := 28, pos := "point.go:89", after := #[{ on := 13, ground := Ground.data }, { on := 15, ground := Ground.data }, { on := 11, ground := Ground.chain }, { on := 11, ground := Ground.guard }], guard := some (11, true) }) rfl (fun K hK => ?_) AllReadyH.nil
    go_simp
    (go_at_call 51; refine (k4 _).mono ?_; clear k4; rintro e w4 ⟨rfl, hb4⟩)
    (try go_simp)
    refine hK.out _ _ hb4 (fun h => ?_)
    clear h hK K
    refine wpAnyH_narrow (S' := fun w' => Below w4.heap.size w4 w') (fun _ h => below_next hb4 h) _ _ _ _ ?_
    replace rX := rX.still hb4
    replace rY := rY.still hb4
    replace rZ := rZ.still hb4
    replace sX := sX.still hb4
    replace sY := sY.still hb4
    replace sZ := sZ.still hb4
    replace hbW := below_next hbW hb4
    clear hb4
    (try simp only [Act.put, List.setIfInBounds_toArray, List.set_cons_zero, List.set_cons_succ])
    refine wpAnyH_ready (rs := [21]) (by kernel_rfl) (by simp) ?_
    refine AllReadyH.cons (o := { dst := some 30, op := Op.call { callee := Callee.value (Operand.func 51), args := #[Operand.tmp 27, Operand.tmp 29], argTypes := #[28, 28] }, type := 28, pos := "point.go:89", after := #[{ on := 18, ground := Ground.data }, { on := 20, ground := Ground.data }, { on := 16, ground := Ground.chain }, { on := 11, ground := Ground.guard }], guard := some (11, true) }) rfl (fun K hK => ?_) AllReadyH.nil
    go_simp
    (go_at_call 51; refine (k5 _).mono ?_; clear k5; rintro e w5 ⟨rfl, hb5⟩)
    (try go_simp)
    refine hK.out _ _ hb5 (fun h => ?_)
    clear h hK K
    refine wpAnyH_narrow (S' := fun w' => Below w5.heap.size w5 w') (fun _ h => below_next hb5 h) _ _ _ _ ?_
    replace rX := rX.still hb5
    replace rY := rY.still hb5
    replace rZ := rZ.still hb5
    replace sX := sX.still hb5
    replace sY := sY.still hb5
    replace sZ := sZ.still hb5
    replace hbW := below_next hbW hb5
    clear hb5
    (try simp only [Act.put, List.setIfInBounds_toArray, List.set_cons_zero, List.set_cons_succ])
    refine wpAnyH_ready (rs := [22]) (by kernel_rfl) (by simp) ?_
    refine AllReadyH.cons (o := { dst := some 31, op := Op.call { callee := Callee.value (Operand.func 50), args := #[Operand.tmp 25, Operand.tmp 30], argTypes := #[28, 28] }, type := 4, pos := "point.go:89", after := #[{ on := 16, ground := Ground.data }, { on := 21, ground := Ground.data }, { on := 21, ground := Ground.chain }, { on := 11, ground := Ground.guard }], guard := some (11, true) }) rfl (fun K hK => ?_) AllReadyH.nil
    go_simp
    (go_at_call 50; refine (k6 _).mono ?_; clear k6; rintro e w6 ⟨rfl, hb6⟩)
    (try go_simp)
    refine hK.out _ _ hb6 (fun h => ?_)
    clear h hK K
    refine wpAnyH_narrow (S' := fun w' => Below w6.heap.size w6 w') (fun _ h => below_next hb6 h) _ _ _ _ ?_
    replace rX := rX.still hb6
    replace rY := rY.still hb6
    replace rZ := rZ.still hb6
    replace sX := sX.still hb6
    replace sY := sY.still hb6
    replace sZ := sZ.still hb6
    replace hbW := below_next hbW hb6
    clear hb6
    (try simp only [Act.put, List.setIfInBounds_toArray, List.set_cons_zero, List.set_cons_succ])
    refine wpAnyH_take (i := 23) (oi := { dst := some 32, op := Op.pick (Operand.tmp 20) (Operand.tmp 31) (Operand.const (Value.bool false)), type := 4, pos := "point.go:89", after := #[{ on := 11, ground := Ground.data }, { on := 22, ground := Ground.data }], guard := none }) (v := ?vt23) rfl (by kernel_rfl) (by kernel_rfl) (by kernel_rfl) (fun _ _ _ h => h) (Or.inl ⟨by rfl, ?ht23⟩) (Below.refl _ _) ?rt23
    case ht23 =>
      intro w hSw
      go_simp
      try with_reducible rfl
    (try simp only [Act.put, List.setIfInBounds_toArray, List.set_cons_zero, List.set_cons_succ])
    refine wpAnyH_take (i := 24) (oi := { dst := some 4, op := Op.assign (Operand.tmp 32), type := 4, pos := "point.go:89", after := #[{ on := 23, ground := Ground.data }, { on := 22, ground := Ground.chain }, { on := 0, ground := Ground.phase }, { on := 1, ground := Ground.phase }, { on := 2, ground := Ground.phase }, { on := 3, ground := Ground.phase }, { on := 4, ground := Ground.phase }, { on := 5, ground := Ground.phase }, { on := 6, ground := Ground.phase }, { on := 7, ground := Ground.phase }, { on := 8, ground := Ground.phase }, { on := 9, ground := Ground.phase }, { on := 10, ground := Ground.phase }, { on := 11, ground := Ground.phase }, { on := 12, ground := Ground.phase }, { on := 13, ground := Ground.phase }, { on := 14, ground := Ground.phase }, { on := 15, ground := Ground.phase }, { on := 16, ground := Ground.phase }, { on := 17, ground := Ground.phase }, { on := 18, ground := Ground.phase }, { on := 19, ground := Ground.phase }, { on := 20, ground := Ground.phase }, { on := 21, ground := Ground.phase }, { on := 22, ground := Ground.phase }, { on := 23, ground := Ground.phase }], guard := none }) (v := ?vt24) rfl (by kernel_rfl) (by kernel_rfl) (by kernel_rfl) (fun _ _ _ h => h) (Or.inl ⟨by rfl, ?ht24⟩) (Below.refl _ _) ?rt24
    case ht24 =>
      intro w hSw
      go_simp
      try with_reducible rfl
    (try simp only [Act.put, List.setIfInBounds_toArray, List.set_cons_zero, List.set_cons_succ])
    refine wpAnyH_done (by kernel_rfl) ?_ _
    refine NoPanic.normal ?_
    go_wp2
    go_ret
    exact ⟨rfl, hbW⟩
  · have hzz : z = false := by
      rw [Hz.out]
      exact decide_eq_false fun h => hx (hsm.2 h).1
    rw [decide_eq_false hx] at k3
    clear hsm hx Hz k4 k5 k6
    have hdrew : Below U.heap.size U U.drew := (Below.refl _ _).drew
    replace rX := rX.still hdrew
    replace rY := rY.still hdrew
    replace rZ := rZ.still hdrew
    replace sX := sX.still hdrew
    replace sY := sY.still hdrew
    replace sZ := sZ.still hdrew
    replace hbW := below_next hbW hdrew
    clear hdrew
    refine wp_region_noPanic ?_
    refine wp_region_held_drew (S := fun w' => Below U.drew.heap.size U.drew w') (by kernel_rfl) (Below.refl _ _) (fun hHeld => ?_)
    clear hHeld
    refine wpAnyH_take (i := 0) (oi := { dst := some 9, op := Op.fieldAddr 30 (Operand.tmp 2) 0, type := 0, pos := "point.go:89", after := #[], guard := none }) (v := ?vf0) rfl (by kernel_rfl) (by kernel_rfl) (by kernel_rfl) (fun _ _ _ h => h) (Or.inl ⟨by rfl, ?hf0⟩) (Below.refl _ _) ?rf0
    case hf0 =>
      intro w hSw
      go_simp
      try with_reducible rfl
    (try simp only [Act.put, List.setIfInBounds_toArray, List.set_cons_zero, List.set_cons_succ])
    refine wpAnyH_take (i := 1) (oi := { dst := some 10, op := Op.load 28 (Operand.tmp 9), type := 28, pos := "point.go:89", after := #[{ on := 0, ground := Ground.data }], guard := none }) (v := numV r.X) rfl (by kernel_rfl) (by kernel_rfl) (by kernel_rfl) (fun _ _ _ h => h) (yieldsIf_load_mid (by rfl) 28 _ rfl g2 0 rfl (c4 r.X) _ (fun _ h => (rX.still h).range) Tryd.underlying28 rfl info4) (Below.refl _ _) ?_
    (try simp only [Act.put, List.setIfInBounds_toArray, List.set_cons_zero, List.set_cons_succ])
    refine wpAnyH_take (i := 2) (oi := { dst := some 11, op := Op.fieldAddr 30 (Operand.tmp 3) 2, type := 0, pos := "point.go:89", after := #[], guard := none }) (v := ?vf2) rfl (by kernel_rfl) (by kernel_rfl) (by kernel_rfl) (fun _ _ _ h => h) (Or.inl ⟨by rfl, ?hf2⟩) (Below.refl _ _) ?rf2
    case hf2 =>
      intro w hSw
      go_simp
      try with_reducible rfl
    (try simp only [Act.put, List.setIfInBounds_toArray, List.set_cons_zero, List.set_cons_succ])
    refine wpAnyH_take (i := 3) (oi := { dst := some 12, op := Op.load 28 (Operand.tmp 11), type := 28, pos := "point.go:89", after := #[{ on := 2, ground := Ground.data }], guard := none }) (v := numV s.Z) rfl (by kernel_rfl) (by kernel_rfl) (by kernel_rfl) (fun _ _ _ h => h) (yieldsIf_load_mid (by rfl) 28 _ rfl g3 8 rfl (c4 s.Z) _ (fun _ h => (sZ.still h).range) Tryd.underlying28 rfl info4) (Below.refl _ _) ?_
    (try simp only [Act.put, List.setIfInBounds_toArray, List.set_cons_zero, List.set_cons_succ])
    refine wpAnyH_take (i := 5) (oi := { dst := some 14, op := Op.fieldAddr 30 (Operand.tmp 3) 0, type := 0, pos := "point.go:89", after := #[], guard := none }) (v := ?vf5) rfl (by kernel_rfl) (by kernel_rfl) (by kernel_rfl) (fun _ _ _ h => h) (Or.inl ⟨by rfl, ?hf5⟩) (Below.refl _ _) ?rf5
    case hf5 =>
      intro w hSw
      go_simp
      try with_reducible rfl
    (try simp only [Act.put, List.setIfInBounds_toArray, List.set_cons_zero, List.set_cons_succ])
    refine wpAnyH_take (i := 6) (oi := { dst := some 15, op := Op.load 28 (Operand.tmp 14), type := 28, pos := "point.go:89", after := #[{ on := 5, ground := Ground.data }], guard := none }) (v := numV s.X) rfl (by kernel_rfl) (by kernel_rfl) (by kernel_rfl) (fun _ _ _ h => h) (yieldsIf_load_mid (by rfl) 28 _ rfl g3 0 rfl (c4 s.X) _ (fun _ h => (sX.still h).range) Tryd.underlying28 rfl info4) (Below.refl _ _) ?_
    (try simp only [Act.put, List.setIfInBounds_toArray, List.set_cons_zero, List.set_cons_succ])
    refine wpAnyH_take (i := 7) (oi := { dst := some 16, op := Op.fieldAddr 30 (Operand.tmp 2) 2, type := 0, pos := "point.go:89", after := #[], guard := none }) (v := ?vf7) rfl (by kernel_rfl) (by kernel_rfl) (by kernel_rfl) (fun _ _ _ h => h) (Or.inl ⟨by rfl, ?hf7⟩) (Below.refl _ _) ?rf7
    case hf7 =>
      intro w hSw
      go_simp
      try with_reducible rfl
    (try simp only [Act.put, List.setIfInBounds_toArray, List.set_cons_zero, List.set_cons_succ])
    refine wpAnyH_take (i := 8) (oi := { dst := some 17, op := Op.load 28 (Operand.tmp 16), type := 28, pos := "point.go:89", after := #[{ on := 7, ground := Ground.data }], guard := none }) (v := numV r.Z) rfl (by kernel_rfl) (by kernel_rfl) (by kernel_rfl) (fun _ _ _ h => h) (yieldsIf_load_mid (by rfl) 28 _ rfl g2 8 rfl (c4 r.Z) _ (fun _ h => (rZ.still h).range) Tryd.underlying28 rfl info4) (Below.refl _ _) ?_
    (try simp only [Act.put, List.setIfInBounds_toArray, List.set_cons_zero, List.set_cons_succ])
    refine wpAnyH_ready (rs := [4]) (by kernel_rfl) (by simp) ?_
    refine AllReadyH.cons (o := { dst := some 13, op := Op.call { callee := Callee.value (Operand.func 51), args := #[Operand.tmp 10, Operand.tmp 12], argTypes := #[28, 28] }, type := 28, pos := "point.go:89", after := #[{ on := 1, ground := Ground.data }, { on := 3, ground := Ground.data }], guard := none }) rfl (fun K hK => ?_) AllReadyH.nil
    go_simp
    (go_at_call 51; refine (k1 _).mono ?_; clear k1; rintro e w1 ⟨rfl, hb1⟩)
    (try go_simp)
    refine hK.out _ _ hb1 (fun h => ?_)
    clear h hK K
    refine wpAnyH_narrow (S' := fun w' => Below w1.heap.size w1 w') (fun _ h => below_next hb1 h) _ _ _ _ ?_
    replace rX := rX.still hb1
    replace rY := rY.still hb1
    replace rZ := rZ.still hb1
    replace sX := sX.still hb1
    replace sY := sY.still hb1
    replace sZ := sZ.still hb1
    replace hbW := below_next hbW hb1
    clear hb1
    (try simp only [Act.put, List.setIfInBounds_toArray, List.set_cons_zero, List.set_cons_succ])
    refine wpAnyH_ready (rs := [9]) (by kernel_rfl) (by simp) ?_
    refine AllReadyH.cons (o := { dst := some 18, op := Op.call { callee := Callee.value (Operand.func 51), args := #[Operand.tmp 15, Operand.tmp 17], argTypes := #[28, 28] }, type := 28, pos := "point.go:89", after := #[{ on := 6, ground := Ground.data }, { on := 8, ground := Ground.data }, { on := 4, ground := Ground.chain }], guard := none }) rfl (fun K hK => ?_) AllReadyH.nil
    go_simp
    (go_at_call 51; refine (k2 _).mono ?_; clear k2; rintro e w2 ⟨rfl, hb2⟩)
    (try go_simp)
    refine hK.out _ _ hb2 (fun h => ?_)
    clear h hK K
    refine wpAnyH_narrow (S' := fun w' => Below w2.heap.size w2 w') (fun _ h => below_next hb2 h) _ _ _ _ ?_
    replace rX := rX.still hb2
    replace rY := rY.still hb2
    replace rZ := rZ.still hb2
    replace sX := sX.still hb2
    replace sY := sY.still hb2
    replace sZ := sZ.still hb2
    replace hbW := below_next hbW hb2
    clear hb2
    (try simp only [Act.put, List.setIfInBounds_toArray, List.set_cons_zero, List.set_cons_succ])
    refine wpAnyH_ready (rs := [10]) (by kernel_rfl) (by simp) ?_
    refine AllReadyH.cons (o := { dst := some 19, op := Op.call { callee := Callee.value (Operand.func 50), args := #[Operand.tmp 13, Operand.tmp 18], argTypes := #[28, 28] }, type := 4, pos := "point.go:89", after := #[{ on := 4, ground := Ground.data }, { on := 9, ground := Ground.data }, { on := 9, ground := Ground.chain }], guard := none }) rfl (fun K hK => ?_) AllReadyH.nil
    go_simp
    (go_at_call 50; refine (k3 _).mono ?_; clear k3; rintro e w3 ⟨rfl, hb3⟩)
    (try go_simp)
    refine hK.out _ _ hb3 (fun h => ?_)
    clear h hK K
    refine wpAnyH_narrow (S' := fun w' => Below w3.heap.size w3 w') (fun _ h => below_next hb3 h) _ _ _ _ ?_
    replace rX := rX.still hb3
    replace rY := rY.still hb3
    replace rZ := rZ.still hb3
    replace sX := sX.still hb3
    replace sY := sY.still hb3
    replace sZ := sZ.still hb3
    replace hbW := below_next hbW hb3
    clear hb3
    (try simp only [Act.put, List.setIfInBounds_toArray, List.set_cons_zero, List.set_cons_succ])
    refine wpAnyH_take (i := 11) (oi := { dst := some 20, op := Op.move (Operand.tmp 19), type := 4, pos := "point.go:89", after := #[{ on := 10, ground := Ground.data }, { on := 10, ground := Ground.chain }], guard := none }) (v := ?vf11) rfl (by kernel_rfl) (by kernel_rfl) (by kernel_rfl) (fun _ _ _ h => h) (Or.inl ⟨by rfl, ?hf11⟩) (Below.refl _ _) ?rf11
    case hf11 =>
      intro w hSw
      go_simp
      try with_reducible rfl
    (try simp only [Act.put, List.setIfInBounds_toArray, List.set_cons_zero, List.set_cons_succ])
    refine wpAnyH_take (i := 12) (oi := { dst := some 21, op := Op.fieldAddr 30 (Operand.tmp 2) 1, type := 0, pos := "point.go:89", after := #[{ on := 11, ground := Ground.guard }], guard := some (11, true) }) (v := undef) rfl (by kernel_rfl) (by kernel_rfl) (by kernel_rfl) (fun _ _ _ h => h) (Or.inr ⟨by rfl, rfl⟩) (Below.refl _ _) ?_
    (try simp only [Act.put, List.setIfInBounds_toArray, List.set_cons_zero, List.set_cons_succ])
    refine wpAnyH_take (i := 13) (oi := { dst := some 22, op := Op.load 28 (Operand.tmp 21), type := 28, pos := "point.go:89", after := #[{ on := 12, ground := Ground.data }, { on := 11, ground := Ground.guard }], guard := some (11, true) }) (v := undef) rfl (by kernel_rfl) (by kernel_rfl) (by kernel_rfl) (fun _ _ _ h => h) (Or.inr ⟨by rfl, rfl⟩) (Below.refl _ _) ?_
    (try simp only [Act.put, List.setIfInBounds_toArray, List.set_cons_zero, List.set_cons_succ])
    refine wpAnyH_take (i := 14) (oi := { dst := some 23, op := Op.fieldAddr 30 (Operand.tmp 3) 2, type := 0, pos := "point.go:89", after := #[{ on := 11, ground := Ground.guard }], guard := some (11, true) }) (v := undef) rfl (by kernel_rfl) (by kernel_rfl) (by kernel_rfl) (fun _ _ _ h => h) (Or.inr ⟨by rfl, rfl⟩) (Below.refl _ _) ?_
    (try simp only [Act.put, List.setIfInBounds_toArray, List.set_cons_zero, List.set_cons_succ])
    refine wpAnyH_take (i := 15) (oi := { dst := some 24, op := Op.load 28 (Operand.tmp 23), type := 28, pos := "point.go:89", after := #[{ on := 14, ground := Ground.data }, { on := 11, ground := Ground.guard }], guard := some (11, true) }) (v := undef) rfl (by kernel_rfl) (by kernel_rfl) (by kernel_rfl) (fun _ _ _ h => h) (Or.inr ⟨by rfl, rfl⟩) (Below.refl _ _) ?_
    (try simp only [Act.put, List.setIfInBounds_toArray, List.set_cons_zero, List.set_cons_succ])
    refine wpAnyH_take (i := 16) (oi := { dst := some 25, op := Op.call { callee := Callee.value (Operand.func 51), args := #[Operand.tmp 22, Operand.tmp 24], argTypes := #[28, 28] }, type := 28, pos := "point.go:89", after := #[{ on := 13, ground := Ground.data }, { on := 15, ground := Ground.data }, { on := 11, ground := Ground.chain }, { on := 11, ground := Ground.guard }], guard := some (11, true) }) (v := undef) rfl (by kernel_rfl) (by kernel_rfl) (by kernel_rfl) (fun _ _ _ h => h) (Or.inr ⟨by rfl, rfl⟩) (Below.refl _ _) ?_
    (try simp only [Act.put, List.setIfInBounds_toArray, List.set_cons_zero, List.set_cons_succ])
    refine wpAnyH_take (i := 17) (oi := { dst := some 26, op := Op.fieldAddr 30 (Operand.tmp 3) 1, type := 0, pos := "point.go:89", after := #[{ on := 11, ground := Ground.guard }], guard := some (11, true) }) (v := undef) rfl (by kernel_rfl) (by kernel_rfl) (by kernel_rfl) (fun _ _ _ h => h) (Or.inr ⟨by rfl, rfl⟩) (Below.refl _ _) ?_
    (try simp only [Act.put, List.setIfInBounds_toArray, List.set_cons_zero, List.set_cons_succ])
    refine wpAnyH_take (i := 18) (oi := { dst := some 27, op := Op.load 28 (Operand.tmp 26), type := 28, pos := "point.go:89", after := #[{ on := 17, ground := Ground.data }, { on := 11, ground := Ground.guard }], guard := some (11, true) }) (v := undef) rfl (by kernel_rfl) (by kernel_rfl) (by kernel_rfl) (fun _ _ _ h => h) (Or.inr ⟨by rfl, rfl⟩) (Below.refl _ _) ?_
    (try simp only [Act.put, List.setIfInBounds_toArray, List.set_cons_zero, List.set_cons_succ])
    refine wpAnyH_take (i := 19) (oi := { dst := some 28, op := Op.fieldAddr 30 (Operand.tmp 2) 2, type := 0, pos := "point.go:89", after := #[{ on := 11, ground := Ground.guard }], guard := some (11, true) }) (v := undef) rfl (by kernel_rfl) (by kernel_rfl) (by kernel_rfl) (fun _ _ _ h => h) (Or.inr ⟨by rfl, rfl⟩) (Below.refl _ _) ?_
    (try simp only [Act.put, List.setIfInBounds_toArray, List.set_cons_zero, List.set_cons_succ])
    refine wpAnyH_take (i := 20) (oi := { dst := some 29, op := Op.load 28 (Operand.tmp 28), type := 28, pos := "point.go:89", after := #[{ on := 19, ground := Ground.data }, { on := 11, ground := Ground.guard }], guard := some (11, true) }) (v := undef) rfl (by kernel_rfl) (by kernel_rfl) (by kernel_rfl) (fun _ _ _ h => h) (Or.inr ⟨by rfl, rfl⟩) (Below.refl _ _) ?_
    (try simp only [Act.put, List.setIfInBounds_toArray, List.set_cons_zero, List.set_cons_succ])
    refine wpAnyH_take (i := 21) (oi := { dst := some 30, op := Op.call { callee := Callee.value (Operand.func 51), args := #[Operand.tmp 27, Operand.tmp 29], argTypes := #[28, 28] }, type := 28, pos := "point.go:89", after := #[{ on := 18, ground := Ground.data }, { on := 20, ground := Ground.data }, { on := 16, ground := Ground.chain }, { on := 11, ground := Ground.guard }], guard := some (11, true) }) (v := undef) rfl (by kernel_rfl) (by kernel_rfl) (by kernel_rfl) (fun _ _ _ h => h) (Or.inr ⟨by rfl, rfl⟩) (Below.refl _ _) ?_
    (try simp only [Act.put, List.setIfInBounds_toArray, List.set_cons_zero, List.set_cons_succ])
    refine wpAnyH_take (i := 22) (oi := { dst := some 31, op := Op.call { callee := Callee.value (Operand.func 50), args := #[Operand.tmp 25, Operand.tmp 30], argTypes := #[28, 28] }, type := 4, pos := "point.go:89", after := #[{ on := 16, ground := Ground.data }, { on := 21, ground := Ground.data }, { on := 21, ground := Ground.chain }, { on := 11, ground := Ground.guard }], guard := some (11, true) }) (v := undef) rfl (by kernel_rfl) (by kernel_rfl) (by kernel_rfl) (fun _ _ _ h => h) (Or.inr ⟨by rfl, rfl⟩) (Below.refl _ _) ?_
    (try simp only [Act.put, List.setIfInBounds_toArray, List.set_cons_zero, List.set_cons_succ])
    refine wpAnyH_take (i := 23) (oi := { dst := some 32, op := Op.pick (Operand.tmp 20) (Operand.tmp 31) (Operand.const (Value.bool false)), type := 4, pos := "point.go:89", after := #[{ on := 11, ground := Ground.data }, { on := 22, ground := Ground.data }], guard := none }) (v := ?vf23) rfl (by kernel_rfl) (by kernel_rfl) (by kernel_rfl) (fun _ _ _ h => h) (Or.inl ⟨by rfl, ?hf23⟩) (Below.refl _ _) ?rf23
    case hf23 =>
      intro w hSw
      go_simp
      try with_reducible rfl
    (try simp only [Act.put, List.setIfInBounds_toArray, List.set_cons_zero, List.set_cons_succ])
    refine wpAnyH_take (i := 24) (oi := { dst := some 4, op := Op.assign (Operand.tmp 32), type := 4, pos := "point.go:89", after := #[{ on := 23, ground := Ground.data }, { on := 22, ground := Ground.chain }, { on := 0, ground := Ground.phase }, { on := 1, ground := Ground.phase }, { on := 2, ground := Ground.phase }, { on := 3, ground := Ground.phase }, { on := 4, ground := Ground.phase }, { on := 5, ground := Ground.phase }, { on := 6, ground := Ground.phase }, { on := 7, ground := Ground.phase }, { on := 8, ground := Ground.phase }, { on := 9, ground := Ground.phase }, { on := 10, ground := Ground.phase }, { on := 11, ground := Ground.phase }, { on := 12, ground := Ground.phase }, { on := 13, ground := Ground.phase }, { on := 14, ground := Ground.phase }, { on := 15, ground := Ground.phase }, { on := 16, ground := Ground.phase }, { on := 17, ground := Ground.phase }, { on := 18, ground := Ground.phase }, { on := 19, ground := Ground.phase }, { on := 20, ground := Ground.phase }, { on := 21, ground := Ground.phase }, { on := 22, ground := Ground.phase }, { on := 23, ground := Ground.phase }], guard := none }) (v := ?vf24) rfl (by kernel_rfl) (by kernel_rfl) (by kernel_rfl) (fun _ _ _ h => h) (Or.inl ⟨by rfl, ?hf24⟩) (Below.refl _ _) ?rf24
    case hf24 =>
      intro w hSw
      go_simp
      try with_reducible rfl
    (try simp only [Act.put, List.setIfInBounds_toArray, List.set_cons_zero, List.set_cons_succ])
    refine wpAnyH_done (by kernel_rfl) ?_ _
    refine NoPanic.normal ?_
    go_wp2
    go_ret
    exact ⟨by rw [hzz]; rfl, hbW⟩
end Go.Proofs.YteekjcfbnoakgaaDoor
namespace Go.Proofs.YteekjcfbnoakgaaDoor
open Go.RowKit
def N4.C (p : N4) : List Value := p16 p.X p.Y p.Z p.T
/-- The cells of sixteen points. -/
def tabL (f : Nat → N4) : List Value := (List.range 256).map fun k => ((f (k / 16)).C)[k % 16]?.getD undef
theorem tabL_len (f : Nat → N4) : (tabL f).length = 256 := by unfold tabL; rw [List.length_map, List.length_range]
theorem tabL_at (f : Nat → N4) {j i : Nat} (hj : j < 16) (hi : i < 16) : (tabL f)[j * 16 + i]? = (f j).C[i]? := by
  unfold tabL
  rw [List.getElem?_map, List.getElem?_range (by omega)]
  have h : i < (f j).C.length := hi
  simp only [Option.map_some]
  rw [show (j * 16 + i) / 16 = j by omega, show (j * 16 + i) % 16 = i by omega, List.getElem?_eq_getElem h]
  rfl
def zTb : Array Value := Array.replicate 256 (.int .u64 0)
theorem zeroTb (w : World) : Sem.run Tryd.prog (zeroValue 80) w = .ok (.agg zTb) w := by kernel_rfl
theorem infoTs : (Tryd.prog.info? 80).map (·.size) = some 256 := by kernel_rfl
theorem zTb_eq : zTb = (tabL fun _ => ⟨0, 0, 0, 0⟩).toArray := by kernel_rfl
theorem infoT (f : Nat → N4) : (Tryd.prog.info? 80).map (·.size) = some (tabL f).length := by rw [tabL_len]; exact infoTs
theorem infoTA (f : Nat → N4) : (Tryd.prog.info? 80).map (·.size) = some (tabL f).toArray.size := by rw [List.size_toArray, tabL_len]; exact infoTs
theorem oneT (f : Nat → N4) : (tabL f).toArray.all (·.oneCell') = true := all_oneCell_toArray (fun v hv => by
  unfold tabL at hv
  obtain ⟨k, hk, rfl⟩ := List.mem_map.1 hv
  have h : k % 16 < (f (k / 16)).C.length := Nat.mod_lt _ (by decide)
  rw [List.getElem?_eq_getElem h]
  have ha := one16 (f (k / 16)).X (f (k / 16)).Y (f (k / 16)).Z (f (k / 16)).T
  rw [List.all_toArray, List.all_eq_true] at ha
  exact ha _ (List.getElem_mem h))
/-- Each of them. -/
def Tab (w : World) (g : Nat) (f : Nat → N4) : Prop := ∀ j, j < 16 → RW w g (j * 16) (p16 (f j).X (f j).Y (f j).Z (f j).T)
theorem Tab.of {w : World} {g : Nat} {f : Nat → N4} (h : RW w g 0 (tabL f)) : Tab w g f := fun j hj =>
  ⟨fun i v hv => by
    have hi : i < 16 := (List.getElem?_eq_some_iff.1 hv).1
    have := h.range (j * 16 + i) v (by rw [tabL_at f hj hi]; exact hv)
    rwa [Nat.zero_add] at this, fun i hi => by
    have hi' : i < 16 := hi
    have := h.there (j * 16 + i) (by rw [tabL_len]; omega)
    rwa [Nat.zero_add] at this, h.lt⟩
theorem Tab.row {w : World} {g : Nat} {f : Nat → N4} (h : Tab w g f) : RW w g 0 (tabL f) :=
  ⟨fun k v hv => by
    have hk : k < 256 := by have := (List.getElem?_eq_some_iff.1 hv).1; rwa [tabL_len] at this
    rw [show k = k / 16 * 16 + k % 16 by omega, tabL_at f (by omega) (Nat.mod_lt _ (by decide))] at hv
    have := (h (k / 16) (by omega)).range (k % 16) v hv
    rwa [show k / 16 * 16 + k % 16 = 0 + k by omega] at this, fun k hk => by
    rw [tabL_len] at hk
    have := (h (k / 16) (by omega)).there (k % 16) (Nat.mod_lt _ (by decide))
    rwa [show k / 16 * 16 + k % 16 = 0 + k by omega] at this, (h 0 (by decide)).lt⟩
theorem Tab.still {w w' : World} {g : Nat} {f : Nat → N4} (h : Tab w g f) (hb : Below w.heap.size w w') : Tab w' g f := fun j hj => (h j hj).still hb
theorem Tab.far {w : World} {g : Nat} {f : Nat → N4} (h : Tab w g f) (b p : Nat) (ds : List Value) (hne : g ≠ b) : Tab (w.setCells b p ds) g f := fun j hj => (h j hj).far b p ds (.inl hne)
def updT (f : Nat → N4) (i : Nat) (p : N4) : Nat → N4 := fun j => if j = i then p else f j
theorem Tab.set {w : World} {g : Nat} {f : Nat → N4} (h : Tab w g f) {i : Nat} (hi : i < 16) (p : N4) : Tab (w.setCells g (i * 16) (p16 p.X p.Y p.Z p.T)) g (updT f i p) := fun j hj => by
  unfold updT
  by_cases e : j = i
  · subst e
    rw [if_pos rfl]
    exact (h j hj).stored (p16 p.X p.Y p.Z p.T) rfl
  · rw [if_neg e]
    exact (h j hj).far g (i * 16) _ (.inr (by show j * 16 + 16 ≤ i * 16 ∨ i * 16 + 16 ≤ j * 16; omega))
theorem freshT (w : World) : ∃ w' g, w.alloc (.cells zTb 80) = w' ∧ w.heap.size = g ∧ Below w.heap.size w w' ∧ Tab w' g (fun _ => ⟨0, 0, 0, 0⟩) := by
  refine ⟨_, _, rfl, rfl, (Below.refl _ _).alloc (Nat.le_refl _) _, Tab.of ?_⟩
  rw [zTb_eq]; exact RW.fresh w _ _
end Go.Proofs.YteekjcfbnoakgaaDoor
namespace Go.Proofs.YteekjcfbnoakgaaDoor
open Go.RowKit
set_option maxRecDepth 20000 in
set_option maxHeartbeats 16000000 in
theorem pwindow_pt {p : N4} {P : Fp × Fp} (hp : W6 p P) (w : World) :
    Calls Tryd.prog 56 #[.agg (p16 p.X p.Y p.Z p.T).toArray] w fun e w' => ∃ f : Nat → N4, e = .returned (.agg (tabL f).toArray) ∧ (∀ j, j < 16 → W6 (f j) (emul dE j P)) ∧ Below w.heap.size w w' := by
  have hzp := zeroP
  have hzt := zeroTb
  have cz : ∀ W, Calls Tryd.prog 15 #[] W fun e w' => e = .returned (.agg (p16 0 0 0 0).toArray) ∧ Below W.heap.size W w' := pzero_pt
  have cw : ∀ W, Calls Tryd.prog 49 #[.agg (p16 0 0 0 0).toArray] W fun e w' => ∃ r : N4, e = .returned (.agg (p16 r.X r.Y r.Z r.T).toArray) ∧ W6 r ezero ∧ Below W.heap.size W w' := fun W => pwhole_pt r6_zero W
  have ca : ∀ (q : N4) (Q : Fp × Fp), W6 q Q → ∀ W, Calls Tryd.prog 58 #[.agg (p16 q.X q.Y q.Z q.T).toArray, .agg (p16 p.X p.Y p.Z p.T).toArray] W fun e w' => ∃ r : N4, e = .returned (.agg (p16 r.X r.Y r.Z r.T).toArray) ∧ W6 r (eadd dE Q P) ∧ Below W.heap.size W w' := fun q Q hq W => padd_pt hq hp W
  obtain ⟨V1, g1, eg1, hg1, bg1, hq⟩ : ∃ V g, w.alloc (.cells (p16 p.X p.Y p.Z p.T).toArray 30) = V ∧ w.heap.size = g ∧ Below w.heap.size w V ∧ RW V g 0 (p16 p.X p.Y p.Z p.T) := ⟨_, _, rfl, rfl, (Below.refl _ _).alloc (Nat.le_refl _) _, RW.fresh w _ _⟩
  obtain ⟨V2, g2, eg2, hg2, bg2, hres⟩ := freshT V1
  obtain ⟨W, g3, eg3, hg3, bg3, htab⟩ := freshT V2
  have t1 : V1.heap.size = w.heap.size + 1 := by rw [← eg1]; simp
  have t2 : V2.heap.size = V1.heap.size + 1 := by rw [← eg2]; simp
  have HW : Hid (W = ((w.alloc (.cells (p16 p.X p.Y p.Z p.T).toArray 30)).alloc (.cells zTb 80)).alloc (.cells zTb 80)) := Hid.mk' (by rw [← eg3, ← eg2, ← eg1])
  have q1 : Hid (w.heap.size = g1) := Hid.mk' hg1
  have q2 : Hid (w.heap.size + 1 = g2) := Hid.mk' (by omega)
  have q3 : Hid (w.heap.size + 1 + 1 = g3) := Hid.mk' (by omega)
  replace hq := (hq.still bg2).still bg3
  replace hres := hres.still bg3
  have hbW : Below w.heap.size w W := (bg1.trans (bg2.mono (by omega))).trans (bg3.mono (by omega))
  have w2l : w.heap.size ≤ g2 := by omega
  have w3l : w.heap.size ≤ g3 := by omega
  have n12 : g1 ≠ g2 := by omega
  have n13 : g1 ≠ g3 := by omega
  have n23 : g2 ≠ g3 := by omega
  clear eg1 eg2 eg3 hg1 hg2 hg3 bg1 bg2 bg3 t1 t2 V1 V2
  go_enter Tryd.func56, Tryd.ntmps56
  go_upto_region 3 with (first
    | (go_at_call 15; rw [← HW.out, q3.out, q2.out, q1.out]; refine (cz _).mono ?_; clear cz HW q1 q2 q3; rintro e w1 ⟨rfl, hb1⟩; (replace hq := hq.still hb1); (replace hres := hres.still hb1); (replace htab := htab.still hb1); (replace hbW := below_next hbW hb1); clear hb1)
    | (go_at_call 49; refine (cw _).mono ?_; clear cw; rintro e w2 ⟨r, rfl, hr, hb2⟩; (replace hq := hq.still hb2); (replace hres := hres.still hb2); (replace htab := htab.still hb2); (replace hbW := below_next hbW hb2); clear hb2; (have t0 : w2.there g3 0 (p16 r.X r.Y r.Z r.T).toArray.size := (htab 0 (by decide)).there); (obtain ⟨V4, hV4⟩ : ∃ V, V = w2.setCells g3 0 (p16 r.X r.Y r.Z r.T) := ⟨_, rfl⟩); (replace htab : Tab V4 g3 (updT (fun _ => ⟨0, 0, 0, 0⟩) 0 r) := by rw [hV4]; exact htab.set (i := 0) (by decide) r); (replace hq := hq.far g3 0 (p16 r.X r.Y r.Z r.T) (.inl n13)); (replace hres := hres.far g3 0 (p16 r.X r.Y r.Z r.T) n23); (replace hbW := below_setCells w3l (p16 r.X r.Y r.Z r.T) 0 _ hbW); rw [← hV4] at hq hres hbW; (have H4 := Hid.mk' hV4); clear hV4)
    | (with_reducible (refine id (?_ : wpList _ _ _ _ _ _)); refine wpList_store_mid rfl 30 _ _ rfl g3 0 (p16 r.X r.Y r.Z r.T).toArray rfl rfl t0 (info16A _ _ _ _) (one16 _ _ _ _) ?_; rw [List.toList_toArray, ← H4.out]; clear t0 H4))
  (try dsimp only [Act.put])
  go_wp2
  go_loopw [4] (fun i wr => ∃ (k : Nat) (f : Nat → N4), 1 ≤ k ∧ k ≤ 16 ∧ i = .int .i64 (k : Int) ∧ (∀ j, j < k → W6 (f j) (emul dE j P)) ∧ RW wr g1 0 (p16 p.X p.Y p.Z p.T) ∧ Tab wr g2 (fun _ => ⟨0, 0, 0, 0⟩) ∧ Tab wr g3 f ∧ Below w.heap.size w wr) (fun i _ => 17 - (intOf i).toNat)
  case atStart => exact ⟨1, _, Nat.le_refl _, by decide, rfl, fun j hj => by rw [show j = 0 by omega]; exact hr, hq, hres, htab, hbW⟩
  case round =>
    obtain ⟨k, f, hk1, hk2, rfl, hf, kq, kres, ktab, kb⟩ := hrel
    clear hq hres htab hbW hr
    by_cases hlt : k < 16
    · have e1 : ((k : Int) < 16) := by omega
      have hrow := ktab (k - 1) (by omega)
      have hcell := ktab k hlt
      have e2 : IntKind.i64.wrap ((k : Int) - 1) = ((k - 1 : Nat) : Int) := by simp only [IntKind.wrap_i64]; omega
      have e3 : ¬(((k - 1 : Nat) : Int) < 0) := by omega
      have e4 : ((k - 1 : Nat) : Int) < 16 := by omega
      have e5 : ((k - 1 : Nat) : Int).toNat = k - 1 := by omega
      have e6 : ¬((k : Int) < 0) := by omega
      have e7 : (k : Int).toNat = k := by omega
      have hup : ∀ x : N4, W6 x (eadd dE (emul dE (k - 1) P) P) → ∀ j, j < k + 1 → W6 (updT f k x j) (emul dE j P) := fun x hx j hj => by
        unfold updT
        by_cases e : j = k
        · rw [if_pos e, e]
          have : emul dE k P = eadd dE (emul dE (k - 1) P) P := by
            obtain ⟨m, rfl⟩ : ∃ m, k = m + 1 := ⟨k - 1, by omega⟩
            rfl
          rw [this]; exact hx
        · rw [if_neg e]; exact hf j (by omega)
      have ca2 := ca (f (k - 1)) _ (hf (k - 1) (by omega))
      go_upto_region 6 with (fail)
      clear hf hp ca
      have hdrew : Below wr.heap.size wr wr.drew := (Below.refl _ _).drew
      replace kq := kq.still hdrew
      replace kres := kres.still hdrew
      replace ktab := ktab.still hdrew
      replace hrow := hrow.still hdrew
      replace hcell := hcell.still hdrew
      refine wp_region_noPanic ?_
      refine wp_region_held_drew (S := fun _ => True) (by kernel_rfl) trivial (fun _ => ?_)
      replace kb := below_next kb hdrew
      generalize wr.drew = Vn_ at *
      refine wpAnyH_take (i := 0) (oi := { dst := some 12, op := Op.move (Operand.tmp 4), type := 3, pos := "curve.go:78", after := #[], guard := none }) (v := ?vn_1) rfl (by kernel_rfl) (by kernel_rfl) (by kernel_rfl) (fun _ _ _ h => h) (Or.inl ⟨by rfl, ?hn_1⟩) trivial ?rn_1
      case hn_1 =>
        intro w hSw
        go_simp
        try with_reducible rfl
      (try simp only [Act.put, List.setIfInBounds_toArray, List.set_cons_zero, List.set_cons_succ])
      refine wpAnyH_take (i := 1) (oi := { dst := some 13, op := Op.move (Operand.tmp 4), type := 3, pos := "curve.go:78", after := #[], guard := none }) (v := ?vn_2) rfl (by kernel_rfl) (by kernel_rfl) (by kernel_rfl) (fun _ _ _ h => h) (Or.inl ⟨by rfl, ?hn_2⟩) trivial ?rn_2
      case hn_2 =>
        intro w hSw
        go_simp
        try with_reducible rfl
      (try simp only [Act.put, List.setIfInBounds_toArray, List.set_cons_zero, List.set_cons_succ])
      refine wpAnyH_take (i := 2) (oi := { dst := some 14, op := Op.binOp BinOp.sub 3 (Operand.tmp 13) (Operand.const (Value.int IntKind.i64 1)) 3, type := 3, pos := "curve.go:78", after := #[{ on := 1, ground := Ground.data }], guard := none }) (v := ?vn_3) rfl (by kernel_rfl) (by kernel_rfl) (by kernel_rfl) (fun _ _ _ h => h) (Or.inl ⟨by rfl, ?hn_3⟩) trivial ?rn_3
      case hn_3 =>
        intro w hSw
        go_simp
        try with_reducible rfl
      (try simp only [Act.put, List.setIfInBounds_toArray, List.set_cons_zero, List.set_cons_succ])
      refine wpAnyH_take (i := 3) (oi := { dst := some 15, op := Op.indexAddr 80 (Operand.tmp 3) (Operand.tmp 14), type := 0, pos := "curve.go:78", after := #[{ on := 2, ground := Ground.data }], guard := none }) (v := ?vn_4) rfl (by kernel_rfl) (by kernel_rfl) (by kernel_rfl) (fun _ _ _ h => h) (Or.inl ⟨by rfl, ?hn_4⟩) trivial ?rn_4
      case hn_4 =>
        intro w hSw
        go_simp
        try with_reducible rfl
      (try simp only [Act.put, List.setIfInBounds_toArray, List.set_cons_zero, List.set_cons_succ])
      refine wpAnyH_ready (rs := [4, 5]) (by kernel_rfl) (by simp) ?_
      refine AllReadyH.cons (o := { dst := some 16, op := Op.load 30 (Operand.tmp 15), type := 30, pos := "curve.go:78", after := #[{ on := 3, ground := Ground.data }], guard := none }) rfl (fun K hK => ?_) (AllReadyH.cons (o := { dst := some 17, op := Op.load 30 (Operand.tmp 1), type := 30, pos := "curve.go:78", after := #[], guard := none }) rfl (fun K hK => ?_) (AllReadyH.nil))
      · rw [if_pos (by rfl)]
        refine wp_load_mid 30 _ rfl g3 ((k - 1) * 16) rfl (p16 (f (k - 1)).X (f (k - 1)).Y (f (k - 1)).Z (f (k - 1)).T) _ hrow.range Tryd.underlying30 rfl (info16 _ _ _ _) ?_
        refine hK.out _ _ trivial (fun h => ?_)
        clear h hK K
        rw [show Value.agg (p16 (f (k - 1)).X (f (k - 1)).Y (f (k - 1)).Z (f (k - 1)).T).toArray = .agg (p16 (f (k - 1)).X (f (k - 1)).Y (f (k - 1)).Z (f (k - 1)).T).toArray from rfl]
        (try simp only [Act.put, List.setIfInBounds_toArray, List.set_cons_zero, List.set_cons_succ])
        refine wpAnyH_ready (rs := [5]) (by kernel_rfl) (by simp) ?_
        refine AllReadyH.cons (o := { dst := some 17, op := Op.load 30 (Operand.tmp 1), type := 30, pos := "curve.go:78", after := #[], guard := none }) rfl (fun K hK => ?_) (AllReadyH.nil)
        rw [if_pos (by rfl)]
        refine wp_load_mid 30 _ rfl g1 0 rfl (p16 p.X p.Y p.Z p.T) _ kq.range Tryd.underlying30 rfl (info16 _ _ _ _) ?_
        refine hK.out _ _ trivial (fun h => ?_)
        clear h hK K
        rw [show Value.agg (p16 p.X p.Y p.Z p.T).toArray = .agg (p16 p.X p.Y p.Z p.T).toArray from rfl]
        (try simp only [Act.put, List.setIfInBounds_toArray, List.set_cons_zero, List.set_cons_succ])
        refine wpAnyH_ready (rs := [6]) (by kernel_rfl) (by simp) ?_
        refine AllReadyH.cons (o := { dst := some 18, op := Op.call { callee := Callee.value (Operand.func 58), args := #[Operand.tmp 16, Operand.tmp 17], argTypes := #[30, 30] }, type := 30, pos := "curve.go:78", after := #[{ on := 4, ground := Ground.data }, { on := 5, ground := Ground.data }], guard := none }) rfl (fun K hK => ?_) (AllReadyH.nil)
        go_simp
        (go_at_call 58; refine (ca2 _).mono ?_; clear ca2; rintro e wn_7 ⟨x, rfl, hx, hb9⟩; (replace kq := kq.still hb9); (replace kres := kres.still hb9); (replace ktab := ktab.still hb9); (replace hcell := hcell.still hb9); (replace kb := below_next kb hb9); clear hb9)
        (try go_simp)
        refine hK.out _ _ trivial (fun h => ?_)
        clear h hK K
        (try simp only [Act.put, List.setIfInBounds_toArray, List.set_cons_zero, List.set_cons_succ])
        refine wpAnyH_take (i := 7) (oi := { dst := some 19, op := Op.indexAddr 80 (Operand.tmp 3) (Operand.tmp 12), type := 0, pos := "curve.go:78", after := #[{ on := 0, ground := Ground.data }, { on := 0, ground := Ground.phase }, { on := 1, ground := Ground.phase }, { on := 2, ground := Ground.phase }, { on := 3, ground := Ground.phase }, { on := 4, ground := Ground.phase }, { on := 5, ground := Ground.phase }, { on := 6, ground := Ground.phase }], guard := none }) (v := ?vn_8) rfl (by kernel_rfl) (by kernel_rfl) (by kernel_rfl) (fun _ _ _ h => h) (Or.inl ⟨by rfl, ?hn_8⟩) trivial ?rn_8
        case hn_8 =>
          intro w hSw
          go_simp
          try with_reducible rfl
        (try simp only [Act.put, List.setIfInBounds_toArray, List.set_cons_zero, List.set_cons_succ])
        refine wpAnyH_ready (rs := [8]) (by kernel_rfl) (by simp) ?_
        refine AllReadyH.cons (o := { dst := none, op := Op.store 30 (Operand.tmp 19) (Operand.tmp 18), type := 0, pos := "curve.go:78", after := #[{ on := 7, ground := Ground.data }, { on := 6, ground := Ground.data }, { on := 6, ground := Ground.chain }, { on := 0, ground := Ground.phase }, { on := 1, ground := Ground.phase }, { on := 2, ground := Ground.phase }, { on := 3, ground := Ground.phase }, { on := 4, ground := Ground.phase }, { on := 5, ground := Ground.phase }, { on := 6, ground := Ground.phase }], guard := none }) rfl (fun K hK => ?_) (AllReadyH.nil)
        rw [if_pos (by rfl)]
        refine wp_store_mid 30 _ _ rfl g3 (k * 16) (p16 x.X x.Y x.Z x.T).toArray rfl rfl hcell.there (info16A _ _ _ _) (one16 _ _ _ _) ?_
        have On_9 := Out.setCells (b := g3) (o := (k * 16)) (n := (p16 x.X x.Y x.Z x.T).length) wn_7 (p16 x.X x.Y x.Z x.T) (Nat.le_refl _) (Nat.le_refl _)
        replace kres := kres.far g3 (k * 16) (p16 x.X x.Y x.Z x.T) n23
        replace ktab := ktab.set hlt x
        replace kb := below_setCells w3l (p16 x.X x.Y x.Z x.T) (k * 16) _ kb
        replace hcell := hcell.stored (p16 x.X x.Y x.Z x.T) rfl
        replace kq := kq.far g3 (k * 16) (p16 x.X x.Y x.Z x.T) (.inl n13)
        obtain ⟨wn_9, hwn_9⟩ : ∃ W, wn_7.setCells g3 (k * 16) (p16 x.X x.Y x.Z x.T) = W := ⟨_, rfl⟩
        rw [hwn_9] at kq
        rw [hwn_9] at hcell
        rw [hwn_9] at On_9
        rw [hwn_9] at kres ktab kb
        rw [show wn_7.setCells g3 (k * 16) (p16 x.X x.Y x.Z x.T).toArray.toList = wn_9 from hwn_9]
        refine hK.out _ _ trivial (fun h => ?_)
        clear h hK K hwn_9
        (try dsimp only [Act.put])
        refine wpAnyH_done (by kernel_rfl) ?_ _
        refine NoPanic.normal ?_
        go_wp2
        go_roundw
        case rel => exact ⟨k + 1, updT f k x, by omega, by omega, by go_num, fun j hj => hup x hx j hj, kq, kres, ktab, kb⟩
        case measure => simp [intOf]; omega
      · rw [if_pos (by rfl)]
        refine wp_load_mid 30 _ rfl g1 0 rfl (p16 p.X p.Y p.Z p.T) _ kq.range Tryd.underlying30 rfl (info16 _ _ _ _) ?_
        refine hK.out _ _ trivial (fun h => ?_)
        clear h hK K
        rw [show Value.agg (p16 p.X p.Y p.Z p.T).toArray = .agg (p16 p.X p.Y p.Z p.T).toArray from rfl]
        (try simp only [Act.put, List.setIfInBounds_toArray, List.set_cons_zero, List.set_cons_succ])
        refine wpAnyH_ready (rs := [4]) (by kernel_rfl) (by simp) ?_
        refine AllReadyH.cons (o := { dst := some 16, op := Op.load 30 (Operand.tmp 15), type := 30, pos := "curve.go:78", after := #[{ on := 3, ground := Ground.data }], guard := none }) rfl (fun K hK => ?_) (AllReadyH.nil)
        rw [if_pos (by rfl)]
        refine wp_load_mid 30 _ rfl g3 ((k - 1) * 16) rfl (p16 (f (k - 1)).X (f (k - 1)).Y (f (k - 1)).Z (f (k - 1)).T) _ hrow.range Tryd.underlying30 rfl (info16 _ _ _ _) ?_
        refine hK.out _ _ trivial (fun h => ?_)
        clear h hK K
        rw [show Value.agg (p16 (f (k - 1)).X (f (k - 1)).Y (f (k - 1)).Z (f (k - 1)).T).toArray = .agg (p16 (f (k - 1)).X (f (k - 1)).Y (f (k - 1)).Z (f (k - 1)).T).toArray from rfl]
        (try simp only [Act.put, List.setIfInBounds_toArray, List.set_cons_zero, List.set_cons_succ])
        refine wpAnyH_ready (rs := [6]) (by kernel_rfl) (by simp) ?_
        refine AllReadyH.cons (o := { dst := some 18, op := Op.call { callee := Callee.value (Operand.func 58), args := #[Operand.tmp 16, Operand.tmp 17], argTypes := #[30, 30] }, type := 30, pos := "curve.go:78", after := #[{ on := 4, ground := Ground.data }, { on := 5, ground := Ground.data }], guard := none }) rfl (fun K hK => ?_) (AllReadyH.nil)
        go_simp
        (go_at_call 58; refine (ca2 _).mono ?_; clear ca2; rintro e wn_12 ⟨x, rfl, hx, hb9⟩; (replace kq := kq.still hb9); (replace kres := kres.still hb9); (replace ktab := ktab.still hb9); (replace hcell := hcell.still hb9); (replace kb := below_next kb hb9); clear hb9)
        (try go_simp)
        refine hK.out _ _ trivial (fun h => ?_)
        clear h hK K
        (try simp only [Act.put, List.setIfInBounds_toArray, List.set_cons_zero, List.set_cons_succ])
        refine wpAnyH_take (i := 7) (oi := { dst := some 19, op := Op.indexAddr 80 (Operand.tmp 3) (Operand.tmp 12), type := 0, pos := "curve.go:78", after := #[{ on := 0, ground := Ground.data }, { on := 0, ground := Ground.phase }, { on := 1, ground := Ground.phase }, { on := 2, ground := Ground.phase }, { on := 3, ground := Ground.phase }, { on := 4, ground := Ground.phase }, { on := 5, ground := Ground.phase }, { on := 6, ground := Ground.phase }], guard := none }) (v := ?vn_13) rfl (by kernel_rfl) (by kernel_rfl) (by kernel_rfl) (fun _ _ _ h => h) (Or.inl ⟨by rfl, ?hn_13⟩) trivial ?rn_13
        case hn_13 =>
          intro w hSw
          go_simp
          try with_reducible rfl
        (try simp only [Act.put, List.setIfInBounds_toArray, List.set_cons_zero, List.set_cons_succ])
        refine wpAnyH_ready (rs := [8]) (by kernel_rfl) (by simp) ?_
        refine AllReadyH.cons (o := { dst := none, op := Op.store 30 (Operand.tmp 19) (Operand.tmp 18), type := 0, pos := "curve.go:78", after := #[{ on := 7, ground := Ground.data }, { on := 6, ground := Ground.data }, { on := 6, ground := Ground.chain }, { on := 0, ground := Ground.phase }, { on := 1, ground := Ground.phase }, { on := 2, ground := Ground.phase }, { on := 3, ground := Ground.phase }, { on := 4, ground := Ground.phase }, { on := 5, ground := Ground.phase }, { on := 6, ground := Ground.phase }], guard := none }) rfl (fun K hK => ?_) (AllReadyH.nil)
        rw [if_pos (by rfl)]
        refine wp_store_mid 30 _ _ rfl g3 (k * 16) (p16 x.X x.Y x.Z x.T).toArray rfl rfl hcell.there (info16A _ _ _ _) (one16 _ _ _ _) ?_
        have On_14 := Out.setCells (b := g3) (o := (k * 16)) (n := (p16 x.X x.Y x.Z x.T).length) wn_12 (p16 x.X x.Y x.Z x.T) (Nat.le_refl _) (Nat.le_refl _)
        replace kres := kres.far g3 (k * 16) (p16 x.X x.Y x.Z x.T) n23
        replace ktab := ktab.set hlt x
        replace kb := below_setCells w3l (p16 x.X x.Y x.Z x.T) (k * 16) _ kb
        replace hcell := hcell.stored (p16 x.X x.Y x.Z x.T) rfl
        replace kq := kq.far g3 (k * 16) (p16 x.X x.Y x.Z x.T) (.inl n13)
        obtain ⟨wn_14, hwn_14⟩ : ∃ W, wn_12.setCells g3 (k * 16) (p16 x.X x.Y x.Z x.T) = W := ⟨_, rfl⟩
        rw [hwn_14] at kq
        rw [hwn_14] at hcell
        rw [hwn_14] at On_14
        rw [hwn_14] at kres ktab kb
        rw [show wn_12.setCells g3 (k * 16) (p16 x.X x.Y x.Z x.T).toArray.toList = wn_14 from hwn_14]
        refine hK.out _ _ trivial (fun h => ?_)
        clear h hK K hwn_14
        (try dsimp only [Act.put])
        refine wpAnyH_done (by kernel_rfl) ?_ _
        refine NoPanic.normal ?_
        go_wp2
        go_roundw
        case rel => exact ⟨k + 1, updT f k x, by omega, by omega, by go_num, fun j hj => hup x hx j hj, kq, kres, ktab, kb⟩
        case measure => simp [intOf]; omega
    · obtain rfl : k = 16 := by omega
      have e1 : ¬(((16 : Nat) : Int) < 16) := by omega
      have krow := ktab.row
      have kr2 := kres.row
      have t2 : wr.there g2 0 (tabL f).toArray.size := by
        have := kr2.there
        rw [tabL_len] at this
        rw [List.size_toArray, tabL_len]; exact this
      go_wp2_with (first
        | (refine wpList_load_mid rfl 80 _ rfl g3 0 rfl (tabL f) _ krow.range Tryd.underlying80 rfl (infoT _) ?_)
        | (with_reducible (refine id (?_ : wpList _ _ _ _ _ _)); refine wpList_store_mid rfl 80 _ _ rfl g2 0 (tabL f).toArray rfl rfl t2 (infoTA _) (oneT _) ?_))
      (try simp only [Exit.inBlock, Exit.then])
      exact bodyPost_ret (results_cell_mid Tryd.results56 _ _ g2 0 (tabL f) _ rfl (kr2.stored (tabL f) (by rw [tabL_len, tabL_len])).range Tryd.underlying80 rfl (infoT _)) rfl ⟨f, rfl, hf, below_setCells w2l _ _ _ kb⟩
end Go.Proofs.YteekjcfbnoakgaaDoor
namespace Go.Proofs.YteekjcfbnoakgaaDoor
open Go.RowKit
/-- The four bits at b, a multiple of four. -/
def digN (ks : Nat → Nat) (b : Nat) : Nat := ks (b / 8) / 2 ^ (b % 8) % 16
/-- Bit by bit: each step doubles, each fourth one adds four bits. -/
def accN (ks : Nat → Nat) : Nat → Nat
  | 0 => 0
  | j + 1 => if (255 - j) % 4 = 0 then 2 * accN ks j + digN ks (255 - j) else 2 * accN ks j
theorem div_mod16 {M k r : Nat} (hM : M % 256 = k) (hr : r = 0 ∨ r = 4) : M / 2 ^ r % 16 = k / 2 ^ r % 16 := by
  rcases hr with rfl | rfl
  · rw [Nat.pow_zero, Nat.div_one, Nat.div_one]; omega
  · rw [show 2 ^ 4 = 16 from rfl]; omega
theorem dig_eq {ks : Nat → Nat} (hk : ∀ j, ks j < 256) {b : Nat} (hb : b < 256) (h4 : b % 4 = 0) : digN ks b = ofB ks 32 / 2 ^ b % 16 := by
  unfold digN
  have h := byt_ofB ks hk 32 (b / 8) (by omega)
  unfold byt at h
  have e : 2 ^ b = 256 ^ (b / 8) * 2 ^ (b % 8) := by
    rw [show (256 : Nat) = 2 ^ 8 from rfl, ← Nat.pow_mul, ← Nat.pow_add, show 8 * (b / 8) + b % 8 = b by omega]
  rw [e, ← Nat.div_div_eq_div_mul]
  exact (div_mod16 h (by omega)).symm
theorem acc_four {ks : Nat → Nat} (hk : ∀ j, ks j < 256) : ∀ m, m ≤ 64 → accN ks (4 * m) = ofB ks 32 / 2 ^ (256 - 4 * m)
  | 0, _ => by
    have := ofB_lt ks hk 32
    show 0 = _
    rw [Nat.div_eq_of_lt]
    exact Nat.lt_of_lt_of_le this (by decide)
  | m + 1, h => by
    have ih := acc_four hk m (by omega)
    have d := dig_eq hk (b := 255 - (4 * m + 3)) (by omega) (by omega)
    rw [show 4 * (m + 1) = 4 * m + 3 + 1 by omega]
    unfold accN
    rw [if_pos (by omega)]
    unfold accN
    rw [if_neg (by omega)]
    unfold accN
    rw [if_neg (by omega)]
    unfold accN
    rw [if_neg (by omega), ih, d, show 256 - 4 * m = (252 - 4 * m) + 4 by omega, show 255 - (4 * m + 3) = 252 - 4 * m by omega, show 256 - (4 * m + 3 + 1) = 252 - 4 * m by omega, Nat.pow_add, ← Nat.div_div_eq_div_mul]
    generalize ofB ks 32 / 2 ^ (252 - 4 * m) = M
    rw [show 2 ^ 4 = 16 from rfl]
    omega
theorem acc_all {ks : Nat → Nat} (hk : ∀ j, ks j < 256) : accN ks 256 = ofB ks 32 := by
  have := acc_four hk 64 (by decide)
  rw [show 4 * 64 = 256 from rfl, Nat.sub_self, Nat.pow_zero, Nat.div_one] at this
  exact this
theorem dig_lt (ks : Nat → Nat) (b : Nat) : digN ks b < 16 := Nat.mod_lt _ (by decide)
theorem acc_dbl {P : Fp × Fp} (hP : On dE P) (ks : Nat → Nat) (j : Nat) : eadd dE (emul dE (accN ks j) P) (emul dE (accN ks j) P) = emul dE (2 * accN ks j) P := by rw [← emul_add ns_dE hP, Nat.two_mul]
theorem acc_skip {ks : Nat → Nat} {j : Nat} (h : ¬(255 - j) % 4 = 0) : accN ks (j + 1) = 2 * accN ks j := by
  show (if (255 - j) % 4 = 0 then _ else _) = _
  rw [if_neg h]
theorem acc_take {ks : Nat → Nat} {j : Nat} (h : (255 - j) % 4 = 0) : accN ks (j + 1) = 2 * accN ks j + digN ks (255 - j) := by
  show (if (255 - j) % 4 = 0 then _ else _) = _
  rw [if_pos h]
end Go.Proofs.YteekjcfbnoakgaaDoor
