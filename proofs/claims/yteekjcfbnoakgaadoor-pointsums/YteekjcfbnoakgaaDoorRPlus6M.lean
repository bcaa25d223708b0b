/- What the proof stands on: RPlus6, RPlus6A, ROf. -/
import Derived.Test.YteekjcfbnoakgaaDoorPrimeM
namespace Go.Proofs.YteekjcfbnoakgaaDoor
open Go.RowKit
abbrev qu3x7 : Oper := { dst := some 9, op := Op.alloc 36, type := 0, pos := "ref.go:35", after := #[], guard := none }
abbrev qu3x4 : Oper := { dst := some 29, op := Op.call { callee := Callee.value (Operand.func 43), args := #[Operand.tmp 26, Operand.tmp 28], argTypes := #[36, 36] }, type := 36, pos := "ref.go:35", after := #[{ on := 1, ground := Ground.data }, { on := 3, ground := Ground.data }], guard := none }
abbrev qu3x6 : Oper := { dst := some 31, op := Op.call { callee := Callee.value (Operand.func 43), args := #[Operand.tmp 29, Operand.tmp 30], argTypes := #[36, 36] }, type := 36, pos := "ref.go:35", after := #[{ on := 4, ground := Ground.data }, { on := 5, ground := Ground.data }, { on := 4, ground := Ground.chain }], guard := none }
abbrev qu3x8 : Oper := { dst := none, op := Op.store 36 (Operand.tmp 9) (Operand.tmp 31), type := 0, pos := "ref.go:35", after := #[{ on := 7, ground := Ground.data }, { on := 6, ground := Ground.data }, { on := 6, ground := Ground.chain }, { on := 0, ground := Ground.phase }, { on := 1, ground := Ground.phase }, { on := 2, ground := Ground.phase }, { on := 3, ground := Ground.phase }, { on := 4, ground := Ground.phase }, { on := 5, ground := Ground.phase }, { on := 6, ground := Ground.phase }, { on := 7, ground := Ground.phase }], guard := none }
abbrev qu5x15 : Oper := { dst := some 11, op := Op.alloc 36, type := 0, pos := "ref.go:37", after := #[], guard := none }
abbrev qu5x4 : Oper := { dst := some 41, op := Op.call { callee := Callee.value (Operand.func 46), args := #[Operand.tmp 38, Operand.tmp 40], argTypes := #[36, 36] }, type := 36, pos := "ref.go:37", after := #[{ on := 1, ground := Ground.data }, { on := 3, ground := Ground.data }], guard := none }
abbrev qu5x9 : Oper := { dst := some 46, op := Op.call { callee := Callee.value (Operand.func 46), args := #[Operand.tmp 43, Operand.tmp 45], argTypes := #[36, 36] }, type := 36, pos := "ref.go:37", after := #[{ on := 6, ground := Ground.data }, { on := 8, ground := Ground.data }, { on := 4, ground := Ground.chain }], guard := none }
abbrev qu5x10 : Oper := { dst := some 47, op := Op.call { callee := Callee.value (Operand.func 43), args := #[Operand.tmp 41, Operand.tmp 46], argTypes := #[36, 36] }, type := 36, pos := "ref.go:37", after := #[{ on := 4, ground := Ground.data }, { on := 9, ground := Ground.data }, { on := 9, ground := Ground.chain }], guard := none }
abbrev qu5x12 : Oper := { dst := some 49, op := Op.call { callee := Callee.value (Operand.func 45), args := #[Operand.tmp 47, Operand.tmp 48], argTypes := #[36, 36] }, type := 36, pos := "ref.go:37", after := #[{ on := 10, ground := Ground.data }, { on := 11, ground := Ground.data }, { on := 10, ground := Ground.chain }], guard := none }
abbrev qu5x14 : Oper := { dst := some 51, op := Op.call { callee := Callee.value (Operand.func 45), args := #[Operand.tmp 49, Operand.tmp 50], argTypes := #[36, 36] }, type := 36, pos := "ref.go:37", after := #[{ on := 12, ground := Ground.data }, { on := 13, ground := Ground.data }, { on := 12, ground := Ground.chain }], guard := none }
abbrev qu5x16 : Oper := { dst := none, op := Op.store 36 (Operand.tmp 11) (Operand.tmp 51), type := 0, pos := "ref.go:37", after := #[{ on := 15, ground := Ground.data }, { on := 14, ground := Ground.data }, { on := 14, ground := Ground.chain }, { on := 0, ground := Ground.phase }, { on := 1, ground := Ground.phase }, { on := 2, ground := Ground.phase }, { on := 3, ground := Ground.phase }, { on := 4, ground := Ground.phase }, { on := 5, ground := Ground.phase }, { on := 6, ground := Ground.phase }, { on := 7, ground := Ground.phase }, { on := 8, ground := Ground.phase }, { on := 9, ground := Ground.phase }, { on := 10, ground := Ground.phase }, { on := 11, ground := Ground.phase }, { on := 12, ground := Ground.phase }, { on := 13, ground := Ground.phase }, { on := 14, ground := Ground.phase }, { on := 15, ground := Ground.phase }], guard := none }
abbrev qu9x2 : Oper := { dst := some 63, op := Op.call { callee := Callee.value (Operand.func 43), args := #[Operand.tmp 61, Operand.tmp 62], argTypes := #[36, 36] }, type := 36, pos := "ref.go:41", after := #[{ on := 0, ground := Ground.data }, { on := 1, ground := Ground.data }], guard := none }
abbrev qu9x5 : Oper := { dst := some 66, op := Op.call { callee := Callee.value (Operand.func 43), args := #[Operand.tmp 64, Operand.tmp 65], argTypes := #[36, 36] }, type := 36, pos := "ref.go:41", after := #[{ on := 3, ground := Ground.data }, { on := 4, ground := Ground.data }, { on := 2, ground := Ground.chain }], guard := none }
abbrev qu9x8 : Oper := { dst := some 69, op := Op.call { callee := Callee.value (Operand.func 43), args := #[Operand.tmp 67, Operand.tmp 68], argTypes := #[36, 36] }, type := 36, pos := "ref.go:41", after := #[{ on := 6, ground := Ground.data }, { on := 7, ground := Ground.data }, { on := 5, ground := Ground.chain }], guard := none }
abbrev qu9x11 : Oper := { dst := some 72, op := Op.call { callee := Callee.value (Operand.func 43), args := #[Operand.tmp 70, Operand.tmp 71], argTypes := #[36, 36] }, type := 36, pos := "ref.go:41", after := #[{ on := 9, ground := Ground.data }, { on := 10, ground := Ground.data }, { on := 8, ground := Ground.chain }], guard := none }
abbrev qu9x13 : Oper := { dst := none, op := Op.store 38 (Operand.tmp 6) (Operand.tmp 73), type := 0, pos := "ref.go:41", after := #[{ on := 12, ground := Ground.data }, { on := 11, ground := Ground.chain }, { on := 0, ground := Ground.phase }, { on := 1, ground := Ground.phase }, { on := 2, ground := Ground.phase }, { on := 3, ground := Ground.phase }, { on := 4, ground := Ground.phase }, { on := 5, ground := Ground.phase }, { on := 6, ground := Ground.phase }, { on := 7, ground := Ground.phase }, { on := 8, ground := Ground.phase }, { on := 9, ground := Ground.phase }, { on := 10, ground := Ground.phase }, { on := 11, ground := Ground.phase }, { on := 12, ground := Ground.phase }], guard := none }
set_option maxRecDepth 20000 in
set_option maxHeartbeats 16000000 in
theorem rplus6_raw (pX pY pZ pT qX qY qZ qT dd a b c0 c e0 f1 f2 f3 f4 f g h s o1 o2 o3 o4 : Nat → Int)
    (k1 : ∀ W, Calls Tryd.prog 43 #[rV pX, rV qX] W fun e w' => e = .returned (rV a) ∧ Below W.heap.size W w')
    (k2 : ∀ W, Calls Tryd.prog 43 #[rV pY, rV qY] W fun e w' => e = .returned (rV b) ∧ Below W.heap.size W w')
    (k3 : ∀ W, Calls Tryd.prog 43 #[rV pT, rV qT] W fun e w' => e = .returned (rV c0) ∧ Below W.heap.size W w')
    (k4 : ∀ W, Calls Tryd.prog 43 #[rV c0, rV dd] W fun e w' => e = .returned (rV c) ∧ Below W.heap.size W w')
    (k5 : ∀ W, Calls Tryd.prog 43 #[rV pZ, rV qZ] W fun e w' => e = .returned (rV e0) ∧ Below W.heap.size W w')
    (k6 : ∀ W, Calls Tryd.prog 46 #[rV pX, rV pY] W fun e w' => e = .returned (rV f1) ∧ Below W.heap.size W w')
    (k7 : ∀ W, Calls Tryd.prog 46 #[rV qX, rV qY] W fun e w' => e = .returned (rV f2) ∧ Below W.heap.size W w')
    (k8 : ∀ W, Calls Tryd.prog 43 #[rV f1, rV f2] W fun e w' => e = .returned (rV f3) ∧ Below W.heap.size W w')
    (k9 : ∀ W, Calls Tryd.prog 45 #[rV f3, rV a] W fun e w' => e = .returned (rV f4) ∧ Below W.heap.size W w')
    (k10 : ∀ W, Calls Tryd.prog 45 #[rV f4, rV b] W fun e w' => e = .returned (rV f) ∧ Below W.heap.size W w')
    (k11 : ∀ W, Calls Tryd.prog 45 #[rV e0, rV c] W fun e w' => e = .returned (rV g) ∧ Below W.heap.size W w')
    (k12 : ∀ W, Calls Tryd.prog 46 #[rV e0, rV c] W fun e w' => e = .returned (rV h) ∧ Below W.heap.size W w')
    (k13 : ∀ W, Calls Tryd.prog 46 #[rV b, rV a] W fun e w' => e = .returned (rV s) ∧ Below W.heap.size W w')
    (k14 : ∀ W, Calls Tryd.prog 43 #[rV f, rV g] W fun e w' => e = .returned (rV o1) ∧ Below W.heap.size W w')
    (k15 : ∀ W, Calls Tryd.prog 43 #[rV h, rV s] W fun e w' => e = .returned (rV o2) ∧ Below W.heap.size W w')
    (k16 : ∀ W, Calls Tryd.prog 43 #[rV g, rV h] W fun e w' => e = .returned (rV o3) ∧ Below W.heap.size W w')
    (k17 : ∀ W, Calls Tryd.prog 43 #[rV f, rV s] W fun e w' => e = .returned (rV o4) ∧ Below W.heap.size W w')
    (w : World) :
    Calls Tryd.prog 25 #[qV pX pY pZ pT, qV qX qY qZ qT, rV dd] w fun e w' => e = .returned (qV o1 o2 o3 o4) ∧ Below w.heap.size w w' := by
  have hz := zeroR
  have hzq := zeroQ
  obtain ⟨V1, g3, e3, hg3, b3, hp⟩ : ∃ V g, w.alloc (.cells (q64 pX pY pZ pT).toArray 38) = V ∧ w.heap.size = g ∧ Below w.heap.size w V ∧ RW V g 0 (q64 pX pY pZ pT) := ⟨_, _, rfl, rfl, (Below.refl _ _).alloc (Nat.le_refl _) _, RW.fresh w _ _⟩
  obtain ⟨V2, g4, e4, hg4, b4, hq⟩ : ∃ V g, V1.alloc (.cells (q64 qX qY qZ qT).toArray 38) = V ∧ V1.heap.size = g ∧ Below V1.heap.size V1 V ∧ RW V g 0 (q64 qX qY qZ qT) := ⟨_, _, rfl, rfl, (Below.refl _ _).alloc (Nat.le_refl _) _, RW.fresh V1 _ _⟩
  obtain ⟨V3, g5, e5, hg5, b5, hd⟩ : ∃ V g, V2.alloc (.cells (i16 dd).toArray 36) = V ∧ V2.heap.size = g ∧ Below V2.heap.size V2 V ∧ RW V g 0 (i16 dd) := ⟨_, _, rfl, rfl, (Below.refl _ _).alloc (Nat.le_refl _) _, RW.fresh V2 _ _⟩
  obtain ⟨W, g6, e6, hg6, b6, h6⟩ := freshQ V3
  have t1 : V1.heap.size = w.heap.size + 1 := by rw [← e3]; simp
  have t2 : V2.heap.size = V1.heap.size + 1 := by rw [← e4]; simp
  have t3 : V3.heap.size = V2.heap.size + 1 := by rw [← e5]; simp
  have HW : Hid (W = (((w.alloc (.cells (q64 pX pY pZ pT).toArray 38)).alloc (.cells (q64 qX qY qZ qT).toArray 38)).alloc (.cells (i16 dd).toArray 36)).alloc (.cells zQ 38)) := Hid.mk' (by rw [← e6, ← e5, ← e4, ← e3])
  have q3 : Hid (w.heap.size = g3) := Hid.mk' hg3
  have q4 : Hid (w.heap.size + 1 = g4) := Hid.mk' (by omega)
  have q5 : Hid (w.heap.size + 1 + 1 = g5) := Hid.mk' (by omega)
  have q6 : Hid (w.heap.size + 1 + 1 + 1 = g6) := Hid.mk' (by omega)
  replace hp := ((hp.still b4).still b5).still b6
  replace hq := (hq.still b5).still b6
  replace hd := hd.still b6
  have hbW : Below w.heap.size w W := ((b3.trans (b4.mono (by omega))).trans (b5.mono (by omega))).trans (b6.mono (by omega))
  obtain ⟨hpX, hpY, hpZ, hpT⟩ := parts hp
  obtain ⟨hqX, hqY, hqZ, hqT⟩ := parts hq
  have w6 : w.heap.size ≤ g6 := by omega
  clear e3 e4 e5 e6 hg3 hg4 hg5 hg6 b3 b4 b5 b6 t1 t2 t3 hp hq V1 V2 V3
  rw [show qV pX pY pZ pT = .agg (q64 pX pY pZ pT).toArray from rfl, show qV qX qY qZ qT = .agg (q64 qX qY qZ qT).toArray from rfl, show rV dd = .agg (i16 dd).toArray from rfl]
  go_enter Tryd.func25, Tryd.ntmps25
  go_upto_region 1 with (fail)
  rw [← HW.out, q6.out, q5.out, q4.out, q3.out]
  clear HW q3 q4 q5 q6
  go_cut [7] from 15 (fun s7 wc => ∃ g107, s7 = .pointer (some ⟨g107, 0, none⟩) ∧ Below W.heap.size W wc ∧ W.heap.size ≤ g107 ∧ RW wc g107 0 (i16 a))
  case first =>
    clear k2 k3 k4 k5 k6 k7 k8 k9 k10 k11 k12 k13 k14 k15 k16 k17
    have r1 := hpX.range
    have r2 := hqX.range
    have kk : ∀ W, Calls Tryd.prog 43 #[.agg (i16 pX).toArray, .agg (i16 qX).toArray] W fun e w' => e = .returned (.agg (i16 a).toArray) ∧ Below W.heap.size W w' := k1
    clear k1 hpX hpY hpZ hpT hqX hqY hqZ hqT hd h6 hzq
    go_wp2_with (first
      | (refine wpList_load_mid rfl 36 _ rfl g3 0 rfl (i16 pX) _ r1 Tryd.underlying36 rfl (infoI pX) ?_)
      | (refine wpList_load_mid rfl 36 _ rfl g4 0 rfl (i16 qX) _ r2 Tryd.underlying36 rfl (infoI qX) ?_)
      | (go_at_call 43; refine (kk _).mono ?_; clear kk r1 r2; rintro e w9 ⟨rfl, hb9⟩; (have th := freshR' w9); (have th' := freshRt w9 a))
      | (with_reducible (refine id (?_ : wpList _ _ _ _ _ _)); refine wpList_store_mid rfl 36 _ _ rfl w9.heap.size 0 (i16 a).toArray rfl rfl th' (infoIA a) (oneI a) ?_))
    go_meet
    case rel => exact ⟨w9.heap.size, rfl, below_setCells hb9.size _ _ _ (hb9.alloc hb9.size _), hb9.size, th.stored (i16 a) (by rw [i16_len, i16_len])⟩
  case rest =>
  obtain ⟨g107, rfl, hb107, G107, h107⟩ := hcut
  have lt6 := h6.lt
  replace hpX := hpX.still hb107
  replace hpY := hpY.still hb107
  replace hpZ := hpZ.still hb107
  replace hpT := hpT.still hb107
  replace hqX := hqX.still hb107
  replace hqY := hqY.still hb107
  replace hqZ := hqZ.still hb107
  replace hqT := hqT.still hb107
  replace hd := hd.still hb107
  replace h6 := h6.still hb107
  obtain ⟨U1, hU1⟩ : ∃ W, W = wc := ⟨_, rfl⟩
  rw [← hU1]
  rw [← hU1] at hpX hpY hpZ hpT hqX hqY hqZ hqT hd h6 h107 hb107
  replace hbW : Below w.heap.size w U1 := below_next hbW hb107
  clear hU1 hb107
  have m6_7 : g107 ≠ g6 := by omega
  clear G107 lt6
  go_upto_region 2 with (fail)
  go_cut [8] from 15 (fun s8 wc => ∃ g108, s8 = .pointer (some ⟨g108, 0, none⟩) ∧ Below U1.heap.size U1 wc ∧ U1.heap.size ≤ g108 ∧ RW wc g108 0 (i16 b))
  case first =>
    clear k1 k3 k4 k5 k6 k7 k8 k9 k10 k11 k12 k13 k14 k15 k16 k17
    have r1 := hpY.range
    have r2 := hqY.range
    have kk : ∀ W, Calls Tryd.prog 43 #[.agg (i16 pY).toArray, .agg (i16 qY).toArray] W fun e w' => e = .returned (.agg (i16 b).toArray) ∧ Below W.heap.size W w' := k2
    clear k2 hpX hpY hpZ hpT hqX hqY hqZ hqT hd h6 h107 hzq
    go_wp2_with (first
      | (refine wpList_load_mid rfl 36 _ rfl g3 16 rfl (i16 pY) _ r1 Tryd.underlying36 rfl (infoI pY) ?_)
      | (refine wpList_load_mid rfl 36 _ rfl g4 16 rfl (i16 qY) _ r2 Tryd.underlying36 rfl (infoI qY) ?_)
      | (go_at_call 43; refine (kk _).mono ?_; clear kk r1 r2; rintro e w9 ⟨rfl, hb9⟩; (have th := freshR' w9); (have th' := freshRt w9 b))
      | (with_reducible (refine id (?_ : wpList _ _ _ _ _ _)); refine wpList_store_mid rfl 36 _ _ rfl w9.heap.size 0 (i16 b).toArray rfl rfl th' (infoIA b) (oneI b) ?_))
    go_meet
    case rel => exact ⟨w9.heap.size, rfl, below_setCells hb9.size _ _ _ (hb9.alloc hb9.size _), hb9.size, th.stored (i16 b) (by rw [i16_len, i16_len])⟩
  case rest =>
  obtain ⟨g108, rfl, hb108, G108, h108⟩ := hcut
  have lt6 := h6.lt
  replace hpX := hpX.still hb108
  replace hpY := hpY.still hb108
  replace hpZ := hpZ.still hb108
  replace hpT := hpT.still hb108
  replace hqX := hqX.still hb108
  replace hqY := hqY.still hb108
  replace hqZ := hqZ.still hb108
  replace hqT := hqT.still hb108
  replace hd := hd.still hb108
  replace h6 := h6.still hb108
  replace h107 := h107.still hb108
  obtain ⟨U2, hU2⟩ : ∃ W, W = wc := ⟨_, rfl⟩
  rw [← hU2]
  rw [← hU2] at hpX hpY hpZ hpT hqX hqY hqZ hqT hd h6 h107 h108 hb108
  replace hbW : Below w.heap.size w U2 := below_next hbW hb108
  clear hU2 hb108
  have m6_8 : g108 ≠ g6 := by omega
  clear G108 lt6
  go_upto_region 3 with (fail)
  go_cut [9] from 15 (fun s9 wc => ∃ g109, s9 = .pointer (some ⟨g109, 0, none⟩) ∧ Below U2.heap.size U2 wc ∧ U2.heap.size ≤ g109 ∧ RW wc g109 0 (i16 c))
  case first =>
    clear k1 k2 k5 k6 k7 k8 k9 k10 k11 k12 k13 k14 k15 k16 k17
    have hdrew : Below U2.heap.size U2 U2.drew := (Below.refl _ _).drew
    replace hpX := hpX.still hdrew
    replace hpY := hpY.still hdrew
    replace hpZ := hpZ.still hdrew
    replace hpT := hpT.still hdrew
    replace hqX := hqX.still hdrew
    replace hqY := hqY.still hdrew
    replace hqZ := hqZ.still hdrew
    replace hqT := hqT.still hdrew
    replace hd := hd.still hdrew
    replace h6 := h6.still hdrew
    replace h107 := h107.still hdrew
    replace h108 := h108.still hdrew
    refine wp_region_noPanic ?_
    refine wp_region_held_drew (S := fun w' => Below U2.drew.heap.size U2.drew w') (by kernel_rfl) (Below.refl _ _) (fun hS => ?_)
    generalize U2.drew = Vu3_ at *
    refine wpAnyH_take (i := 0) (oi := { dst := some 25, op := Op.fieldAddr 38 (Operand.tmp 3) 3, type := 0, pos := "ref.go:35", after := #[], guard := none }) (v := ?vu3_1) rfl (by kernel_rfl) (by kernel_rfl) (by kernel_rfl) (fun _ _ _ h => h) (Or.inl ⟨by rfl, ?hu3_1⟩) hS ?ru3_1
    case hu3_1 =>
      intro w hSw
      go_simp
      try with_reducible rfl
    (try simp only [Act.put, List.setIfInBounds_toArray, List.set_cons_zero, List.set_cons_succ])
    refine wpAnyH_take (i := 1) (oi := { dst := some 26, op := Op.load 36 (Operand.tmp 25), type := 36, pos := "ref.go:35", after := #[{ on := 0, ground := Ground.data }], guard := none }) (v := rV pT) rfl (by kernel_rfl) (by kernel_rfl) (by kernel_rfl) (fun _ _ _ h => h) (yieldsIf_load_mid (by rfl) 36 _ rfl g3 48 rfl (i16 pT) _ (fun _ h => (hpT.still h).range) Tryd.underlying36 rfl (infoI _)) hS ?_
    (try simp only [Act.put, List.setIfInBounds_toArray, List.set_cons_zero, List.set_cons_succ])
    refine wpAnyH_take (i := 2) (oi := { dst := some 27, op := Op.fieldAddr 38 (Operand.tmp 4) 3, type := 0, pos := "ref.go:35", after := #[], guard := none }) (v := ?vu3_2) rfl (by kernel_rfl) (by kernel_rfl) (by kernel_rfl) (fun _ _ _ h => h) (Or.inl ⟨by rfl, ?hu3_2⟩) hS ?ru3_2
    case hu3_2 =>
      intro w hSw
      go_simp
      try with_reducible rfl
    (try simp only [Act.put, List.setIfInBounds_toArray, List.set_cons_zero, List.set_cons_succ])
    refine wpAnyH_take (i := 3) (oi := { dst := some 28, op := Op.load 36 (Operand.tmp 27), type := 36, pos := "ref.go:35", after := #[{ on := 2, ground := Ground.data }], guard := none }) (v := rV qT) rfl (by kernel_rfl) (by kernel_rfl) (by kernel_rfl) (fun _ _ _ h => h) (yieldsIf_load_mid (by rfl) 36 _ rfl g4 48 rfl (i16 qT) _ (fun _ h => (hqT.still h).range) Tryd.underlying36 rfl (infoI _)) hS ?_
    (try simp only [Act.put, List.setIfInBounds_toArray, List.set_cons_zero, List.set_cons_succ])
    refine wpAnyH_take (i := 5) (oi := { dst := some 30, op := Op.load 36 (Operand.tmp 5), type := 36, pos := "ref.go:35", after := #[], guard := none }) (v := rV dd) rfl (by kernel_rfl) (by kernel_rfl) (by kernel_rfl) (fun _ _ _ h => h) (yieldsIf_load_mid (by rfl) 36 _ rfl g5 0 rfl (i16 dd) _ (fun _ h => (hd.still h).range) Tryd.underlying36 rfl (infoI _)) hS ?_
    (try simp only [Act.put, List.setIfInBounds_toArray, List.set_cons_zero, List.set_cons_succ])
    refine wpAnyH_ready (rs := [4, 7]) (by kernel_rfl) (by simp) ?_
    refine AllReadyH.cons (o := qu3x4) rfl (fun K hK => ?_) (AllReadyH.cons (o := qu3x7) rfl (fun K hK => ?_) (AllReadyH.nil))
    · unfold qu3x4
      go_simp
      (go_at_call 43; refine (k3 _).mono ?_; rintro e wu3_3 ⟨rfl, hbu3_3⟩)
      (try go_simp)
      have hSu3_3 := below_next hS hbu3_3
      refine hK.out _ _ hSu3_3 (fun h => ?_)
      clear h hK K hbu3_3
      (try simp only [Act.put, List.setIfInBounds_toArray, List.set_cons_zero, List.set_cons_succ])
      refine wpAnyH_ready (rs := [6, 7]) (by kernel_rfl) (by simp) ?_
      refine AllReadyH.cons (o := qu3x6) rfl (fun K hK => ?_) (AllReadyH.cons (o := qu3x7) rfl (fun K hK => ?_) (AllReadyH.nil))
      · unfold qu3x6
        go_simp
        (go_at_call 43; refine (k4 _).mono ?_; rintro e wu3_4 ⟨rfl, hbu3_4⟩)
        (try go_simp)
        have hSu3_4 := below_next hSu3_3 hbu3_4
        refine hK.out _ _ hSu3_4 (fun h => ?_)
        clear h hK K hbu3_4
        (try simp only [Act.put, List.setIfInBounds_toArray, List.set_cons_zero, List.set_cons_succ])
        refine wpAnyH_ready (rs := [7]) (by kernel_rfl) (by simp) ?_
        refine AllReadyH.cons (o := qu3x7) rfl (fun K hK => ?_) (AllReadyH.nil)
        unfold qu3x7
        go_simp
        obtain ⟨wu3_5, gu3_5, hwu3_5, hgu3_5, hbu3_5, ru3_5⟩ := freshR wu3_4
        rw [hwu3_5, hgu3_5]
        have hSu3_5 := below_next hSu3_4 hbu3_5
        have Gu3_5 : Vu3_.heap.size ≤ gu3_5 := by have := hSu3_4.size; omega
        refine hK.out _ _ hSu3_5 (fun h => ?_)
        clear h hK K hbu3_5 hwu3_5 hgu3_5
        (try simp only [Act.put, List.setIfInBounds_toArray, List.set_cons_zero, List.set_cons_succ])
        refine wpAnyH_ready (rs := [8]) (by kernel_rfl) (by simp) ?_
        refine AllReadyH.cons (o := qu3x8) rfl (fun K hK => ?_) (AllReadyH.nil)
        unfold qu3x8
        rw [if_pos (by rfl)]
        refine ref_store _ _ rfl gu3_5 (fun _ => 0) c rfl rfl ru3_5 hSu3_5 Gu3_5 (fun wu3_6 r0 hSu3_6 => ?_)
        refine hK.out _ _ hSu3_6 (fun h => ?_)
        clear h hK K ru3_5
        have ru3_5 := r0
        clear r0
        (try dsimp only [Act.put])
        refine wpAnyH_done (by kernel_rfl) ?_ _
        refine NoPanic.normal ?_
        go_wp2
        go_meet
        case rel => exact ⟨gu3_5, rfl, below_next hdrew hSu3_6, Nat.le_trans hdrew.size Gu3_5, ru3_5⟩
      · unfold qu3x7
        go_simp
        obtain ⟨wu3_7, gu3_7, hwu3_7, hgu3_7, hbu3_7, ru3_7⟩ := freshR wu3_3
        rw [hwu3_7, hgu3_7]
        have hSu3_7 := below_next hSu3_3 hbu3_7
        have Gu3_7 : Vu3_.heap.size ≤ gu3_7 := by have := hSu3_3.size; omega
        refine hK.out _ _ hSu3_7 (fun h => ?_)
        clear h hK K hbu3_7 hwu3_7 hgu3_7
        (try simp only [Act.put, List.setIfInBounds_toArray, List.set_cons_zero, List.set_cons_succ])
        refine wpAnyH_ready (rs := [6]) (by kernel_rfl) (by simp) ?_
        refine AllReadyH.cons (o := qu3x6) rfl (fun K hK => ?_) (AllReadyH.nil)
        unfold qu3x6
        go_simp
        (go_at_call 43; refine (k4 _).mono ?_; rintro e wu3_8 ⟨rfl, hbu3_8⟩)
        (try go_simp)
        have hSu3_8 := below_next hSu3_7 hbu3_8
        replace ru3_7 := ru3_7.still hbu3_8
        refine hK.out _ _ hSu3_8 (fun h => ?_)
        clear h hK K hbu3_8
        (try simp only [Act.put, List.setIfInBounds_toArray, List.set_cons_zero, List.set_cons_succ])
        refine wpAnyH_ready (rs := [8]) (by kernel_rfl) (by simp) ?_
        refine AllReadyH.cons (o := qu3x8) rfl (fun K hK => ?_) (AllReadyH.nil)
        unfold qu3x8
        rw [if_pos (by rfl)]
        refine ref_store _ _ rfl gu3_7 (fun _ => 0) c rfl rfl ru3_7 hSu3_8 Gu3_7 (fun wu3_9 r0 hSu3_9 => ?_)
        refine hK.out _ _ hSu3_9 (fun h => ?_)
        clear h hK K ru3_7
        have ru3_7 := r0
        clear r0
        (try dsimp only [Act.put])
        refine wpAnyH_done (by kernel_rfl) ?_ _
        refine NoPanic.normal ?_
        go_wp2
        go_meet
        case rel => exact ⟨gu3_7, rfl, below_next hdrew hSu3_9, Nat.le_trans hdrew.size Gu3_7, ru3_7⟩
    · unfold qu3x7
      go_simp
      obtain ⟨wu3_10, gu3_10, hwu3_10, hgu3_10, hbu3_10, ru3_10⟩ := freshR Vu3_
      rw [hwu3_10, hgu3_10]
      have hSu3_10 := below_next hS hbu3_10
      have Gu3_10 : Vu3_.heap.size ≤ gu3_10 := by have := hS.size; omega
      refine hK.out _ _ hSu3_10 (fun h => ?_)
      clear h hK K hbu3_10 hwu3_10 hgu3_10
      (try simp only [Act.put, List.setIfInBounds_toArray, List.set_cons_zero, List.set_cons_succ])
      refine wpAnyH_ready (rs := [4]) (by kernel_rfl) (by simp) ?_
      refine AllReadyH.cons (o := qu3x4) rfl (fun K hK => ?_) (AllReadyH.nil)
      unfold qu3x4
      go_simp
      (go_at_call 43; refine (k3 _).mono ?_; rintro e wu3_11 ⟨rfl, hbu3_11⟩)
      (try go_simp)
      have hSu3_11 := below_next hSu3_10 hbu3_11
      replace ru3_10 := ru3_10.still hbu3_11
      refine hK.out _ _ hSu3_11 (fun h => ?_)
      clear h hK K hbu3_11
      (try simp only [Act.put, List.setIfInBounds_toArray, List.set_cons_zero, List.set_cons_succ])
      refine wpAnyH_ready (rs := [6]) (by kernel_rfl) (by simp) ?_
      refine AllReadyH.cons (o := qu3x6) rfl (fun K hK => ?_) (AllReadyH.nil)
      unfold qu3x6
      go_simp
      (go_at_call 43; refine (k4 _).mono ?_; rintro e wu3_12 ⟨rfl, hbu3_12⟩)
      (try go_simp)
      have hSu3_12 := below_next hSu3_11 hbu3_12
      replace ru3_10 := ru3_10.still hbu3_12
      refine hK.out _ _ hSu3_12 (fun h => ?_)
      clear h hK K hbu3_12
      (try simp only [Act.put, List.setIfInBounds_toArray, List.set_cons_zero, List.set_cons_succ])
      refine wpAnyH_ready (rs := [8]) (by kernel_rfl) (by simp) ?_
      refine AllReadyH.cons (o := qu3x8) rfl (fun K hK => ?_) (AllReadyH.nil)
      unfold qu3x8
      rw [if_pos (by rfl)]
      refine ref_store _ _ rfl gu3_10 (fun _ => 0) c rfl rfl ru3_10 hSu3_12 Gu3_10 (fun wu3_13 r0 hSu3_13 => ?_)
      refine hK.out _ _ hSu3_13 (fun h => ?_)
      clear h hK K ru3_10
      have ru3_10 := r0
      clear r0
      (try dsimp only [Act.put])
      refine wpAnyH_done (by kernel_rfl) ?_ _
      refine NoPanic.normal ?_
      go_wp2
      go_meet
      case rel => exact ⟨gu3_10, rfl, below_next hdrew hSu3_13, Nat.le_trans hdrew.size Gu3_10, ru3_10⟩
  case rest =>
  obtain ⟨g109, rfl, hb109, G109, h109⟩ := hcut
  have lt6 := h6.lt
  replace hpX := hpX.still hb109
  replace hpY := hpY.still hb109
  replace hpZ := hpZ.still hb109
  replace hpT := hpT.still hb109
  replace hqX := hqX.still hb109
  replace hqY := hqY.still hb109
  replace hqZ := hqZ.still hb109
  replace hqT := hqT.still hb109
  replace hd := hd.still hb109
  replace h6 := h6.still hb109
  replace h107 := h107.still hb109
  replace h108 := h108.still hb109
  obtain ⟨U3, hU3⟩ : ∃ W, W = wc := ⟨_, rfl⟩
  rw [← hU3]
  rw [← hU3] at hpX hpY hpZ hpT hqX hqY hqZ hqT hd h6 h107 h108 h109 hb109
  replace hbW : Below w.heap.size w U3 := below_next hbW hb109
  clear hU3 hb109
  have m6_9 : g109 ≠ g6 := by omega
  clear G109 lt6
  go_upto_region 4 with (fail)
  go_cut [10] from 15 (fun s10 wc => ∃ g110, s10 = .pointer (some ⟨g110, 0, none⟩) ∧ Below U3.heap.size U3 wc ∧ U3.heap.size ≤ g110 ∧ RW wc g110 0 (i16 e0))
  case first =>
    clear k1 k2 k3 k4 k6 k7 k8 k9 k10 k11 k12 k13 k14 k15 k16 k17
    have r1 := hpZ.range
    have r2 := hqZ.range
    have kk : ∀ W, Calls Tryd.prog 43 #[.agg (i16 pZ).toArray, .agg (i16 qZ).toArray] W fun e w' => e = .returned (.agg (i16 e0).toArray) ∧ Below W.heap.size W w' := k5
    clear k5 hpX hpY hpZ hpT hqX hqY hqZ hqT hd h6 h107 h108 h109 hzq
    go_wp2_with (first
      | (refine wpList_load_mid rfl 36 _ rfl g3 32 rfl (i16 pZ) _ r1 Tryd.underlying36 rfl (infoI pZ) ?_)
      | (refine wpList_load_mid rfl 36 _ rfl g4 32 rfl (i16 qZ) _ r2 Tryd.underlying36 rfl (infoI qZ) ?_)
      | (go_at_call 43; refine (kk _).mono ?_; clear kk r1 r2; rintro e w9 ⟨rfl, hb9⟩; (have th := freshR' w9); (have th' := freshRt w9 e0))
      | (with_reducible (refine id (?_ : wpList _ _ _ _ _ _)); refine wpList_store_mid rfl 36 _ _ rfl w9.heap.size 0 (i16 e0).toArray rfl rfl th' (infoIA e0) (oneI e0) ?_))
    go_meet
    case rel => exact ⟨w9.heap.size, rfl, below_setCells hb9.size _ _ _ (hb9.alloc hb9.size _), hb9.size, th.stored (i16 e0) (by rw [i16_len, i16_len])⟩
  case rest =>
  obtain ⟨g110, rfl, hb110, G110, h110⟩ := hcut
  have lt6 := h6.lt
  replace hpX := hpX.still hb110
  replace hpY := hpY.still hb110
  replace hpZ := hpZ.still hb110
  replace hpT := hpT.still hb110
  replace hqX := hqX.still hb110
  replace hqY := hqY.still hb110
  replace hqZ := hqZ.still hb110
  replace hqT := hqT.still hb110
  replace hd := hd.still hb110
  replace h6 := h6.still hb110
  replace h107 := h107.still hb110
  replace h108 := h108.still hb110
  replace h109 := h109.still hb110
  obtain ⟨U4, hU4⟩ : ∃ W, W = wc := ⟨_, rfl⟩
  rw [← hU4]
  rw [← hU4] at hpX hpY hpZ hpT hqX hqY hqZ hqT hd h6 h107 h108 h109 h110 hb110
  replace hbW : Below w.heap.size w U4 := below_next hbW hb110
  clear hU4 hb110
  have m6_10 : g110 ≠ g6 := by omega
  clear G110 lt6
  go_upto_region 5 with (fail)
  go_cut [11] from 15 (fun s11 wc => ∃ g111, s11 = .pointer (some ⟨g111, 0, none⟩) ∧ Below U4.heap.size U4 wc ∧ U4.heap.size ≤ g111 ∧ RW wc g111 0 (i16 f))
  case first =>
    clear k1 k2 k3 k4 k5 k11 k12 k13 k14 k15 k16 k17
    have hdrew : Below U4.heap.size U4 U4.drew := (Below.refl _ _).drew
    replace hpX := hpX.still hdrew
    replace hpY := hpY.still hdrew
    replace hpZ := hpZ.still hdrew
    replace hpT := hpT.still hdrew
    replace hqX := hqX.still hdrew
    replace hqY := hqY.still hdrew
    replace hqZ := hqZ.still hdrew
    replace hqT := hqT.still hdrew
    replace hd := hd.still hdrew
    replace h6 := h6.still hdrew
    replace h107 := h107.still hdrew
    replace h108 := h108.still hdrew
    replace h109 := h109.still hdrew
    replace h110 := h110.still hdrew
    refine wp_region_noPanic ?_
    refine wp_region_held_drew (S := fun w' => Below U4.drew.heap.size U4.drew w') (by kernel_rfl) (Below.refl _ _) (fun hS => ?_)
    generalize U4.drew = Vu5_ at *
    refine wpAnyH_take (i := 0) (oi := { dst := some 37, op := Op.fieldAddr 38 (Operand.tmp 3) 0, type := 0, pos := "ref.go:37", after := #[], guard := none }) (v := ?vu5_1) rfl (by kernel_rfl) (by kernel_rfl) (by kernel_rfl) (fun _ _ _ h => h) (Or.inl ⟨by rfl, ?hu5_1⟩) hS ?ru5_1
    case hu5_1 =>
      intro w hSw
      go_simp
      try with_reducible rfl
    (try simp only [Act.put, List.setIfInBounds_toArray, List.set_cons_zero, List.set_cons_succ])
    refine wpAnyH_take (i := 1) (oi := { dst := some 38, op := Op.load 36 (Operand.tmp 37), type := 36, pos := "ref.go:37", after := #[{ on := 0, ground := Ground.data }], guard := none }) (v := rV pX) rfl (by kernel_rfl) (by kernel_rfl) (by kernel_rfl) (fun _ _ _ h => h) (yieldsIf_load_mid (by rfl) 36 _ rfl g3 0 rfl (i16 pX) _ (fun _ h => (hpX.still h).range) Tryd.underlying36 rfl (infoI _)) hS ?_
    (try simp only [Act.put, List.setIfInBounds_toArray, List.set_cons_zero, List.set_cons_succ])
    refine wpAnyH_take (i := 2) (oi := { dst := some 39, op := Op.fieldAddr 38 (Operand.tmp 3) 1, type := 0, pos := "ref.go:37", after := #[], guard := none }) (v := ?vu5_2) rfl (by kernel_rfl) (by kernel_rfl) (by kernel_rfl) (fun _ _ _ h => h) (Or.inl ⟨by rfl, ?hu5_2⟩) hS ?ru5_2
    case hu5_2 =>
      intro w hSw
      go_simp
      try with_reducible rfl
    (try simp only [Act.put, List.setIfInBounds_toArray, List.set_cons_zero, List.set_cons_succ])
    refine wpAnyH_take (i := 3) (oi := { dst := some 40, op := Op.load 36 (Operand.tmp 39), type := 36, pos := "ref.go:37", after := #[{ on := 2, ground := Ground.data }], guard := none }) (v := rV pY) rfl (by kernel_rfl) (by kernel_rfl) (by kernel_rfl) (fun _ _ _ h => h) (yieldsIf_load_mid (by rfl) 36 _ rfl g3 16 rfl (i16 pY) _ (fun _ h => (hpY.still h).range) Tryd.underlying36 rfl (infoI _)) hS ?_
    (try simp only [Act.put, List.setIfInBounds_toArray, List.set_cons_zero, List.set_cons_succ])
    refine wpAnyH_take (i := 5) (oi := { dst := some 42, op := Op.fieldAddr 38 (Operand.tmp 4) 0, type := 0, pos := "ref.go:37", after := #[], guard := none }) (v := ?vu5_3) rfl (by kernel_rfl) (by kernel_rfl) (by kernel_rfl) (fun _ _ _ h => h) (Or.inl ⟨by rfl, ?hu5_3⟩) hS ?ru5_3
    case hu5_3 =>
      intro w hSw
      go_simp
      try with_reducible rfl
    (try simp only [Act.put, List.setIfInBounds_toArray, List.set_cons_zero, List.set_cons_succ])
    refine wpAnyH_take (i := 6) (oi := { dst := some 43, op := Op.load 36 (Operand.tmp 42), type := 36, pos := "ref.go:37", after := #[{ on := 5, ground := Ground.data }], guard := none }) (v := rV qX) rfl (by kernel_rfl) (by kernel_rfl) (by kernel_rfl) (fun _ _ _ h => h) (yieldsIf_load_mid (by rfl) 36 _ rfl g4 0 rfl (i16 qX) _ (fun _ h => (hqX.still h).range) Tryd.underlying36 rfl (infoI _)) hS ?_
    (try simp only [Act.put, List.setIfInBounds_toArray, List.set_cons_zero, List.set_cons_succ])
    refine wpAnyH_take (i := 7) (oi := { dst := some 44, op := Op.fieldAddr 38 (Operand.tmp 4) 1, type := 0, pos := "ref.go:37", after := #[], guard := none }) (v := ?vu5_4) rfl (by kernel_rfl) (by kernel_rfl) (by kernel_rfl) (fun _ _ _ h => h) (Or.inl ⟨by rfl, ?hu5_4⟩) hS ?ru5_4
    case hu5_4 =>
      intro w hSw
      go_simp
      try with_reducible rfl
    (try simp only [Act.put, List.setIfInBounds_toArray, List.set_cons_zero, List.set_cons_succ])
    refine wpAnyH_take (i := 8) (oi := { dst := some 45, op := Op.load 36 (Operand.tmp 44), type := 36, pos := "ref.go:37", after := #[{ on := 7, ground := Ground.data }], guard := none }) (v := rV qY) rfl (by kernel_rfl) (by kernel_rfl) (by kernel_rfl) (fun _ _ _ h => h) (yieldsIf_load_mid (by rfl) 36 _ rfl g4 16 rfl (i16 qY) _ (fun _ h => (hqY.still h).range) Tryd.underlying36 rfl (infoI _)) hS ?_
    (try simp only [Act.put, List.setIfInBounds_toArray, List.set_cons_zero, List.set_cons_succ])
    refine wpAnyH_take (i := 11) (oi := { dst := some 48, op := Op.load 36 (Operand.tmp 7), type := 36, pos := "ref.go:37", after := #[], guard := none }) (v := rV a) rfl (by kernel_rfl) (by kernel_rfl) (by kernel_rfl) (fun _ _ _ h => h) (yieldsIf_load_mid (by rfl) 36 _ rfl g107 0 rfl (i16 a) _ (fun _ h => (h107.still h).range) Tryd.underlying36 rfl (infoI _)) hS ?_
    (try simp only [Act.put, List.setIfInBounds_toArray, List.set_cons_zero, List.set_cons_succ])
    refine wpAnyH_take (i := 13) (oi := { dst := some 50, op := Op.load 36 (Operand.tmp 8), type := 36, pos := "ref.go:37", after := #[], guard := none }) (v := rV b) rfl (by kernel_rfl) (by kernel_rfl) (by kernel_rfl) (fun _ _ _ h => h) (yieldsIf_load_mid (by rfl) 36 _ rfl g108 0 rfl (i16 b) _ (fun _ h => (h108.still h).range) Tryd.underlying36 rfl (infoI _)) hS ?_
    (try simp only [Act.put, List.setIfInBounds_toArray, List.set_cons_zero, List.set_cons_succ])
    refine wpAnyH_ready (rs := [4, 15]) (by kernel_rfl) (by simp) ?_
    refine AllReadyH.cons (o := qu5x4) rfl (fun K hK => ?_) (AllReadyH.cons (o := qu5x15) rfl (fun K hK => ?_) (AllReadyH.nil))
    · unfold qu5x4
      go_simp
      (go_at_call 46; refine (k6 _).mono ?_; rintro e wu5_5 ⟨rfl, hbu5_5⟩)
      (try go_simp)
      have hSu5_5 := below_next hS hbu5_5
      refine hK.out _ _ hSu5_5 (fun h => ?_)
      clear h hK K hbu5_5
      (try simp only [Act.put, List.setIfInBounds_toArray, List.set_cons_zero, List.set_cons_succ])
      refine wpAnyH_ready (rs := [9, 15]) (by kernel_rfl) (by simp) ?_
      refine AllReadyH.cons (o := qu5x9) rfl (fun K hK => ?_) (AllReadyH.cons (o := qu5x15) rfl (fun K hK => ?_) (AllReadyH.nil))
      · unfold qu5x9
        go_simp
        (go_at_call 46; refine (k7 _).mono ?_; rintro e wu5_6 ⟨rfl, hbu5_6⟩)
        (try go_simp)
        have hSu5_6 := below_next hSu5_5 hbu5_6
        refine hK.out _ _ hSu5_6 (fun h => ?_)
        clear h hK K hbu5_6
        (try simp only [Act.put, List.setIfInBounds_toArray, List.set_cons_zero, List.set_cons_succ])
        refine wpAnyH_ready (rs := [10, 15]) (by kernel_rfl) (by simp) ?_
        refine AllReadyH.cons (o := qu5x10) rfl (fun K hK => ?_) (AllReadyH.cons (o := qu5x15) rfl (fun K hK => ?_) (AllReadyH.nil))
        · unfold qu5x10
          go_simp
          (go_at_call 43; refine (k8 _).mono ?_; rintro e wu5_7 ⟨rfl, hbu5_7⟩)
          (try go_simp)
          have hSu5_7 := below_next hSu5_6 hbu5_7
          refine hK.out _ _ hSu5_7 (fun h => ?_)
          clear h hK K hbu5_7
          (try simp only [Act.put, List.setIfInBounds_toArray, List.set_cons_zero, List.set_cons_succ])
          refine wpAnyH_ready (rs := [12, 15]) (by kernel_rfl) (by simp) ?_
          refine AllReadyH.cons (o := qu5x12) rfl (fun K hK => ?_) (AllReadyH.cons (o := qu5x15) rfl (fun K hK => ?_) (AllReadyH.nil))
          · unfold qu5x12
            go_simp
            (go_at_call 45; refine (k9 _).mono ?_; rintro e wu5_8 ⟨rfl, hbu5_8⟩)
            (try go_simp)
            have hSu5_8 := below_next hSu5_7 hbu5_8
            refine hK.out _ _ hSu5_8 (fun h => ?_)
            clear h hK K hbu5_8
            (try simp only [Act.put, List.setIfInBounds_toArray, List.set_cons_zero, List.set_cons_succ])
            refine wpAnyH_ready (rs := [14, 15]) (by kernel_rfl) (by simp) ?_
            refine AllReadyH.cons (o := qu5x14) rfl (fun K hK => ?_) (AllReadyH.cons (o := qu5x15) rfl (fun K hK => ?_) (AllReadyH.nil))
            · unfold qu5x14
              go_simp
              (go_at_call 45; refine (k10 _).mono ?_; rintro e wu5_9 ⟨rfl, hbu5_9⟩)
              (try go_simp)
              have hSu5_9 := below_next hSu5_8 hbu5_9
              refine hK.out _ _ hSu5_9 (fun h => ?_)
              clear h hK K hbu5_9
              (try simp only [Act.put, List.setIfInBounds_toArray, List.set_cons_zero, List.set_cons_succ])
              refine wpAnyH_ready (rs := [15]) (by kernel_rfl) (by simp) ?_
              refine AllReadyH.cons (o := qu5x15) rfl (fun K hK => ?_) (AllReadyH.nil)
              unfold qu5x15
              go_simp
              obtain ⟨wu5_10, gu5_10, hwu5_10, hgu5_10, hbu5_10, ru5_10⟩ := freshR wu5_9
              rw [hwu5_10, hgu5_10]
              have hSu5_10 := below_next hSu5_9 hbu5_10
              have Gu5_10 : Vu5_.heap.size ≤ gu5_10 := by have := hSu5_9.size; omega
              refine hK.out _ _ hSu5_10 (fun h => ?_)
              clear h hK K hbu5_10 hwu5_10 hgu5_10
              (try simp only [Act.put, List.setIfInBounds_toArray, List.set_cons_zero, List.set_cons_succ])
              refine wpAnyH_ready (rs := [16]) (by kernel_rfl) (by simp) ?_
              refine AllReadyH.cons (o := qu5x16) rfl (fun K hK => ?_) (AllReadyH.nil)
              unfold qu5x16
              rw [if_pos (by rfl)]
              refine ref_store _ _ rfl gu5_10 (fun _ => 0) f rfl rfl ru5_10 hSu5_10 Gu5_10 (fun wu5_11 r0 hSu5_11 => ?_)
              refine hK.out _ _ hSu5_11 (fun h => ?_)
              clear h hK K ru5_10
              have ru5_10 := r0
              clear r0
              (try dsimp only [Act.put])
              refine wpAnyH_done (by kernel_rfl) ?_ _
              refine NoPanic.normal ?_
              go_wp2
              go_meet
              case rel => exact ⟨gu5_10, rfl, below_next hdrew hSu5_11, Nat.le_trans hdrew.size Gu5_10, ru5_10⟩
            · unfold qu5x15
              go_simp
              obtain ⟨wu5_12, gu5_12, hwu5_12, hgu5_12, hbu5_12, ru5_12⟩ := freshR wu5_8
              rw [hwu5_12, hgu5_12]
              have hSu5_12 := below_next hSu5_8 hbu5_12
              have Gu5_12 : Vu5_.heap.size ≤ gu5_12 := by have := hSu5_8.size; omega
              refine hK.out _ _ hSu5_12 (fun h => ?_)
              clear h hK K hbu5_12 hwu5_12 hgu5_12
              (try simp only [Act.put, List.setIfInBounds_toArray, List.set_cons_zero, List.set_cons_succ])
              refine wpAnyH_ready (rs := [14]) (by kernel_rfl) (by simp) ?_
              refine AllReadyH.cons (o := qu5x14) rfl (fun K hK => ?_) (AllReadyH.nil)
              unfold qu5x14
              go_simp
              (go_at_call 45; refine (k10 _).mono ?_; rintro e wu5_13 ⟨rfl, hbu5_13⟩)
              (try go_simp)
              have hSu5_13 := below_next hSu5_12 hbu5_13
              replace ru5_12 := ru5_12.still hbu5_13
              refine hK.out _ _ hSu5_13 (fun h => ?_)
              clear h hK K hbu5_13
              (try simp only [Act.put, List.setIfInBounds_toArray, List.set_cons_zero, List.set_cons_succ])
              refine wpAnyH_ready (rs := [16]) (by kernel_rfl) (by simp) ?_
              refine AllReadyH.cons (o := qu5x16) rfl (fun K hK => ?_) (AllReadyH.nil)
              unfold qu5x16
              rw [if_pos (by rfl)]
              refine ref_store _ _ rfl gu5_12 (fun _ => 0) f rfl rfl ru5_12 hSu5_13 Gu5_12 (fun wu5_14 r0 hSu5_14 => ?_)
              refine hK.out _ _ hSu5_14 (fun h => ?_)
              clear h hK K ru5_12
              have ru5_12 := r0
              clear r0
              (try dsimp only [Act.put])
              refine wpAnyH_done (by kernel_rfl) ?_ _
              refine NoPanic.normal ?_
              go_wp2
              go_meet
              case rel => exact ⟨gu5_12, rfl, below_next hdrew hSu5_14, Nat.le_trans hdrew.size Gu5_12, ru5_12⟩
          · unfold qu5x15
            go_simp
            obtain ⟨wu5_15, gu5_15, hwu5_15, hgu5_15, hbu5_15, ru5_15⟩ := freshR wu5_7
            rw [hwu5_15, hgu5_15]
            have hSu5_15 := below_next hSu5_7 hbu5_15
            have Gu5_15 : Vu5_.heap.size ≤ gu5_15 := by have := hSu5_7.size; omega
            refine hK.out _ _ hSu5_15 (fun h => ?_)
            clear h hK K hbu5_15 hwu5_15 hgu5_15
            (try simp only [Act.put, List.setIfInBounds_toArray, List.set_cons_zero, List.set_cons_succ])
            refine wpAnyH_ready (rs := [12]) (by kernel_rfl) (by simp) ?_
            refine AllReadyH.cons (o := qu5x12) rfl (fun K hK => ?_) (AllReadyH.nil)
            unfold qu5x12
            go_simp
            (go_at_call 45; refine (k9 _).mono ?_; rintro e wu5_16 ⟨rfl, hbu5_16⟩)
            (try go_simp)
            have hSu5_16 := below_next hSu5_15 hbu5_16
            replace ru5_15 := ru5_15.still hbu5_16
            refine hK.out _ _ hSu5_16 (fun h => ?_)
            clear h hK K hbu5_16
            (try simp only [Act.put, List.setIfInBounds_toArray, List.set_cons_zero, List.set_cons_succ])
            refine wpAnyH_ready (rs := [14]) (by kernel_rfl) (by simp) ?_
            refine AllReadyH.cons (o := qu5x14) rfl (fun K hK => ?_) (AllReadyH.nil)
            unfold qu5x14
            go_simp
            (go_at_call 45; refine (k10 _).mono ?_; rintro e wu5_17 ⟨rfl, hbu5_17⟩)
            (try go_simp)
            have hSu5_17 := below_next hSu5_16 hbu5_17
            replace ru5_15 := ru5_15.still hbu5_17
            refine hK.out _ _ hSu5_17 (fun h => ?_)
            clear h hK K hbu5_17
            (try simp only [Act.put, List.setIfInBounds_toArray, List.set_cons_zero, List.set_cons_succ])
            refine wpAnyH_ready (rs := [16]) (by kernel_rfl) (by simp) ?_
            refine AllReadyH.cons (o := qu5x16) rfl (fun K hK => ?_) (AllReadyH.nil)
            unfold qu5x16
            rw [if_pos (by rfl)]
            refine ref_store _ _ rfl gu5_15 (fun _ => 0) f rfl rfl ru5_15 hSu5_17 Gu5_15 (fun wu5_18 r0 hSu5_18 => ?_)
            refine hK.out _ _ hSu5_18 (fun h => ?_)
            clear h hK K ru5_15
            have ru5_15 := r0
            clear r0
            (try dsimp only [Act.put])
            refine wpAnyH_done (by kernel_rfl) ?_ _
            refine NoPanic.normal ?_
            go_wp2
            go_meet
            case rel => exact ⟨gu5_15, rfl, below_next hdrew hSu5_18, Nat.le_trans hdrew.size Gu5_15, ru5_15⟩
        · unfold qu5x15
          go_simp
          obtain ⟨wu5_19, gu5_19, hwu5_19, hgu5_19, hbu5_19, ru5_19⟩ := freshR wu5_6
          rw [hwu5_19, hgu5_19]
          have hSu5_19 := below_next hSu5_6 hbu5_19
          have Gu5_19 : Vu5_.heap.size ≤ gu5_19 := by have := hSu5_6.size; omega
          refine hK.out _ _ hSu5_19 (fun h => ?_)
          clear h hK K hbu5_19 hwu5_19 hgu5_19
          (try simp only [Act.put, List.setIfInBounds_toArray, List.set_cons_zero, List.set_cons_succ])
          refine wpAnyH_ready (rs := [10]) (by kernel_rfl) (by simp) ?_
          refine AllReadyH.cons (o := qu5x10) rfl (fun K hK => ?_) (AllReadyH.nil)
          unfold qu5x10
          go_simp
          (go_at_call 43; refine (k8 _).mono ?_; rintro e wu5_20 ⟨rfl, hbu5_20⟩)
          (try go_simp)
          have hSu5_20 := below_next hSu5_19 hbu5_20
          replace ru5_19 := ru5_19.still hbu5_20
          refine hK.out _ _ hSu5_20 (fun h => ?_)
          clear h hK K hbu5_20
          (try simp only [Act.put, List.setIfInBounds_toArray, List.set_cons_zero, List.set_cons_succ])
          refine wpAnyH_ready (rs := [12]) (by kernel_rfl) (by simp) ?_
          refine AllReadyH.cons (o := qu5x12) rfl (fun K hK => ?_) (AllReadyH.nil)
          unfold qu5x12
          go_simp
          (go_at_call 45; refine (k9 _).mono ?_; rintro e wu5_21 ⟨rfl, hbu5_21⟩)
          (try go_simp)
          have hSu5_21 := below_next hSu5_20 hbu5_21
          replace ru5_19 := ru5_19.still hbu5_21
          refine hK.out _ _ hSu5_21 (fun h => ?_)
          clear h hK K hbu5_21
          (try simp only [Act.put, List.setIfInBounds_toArray, List.set_cons_zero, List.set_cons_succ])
          refine wpAnyH_ready (rs := [14]) (by kernel_rfl) (by simp) ?_
          refine AllReadyH.cons (o := qu5x14) rfl (fun K hK => ?_) (AllReadyH.nil)
          unfold qu5x14
          go_simp
          (go_at_call 45; refine (k10 _).mono ?_; rintro e wu5_22 ⟨rfl, hbu5_22⟩)
          (try go_simp)
          have hSu5_22 := below_next hSu5_21 hbu5_22
          replace ru5_19 := ru5_19.still hbu5_22
          refine hK.out _ _ hSu5_22 (fun h => ?_)
          clear h hK K hbu5_22
          (try simp only [Act.put, List.setIfInBounds_toArray, List.set_cons_zero, List.set_cons_succ])
          refine wpAnyH_ready (rs := [16]) (by kernel_rfl) (by simp) ?_
          refine AllReadyH.cons (o := qu5x16) rfl (fun K hK => ?_) (AllReadyH.nil)
          unfold qu5x16
          rw [if_pos (by rfl)]
          refine ref_store _ _ rfl gu5_19 (fun _ => 0) f rfl rfl ru5_19 hSu5_22 Gu5_19 (fun wu5_23 r0 hSu5_23 => ?_)
          refine hK.out _ _ hSu5_23 (fun h => ?_)
          clear h hK K ru5_19
          have ru5_19 := r0
          clear r0
          (try dsimp only [Act.put])
          refine wpAnyH_done (by kernel_rfl) ?_ _
          refine NoPanic.normal ?_
          go_wp2
          go_meet
          case rel => exact ⟨gu5_19, rfl, below_next hdrew hSu5_23, Nat.le_trans hdrew.size Gu5_19, ru5_19⟩
      · unfold qu5x15
        go_simp
        obtain ⟨wu5_24, gu5_24, hwu5_24, hgu5_24, hbu5_24, ru5_24⟩ := freshR wu5_5
        rw [hwu5_24, hgu5_24]
        have hSu5_24 := below_next hSu5_5 hbu5_24
        have Gu5_24 : Vu5_.heap.size ≤ gu5_24 := by have := hSu5_5.size; omega
        refine hK.out _ _ hSu5_24 (fun h => ?_)
        clear h hK K hbu5_24 hwu5_24 hgu5_24
        (try simp only [Act.put, List.setIfInBounds_toArray, List.set_cons_zero, List.set_cons_succ])
        refine wpAnyH_ready (rs := [9]) (by kernel_rfl) (by simp) ?_
        refine AllReadyH.cons (o := qu5x9) rfl (fun K hK => ?_) (AllReadyH.nil)
        unfold qu5x9
        go_simp
        (go_at_call 46; refine (k7 _).mono ?_; rintro e wu5_25 ⟨rfl, hbu5_25⟩)
        (try go_simp)
        have hSu5_25 := below_next hSu5_24 hbu5_25
        replace ru5_24 := ru5_24.still hbu5_25
        refine hK.out _ _ hSu5_25 (fun h => ?_)
        clear h hK K hbu5_25
        (try simp only [Act.put, List.setIfInBounds_toArray, List.set_cons_zero, List.set_cons_succ])
        refine wpAnyH_ready (rs := [10]) (by kernel_rfl) (by simp) ?_
        refine AllReadyH.cons (o := qu5x10) rfl (fun K hK => ?_) (AllReadyH.nil)
        unfold qu5x10
        go_simp
        (go_at_call 43; refine (k8 _).mono ?_; rintro e wu5_26 ⟨rfl, hbu5_26⟩)
        (try go_simp)
        have hSu5_26 := below_next hSu5_25 hbu5_26
        replace ru5_24 := ru5_24.still hbu5_26
        refine hK.out _ _ hSu5_26 (fun h => ?_)
        clear h hK K hbu5_26
        (try simp only [Act.put, List.setIfInBounds_toArray, List.set_cons_zero, List.set_cons_succ])
        refine wpAnyH_ready (rs := [12]) (by kernel_rfl) (by simp) ?_
        refine AllReadyH.cons (o := qu5x12) rfl (fun K hK => ?_) (AllReadyH.nil)
        unfold qu5x12
        go_simp
        (go_at_call 45; refine (k9 _).mono ?_; rintro e wu5_27 ⟨rfl, hbu5_27⟩)
        (try go_simp)
        have hSu5_27 := below_next hSu5_26 hbu5_27
        replace ru5_24 := ru5_24.still hbu5_27
        refine hK.out _ _ hSu5_27 (fun h => ?_)
        clear h hK K hbu5_27
        (try simp only [Act.put, List.setIfInBounds_toArray, List.set_cons_zero, List.set_cons_succ])
        refine wpAnyH_ready (rs := [14]) (by kernel_rfl) (by simp) ?_
        refine AllReadyH.cons (o := qu5x14) rfl (fun K hK => ?_) (AllReadyH.nil)
        unfold qu5x14
        go_simp
        (go_at_call 45; refine (k10 _).mono ?_; rintro e wu5_28 ⟨rfl, hbu5_28⟩)
        (try go_simp)
        have hSu5_28 := below_next hSu5_27 hbu5_28
        replace ru5_24 := ru5_24.still hbu5_28
        refine hK.out _ _ hSu5_28 (fun h => ?_)
        clear h hK K hbu5_28
        (try simp only [Act.put, List.setIfInBounds_toArray, List.set_cons_zero, List.set_cons_succ])
        refine wpAnyH_ready (rs := [16]) (by kernel_rfl) (by simp) ?_
        refine AllReadyH.cons (o := qu5x16) rfl (fun K hK => ?_) (AllReadyH.nil)
        unfold qu5x16
        rw [if_pos (by rfl)]
        refine ref_store _ _ rfl gu5_24 (fun _ => 0) f rfl rfl ru5_24 hSu5_28 Gu5_24 (fun wu5_29 r0 hSu5_29 => ?_)
        refine hK.out _ _ hSu5_29 (fun h => ?_)
        clear h hK K ru5_24
        have ru5_24 := r0
        clear r0
        (try dsimp only [Act.put])
        refine wpAnyH_done (by kernel_rfl) ?_ _
        refine NoPanic.normal ?_
        go_wp2
        go_meet
        case rel => exact ⟨gu5_24, rfl, below_next hdrew hSu5_29, Nat.le_trans hdrew.size Gu5_24, ru5_24⟩
    · unfold qu5x15
      go_simp
      obtain ⟨wu5_30, gu5_30, hwu5_30, hgu5_30, hbu5_30, ru5_30⟩ := freshR Vu5_
      rw [hwu5_30, hgu5_30]
      have hSu5_30 := below_next hS hbu5_30
      have Gu5_30 : Vu5_.heap.size ≤ gu5_30 := by have := hS.size; omega
      refine hK.out _ _ hSu5_30 (fun h => ?_)
      clear h hK K hbu5_30 hwu5_30 hgu5_30
      (try simp only [Act.put, List.setIfInBounds_toArray, List.set_cons_zero, List.set_cons_succ])
      refine wpAnyH_ready (rs := [4]) (by kernel_rfl) (by simp) ?_
      refine AllReadyH.cons (o := qu5x4) rfl (fun K hK => ?_) (AllReadyH.nil)
      unfold qu5x4
      go_simp
      (go_at_call 46; refine (k6 _).mono ?_; rintro e wu5_31 ⟨rfl, hbu5_31⟩)
      (try go_simp)
      have hSu5_31 := below_next hSu5_30 hbu5_31
      replace ru5_30 := ru5_30.still hbu5_31
      refine hK.out _ _ hSu5_31 (fun h => ?_)
      clear h hK K hbu5_31
      (try simp only [Act.put, List.setIfInBounds_toArray, List.set_cons_zero, List.set_cons_succ])
      refine wpAnyH_ready (rs := [9]) (by kernel_rfl) (by simp) ?_
      refine AllReadyH.cons (o := qu5x9) rfl (fun K hK => ?_) (AllReadyH.nil)
      unfold qu5x9
      go_simp
      (go_at_call 46; refine (k7 _).mono ?_; rintro e wu5_32 ⟨rfl, hbu5_32⟩)
      (try go_simp)
      have hSu5_32 := below_next hSu5_31 hbu5_32
      replace ru5_30 := ru5_30.still hbu5_32
      refine hK.out _ _ hSu5_32 (fun h => ?_)
      clear h hK K hbu5_32
      (try simp only [Act.put, List.setIfInBounds_toArray, List.set_cons_zero, List.set_cons_succ])
      refine wpAnyH_ready (rs := [10]) (by kernel_rfl) (by simp) ?_
      refine AllReadyH.cons (o := qu5x10) rfl (fun K hK => ?_) (AllReadyH.nil)
      unfold qu5x10
      go_simp
      (go_at_call 43; refine (k8 _).mono ?_; rintro e wu5_33 ⟨rfl, hbu5_33⟩)
      (try go_simp)
      have hSu5_33 := below_next hSu5_32 hbu5_33
      replace ru5_30 := ru5_30.still hbu5_33
      refine hK.out _ _ hSu5_33 (fun h => ?_)
      clear h hK K hbu5_33
      (try simp only [Act.put, List.setIfInBounds_toArray, List.set_cons_zero, List.set_cons_succ])
      refine wpAnyH_ready (rs := [12]) (by kernel_rfl) (by simp) ?_
      refine AllReadyH.cons (o := qu5x12) rfl (fun K hK => ?_) (AllReadyH.nil)
      unfold qu5x12
      go_simp
      (go_at_call 45; refine (k9 _).mono ?_; rintro e wu5_34 ⟨rfl, hbu5_34⟩)
      (try go_simp)
      have hSu5_34 := below_next hSu5_33 hbu5_34
      replace ru5_30 := ru5_30.still hbu5_34
      refine hK.out _ _ hSu5_34 (fun h => ?_)
      clear h hK K hbu5_34
      (try simp only [Act.put, List.setIfInBounds_toArray, List.set_cons_zero, List.set_cons_succ])
      refine wpAnyH_ready (rs := [14]) (by kernel_rfl) (by simp) ?_
      refine AllReadyH.cons (o := qu5x14) rfl (fun K hK => ?_) (AllReadyH.nil)
      unfold qu5x14
      go_simp
      (go_at_call 45; refine (k10 _).mono ?_; rintro e wu5_35 ⟨rfl, hbu5_35⟩)
      (try go_simp)
      have hSu5_35 := below_next hSu5_34 hbu5_35
      replace ru5_30 := ru5_30.still hbu5_35
      refine hK.out _ _ hSu5_35 (fun h => ?_)
      clear h hK K hbu5_35
      (try simp only [Act.put, List.setIfInBounds_toArray, List.set_cons_zero, List.set_cons_succ])
      refine wpAnyH_ready (rs := [16]) (by kernel_rfl) (by simp) ?_
      refine AllReadyH.cons (o := qu5x16) rfl (fun K hK => ?_) (AllReadyH.nil)
      unfold qu5x16
      rw [if_pos (by rfl)]
      refine ref_store _ _ rfl gu5_30 (fun _ => 0) f rfl rfl ru5_30 hSu5_35 Gu5_30 (fun wu5_36 r0 hSu5_36 => ?_)
      refine hK.out _ _ hSu5_36 (fun h => ?_)
      clear h hK K ru5_30
      have ru5_30 := r0
      clear r0
      (try dsimp only [Act.put])
      refine wpAnyH_done (by kernel_rfl) ?_ _
      refine NoPanic.normal ?_
      go_wp2
      go_meet
      case rel => exact ⟨gu5_30, rfl, below_next hdrew hSu5_36, Nat.le_trans hdrew.size Gu5_30, ru5_30⟩
  case rest =>
  obtain ⟨g111, rfl, hb111, G111, h111⟩ := hcut
  have lt6 := h6.lt
  replace hpX := hpX.still hb111
  replace hpY := hpY.still hb111
  replace hpZ := hpZ.still hb111
  replace hpT := hpT.still hb111
  replace hqX := hqX.still hb111
  replace hqY := hqY.still hb111
  replace hqZ := hqZ.still hb111
  replace hqT := hqT.still hb111
  replace hd := hd.still hb111
  replace h6 := h6.still hb111
  replace h107 := h107.still hb111
  replace h108 := h108.still hb111
  replace h109 := h109.still hb111
  replace h110 := h110.still hb111
  obtain ⟨U5, hU5⟩ : ∃ W, W = wc := ⟨_, rfl⟩
  rw [← hU5]
  rw [← hU5] at hpX hpY hpZ hpT hqX hqY hqZ hqT hd h6 h107 h108 h109 h110 h111 hb111
  replace hbW : Below w.heap.size w U5 := below_next hbW hb111
  clear hU5 hb111
  have m6_11 : g111 ≠ g6 := by omega
  clear G111 lt6
  go_upto_region 6 with (fail)
  go_cut [12] from 15 (fun s12 wc => ∃ g112, s12 = .pointer (some ⟨g112, 0, none⟩) ∧ Below U5.heap.size U5 wc ∧ U5.heap.size ≤ g112 ∧ RW wc g112 0 (i16 g))
  case first =>
    clear k1 k2 k3 k4 k5 k6 k7 k8 k9 k10 k12 k13 k14 k15 k16 k17
    have r1 := h110.range
    have r2 := h109.range
    have kk : ∀ W, Calls Tryd.prog 45 #[.agg (i16 e0).toArray, .agg (i16 c).toArray] W fun e w' => e = .returned (.agg (i16 g).toArray) ∧ Below W.heap.size W w' := k11
    clear k11 hpX hpY hpZ hpT hqX hqY hqZ hqT hd h6 h107 h108 h109 h110 h111 hzq
    go_wp2_with (first
      | (refine wpList_load_mid rfl 36 _ rfl g110 0 rfl (i16 e0) _ r1 Tryd.underlying36 rfl (infoI e0) ?_)
      | (refine wpList_load_mid rfl 36 _ rfl g109 0 rfl (i16 c) _ r2 Tryd.underlying36 rfl (infoI c) ?_)
      | (go_at_call 45; refine (kk _).mono ?_; clear kk r1 r2; rintro e w9 ⟨rfl, hb9⟩; (have th := freshR' w9); (have th' := freshRt w9 g))
      | (with_reducible (refine id (?_ : wpList _ _ _ _ _ _)); refine wpList_store_mid rfl 36 _ _ rfl w9.heap.size 0 (i16 g).toArray rfl rfl th' (infoIA g) (oneI g) ?_))
    go_meet
    case rel => exact ⟨w9.heap.size, rfl, below_setCells hb9.size _ _ _ (hb9.alloc hb9.size _), hb9.size, th.stored (i16 g) (by rw [i16_len, i16_len])⟩
  case rest =>
  obtain ⟨g112, rfl, hb112, G112, h112⟩ := hcut
  have lt6 := h6.lt
  replace hpX := hpX.still hb112
  replace hpY := hpY.still hb112
  replace hpZ := hpZ.still hb112
  replace hpT := hpT.still hb112
  replace hqX := hqX.still hb112
  replace hqY := hqY.still hb112
  replace hqZ := hqZ.still hb112
  replace hqT := hqT.still hb112
  replace hd := hd.still hb112
  replace h6 := h6.still hb112
  replace h107 := h107.still hb112
  replace h108 := h108.still hb112
  replace h109 := h109.still hb112
  replace h110 := h110.still hb112
  replace h111 := h111.still hb112
  obtain ⟨U6, hU6⟩ : ∃ W, W = wc := ⟨_, rfl⟩
  rw [← hU6]
  rw [← hU6] at hpX hpY hpZ hpT hqX hqY hqZ hqT hd h6 h107 h108 h109 h110 h111 h112 hb112
  replace hbW : Below w.heap.size w U6 := below_next hbW hb112
  clear hU6 hb112
  have m6_12 : g112 ≠ g6 := by omega
  clear G112 lt6
  go_upto_region 7 with (fail)
  go_cut [13] from 15 (fun s13 wc => ∃ g113, s13 = .pointer (some ⟨g113, 0, none⟩) ∧ Below U6.heap.size U6 wc ∧ U6.heap.size ≤ g113 ∧ RW wc g113 0 (i16 h))
  case first =>
    clear k1 k2 k3 k4 k5 k6 k7 k8 k9 k10 k11 k13 k14 k15 k16 k17
    have r1 := h110.range
    have r2 := h109.range
    have kk : ∀ W, Calls Tryd.prog 46 #[.agg (i16 e0).toArray, .agg (i16 c).toArray] W fun e w' => e = .returned (.agg (i16 h).toArray) ∧ Below W.heap.size W w' := k12
    clear k12 hpX hpY hpZ hpT hqX hqY hqZ hqT hd h6 h107 h108 h109 h110 h111 h112 hzq
    go_wp2_with (first
      | (refine wpList_load_mid rfl 36 _ rfl g110 0 rfl (i16 e0) _ r1 Tryd.underlying36 rfl (infoI e0) ?_)
      | (refine wpList_load_mid rfl 36 _ rfl g109 0 rfl (i16 c) _ r2 Tryd.underlying36 rfl (infoI c) ?_)
      | (go_at_call 46; refine (kk _).mono ?_; clear kk r1 r2; rintro e w9 ⟨rfl, hb9⟩; (have th := freshR' w9); (have th' := freshRt w9 h))
      | (with_reducible (refine id (?_ : wpList _ _ _ _ _ _)); refine wpList_store_mid rfl 36 _ _ rfl w9.heap.size 0 (i16 h).toArray rfl rfl th' (infoIA h) (oneI h) ?_))
    go_meet
    case rel => exact ⟨w9.heap.size, rfl, below_setCells hb9.size _ _ _ (hb9.alloc hb9.size _), hb9.size, th.stored (i16 h) (by rw [i16_len, i16_len])⟩
  case rest =>
  obtain ⟨g113, rfl, hb113, G113, h113⟩ := hcut
  have lt6 := h6.lt
  replace hpX := hpX.still hb113
  replace hpY := hpY.still hb113
  replace hpZ := hpZ.still hb113
  replace hpT := hpT.still hb113
  replace hqX := hqX.still hb113
  replace hqY := hqY.still hb113
  replace hqZ := hqZ.still hb113
  replace hqT := hqT.still hb113
  replace hd := hd.still hb113
  replace h6 := h6.still hb113
  replace h107 := h107.still hb113
  replace h108 := h108.still hb113
  replace h109 := h109.still hb113
  replace h110 := h110.still hb113
  replace h111 := h111.still hb113
  replace h112 := h112.still hb113
  obtain ⟨U7, hU7⟩ : ∃ W, W = wc := ⟨_, rfl⟩
  rw [← hU7]
  rw [← hU7] at hpX hpY hpZ hpT hqX hqY hqZ hqT hd h6 h107 h108 h109 h110 h111 h112 h113 hb113
  replace hbW : Below w.heap.size w U7 := below_next hbW hb113
  clear hU7 hb113
  have m6_13 : g113 ≠ g6 := by omega
  clear G113 lt6
  go_upto_region 8 with (fail)
  go_cut [14] from 15 (fun s14 wc => ∃ g114, s14 = .pointer (some ⟨g114, 0, none⟩) ∧ Below U7.heap.size U7 wc ∧ U7.heap.size ≤ g114 ∧ RW wc g114 0 (i16 s))
  case first =>
    clear k1 k2 k3 k4 k5 k6 k7 k8 k9 k10 k11 k12 k14 k15 k16 k17
    have r1 := h108.range
    have r2 := h107.range
    have kk : ∀ W, Calls Tryd.prog 46 #[.agg (i16 b).toArray, .agg (i16 a).toArray] W fun e w' => e = .returned (.agg (i16 s).toArray) ∧ Below W.heap.size W w' := k13
    clear k13 hpX hpY hpZ hpT hqX hqY hqZ hqT hd h6 h107 h108 h109 h110 h111 h112 h113 hzq
    go_wp2_with (first
      | (refine wpList_load_mid rfl 36 _ rfl g108 0 rfl (i16 b) _ r1 Tryd.underlying36 rfl (infoI b) ?_)
      | (refine wpList_load_mid rfl 36 _ rfl g107 0 rfl (i16 a) _ r2 Tryd.underlying36 rfl (infoI a) ?_)
      | (go_at_call 46; refine (kk _).mono ?_; clear kk r1 r2; rintro e w9 ⟨rfl, hb9⟩; (have th := freshR' w9); (have th' := freshRt w9 s))
      | (with_reducible (refine id (?_ : wpList _ _ _ _ _ _)); refine wpList_store_mid rfl 36 _ _ rfl w9.heap.size 0 (i16 s).toArray rfl rfl th' (infoIA s) (oneI s) ?_))
    go_meet
    case rel => exact ⟨w9.heap.size, rfl, below_setCells hb9.size _ _ _ (hb9.alloc hb9.size _), hb9.size, th.stored (i16 s) (by rw [i16_len, i16_len])⟩
  case rest =>
  obtain ⟨g114, rfl, hb114, G114, h114⟩ := hcut
  have lt6 := h6.lt
  replace hpX := hpX.still hb114
  replace hpY := hpY.still hb114
  replace hpZ := hpZ.still hb114
  replace hpT := hpT.still hb114
  replace hqX := hqX.still hb114
  replace hqY := hqY.still hb114
  replace hqZ := hqZ.still hb114
  replace hqT := hqT.still hb114
  replace hd := hd.still hb114
  replace h6 := h6.still hb114
  replace h107 := h107.still hb114
  replace h108 := h108.still hb114
  replace h109 := h109.still hb114
  replace h110 := h110.still hb114
  replace h111 := h111.still hb114
  replace h112 := h112.still hb114
  replace h113 := h113.still hb114
  obtain ⟨U8, hU8⟩ : ∃ W, W = wc := ⟨_, rfl⟩
  rw [← hU8]
  rw [← hU8] at hpX hpY hpZ hpT hqX hqY hqZ hqT hd h6 h107 h108 h109 h110 h111 h112 h113 h114 hb114
  replace hbW : Below w.heap.size w U8 := below_next hbW hb114
  clear hU8 hb114
  have m6_14 : g114 ≠ g6 := by omega
  clear G114 lt6
  go_upto_region 9 with (fail)
  have l6 := h6.lt
  clear k1 k2 k3 k4 k5 k6 k7 k8 k9 k10 k11 k12 k13 hpX hpY hpZ hpT hqX hqY hqZ hqT hd h107 h108 h109 h110
  have hdrew : Below U8.heap.size U8 U8.drew := (Below.refl _ _).drew
  replace h6 := h6.still hdrew
  replace h111 := h111.still hdrew
  replace h112 := h112.still hdrew
  replace h113 := h113.still hdrew
  replace h114 := h114.still hdrew
  refine wp_region_noPanic ?_
  replace l6 := Nat.lt_of_lt_of_le l6 hdrew.size
  refine wp_region_held_drew (S := fun w' => Out g6 0 64 U8.drew w') (by kernel_rfl) (Out.refl _ _ _ _) (fun hS => ?_)
  generalize U8.drew = Vu9_ at *
  refine wpAnyH_take (i := 0) (oi := { dst := some 61, op := Op.load 36 (Operand.tmp 11), type := 36, pos := "ref.go:41", after := #[], guard := none }) (v := rV f) rfl (by kernel_rfl) (by kernel_rfl) (by kernel_rfl) (fun _ _ _ h => h) (yieldsIf_load_mid (by rfl) 36 _ rfl g111 0 rfl (i16 f) _ (fun _ h => (h111.out h m6_11).range) Tryd.underlying36 rfl (infoI _)) hS ?_
  (try simp only [Act.put, List.setIfInBounds_toArray, List.set_cons_zero, List.set_cons_succ])
  refine wpAnyH_take (i := 1) (oi := { dst := some 62, op := Op.load 36 (Operand.tmp 12), type := 36, pos := "ref.go:41", after := #[], guard := none }) (v := rV g) rfl (by kernel_rfl) (by kernel_rfl) (by kernel_rfl) (fun _ _ _ h => h) (yieldsIf_load_mid (by rfl) 36 _ rfl g112 0 rfl (i16 g) _ (fun _ h => (h112.out h m6_12).range) Tryd.underlying36 rfl (infoI _)) hS ?_
  (try simp only [Act.put, List.setIfInBounds_toArray, List.set_cons_zero, List.set_cons_succ])
  refine wpAnyH_take (i := 3) (oi := { dst := some 64, op := Op.load 36 (Operand.tmp 13), type := 36, pos := "ref.go:41", after := #[], guard := none }) (v := rV h) rfl (by kernel_rfl) (by kernel_rfl) (by kernel_rfl) (fun _ _ _ h => h) (yieldsIf_load_mid (by rfl) 36 _ rfl g113 0 rfl (i16 h) _ (fun _ h => (h113.out h m6_13).range) Tryd.underlying36 rfl (infoI _)) hS ?_
  (try simp only [Act.put, List.setIfInBounds_toArray, List.set_cons_zero, List.set_cons_succ])
  refine wpAnyH_take (i := 4) (oi := { dst := some 65, op := Op.load 36 (Operand.tmp 14), type := 36, pos := "ref.go:41", after := #[], guard := none }) (v := rV s) rfl (by kernel_rfl) (by kernel_rfl) (by kernel_rfl) (fun _ _ _ h => h) (yieldsIf_load_mid (by rfl) 36 _ rfl g114 0 rfl (i16 s) _ (fun _ h => (h114.out h m6_14).range) Tryd.underlying36 rfl (infoI _)) hS ?_
  (try simp only [Act.put, List.setIfInBounds_toArray, List.set_cons_zero, List.set_cons_succ])
  refine wpAnyH_take (i := 6) (oi := { dst := some 67, op := Op.load 36 (Operand.tmp 12), type := 36, pos := "ref.go:41", after := #[], guard := none }) (v := rV g) rfl (by kernel_rfl) (by kernel_rfl) (by kernel_rfl) (fun _ _ _ h => h) (yieldsIf_load_mid (by rfl) 36 _ rfl g112 0 rfl (i16 g) _ (fun _ h => (h112.out h m6_12).range) Tryd.underlying36 rfl (infoI _)) hS ?_
  (try simp only [Act.put, List.setIfInBounds_toArray, List.set_cons_zero, List.set_cons_succ])
  refine wpAnyH_take (i := 7) (oi := { dst := some 68, op := Op.load 36 (Operand.tmp 13), type := 36, pos := "ref.go:41", after := #[], guard := none }) (v := rV h) rfl (by kernel_rfl) (by kernel_rfl) (by kernel_rfl) (fun _ _ _ h => h) (yieldsIf_load_mid (by rfl) 36 _ rfl g113 0 rfl (i16 h) _ (fun _ h => (h113.out h m6_13).range) Tryd.underlying36 rfl (infoI _)) hS ?_
  (try simp only [Act.put, List.setIfInBounds_toArray, List.set_cons_zero, List.set_cons_succ])
  refine wpAnyH_take (i := 9) (oi := { dst := some 70, op := Op.load 36 (Operand.tmp 11), type := 36, pos := "ref.go:41", after := #[], guard := none }) (v := rV f) rfl (by kernel_rfl) (by kernel_rfl) (by kernel_rfl) (fun _ _ _ h => h) (yieldsIf_load_mid (by rfl) 36 _ rfl g111 0 rfl (i16 f) _ (fun _ h => (h111.out h m6_11).range) Tryd.underlying36 rfl (infoI _)) hS ?_
  (try simp only [Act.put, List.setIfInBounds_toArray, List.set_cons_zero, List.set_cons_succ])
  refine wpAnyH_take (i := 10) (oi := { dst := some 71, op := Op.load 36 (Operand.tmp 14), type := 36, pos := "ref.go:41", after := #[], guard := none }) (v := rV s) rfl (by kernel_rfl) (by kernel_rfl) (by kernel_rfl) (fun _ _ _ h => h) (yieldsIf_load_mid (by rfl) 36 _ rfl g114 0 rfl (i16 s) _ (fun _ h => (h114.out h m6_14).range) Tryd.underlying36 rfl (infoI _)) hS ?_
  (try simp only [Act.put, List.setIfInBounds_toArray, List.set_cons_zero, List.set_cons_succ])
  refine wpAnyH_ready (rs := [2]) (by kernel_rfl) (by simp) ?_
  refine AllReadyH.cons (o := qu9x2) rfl (fun K hK => ?_) (AllReadyH.nil)
  unfold qu9x2
  go_simp
  (go_at_call 43; refine (k14 _).mono ?_; rintro e wu9_1 ⟨rfl, hbu9_1⟩)
  (try go_simp)
  have hSu9_1 := hS.trans (Out.of_below hbu9_1 l6)
  replace l6 := Nat.lt_of_lt_of_le l6 hbu9_1.size
  replace h6 := h6.still hbu9_1
  refine hK.out _ _ hSu9_1 (fun h => ?_)
  clear h hK K hbu9_1
  (try simp only [Act.put, List.setIfInBounds_toArray, List.set_cons_zero, List.set_cons_succ])
  refine wpAnyH_ready (rs := [5]) (by kernel_rfl) (by simp) ?_
  refine AllReadyH.cons (o := qu9x5) rfl (fun K hK => ?_) (AllReadyH.nil)
  unfold qu9x5
  go_simp
  (go_at_call 43; refine (k15 _).mono ?_; rintro e wu9_2 ⟨rfl, hbu9_2⟩)
  (try go_simp)
  have hSu9_2 := hSu9_1.trans (Out.of_below hbu9_2 l6)
  replace l6 := Nat.lt_of_lt_of_le l6 hbu9_2.size
  replace h6 := h6.still hbu9_2
  refine hK.out _ _ hSu9_2 (fun h => ?_)
  clear h hK K hbu9_2
  (try simp only [Act.put, List.setIfInBounds_toArray, List.set_cons_zero, List.set_cons_succ])
  refine wpAnyH_ready (rs := [8]) (by kernel_rfl) (by simp) ?_
  refine AllReadyH.cons (o := qu9x8) rfl (fun K hK => ?_) (AllReadyH.nil)
  unfold qu9x8
  go_simp
  (go_at_call 43; refine (k16 _).mono ?_; rintro e wu9_3 ⟨rfl, hbu9_3⟩)
  (try go_simp)
  have hSu9_3 := hSu9_2.trans (Out.of_below hbu9_3 l6)
  replace l6 := Nat.lt_of_lt_of_le l6 hbu9_3.size
  replace h6 := h6.still hbu9_3
  refine hK.out _ _ hSu9_3 (fun h => ?_)
  clear h hK K hbu9_3
  (try simp only [Act.put, List.setIfInBounds_toArray, List.set_cons_zero, List.set_cons_succ])
  refine wpAnyH_ready (rs := [11]) (by kernel_rfl) (by simp) ?_
  refine AllReadyH.cons (o := qu9x11) rfl (fun K hK => ?_) (AllReadyH.nil)
  unfold qu9x11
  go_simp
  (go_at_call 43; refine (k17 _).mono ?_; rintro e wu9_4 ⟨rfl, hbu9_4⟩)
  (try go_simp)
  have hSu9_4 := hSu9_3.trans (Out.of_below hbu9_4 l6)
  replace l6 := Nat.lt_of_lt_of_le l6 hbu9_4.size
  replace h6 := h6.still hbu9_4
  refine hK.out _ _ hSu9_4 (fun h => ?_)
  clear h hK K hbu9_4
  (try simp only [Act.put, List.setIfInBounds_toArray, List.set_cons_zero, List.set_cons_succ])
  refine wpAnyH_take (i := 12) (oi := { dst := some 73, op := Op.build 38 #[(0, Operand.tmp 63), (1, Operand.tmp 66), (2, Operand.tmp 69), (3, Operand.tmp 72)], type := 38, pos := "ref.go:41", after := #[{ on := 2, ground := Ground.data }, { on := 5, ground := Ground.data }, { on := 8, ground := Ground.data }, { on := 11, ground := Ground.data }], guard := none }) (v := qV o1 o2 o3 o4) rfl (by kernel_rfl) (by kernel_rfl) (by kernel_rfl) (fun _ _ _ h => h) (yields_build4 (by rfl) 38 _ _ _ _ rfl (rV o1) (rV o2) (rV o3) (rV o4) rfl rfl rfl rfl _ (builtQ _ _ _ _)) hSu9_4 ?_
  (try simp only [Act.put, List.setIfInBounds_toArray, List.set_cons_zero, List.set_cons_succ])
  refine wpAnyH_ready (rs := [13]) (by kernel_rfl) (by simp) ?_
  refine AllReadyH.cons (o := qu9x13) rfl (fun K hK => ?_) (AllReadyH.nil)
  unfold qu9x13
  rw [if_pos (by rfl)]
  refine wp_store_mid 38 _ _ rfl g6 0 (q64 o1 o2 o3 o4).toArray rfl rfl (there64 h6) (infoQA _ _ _ _) (oneQ _ _ _ _) ?_
  have hSu9_5 := hSu9_4.trans (Out.setCells (b := g6) (o := 0) (n := 64) wu9_4 (q64 o1 o2 o3 o4) (Nat.le_refl _) (by rw [q64_len]; exact Nat.le_refl _))
  replace h6 := h6.stored (q64 o1 o2 o3 o4) (q64_same _ _ _ _ _ _ _ _)
  obtain ⟨wu9_5, hwu9_5⟩ : ∃ W, wu9_4.setCells g6 0 (q64 o1 o2 o3 o4) = W := ⟨_, rfl⟩
  rw [hwu9_5] at h6
  rw [hwu9_5] at hSu9_5
  rw [show wu9_4.setCells g6 0 (q64 o1 o2 o3 o4).toArray.toList = wu9_5 from hwu9_5]
  refine hK.out _ _ hSu9_5 (fun h => ?_)
  clear h hK K hwu9_5
  (try dsimp only [Act.put])
  refine wpAnyH_done (by kernel_rfl) ?_ _
  refine NoPanic.normal ?_
  clear k14 k15 k16 k17
  have fin := (hbW.trans (hdrew.mono hbW.size)).trans (hSu9_5.below w6 (Nat.le_trans hbW.size hdrew.size))
  go_wp2
  exact bodyPost_ret (results_cell_mid Tryd.results25 _ _ g6 0 (q64 o1 o2 o3 o4) _ rfl h6.range Tryd.underlying38 rfl (infoQ _ _ _ _)) rfl ⟨rfl, fin⟩
end Go.Proofs.YteekjcfbnoakgaaDoor
namespace Go.Proofs.YteekjcfbnoakgaaDoor
open Go.RowKit
theorem rtimes_w {L M : Nat → Int} {x y : Nat} (hL : Rw L x) (hM : Rw M y) (w : World) : Calls Tryd.prog 43 #[rV L, rV M] w fun e w' => e = .returned (rV (timesL L M)) ∧ Below w.heap.size w w' := rtimes_any L M hL.bd hM.bd w
theorem rplus_w {L M : Nat → Int} {x y : Nat} (hL : Rw L x) (hM : Rw M y) (w : World) : Calls Tryd.prog 46 #[rV L, rV M] w fun e w' => e = .returned (rV (plusL L M)) ∧ Below w.heap.size w w' := rplus_any L M hL.far hM.far w
theorem rminus_w {L M : Nat → Int} {x y : Nat} (hL : Rw L x) (hM : Rw M y) (w : World) : Calls Tryd.prog 45 #[rV L, rV M] w fun e w' => e = .returned (rV (minusL L M)) ∧ Below w.heap.size w w' := rminus_any L M hL.far hM.far w
theorem rw_t {L M : Nat → Int} {x y : Nat} (hL : Rw L x) (hM : Rw M y) : Rw (timesL L M) (fmul x y) := (rw_times hL hM).wide
theorem rplus6_any {r s : P4} {p q : N4} (hr : r.Rep p) (hs : s.Rep q) {D : Nat → Int} {d : Nat} (hD : Rw D d) (w : World) :
    Calls Tryd.prog 25 #[r.V, s.V, rV D] w fun e w' => ∃ t : P4, e = .returned t.V ∧ t.Rep (addN d p q) ∧ Below w.heap.size w w' := by
  have a := rw_t hr.X hs.X
  have b := rw_t hr.Y hs.Y
  have c0 := rw_t hr.T hs.T
  have c := rw_t c0 hD
  have e0 := rw_t hr.Z hs.Z
  have f1 := rww_plus hr.X hr.Y
  have f2 := rww_plus hs.X hs.Y
  have f3 := rw_t f1 f2
  have f4 := rww_minus f3 a (fmul_lt _ _)
  have f := rww_minus f4 b (fmul_lt _ _)
  have g := rww_minus e0 c (fmul_lt _ _)
  have h := rww_plus e0 c
  have s' := rww_plus b a
  have k := rplus6_raw r.X r.Y r.Z r.T s.X s.Y s.Z s.T D _ _ _ _ _ _ _ _ _ _ _ _ _ _ _ _ _
    (fun W => rtimes_w hr.X hs.X W) (fun W => rtimes_w hr.Y hs.Y W) (fun W => rtimes_w hr.T hs.T W) (fun W => rtimes_w c0 hD W) (fun W => rtimes_w hr.Z hs.Z W)
    (fun W => rplus_w hr.X hr.Y W) (fun W => rplus_w hs.X hs.Y W) (fun W => rtimes_w f1 f2 W) (fun W => rminus_w f3 a W) (fun W => rminus_w f4 b W)
    (fun W => rminus_w e0 c W) (fun W => rplus_w e0 c W) (fun W => rplus_w b a W)
    (fun W => rtimes_w f g W) (fun W => rtimes_w h s' W) (fun W => rtimes_w g h W) (fun W => rtimes_w f s' W) w
  exact k.mono fun e w' ⟨he, hb⟩ => ⟨⟨_, _, _, _⟩, he, ⟨rw_t f g, rw_t h s', rw_t g h, rw_t f s'⟩, hb⟩
theorem quot_of' {x z k : Nat} (hk : k < pF) (hz0 : z ≠ 0) (hz : z < pF) (h : k * z % pF = x) : fmul x (finv z) = k := by
  unfold fmul finv
  rw [← h, mulm, Nat.mul_assoc, Nat.mul_mod, inv_mul hz0 hz, Nat.mul_one, Nat.mod_mod, Nat.mod_eq_of_lt hk]
theorem dN_quot : fmul (fsub 0 121665) (finv 121666) = dN := quot_of' dN_lt (by decide) (by decide) (by decide)
set_option maxRecDepth 20000 in
set_option maxHeartbeats 2000000 in
theorem rD_any (w : World) : Calls Tryd.prog 26 #[] w fun e w' => ∃ R, e = .returned (rV R) ∧ Rw R dN ∧ Below w.heap.size w w' := by
  have hz := zeroR
  have hs : ∀ (n : Nat) (h : n ≤ 9223372036854775807) W, Calls Tryd.prog 42 #[.int .i64 n] W fun e w' => ∃ R, e = .returned (.agg (i16 R).toArray) ∧ Rw R n ∧ Below W.heap.size W w' := fun n h W => (rsmall_any n (by omega) (by omega) W).mono fun e w' ⟨he, hb⟩ => ⟨_, he, (rep_int n (by omega) (by omega) n (nat_mod n)).wide, hb⟩
  have c0 : ∀ W, Calls Tryd.prog 42 #[.int .i64 0] W fun e w' => ∃ R, e = .returned (.agg (i16 R).toArray) ∧ Rw R 0 ∧ Below W.heap.size W w' := hs 0 (by decide)
  have c1 : ∀ W, Calls Tryd.prog 42 #[.int .i64 121665] W fun e w' => ∃ R, e = .returned (.agg (i16 R).toArray) ∧ Rw R 121665 ∧ Below W.heap.size W w' := hs 121665 (by decide)
  have c2 : ∀ W, Calls Tryd.prog 42 #[.int .i64 121666] W fun e w' => ∃ R, e = .returned (.agg (i16 R).toArray) ∧ Rw R 121666 ∧ Below W.heap.size W w' := hs 121666 (by decide)
  have cm : ∀ A B, Rw A 0 → Rw B 121665 → ∀ W, Calls Tryd.prog 45 #[.agg (i16 A).toArray, .agg (i16 B).toArray] W fun e w' => ∃ R, e = .returned (.agg (i16 R).toArray) ∧ Rw R (fsub 0 121665) ∧ Below W.heap.size W w' := fun A B hA hB W => (rminus_w hA hB W).mono fun e w' ⟨he, hb⟩ => ⟨_, he, rww_minus hA hB (by decide), hb⟩
  have ci : ∀ A, Rw A 121666 → ∀ W, Calls Tryd.prog 53 #[.agg (i16 A).toArray] W fun e w' => ∃ R, e = .returned (.agg (i16 R).toArray) ∧ Rw R (finv 121666) ∧ Below W.heap.size W w' := fun A hA W => rinverse_wide A _ hA W
  have ct : ∀ A B, Rw A (fsub 0 121665) → Rw B (finv 121666) → ∀ W, Calls Tryd.prog 43 #[.agg (i16 A).toArray, .agg (i16 B).toArray] W fun e w' => ∃ R, e = .returned (.agg (i16 R).toArray) ∧ Rw R dN ∧ Below W.heap.size W w' := fun A B hA hB W => (rtimes_w hA hB W).mono fun e w' ⟨he, hb⟩ => ⟨_, he, by rw [← dN_quot]; exact rw_t hA hB, hb⟩
  generalize finv 121666 = fi6 at *
  generalize fsub 0 121665 = fs5 at *
  generalize dN = dd at *
  clear hs
  obtain ⟨W, g, eW, hg, b, h0⟩ := freshR w
  have HW : Hid (w.alloc (.cells zI 36) = W) := Hid.mk' eW
  have Hg : Hid (w.heap.size = g) := Hid.mk' hg
  have wg : w.heap.size ≤ g := Nat.le_of_eq hg
  clear eW hg
  go_enter Tryd.func26, Tryd.ntmps26
  go_wp2_with (first
    | (go_at_call 42; rw [HW.out, Hg.out]; refine (c0 _).mono ?_; clear c0 HW Hg; rintro e w1 ⟨R1, rfl, hR1, hb1⟩; (replace h0 := h0.still hb1); (replace b := below_next b hb1); clear hb1)
    | (go_at_call 42; refine (c1 _).mono ?_; clear c1; rintro e w2 ⟨R2, rfl, hR2, hb2⟩; (replace h0 := h0.still hb2); (replace b := below_next b hb2); clear hb2)
    | (go_at_call 45; refine (cm R1 R2 hR1 hR2 _).mono ?_; clear cm; rintro e w3 ⟨R3, rfl, hR3, hb3⟩; (replace h0 := h0.still hb3); (replace b := below_next b hb3); clear hb3)
    | (go_at_call 42; refine (c2 _).mono ?_; clear c2; rintro e w4 ⟨R4, rfl, hR4, hb4⟩; (replace h0 := h0.still hb4); (replace b := below_next b hb4); clear hb4)
    | (go_at_call 53; refine (ci R4 hR4 _).mono ?_; clear ci; rintro e w5 ⟨R5, rfl, hR5, hb5⟩; (replace h0 := h0.still hb5); (replace b := below_next b hb5); clear hb5)
    | (go_at_call 43; refine (ct R3 R5 hR3 hR5 _).mono ?_; clear ct; rintro e w6 ⟨R6, rfl, hR6, hb6⟩; (replace h0 := h0.still hb6); (replace b := below_next b hb6); clear hb6; (have t6 : w6.there g 0 (i16 R6).toArray.size := there16 h0))
    | (with_reducible (refine id (?_ : wpList _ _ _ _ _ _)); refine wpList_store_mid rfl 36 _ _ rfl g 0 (i16 R6).toArray rfl rfl t6 (infoIA R6) (oneI R6) ?_))
  (try simp only [Exit.inBlock, Exit.then])
  exact bodyPost_ret (results_cell_mid Tryd.results26 _ _ g 0 (i16 R6) _ rfl (h0.stored (i16 R6) (by rw [i16_len, i16_len])).range Tryd.underlying36 rfl (infoI R6)) rfl ⟨R6, rfl, hR6, below_setCells wg _ _ _ b⟩
end Go.Proofs.YteekjcfbnoakgaaDoor
namespace Go.Proofs.YteekjcfbnoakgaaDoor
open Go.RowKit
theorem small_w (n : Nat) (h : n ≤ 9223372036854775807) (W : World) : Calls Tryd.prog 42 #[.int .i64 n] W fun e w' => ∃ R, e = .returned (.agg (i16 R).toArray) ∧ Rw R n ∧ Below W.heap.size W w' := (rsmall_any n (by omega) (by omega) W).mono fun e w' ⟨he, hb⟩ => ⟨_, he, (rep_int n (by omega) (by omega) n (nat_mod n)).wide, hb⟩
abbrev qv1x2 : Oper := { dst := some 7, op := Op.call { callee := Callee.value (Operand.func 42), args := #[Operand.const (Value.int IntKind.i64 1)], argTypes := #[3] }, type := 36, pos := "ref.go:25", after := #[], guard := none }
abbrev qv1x5 : Oper := { dst := some 10, op := Op.call { callee := Callee.value (Operand.func 43), args := #[Operand.tmp 8, Operand.tmp 9], argTypes := #[36, 36] }, type := 36, pos := "ref.go:25", after := #[{ on := 3, ground := Ground.data }, { on := 4, ground := Ground.data }, { on := 2, ground := Ground.chain }], guard := none }
abbrev qv1x7 : Oper := { dst := none, op := Op.store 38 (Operand.tmp 4) (Operand.tmp 11), type := 0, pos := "ref.go:25", after := #[{ on := 6, ground := Ground.data }, { on := 5, ground := Ground.chain }, { on := 0, ground := Ground.phase }, { on := 1, ground := Ground.phase }, { on := 2, ground := Ground.phase }, { on := 3, ground := Ground.phase }, { on := 4, ground := Ground.phase }, { on := 5, ground := Ground.phase }, { on := 6, ground := Ground.phase }], guard := none }
abbrev qv2x3 : Oper := { dst := some 8, op := Op.call { callee := Callee.value (Operand.func 45), args := #[Operand.tmp 5, Operand.tmp 7], argTypes := #[36, 36] }, type := 36, pos := "ref.go:47", after := #[{ on := 0, ground := Ground.data }, { on := 2, ground := Ground.data }], guard := none }
abbrev qv2x11 : Oper := { dst := some 16, op := Op.call { callee := Callee.value (Operand.func 45), args := #[Operand.tmp 13, Operand.tmp 15], argTypes := #[36, 36] }, type := 36, pos := "ref.go:47", after := #[{ on := 8, ground := Ground.data }, { on := 10, ground := Ground.data }, { on := 3, ground := Ground.chain }], guard := none }
abbrev qv2x13 : Oper := { dst := none, op := Op.store 38 (Operand.tmp 2) (Operand.tmp 17), type := 0, pos := "ref.go:47", after := #[{ on := 12, ground := Ground.data }, { on := 11, ground := Ground.chain }, { on := 0, ground := Ground.phase }, { on := 1, ground := Ground.phase }, { on := 2, ground := Ground.phase }, { on := 3, ground := Ground.phase }, { on := 4, ground := Ground.phase }, { on := 5, ground := Ground.phase }, { on := 6, ground := Ground.phase }, { on := 7, ground := Ground.phase }, { on := 8, ground := Ground.phase }, { on := 9, ground := Ground.phase }, { on := 10, ground := Ground.phase }, { on := 11, ground := Ground.phase }, { on := 12, ground := Ground.phase }], guard := none }
set_option maxRecDepth 20000 in
set_option maxHeartbeats 4000000 in
theorem rof_raw (X Y : Nat → Int) (ct : ∀ W, Calls Tryd.prog 43 #[rV X, rV Y] W fun e w' => e = .returned (rV (timesL X Y)) ∧ Below W.heap.size W w') (w : World) :
    Calls Tryd.prog 48 #[rV X, rV Y] w fun e w' => ∃ R1, e = .returned (qV X Y R1 (timesL X Y)) ∧ Rw R1 1 ∧ Below w.heap.size w w' := by
  have hz := zeroR
  have hzq := zeroQ
  have c1 : ∀ W, Calls Tryd.prog 42 #[.int .i64 1] W fun e w' => ∃ R, e = .returned (rV R) ∧ Rw R 1 ∧ Below W.heap.size W w' := small_w 1 (by decide)
  obtain ⟨V1, g2, e2, hg2, b2, hx⟩ : ∃ V g, w.alloc (.cells (i16 X).toArray 36) = V ∧ w.heap.size = g ∧ Below w.heap.size w V ∧ RW V g 0 (i16 X) := ⟨_, _, rfl, rfl, (Below.refl _ _).alloc (Nat.le_refl _) _, RW.fresh w _ _⟩
  obtain ⟨V2, g3, e3, hg3, b3, hy⟩ : ∃ V g, V1.alloc (.cells (i16 Y).toArray 36) = V ∧ V1.heap.size = g ∧ Below V1.heap.size V1 V ∧ RW V g 0 (i16 Y) := ⟨_, _, rfl, rfl, (Below.refl _ _).alloc (Nat.le_refl _) _, RW.fresh V1 _ _⟩
  obtain ⟨W, g4, e4, hg4, b4, h4⟩ := freshQ V2
  have t1 : V1.heap.size = w.heap.size + 1 := by rw [← e2]; simp
  have t2 : V2.heap.size = V1.heap.size + 1 := by rw [← e3]; simp
  have HW : Hid (W = ((w.alloc (.cells (i16 X).toArray 36)).alloc (.cells (i16 Y).toArray 36)).alloc (.cells zQ 38)) := Hid.mk' (by rw [← e4, ← e3, ← e2])
  have q2 : Hid (w.heap.size = g2) := Hid.mk' hg2
  have q3 : Hid (w.heap.size + 1 = g3) := Hid.mk' (by omega)
  have q4 : Hid (w.heap.size + 1 + 1 = g4) := Hid.mk' (by omega)
  replace hx := (hx.still b3).still b4
  replace hy := hy.still b4
  have hbW : Below w.heap.size w W := (b2.trans (b3.mono (by omega))).trans (b4.mono (by omega))
  have w4 : w.heap.size ≤ g4 := by omega
  have n24 : g2 ≠ g4 := by omega
  have n34 : g3 ≠ g4 := by omega
  have l4 := h4.lt
  clear e2 e3 e4 hg2 hg3 hg4 b2 b3 b4 t1 t2 V1 V2
  rw [show rV X = .agg (i16 X).toArray from rfl, show rV Y = .agg (i16 Y).toArray from rfl]
  go_enter Tryd.func48, Tryd.ntmps48
  go_upto_region 1 with (fail)
  rw [← HW.out, q4.out, q3.out, q2.out]
  clear HW q2 q3 q4
  have hdrew : Below W.heap.size W W.drew := (Below.refl _ _).drew
  replace hx := hx.still hdrew
  replace hy := hy.still hdrew
  replace h4 := h4.still hdrew
  refine wp_region_noPanic ?_
  replace l4 := Nat.lt_of_lt_of_le l4 hdrew.size
  refine wp_region_held_drew (S := fun w' => Out g4 0 64 W.drew w') (by kernel_rfl) (Out.refl _ _ _ _) (fun hS => ?_)
  generalize W.drew = Vv1_ at *
  refine wpAnyH_take (i := 0) (oi := { dst := some 5, op := Op.load 36 (Operand.tmp 2), type := 36, pos := "ref.go:25", after := #[], guard := none }) (v := rV X) rfl (by kernel_rfl) (by kernel_rfl) (by kernel_rfl) (fun _ _ _ h => h) (yieldsIf_load_mid (by rfl) 36 _ rfl g2 0 rfl (i16 X) _ (fun _ h => (hx.out h n24).range) Tryd.underlying36 rfl (infoI _)) hS ?_
  (try simp only [Act.put, List.setIfInBounds_toArray, List.set_cons_zero, List.set_cons_succ])
  refine wpAnyH_take (i := 1) (oi := { dst := some 6, op := Op.load 36 (Operand.tmp 3), type := 36, pos := "ref.go:25", after := #[], guard := none }) (v := rV Y) rfl (by kernel_rfl) (by kernel_rfl) (by kernel_rfl) (fun _ _ _ h => h) (yieldsIf_load_mid (by rfl) 36 _ rfl g3 0 rfl (i16 Y) _ (fun _ h => (hy.out h n34).range) Tryd.underlying36 rfl (infoI _)) hS ?_
  (try simp only [Act.put, List.setIfInBounds_toArray, List.set_cons_zero, List.set_cons_succ])
  refine wpAnyH_take (i := 3) (oi := { dst := some 8, op := Op.load 36 (Operand.tmp 2), type := 36, pos := "ref.go:25", after := #[], guard := none }) (v := rV X) rfl (by kernel_rfl) (by kernel_rfl) (by kernel_rfl) (fun _ _ _ h => h) (yieldsIf_load_mid (by rfl) 36 _ rfl g2 0 rfl (i16 X) _ (fun _ h => (hx.out h n24).range) Tryd.underlying36 rfl (infoI _)) hS ?_
  (try simp only [Act.put, List.setIfInBounds_toArray, List.set_cons_zero, List.set_cons_succ])
  refine wpAnyH_take (i := 4) (oi := { dst := some 9, op := Op.load 36 (Operand.tmp 3), type := 36, pos := "ref.go:25", after := #[], guard := none }) (v := rV Y) rfl (by kernel_rfl) (by kernel_rfl) (by kernel_rfl) (fun _ _ _ h => h) (yieldsIf_load_mid (by rfl) 36 _ rfl g3 0 rfl (i16 Y) _ (fun _ h => (hy.out h n34).range) Tryd.underlying36 rfl (infoI _)) hS ?_
  (try simp only [Act.put, List.setIfInBounds_toArray, List.set_cons_zero, List.set_cons_succ])
  refine wpAnyH_ready (rs := [2]) (by kernel_rfl) (by simp) ?_
  refine AllReadyH.cons (o := qv1x2) rfl (fun K hK => ?_) (AllReadyH.nil)
  unfold qv1x2
  go_simp
  (go_at_call 42; refine (c1 _).mono ?_; clear c1; rintro e wv1_1 ⟨R1, rfl, hR1, hbv1_1⟩)
  (try go_simp)
  have hSv1_1 := hS.trans (Out.of_below hbv1_1 l4)
  replace l4 := Nat.lt_of_lt_of_le l4 hbv1_1.size
  replace h4 := h4.still hbv1_1
  refine hK.out _ _ hSv1_1 (fun h => ?_)
  clear h hK K hbv1_1
  (try simp only [Act.put, List.setIfInBounds_toArray, List.set_cons_zero, List.set_cons_succ])
  refine wpAnyH_ready (rs := [5]) (by kernel_rfl) (by simp) ?_
  refine AllReadyH.cons (o := qv1x5) rfl (fun K hK => ?_) (AllReadyH.nil)
  unfold qv1x5
  go_simp
  (go_at_call 43; refine (ct _).mono ?_; clear ct; rintro e wv1_2 ⟨rfl, hbv1_2⟩)
  (try go_simp)
  have hSv1_2 := hSv1_1.trans (Out.of_below hbv1_2 l4)
  replace l4 := Nat.lt_of_lt_of_le l4 hbv1_2.size
  replace h4 := h4.still hbv1_2
  refine hK.out _ _ hSv1_2 (fun h => ?_)
  clear h hK K hbv1_2
  (try simp only [Act.put, List.setIfInBounds_toArray, List.set_cons_zero, List.set_cons_succ])
  refine wpAnyH_take (i := 6) (oi := { dst := some 11, op := Op.build 38 #[(0, Operand.tmp 5), (1, Operand.tmp 6), (2, Operand.tmp 7), (3, Operand.tmp 10)], type := 38, pos := "ref.go:25", after := #[{ on := 0, ground := Ground.data }, { on := 1, ground := Ground.data }, { on := 2, ground := Ground.data }, { on := 5, ground := Ground.data }], guard := none }) (v := qV X Y R1 (timesL X Y)) rfl (by kernel_rfl) (by kernel_rfl) (by kernel_rfl) (fun _ _ _ h => h) (yields_build4 (by rfl) 38 _ _ _ _ rfl (rV X) (rV Y) (rV R1) (rV (timesL X Y)) rfl rfl rfl rfl _ (builtQ _ _ _ _)) hSv1_2 ?_
  (try simp only [Act.put, List.setIfInBounds_toArray, List.set_cons_zero, List.set_cons_succ])
  refine wpAnyH_ready (rs := [7]) (by kernel_rfl) (by simp) ?_
  refine AllReadyH.cons (o := qv1x7) rfl (fun K hK => ?_) (AllReadyH.nil)
  unfold qv1x7
  rw [if_pos (by rfl)]
  refine wp_store_mid 38 _ _ rfl g4 0 (q64 X Y R1 (timesL X Y)).toArray rfl rfl (there64 h4) (infoQA _ _ _ _) (oneQ _ _ _ _) ?_
  have hSv1_3 := hSv1_2.trans (Out.setCells (b := g4) (o := 0) (n := 64) wv1_2 (q64 X Y R1 (timesL X Y)) (Nat.le_refl _) (by rw [q64_len]; exact Nat.le_refl _))
  replace h4 := h4.stored (q64 X Y R1 (timesL X Y)) (q64_same _ _ _ _ _ _ _ _)
  obtain ⟨wv1_3, hwv1_3⟩ : ∃ W, wv1_2.setCells g4 0 (q64 X Y R1 (timesL X Y)) = W := ⟨_, rfl⟩
  rw [hwv1_3] at h4
  rw [hwv1_3] at hSv1_3
  rw [show wv1_2.setCells g4 0 (q64 X Y R1 (timesL X Y)).toArray.toList = wv1_3 from hwv1_3]
  refine hK.out _ _ hSv1_3 (fun h => ?_)
  clear h hK K hwv1_3
  (try dsimp only [Act.put])
  refine wpAnyH_done (by kernel_rfl) ?_ _
  refine NoPanic.normal ?_
  have fin := (hbW.trans (hdrew.mono hbW.size)).trans (hSv1_3.below w4 (Nat.le_trans hbW.size hdrew.size))
  go_wp2
  exact bodyPost_ret (results_cell_mid Tryd.results48 _ _ g4 0 (q64 X Y R1 (timesL X Y)) _ rfl h4.range Tryd.underlying38 rfl (infoQ _ _ _ _)) rfl ⟨R1, rfl, hR1, fin⟩
theorem rof_any {X Y : Nat → Int} {x y : Nat} (hX : Rw X x) (hY : Rw Y y) (w : World) :
    Calls Tryd.prog 48 #[rV X, rV Y] w fun e w' => ∃ t : P4, e = .returned t.V ∧ t.Rep (ofXY x y) ∧ Below w.heap.size w w' :=
  (rof_raw X Y (fun W => rtimes_w hX hY W) w).mono fun _ _ ⟨R1, he, hR, hb⟩ => ⟨⟨X, Y, R1, timesL X Y⟩, he, ⟨hX, hY, hR, rw_t hX hY⟩, hb⟩
theorem zero_of_xy : ofXY 0 1 = zeroN := by kernel_rfl
set_option maxRecDepth 20000 in
set_option maxHeartbeats 4000000 in
theorem rzero_any (w : World) : Calls Tryd.prog 39 #[] w fun e w' => ∃ t : P4, e = .returned t.V ∧ t.Rep zeroN ∧ Below w.heap.size w w' := by
  have hzq := zeroQ
  have c0 : ∀ W, Calls Tryd.prog 42 #[.int .i64 0] W fun e w' => ∃ R, e = .returned (.agg (i16 R).toArray) ∧ Rw R 0 ∧ Below W.heap.size W w' := small_w 0 (by decide)
  have c1 : ∀ W, Calls Tryd.prog 42 #[.int .i64 1] W fun e w' => ∃ R, e = .returned (.agg (i16 R).toArray) ∧ Rw R 1 ∧ Below W.heap.size W w' := small_w 1 (by decide)
  have cf : ∀ A B, Rw A 0 → Rw B 1 → ∀ W, Calls Tryd.prog 48 #[.agg (i16 A).toArray, .agg (i16 B).toArray] W fun e w' => ∃ t : P4, e = .returned (.agg (q64 t.X t.Y t.Z t.T).toArray) ∧ t.Rep zeroN ∧ Below W.heap.size W w' := fun A B hA hB W => by
    have h := rof_any hA hB W
    rw [zero_of_xy] at h
    exact h
  generalize zeroN = zn at *
  obtain ⟨W, g, eW, hg, b, h0⟩ := freshQ w
  have HW : Hid (w.alloc (.cells zQ 38) = W) := Hid.mk' eW
  have Hg : Hid (w.heap.size = g) := Hid.mk' hg
  have wg : w.heap.size ≤ g := Nat.le_of_eq hg
  clear eW hg
  go_enter Tryd.func39, Tryd.ntmps39
  go_wp2_with (first
    | (go_at_call 42; rw [HW.out, Hg.out]; refine (c0 _).mono ?_; clear c0 HW Hg; rintro e w1 ⟨R1, rfl, hR1, hb1⟩; (replace h0 := h0.still hb1); (replace b := below_next b hb1); clear hb1)
    | (go_at_call 42; refine (c1 _).mono ?_; clear c1; rintro e w2 ⟨R2, rfl, hR2, hb2⟩; (replace h0 := h0.still hb2); (replace b := below_next b hb2); clear hb2)
    | (go_at_call 48; refine (cf R1 R2 hR1 hR2 _).mono ?_; clear cf; rintro e w3 ⟨t, rfl, ht, hb3⟩; (replace h0 := h0.still hb3); (replace b := below_next b hb3); clear hb3; (have t6 : w3.there g 0 (q64 t.X t.Y t.Z t.T).toArray.size := there64 h0))
    | (with_reducible (refine id (?_ : wpList _ _ _ _ _ _)); refine wpList_store_mid rfl 38 _ _ rfl g 0 (q64 t.X t.Y t.Z t.T).toArray rfl rfl t6 (infoQA _ _ _ _) (oneQ _ _ _ _) ?_))
  (try simp only [Exit.inBlock, Exit.then])
  exact bodyPost_ret (results_cell_mid Tryd.results39 _ _ g 0 (q64 t.X t.Y t.Z t.T) _ rfl (h0.stored (q64 t.X t.Y t.Z t.T) (q64_same _ _ _ _ _ _ _ _)).range Tryd.underlying38 rfl (infoQ _ _ _ _)) rfl ⟨t, rfl, ht, below_setCells wg _ _ _ b⟩
set_option maxRecDepth 20000 in
set_option maxHeartbeats 4000000 in
theorem rneg_raw (X Y Z T : Nat → Int) (x y : Nat) (hx : Rw X x) (hy : Rw T y) (w : World) :
    Calls Tryd.prog 28 #[qV X Y Z T] w fun e w' => ∃ O, e = .returned (qV (minusL O X) Y Z (minusL O T)) ∧ Rw O 0 ∧ Below w.heap.size w w' := by
  have hz := zeroR
  have hzq := zeroQ
  have c0 : ∀ W, Calls Tryd.prog 42 #[.int .i64 0] W fun e w' => ∃ R, e = .returned (.agg (i16 R).toArray) ∧ Rw R 0 ∧ Below W.heap.size W w' := small_w 0 (by decide)
  obtain ⟨V1, g1, e1, hg1, b1, hp⟩ : ∃ V g, w.alloc (.cells (q64 X Y Z T).toArray 38) = V ∧ w.heap.size = g ∧ Below w.heap.size w V ∧ RW V g 0 (q64 X Y Z T) := ⟨_, _, rfl, rfl, (Below.refl _ _).alloc (Nat.le_refl _) _, RW.fresh w _ _⟩
  obtain ⟨W, g2, e2, hg2, b2, h2⟩ := freshQ V1
  have t1 : V1.heap.size = w.heap.size + 1 := by rw [← e1]; simp
  have HW : Hid (W = (w.alloc (.cells (q64 X Y Z T).toArray 38)).alloc (.cells zQ 38)) := Hid.mk' (by rw [← e2, ← e1])
  have q1 : Hid (w.heap.size = g1) := Hid.mk' hg1
  have q2 : Hid (w.heap.size + 1 = g2) := Hid.mk' (by omega)
  replace hp := hp.still b2
  have hbW : Below w.heap.size w W := b1.trans (b2.mono (by omega))
  have w2l : w.heap.size ≤ g2 := by omega
  have n12 : g1 ≠ g2 := by omega
  obtain ⟨hX, hY, hZ, hT⟩ := parts hp
  clear e1 e2 hg1 hg2 b1 b2 t1 V1 hp
  rw [show qV X Y Z T = .agg (q64 X Y Z T).toArray from rfl]
  go_enter Tryd.func28, Tryd.ntmps28
  go_upto_region 2 with (first
    | (go_at_call 42; rw [← HW.out, q2.out, q1.out]; refine (c0 _).mono ?_; clear c0 HW q1 q2; rintro e w4 ⟨O, rfl, hO, hb4⟩; (have l2 := h2.lt); (replace hX := hX.still hb4); (replace hY := hY.still hb4); (replace hZ := hZ.still hb4); (replace hT := hT.still hb4); (replace h2 := h2.still hb4); (replace hbW := below_next hbW hb4); (have n32 : w4.heap.size ≠ g2 := by (have := hb4.size; omega)); clear hb4 l2; (have z4 := freshR' w4); (have t4 := freshRt w4 O); (obtain ⟨V5, hV5⟩ : ∃ V, V = (w4.alloc (.cells zI 36)).setCells w4.heap.size 0 (i16 O) := ⟨_, rfl⟩); (have h3 : RW V5 w4.heap.size 0 (i16 O) := by rw [hV5]; exact z4.stored (i16 O) (by rw [i16_len, i16_len])); (have b5 : Below w4.heap.size w4 V5 := by rw [hV5]; exact below_setCells (Nat.le_refl _) _ _ _ ((Below.refl _ _).alloc (Nat.le_refl _) _)); (have H5 := Hid.mk' hV5); clear hV5 z4; (replace hX := hX.still b5); (replace hY := hY.still b5); (replace hZ := hZ.still b5); (replace hT := hT.still b5); (replace h2 := h2.still b5); (replace hbW := below_next hbW b5); clear b5)
    | (with_reducible (refine id (?_ : wpList _ _ _ _ _ _)); refine wpList_store_mid rfl 36 _ _ rfl w4.heap.size 0 (i16 O).toArray rfl rfl t4 (infoIA O) (oneI O) ?_; rw [List.toList_toArray, ← H5.out]; clear t4 H5))
  (try dsimp only [Act.put])
  generalize w4.heap.size = g3 at *
  have l2 := h2.lt
  have cX := fun W => rminus_w hO hx W
  have cT := fun W => rminus_w hO hy W
  have hdrew : Below V5.heap.size V5 V5.drew := (Below.refl _ _).drew
  replace hX := hX.still hdrew
  replace hY := hY.still hdrew
  replace hZ := hZ.still hdrew
  replace hT := hT.still hdrew
  replace h3 := h3.still hdrew
  replace h2 := h2.still hdrew
  refine wp_region_noPanic ?_
  replace l2 := Nat.lt_of_lt_of_le l2 hdrew.size
  refine wp_region_held_drew (S := fun w' => Out g2 0 64 V5.drew w') (by kernel_rfl) (Out.refl _ _ _ _) (fun hS => ?_)
  generalize V5.drew = Vv2_ at *
  refine wpAnyH_take (i := 0) (oi := { dst := some 5, op := Op.load 36 (Operand.tmp 3), type := 36, pos := "ref.go:47", after := #[], guard := none }) (v := rV O) rfl (by kernel_rfl) (by kernel_rfl) (by kernel_rfl) (fun _ _ _ h => h) (yieldsIf_load_mid (by rfl) 36 _ rfl g3 0 rfl (i16 O) _ (fun _ h => (h3.out h n32).range) Tryd.underlying36 rfl (infoI _)) hS ?_
  (try simp only [Act.put, List.setIfInBounds_toArray, List.set_cons_zero, List.set_cons_succ])
  refine wpAnyH_take (i := 1) (oi := { dst := some 6, op := Op.fieldAddr 38 (Operand.tmp 1) 0, type := 0, pos := "ref.go:47", after := #[], guard := none }) (v := ?vv2_1) rfl (by kernel_rfl) (by kernel_rfl) (by kernel_rfl) (fun _ _ _ h => h) (Or.inl ⟨by rfl, ?hv2_1⟩) hS ?rv2_1
  case hv2_1 =>
    intro w hSw
    go_simp
    try with_reducible rfl
  (try simp only [Act.put, List.setIfInBounds_toArray, List.set_cons_zero, List.set_cons_succ])
  refine wpAnyH_take (i := 2) (oi := { dst := some 7, op := Op.load 36 (Operand.tmp 6), type := 36, pos := "ref.go:47", after := #[{ on := 1, ground := Ground.data }], guard := none }) (v := rV X) rfl (by kernel_rfl) (by kernel_rfl) (by kernel_rfl) (fun _ _ _ h => h) (yieldsIf_load_mid (by rfl) 36 _ rfl g1 0 rfl (i16 X) _ (fun _ h => (hX.out h n12).range) Tryd.underlying36 rfl (infoI _)) hS ?_
  (try simp only [Act.put, List.setIfInBounds_toArray, List.set_cons_zero, List.set_cons_succ])
  refine wpAnyH_take (i := 4) (oi := { dst := some 9, op := Op.fieldAddr 38 (Operand.tmp 1) 1, type := 0, pos := "ref.go:47", after := #[], guard := none }) (v := ?vv2_2) rfl (by kernel_rfl) (by kernel_rfl) (by kernel_rfl) (fun _ _ _ h => h) (Or.inl ⟨by rfl, ?hv2_2⟩) hS ?rv2_2
  case hv2_2 =>
    intro w hSw
    go_simp
    try with_reducible rfl
  (try simp only [Act.put, List.setIfInBounds_toArray, List.set_cons_zero, List.set_cons_succ])
  refine wpAnyH_take (i := 5) (oi := { dst := some 10, op := Op.load 36 (Operand.tmp 9), type := 36, pos := "ref.go:47", after := #[{ on := 4, ground := Ground.data }], guard := none }) (v := rV Y) rfl (by kernel_rfl) (by kernel_rfl) (by kernel_rfl) (fun _ _ _ h => h) (yieldsIf_load_mid (by rfl) 36 _ rfl g1 16 rfl (i16 Y) _ (fun _ h => (hY.out h n12).range) Tryd.underlying36 rfl (infoI _)) hS ?_
  (try simp only [Act.put, List.setIfInBounds_toArray, List.set_cons_zero, List.set_cons_succ])
  refine wpAnyH_take (i := 6) (oi := { dst := some 11, op := Op.fieldAddr 38 (Operand.tmp 1) 2, type := 0, pos := "ref.go:47", after := #[], guard := none }) (v := ?vv2_3) rfl (by kernel_rfl) (by kernel_rfl) (by kernel_rfl) (fun _ _ _ h => h) (Or.inl ⟨by rfl, ?hv2_3⟩) hS ?rv2_3
  case hv2_3 =>
    intro w hSw
    go_simp
    try with_reducible rfl
  (try simp only [Act.put, List.setIfInBounds_toArray, List.set_cons_zero, List.set_cons_succ])
  refine wpAnyH_take (i := 7) (oi := { dst := some 12, op := Op.load 36 (Operand.tmp 11), type := 36, pos := "ref.go:47", after := #[{ on := 6, ground := Ground.data }], guard := none }) (v := rV Z) rfl (by kernel_rfl) (by kernel_rfl) (by kernel_rfl) (fun _ _ _ h => h) (yieldsIf_load_mid (by rfl) 36 _ rfl g1 32 rfl (i16 Z) _ (fun _ h => (hZ.out h n12).range) Tryd.underlying36 rfl (infoI _)) hS ?_
  (try simp only [Act.put, List.setIfInBounds_toArray, List.set_cons_zero, List.set_cons_succ])
  refine wpAnyH_take (i := 8) (oi := { dst := some 13, op := Op.load 36 (Operand.tmp 3), type := 36, pos := "ref.go:47", after := #[], guard := none }) (v := rV O) rfl (by kernel_rfl) (by kernel_rfl) (by kernel_rfl) (fun _ _ _ h => h) (yieldsIf_load_mid (by rfl) 36 _ rfl g3 0 rfl (i16 O) _ (fun _ h => (h3.out h n32).range) Tryd.underlying36 rfl (infoI _)) hS ?_
  (try simp only [Act.put, List.setIfInBounds_toArray, List.set_cons_zero, List.set_cons_succ])
  refine wpAnyH_take (i := 9) (oi := { dst := some 14, op := Op.fieldAddr 38 (Operand.tmp 1) 3, type := 0, pos := "ref.go:47", after := #[], guard := none }) (v := ?vv2_4) rfl (by kernel_rfl) (by kernel_rfl) (by kernel_rfl) (fun _ _ _ h => h) (Or.inl ⟨by rfl, ?hv2_4⟩) hS ?rv2_4
  case hv2_4 =>
    intro w hSw
    go_simp
    try with_reducible rfl
  (try simp only [Act.put, List.setIfInBounds_toArray, List.set_cons_zero, List.set_cons_succ])
  refine wpAnyH_take (i := 10) (oi := { dst := some 15, op := Op.load 36 (Operand.tmp 14), type := 36, pos := "ref.go:47", after := #[{ on := 9, ground := Ground.data }], guard := none }) (v := rV T) rfl (by kernel_rfl) (by kernel_rfl) (by kernel_rfl) (fun _ _ _ h => h) (yieldsIf_load_mid (by rfl) 36 _ rfl g1 48 rfl (i16 T) _ (fun _ h => (hT.out h n12).range) Tryd.underlying36 rfl (infoI _)) hS ?_
  (try simp only [Act.put, List.setIfInBounds_toArray, List.set_cons_zero, List.set_cons_succ])
  refine wpAnyH_ready (rs := [3]) (by kernel_rfl) (by simp) ?_
  refine AllReadyH.cons (o := qv2x3) rfl (fun K hK => ?_) (AllReadyH.nil)
  unfold qv2x3
  go_simp
  (go_at_call 45; refine (cX _).mono ?_; clear cX; rintro e wv2_5 ⟨rfl, hbv2_5⟩)
  (try go_simp)
  have hSv2_5 := hS.trans (Out.of_below hbv2_5 l2)
  replace l2 := Nat.lt_of_lt_of_le l2 hbv2_5.size
  replace h2 := h2.still hbv2_5
  refine hK.out _ _ hSv2_5 (fun h => ?_)
  clear h hK K hbv2_5
  (try simp only [Act.put, List.setIfInBounds_toArray, List.set_cons_zero, List.set_cons_succ])
  refine wpAnyH_ready (rs := [11]) (by kernel_rfl) (by simp) ?_
  refine AllReadyH.cons (o := qv2x11) rfl (fun K hK => ?_) (AllReadyH.nil)
  unfold qv2x11
  go_simp
  (go_at_call 45; refine (cT _).mono ?_; clear cT; rintro e wv2_6 ⟨rfl, hbv2_6⟩)
  (try go_simp)
  have hSv2_6 := hSv2_5.trans (Out.of_below hbv2_6 l2)
  replace l2 := Nat.lt_of_lt_of_le l2 hbv2_6.size
  replace h2 := h2.still hbv2_6
  refine hK.out _ _ hSv2_6 (fun h => ?_)
  clear h hK K hbv2_6
  (try simp only [Act.put, List.setIfInBounds_toArray, List.set_cons_zero, List.set_cons_succ])
  refine wpAnyH_take (i := 12) (oi := { dst := some 17, op := Op.build 38 #[(0, Operand.tmp 8), (1, Operand.tmp 10), (2, Operand.tmp 12), (3, Operand.tmp 16)], type := 38, pos := "ref.go:47", after := #[{ on := 3, ground := Ground.data }, { on := 5, ground := Ground.data }, { on := 7, ground := Ground.data }, { on := 11, ground := Ground.data }], guard := none }) (v := qV (minusL O X) Y Z (minusL O T)) rfl (by kernel_rfl) (by kernel_rfl) (by kernel_rfl) (fun _ _ _ h => h) (yields_build4 (by rfl) 38 _ _ _ _ rfl (rV (minusL O X)) (rV Y) (rV Z) (rV (minusL O T)) rfl rfl rfl rfl _ (builtQ _ _ _ _)) hSv2_6 ?_
  (try simp only [Act.put, List.setIfInBounds_toArray, List.set_cons_zero, List.set_cons_succ])
  refine wpAnyH_ready (rs := [13]) (by kernel_rfl) (by simp) ?_
  refine AllReadyH.cons (o := qv2x13) rfl (fun K hK => ?_) (AllReadyH.nil)
  unfold qv2x13
  rw [if_pos (by rfl)]
  refine wp_store_mid 38 _ _ rfl g2 0 (q64 (minusL O X) Y Z (minusL O T)).toArray rfl rfl (there64 h2) (infoQA _ _ _ _) (oneQ _ _ _ _) ?_
  have hSv2_7 := hSv2_6.trans (Out.setCells (b := g2) (o := 0) (n := 64) wv2_6 (q64 (minusL O X) Y Z (minusL O T)) (Nat.le_refl _) (by rw [q64_len]; exact Nat.le_refl _))
  replace h2 := h2.stored (q64 (minusL O X) Y Z (minusL O T)) (q64_same _ _ _ _ _ _ _ _)
  obtain ⟨wv2_7, hwv2_7⟩ : ∃ W, wv2_6.setCells g2 0 (q64 (minusL O X) Y Z (minusL O T)) = W := ⟨_, rfl⟩
  rw [hwv2_7] at h2
  rw [hwv2_7] at hSv2_7
  rw [show wv2_6.setCells g2 0 (q64 (minusL O X) Y Z (minusL O T)).toArray.toList = wv2_7 from hwv2_7]
  refine hK.out _ _ hSv2_7 (fun h => ?_)
  clear h hK K hwv2_7
  (try dsimp only [Act.put])
  refine wpAnyH_done (by kernel_rfl) ?_ _
  refine NoPanic.normal ?_
  have fin := (hbW.trans (hdrew.mono hbW.size)).trans (hSv2_7.below w2l (Nat.le_trans hbW.size hdrew.size))
  go_wp2
  exact bodyPost_ret (results_cell_mid Tryd.results28 _ _ g2 0 (q64 (minusL O X) Y Z (minusL O T)) _ rfl h2.range Tryd.underlying38 rfl (infoQ _ _ _ _)) rfl ⟨O, rfl, hO, fin⟩
theorem rneg_any {r : P4} {p : N4} (hr : r.Rep p) (hp : p.Ok) (w : World) :
    Calls Tryd.prog 28 #[r.V] w fun e w' => ∃ t : P4, e = .returned t.V ∧ t.Rep (negN p) ∧ Below w.heap.size w w' :=
  (rneg_raw r.X r.Y r.Z r.T _ _ hr.X hr.T w).mono fun _ _ ⟨_, he, hO, hb⟩ => ⟨⟨_, _, _, _⟩, he, ⟨rww_minus hO hr.X hp.X, hr.Y, hr.Z, rww_minus hO hr.T hp.T⟩, hb⟩
end Go.Proofs.YteekjcfbnoakgaaDoor
