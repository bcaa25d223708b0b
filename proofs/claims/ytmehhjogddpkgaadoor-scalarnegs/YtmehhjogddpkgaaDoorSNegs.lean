/- The walk of the law ScalarNegs in the model. -/
import Derived.Test.YtmehhjogddpkgaaDoorRNeg
import Derived.Test.YtmehhjogddpkgaaDoorSMulN
namespace Go.Proofs.YtmehhjogddpkgaaDoor
open Go.RowKit
theorem neg_sum (x : Nat) : (ofB (byt ((oL - x % oL) % oL)) 32 + x * ofB (byt 1) 32) % oL = 0 := by
  have h : x % oL < oL := Nat.mod_lt _ (by decide)
  have e : ofB (byt ((oL - x % oL) % oL)) 32 = (oL - x % oL) % oL := ofB_byt32 _ (Nat.lt_trans (Nat.mod_lt _ (by decide)) (by unfold oL; decide))
  rw [e, ofB_byt32 1 (by decide), Nat.mul_one, Nat.add_mod, Nat.mod_mod, ← Nat.add_mod]
  have e2 : oL - x % oL + x = oL + oL * (x / oL) := by
    have := Nat.div_add_mod x oL
    omega
  rw [e2, Nat.add_mul_mod_self_left, Nat.mod_self]
set_option maxRecDepth 20000 in
set_option maxHeartbeats 4000000 in
theorem negs_bad (a : Value) (n : Nat) (bs : Nat → Nat) (w : World) (hO : Ord w) (ha : BytesIn w a n bs) (hn : n < 140737488355000) (h32 : ¬n = 32) :
    Calls Tryd.prog 5 #[a] w fun e w' => e = .returned (.bool true) ∧ Below w.heap.size w w' := by
  have cl := lent_any a n bs w ha hn
  have hk := fun W hOW => knows4_any W hOW
  obtain ⟨xa, ca, rfl, -⟩ := ha.src
  have p1 := fun xo c W => neg_bad xo n c h32 W
  have p2 := fun W => rneg_bad xa n ca h32 W
  have q0 := fun W => conv_nil W
  clear ha h32
  go_enter Tryd.func5, Tryd.ntmps5
  go_wp2_with (first
    | (go_at_call 8; refine cl.mono ?_; clear cl; rintro e w1 ⟨g1, k1, rfl, hk1, hg1, hr1, hb1⟩)
    | (go_at_call 18; refine (p1 _ _ _).mono ?_; clear p1; rintro e w2 ⟨rfl, hw2⟩; subst hw2)
    | (go_at_call 19; refine (p2 _).mono ?_; clear p2; rintro e w3 ⟨rfl, hw3⟩; subst hw3)
    | (go_at_call 11; refine (num4_any _ _).mono ?_; rintro e wn ⟨rfl, hwn⟩; subst hwn)
    | (go_at_call 15; refine (hk _ (hO.still hb1)).mono ?_; clear hk; rintro e w4 ⟨rfl, hb4⟩))
  go_ret
  exact ⟨rfl, below_next hb1 hb4⟩
set_option maxRecDepth 20000 in
set_option maxHeartbeats 4000000 in
theorem negs_good (a : Value) (bs : Nat → Nat) (hbs : ∀ j, bs j < 256) (w : World) (hO : Ord w) (ha : BytesIn w a 32 bs) :
    Calls Tryd.prog 5 #[a] w fun e w' => e = .returned (.bool true) ∧ Below w.heap.size w w' := by
  have cl := lent_any a 32 bs w ha (by decide)
  have hk := fun W hOW => knows4_any W hOW
  have p1 := fun (W : World) x hOW hx => neg_good x bs hbs W hOW hx
  have p2 := fun (W : World) (hW : Below w.heap.size w W) => rneg_good a bs hbs W (ha.still hW)
  have pm := fun (W : World) x y hOW hx hy hz => muladd_good a x y bs (byt 1) (byt ((oL - ofB bs 32 % oL) % oL)) hbs (byt_all _) (byt_all _) W hOW hx hy hz
  rw [neg_sum] at pm
  have c1 : ∀ W, Calls Tryd.prog 20 #[.int .u8 1] W fun e w' => ∃ s, e = .returned s ∧ NewB W w' s 32 (byt 1) ∧ Below W.heap.size W w' := fun W => small_any 1 (by decide) W
  have c0 : ∀ W, Calls Tryd.prog 20 #[.int .u8 0] W fun e w' => ∃ s, e = .returned s ∧ NewB W w' s 32 (byt 0) ∧ Below W.heap.size W w' := fun W => small_any 0 (by decide) W
  have hw0 : IntKind.i64.wrap 0 = 0 := by decide
  have bA := ha
  obtain ⟨xa, ca, rfl, -⟩ := ha.src
  generalize (oL - ofB bs 32 % oL) % oL = D at *
  clear ha hbs
  go_enter Tryd.func5, Tryd.ntmps5
  go_wp2_with (first
    | (go_at_call 8; refine cl.mono ?_; clear cl; rintro e w1 ⟨g1, k1, rfl, hk1, hg1, hr1, hb1⟩; replace hO := hO.still hb1; replace bA := bA.still hb1; replace p1 := p1 w1 _ hO (lent_bytes hr1 hk1))
    | (go_at_call 18; refine p1.mono ?_; clear p1; rintro e w2 ⟨s2, rfl, hn2, hb2⟩; (have td := hn2.str); (have bd := hn2.bytes (by decide)); obtain ⟨g2, rfl, -⟩ := hn2; (have hw := below_next hb1 hb2); replace hO := hO.still hb2; replace bA := bA.still hb2; replace p2 := p2 w2 hw; clear hb1 hb2)
    | (go_at_call 19; refine p2.mono ?_; clear p2; rintro e w3 ⟨s3, rfl, b3, hb3⟩; (have t3 := Str.of b3 (byt_all D)); (obtain ⟨x3, k3, rfl, -⟩ := b3.src); replace hw := below_next hw hb3; replace hO := hO.still hb3; replace bA := bA.still hb3; replace bd := bd.still hb3; (have q1 := (td.still hb3).conv w3 (Below.refl _ _)); (have q2 := t3.conv w3 (Below.refl _ _)); clear hb3 b3)
    | (go_at_call 11; refine (num4_any _ _).mono ?_; rintro e wn ⟨rfl, hwn⟩; subst hwn)
    | (go_at_call 20; refine (c1 _).mono ?_; clear c1; rintro e w4 ⟨s4, rfl, hn4, hb4⟩; (have b4 := hn4.bytes (by decide)); obtain ⟨g4, rfl, -⟩ := hn4; replace hw := below_next hw hb4; replace hO := hO.still hb4; replace pm := pm w4 _ _ hO (bA.still hb4) b4 (bd.still hb4); clear hb4 q1 q2 bA bd b4 td t3)
    | (go_at_call 16; refine pm.mono ?_; clear pm; rintro e w5 ⟨s5, rfl, hn5, hb5⟩; (have ts := hn5.str); obtain ⟨g5, rfl, -⟩ := hn5; replace hw := below_next hw hb5; replace hO := hO.still hb5; clear hb5))
  have hdrew : Below w5.heap.size w5 w5.drew := (Below.refl _ _).drew
  replace hO := hO.still hdrew
  replace ts := ts.still hdrew
  replace hw := below_next hw hdrew
  clear hdrew
  refine wp_region_noPanic ?_
  refine wp_region_held_drew (S := fun w' => Below w5.drew.heap.size w5.drew w') (by kernel_rfl) (Below.refl _ _) (fun hHeld => ?_)
  clear hHeld
  refine wpAnyH_take (i := 0) (oi := { dst := some 41, op := Op.move (Operand.tmp 8), type := 24, pos := "law.go:57", after := #[], guard := none }) (v := ?va0) rfl (by kernel_rfl) (by kernel_rfl) (by kernel_rfl) (fun _ _ _ h => h) (Or.inl ⟨by rfl, ?ha0⟩) (Below.refl _ _) ?ra0
  case ha0 =>
    intro w hSw
    go_simp
    try with_reducible rfl
  (try simp only [Act.put, List.setIfInBounds_toArray, List.set_cons_zero, List.set_cons_succ])
  refine wpAnyH_ready (rs := [1]) (by kernel_rfl) (by simp) ?_
  refine AllReadyH.cons (o := { dst := some 42, op := Op.call { callee := Callee.value (Operand.func 11), args := #[Operand.tmp 41], argTypes := #[24] }, type := 3, pos := "law.go:57", after := #[{ on := 0, ground := Ground.data }], guard := none }) rfl (fun K hK => ?_) AllReadyH.nil
  go_simp
  (go_at_call 11; refine (num4_any _ _).mono ?_; rintro e wn ⟨rfl, hwn⟩; subst hwn)
  (try go_simp)
  refine hK.out _ _ (Below.refl _ _) (fun h => ?_)
  clear h hK K
  (try simp only [Act.put, List.setIfInBounds_toArray, List.set_cons_zero, List.set_cons_succ])
  refine wpAnyH_take (i := 2) (oi := { dst := some 43, op := Op.binOp BinOp.eql 3 (Operand.tmp 42) (Operand.const (Value.int IntKind.i64 0)) 3, type := 4, pos := "law.go:57", after := #[{ on := 1, ground := Ground.data }], guard := none }) (v := ?va2) rfl (by kernel_rfl) (by kernel_rfl) (by kernel_rfl) (fun _ _ _ h => h) (Or.inl ⟨by rfl, ?ha2⟩) (Below.refl _ _) ?ra2
  case ha2 =>
    intro w hSw
    go_simp
    try with_reducible rfl
  (try simp only [Act.put, List.setIfInBounds_toArray, List.set_cons_zero, List.set_cons_succ])
  refine wpAnyH_take (i := 3) (oi := { dst := some 44, op := Op.move (Operand.tmp 43), type := 4, pos := "law.go:57", after := #[{ on := 2, ground := Ground.data }, { on := 1, ground := Ground.chain }], guard := none }) (v := ?va3) rfl (by kernel_rfl) (by kernel_rfl) (by kernel_rfl) (fun _ _ _ h => h) (Or.inl ⟨by rfl, ?ha3⟩) (Below.refl _ _) ?ra3
  case ha3 =>
    intro w hSw
    go_simp
    try with_reducible rfl
  (try simp only [Act.put, List.setIfInBounds_toArray, List.set_cons_zero, List.set_cons_succ])
  refine wpAnyH_take (i := 4) (oi := { dst := some 45, op := Op.move (Operand.tmp 7), type := 22, pos := "law.go:57", after := #[{ on := 3, ground := Ground.guard }], guard := some (3, true) }) (v := ?va4) rfl (by kernel_rfl) (by kernel_rfl) (by kernel_rfl) (fun _ _ _ h => h) (Or.inl ⟨by rfl, ?ha4⟩) (Below.refl _ _) ?ra4
  case ha4 =>
    intro w hSw
    go_simp
    try with_reducible rfl
  (try simp only [Act.put, List.setIfInBounds_toArray, List.set_cons_zero, List.set_cons_succ])
  refine wpAnyH_take (i := 5) (oi := { dst := some 46, op := Op.convert 22 9 (Operand.tmp 45), type := 9, pos := "law.go:57", after := #[{ on := 4, ground := Ground.data }, { on := 3, ground := Ground.guard }], guard := some (3, true) }) (v := ?va5) rfl (by kernel_rfl) (by kernel_rfl) (by kernel_rfl) (fun _ _ _ h => h) (Or.inl ⟨by rfl, ?ha5⟩) (Below.refl _ _) ?ra5
  case ha5 =>
    intro w hSw
    have q := ts.conv w hSw
    go_simp
    try with_reducible rfl
  (try simp only [Act.put, List.setIfInBounds_toArray, List.set_cons_zero, List.set_cons_succ])
  refine wpAnyH_ready (rs := [6]) (by kernel_rfl) (by simp) ?_
  refine AllReadyH.cons (o := { dst := some 47, op := Op.call { callee := Callee.value (Operand.func 20), args := #[Operand.const (Value.int IntKind.u8 0)], argTypes := #[5] }, type := 22, pos := "law.go:57", after := #[{ on := 3, ground := Ground.chain }, { on := 3, ground := Ground.guard }], guard := some (3, true) }) rfl (fun K hK => ?_) AllReadyH.nil
  go_simp
  (go_at_call 20; refine (c0 _).mono ?_; clear c0; rintro e w21 ⟨s21, rfl, hn21, hb21⟩; (have t21 := hn21.str); obtain ⟨g21, rfl, -⟩ := hn21)
  (try go_simp)
  refine hK.out _ _ hb21 (fun h => ?_)
  clear h hK K
  refine wpAnyH_narrow (S' := fun w' => Below w21.heap.size w21 w') (fun _ h => below_next hb21 h) _ _ _ _ ?_
  replace hO := hO.still hb21
  replace ts := ts.still hb21
  replace hw := below_next hw hb21
  clear hb21
  (try simp only [Act.put, List.setIfInBounds_toArray, List.set_cons_zero, List.set_cons_succ])
  refine wpAnyH_take (i := 7) (oi := { dst := some 48, op := Op.convert 22 9 (Operand.tmp 47), type := 9, pos := "law.go:57", after := #[{ on := 6, ground := Ground.data }, { on := 3, ground := Ground.guard }], guard := some (3, true) }) (v := ?va7) rfl (by kernel_rfl) (by kernel_rfl) (by kernel_rfl) (fun _ _ _ h => h) (Or.inl ⟨by rfl, ?ha7⟩) (Below.refl _ _) ?ra7
  case ha7 =>
    intro w hSw
    have q := t21.conv w hSw
    go_simp
    try with_reducible rfl
  (try simp only [Act.put, List.setIfInBounds_toArray, List.set_cons_zero, List.set_cons_succ])
  refine wpAnyH_take (i := 8) (oi := { dst := some 49, op := Op.binOp BinOp.eql 9 (Operand.tmp 46) (Operand.tmp 48) 9, type := 4, pos := "law.go:57", after := #[{ on := 5, ground := Ground.data }, { on := 7, ground := Ground.data }, { on := 3, ground := Ground.guard }], guard := some (3, true) }) (v := ?va8) rfl (by kernel_rfl) (by kernel_rfl) (by kernel_rfl) (fun _ _ _ h => h) (Or.inl ⟨by rfl, ?ha8⟩) (Below.refl _ _) ?ra8
  case ha8 =>
    intro w hSw
    go_simp
    try with_reducible rfl
  (try simp only [Act.put, List.setIfInBounds_toArray, List.set_cons_zero, List.set_cons_succ])
  refine wpAnyH_take (i := 9) (oi := { dst := some 50, op := Op.pick (Operand.tmp 44) (Operand.tmp 49) (Operand.const (Value.bool false)), type := 4, pos := "law.go:57", after := #[{ on := 3, ground := Ground.data }, { on := 8, ground := Ground.data }], guard := none }) (v := ?va9) rfl (by kernel_rfl) (by kernel_rfl) (by kernel_rfl) (fun _ _ _ h => h) (Or.inl ⟨by rfl, ?ha9⟩) (Below.refl _ _) ?ra9
  case ha9 =>
    intro w hSw
    go_simp
    try with_reducible rfl
  (try simp only [Act.put, List.setIfInBounds_toArray, List.set_cons_zero, List.set_cons_succ])
  refine wpAnyH_take (i := 10) (oi := { dst := some 51, op := Op.move (Operand.tmp 50), type := 4, pos := "law.go:57", after := #[{ on := 9, ground := Ground.data }, { on := 6, ground := Ground.chain }], guard := none }) (v := ?va10) rfl (by kernel_rfl) (by kernel_rfl) (by kernel_rfl) (fun _ _ _ h => h) (Or.inl ⟨by rfl, ?ha10⟩) (Below.refl _ _) ?ra10
  case ha10 =>
    intro w hSw
    go_simp
    try with_reducible rfl
  (try simp only [Act.put, List.setIfInBounds_toArray, List.set_cons_zero, List.set_cons_succ])
  refine wpAnyH_ready (rs := [11]) (by kernel_rfl) (by simp) ?_
  refine AllReadyH.cons (o := { dst := some 52, op := Op.call { callee := Callee.value (Operand.func 15), args := #[], argTypes := #[] }, type := 4, pos := "law.go:57", after := #[{ on := 10, ground := Ground.chain }, { on := 10, ground := Ground.guard }], guard := some (10, true) }) rfl (fun K hK => ?_) AllReadyH.nil
  go_simp
  (go_at_call 15; refine (hk _ hO).mono ?_; clear hk; rintro e w22 ⟨rfl, hb22⟩)
  (try go_simp)
  refine hK.out _ _ hb22 (fun h => ?_)
  clear h hK K
  refine wpAnyH_narrow (S' := fun w' => Below w22.heap.size w22 w') (fun _ h => below_next hb22 h) _ _ _ _ ?_
  replace hO := hO.still hb22
  replace ts := ts.still hb22
  replace t21 := t21.still hb22
  replace hw := below_next hw hb22
  clear hb22
  (try simp only [Act.put, List.setIfInBounds_toArray, List.set_cons_zero, List.set_cons_succ])
  refine wpAnyH_take (i := 12) (oi := { dst := some 53, op := Op.pick (Operand.tmp 51) (Operand.tmp 52) (Operand.const (Value.bool false)), type := 4, pos := "law.go:57", after := #[{ on := 10, ground := Ground.data }, { on := 11, ground := Ground.data }], guard := none }) (v := ?va12) rfl (by kernel_rfl) (by kernel_rfl) (by kernel_rfl) (fun _ _ _ h => h) (Or.inl ⟨by rfl, ?ha12⟩) (Below.refl _ _) ?ra12
  case ha12 =>
    intro w hSw
    go_simp
    try with_reducible rfl
  (try simp only [Act.put, List.setIfInBounds_toArray, List.set_cons_zero, List.set_cons_succ])
  refine wpAnyH_take (i := 13) (oi := { dst := some 2, op := Op.assign (Operand.tmp 53), type := 4, pos := "law.go:57", after := #[{ on := 12, ground := Ground.data }, { on := 11, ground := Ground.chain }, { on := 0, ground := Ground.phase }, { on := 1, ground := Ground.phase }, { on := 2, ground := Ground.phase }, { on := 3, ground := Ground.phase }, { on := 4, ground := Ground.phase }, { on := 5, ground := Ground.phase }, { on := 6, ground := Ground.phase }, { on := 7, ground := Ground.phase }, { on := 8, ground := Ground.phase }, { on := 9, ground := Ground.phase }, { on := 10, ground := Ground.phase }, { on := 11, ground := Ground.phase }, { on := 12, ground := Ground.phase }], guard := none }) (v := ?va13) rfl (by kernel_rfl) (by kernel_rfl) (by kernel_rfl) (fun _ _ _ h => h) (Or.inl ⟨by rfl, ?ha13⟩) (Below.refl _ _) ?ra13
  case ha13 =>
    intro w hSw
    go_simp
    try with_reducible rfl
  (try simp only [Act.put, List.setIfInBounds_toArray, List.set_cons_zero, List.set_cons_succ])
  refine wpAnyH_done (by kernel_rfl) ?_ _
  refine NoPanic.normal ?_
  go_wp2
  go_ret
  exact ⟨rfl, hw⟩
theorem scalarNegs_any (a : Value) (n : Nat) (bs : Nat → Nat) (hbs : ∀ j, bs j < 256) (w : World) (hO : Ord w) (ha : BytesIn w a n bs) (hn : n < 140737488355000) :
    Calls Tryd.prog 5 #[a] w fun e w' => e = .returned (.bool true) ∧ Below w.heap.size w w' := by
  by_cases h : n = 32
  · subst h; exact negs_good a bs hbs w hO ha
  · exact negs_bad a n bs w hO ha hn h
end Go.Proofs.YtmehhjogddpkgaaDoor
