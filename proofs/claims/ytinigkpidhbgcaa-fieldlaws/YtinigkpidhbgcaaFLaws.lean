/- The walk of the law FieldLaws in the model. -/
import Derived.Test.YtinigkpidhbgcaaFMulN
import Derived.WideShapes
namespace Go.Proofs.Ytinigkpidhbgcaa
open Go.RowKit
set_option maxRecDepth 20000 in
set_option maxHeartbeats 16000000 in
theorem fieldLaws_any (a b c : Value) (n m p : Nat) (ds bs cs : Nat → Nat) (hds : ∀ j, ds j < 256) (hbs : ∀ j, bs j < 256) (hcs : ∀ j, cs j < 256) (w : World) (ha : BytesIn w a n ds) (hb : BytesIn w b m bs) (hc : BytesIn w c p cs) :
    Calls Try.prog 7 #[a, b, c] w fun e w' => e = .returned (.bool true) ∧ Below w.heap.size w w' := by
  have cf1 := fit_any a n ds w ha
  have cf2 := fun W (h : Below w.heap.size w W) => fit_any b m bs W (hb.still h)
  have cf3 := fun W (h : Below w.heap.size w W) => fit_any c p cs W (hc.still h)
  have hA := fitB_lt hds (n := n)
  have hB := fitB_lt hbs (n := m)
  have hC := fitB_lt hcs (n := p)
  obtain ⟨xa, ka, rfl, -⟩ := ha.src
  obtain ⟨xb, kb, rfl, -⟩ := hb.src
  obtain ⟨xc, kc, rfl, -⟩ := hc.src
  clear ha hb hc
  generalize fitB n ds = A at *
  generalize fitB m bs = B at *
  generalize fitB p cs = C at *
  clear hds hbs hcs
  have hxl : ofB A 32 % pF < pF := Nat.mod_lt _ (by decide)
  have hyl : ofB B 32 % pF < pF := Nat.mod_lt _ (by decide)
  obtain ⟨l1, l2, l3, l4, l5, l6, l7, l8⟩ := laws_numsF (ofB C 32 % pF) hxl hyl
  have l9 : (ofB B 32 % pF + 0) % pF = ofB B 32 % pF := by rw [Nat.add_zero, Nat.mod_eq_of_lt hyl]
  have e0 : ofB (byt 0) 32 % pF = 0 := by kernel_rfl
  have e1 : ofB (byt 1) 32 % pF = 1 := by kernel_rfl
  have mAB := fun W x y hx hy => mul3_N x y A B ((ofB A 32 % pF) * (ofB B 32 % pF) % pF) hA hB rfl W hx hy
  have mBA := fun W x y hx hy => mul3_N x y B A ((ofB A 32 % pF) * (ofB B 32 % pF) % pF) hB hA (by rw [Nat.mul_comm]) W hx hy
  have aAB := fun W x y hx hy => add3_N x y A B (((ofB A 32 % pF) + (ofB B 32 % pF)) % pF) hA hB rfl W hx hy
  have aBA := fun W x y hx hy => add3_N x y B A (((ofB A 32 % pF) + (ofB B 32 % pF)) % pF) hB hA (by rw [Nat.add_comm]) W hx hy
  have mT := fun W x y hx hy => mul3_N x y (byt ((ofB A 32 % pF) * (ofB B 32 % pF) % pF)) C ((ofB A 32 % pF) * (ofB B 32 % pF) * (ofB C 32 % pF) % pF) (byt_all _) hC (by rw [ofB_restF]; exact l1) W hx hy
  have mBC := fun W x y hx hy => mul3_N x y B C ((ofB B 32 % pF) * (ofB C 32 % pF) % pF) hB hC rfl W hx hy
  have mU := fun W x y hx hy => mul3_N x y A (byt ((ofB B 32 % pF) * (ofB C 32 % pF) % pF)) ((ofB A 32 % pF) * (ofB B 32 % pF) * (ofB C 32 % pF) % pF) hA (byt_all _) (by rw [ofB_restF]; exact l2) W hx hy
  have aQ := fun W x y hx hy => add3_N x y (byt (((ofB A 32 % pF) + (ofB B 32 % pF)) % pF)) C (((ofB A 32 % pF) + (ofB B 32 % pF) + (ofB C 32 % pF)) % pF) (byt_all _) hC (by rw [ofB_restF]; exact l3) W hx hy
  have aBC := fun W x y hx hy => add3_N x y B C (((ofB B 32 % pF) + (ofB C 32 % pF)) % pF) hB hC rfl W hx hy
  have aR := fun W x y hx hy => add3_N x y A (byt (((ofB B 32 % pF) + (ofB C 32 % pF)) % pF)) (((ofB A 32 % pF) + (ofB B 32 % pF) + (ofB C 32 % pF)) % pF) hA (byt_all _) (by rw [ofB_restF]; exact l4) W hx hy
  have mE := fun W x y hx hy => mul3_N x y A (byt (((ofB B 32 % pF) + (ofB C 32 % pF)) % pF)) ((ofB A 32 % pF) * (((ofB B 32 % pF) + (ofB C 32 % pF)) % pF) % pF) hA (byt_all _) (by rw [ofB_restF]) W hx hy
  have mAC := fun W x y hx hy => mul3_N x y A C ((ofB A 32 % pF) * (ofB C 32 % pF) % pF) hA hC rfl W hx hy
  have aE := fun W x y hx hy => add3_N x y (byt ((ofB A 32 % pF) * (ofB B 32 % pF) % pF)) (byt ((ofB A 32 % pF) * (ofB C 32 % pF) % pF)) ((ofB A 32 % pF) * (((ofB B 32 % pF) + (ofB C 32 % pF)) % pF) % pF) (byt_all _) (byt_all _) (by rw [ofB_restF, ofB_restF]; exact l5) W hx hy
  have sX := fun W x y hx hy => sub3_N x y (byt (((ofB A 32 % pF) + (ofB B 32 % pF)) % pF)) B (ofB A 32 % pF) (byt_all _) hB (by rw [ofB_restF]; exact l6) W hx hy
  have aZ := fun W x y hx hy => add3_N x y A (byt 0) (ofB A 32 % pF) hA (byt_all _) (by rw [e0]; exact l7) W hx hy
  have mO := fun W x y hx hy => mul3_N x y A (byt 1) (ofB A 32 % pF) hA (byt_all _) (by rw [e1]; exact l8) W hx hy
  have aY := fun W x y hx hy => add3_N x y B (byt 0) (ofB B 32 % pF) hB (byt_all _) (by rw [e0]; exact l9) W hx hy
  have cc := fun W v hv => canon_good v A hA W hv
  have ci := fun W v hv => inv_good v A hA W hv
  have mI := fun W x y (hx0 : ofB A 32 % pF ≠ 0) hx hy => mul3_N x y A (byt ((ofB A 32 % pF) ^ (pF - 2) % pF)) 1 hA (byt_all _) (by rw [ofB_restF]; exact inv_mul hx0 hxl) W hx hy
  have mY := fun W x y hx hy => mul3_N x y (byt 1) B (ofB B 32 % pF) (byt_all _) hB (by rw [e1, Nat.one_mul, Nat.mod_mod]) W hx hy
  have hI0 : ofB A 32 % pF = 0 → (ofB A 32 % pF) ^ (pF - 2) % pF = 0 := fun h => by rw [h]; exact zero_inv
  have hne : ofB A 32 % pF ≠ 0 → ((strB 32 (byt (ofB A 32 % pF))).toList == (strB 32 (byt 0)).toList) = false := fun h => by
    rw [ByteArray.toList_eq, ByteArray.toList_eq]
    refine beq_false_of_ne (fun e => h ?_)
    have := (strB_eq (byt_all _) (byt_all 0)).1 (WideShapes.bytes_inj e)
    exact byt_inj (by unfold pF at hxl ⊢; omega) (by decide) this.2
  have c0 : ∀ W, Calls Try.prog 26 #[.int .u8 0] W fun e w' => ∃ s, e = .returned s ∧ NewB W w' s 32 (byt 0) ∧ Below W.heap.size W w' := fun W => small_any 0 (by decide) W
  have c1 : ∀ W, Calls Try.prog 26 #[.int .u8 1] W fun e w' => ∃ s, e = .returned s ∧ NewB W w' s 32 (byt 1) ∧ Below W.heap.size W w' := fun W => small_any 1 (by decide) W
  have hk := fun W => knows3_any W
  clear l1 l2 l3 l4 l5 l6 l7 l8 l9 e0 e1 hxl hyl
  generalize (ofB A 32 % pF) * (((ofB B 32 % pF) + (ofB C 32 % pF)) % pF) % pF = nE at *
  generalize (ofB A 32 % pF) * (ofB B 32 % pF) * (ofB C 32 % pF) % pF = nT at *
  generalize ((ofB A 32 % pF) + (ofB B 32 % pF) + (ofB C 32 % pF)) % pF = nQ at *
  generalize (ofB A 32 % pF) * (ofB B 32 % pF) % pF = nXY at *
  generalize ((ofB A 32 % pF) + (ofB B 32 % pF)) % pF = nXpY at *
  generalize (ofB B 32 % pF) * (ofB C 32 % pF) % pF = nYZ at *
  generalize ((ofB B 32 % pF) + (ofB C 32 % pF)) % pF = nYpZ at *
  generalize (ofB A 32 % pF) * (ofB C 32 % pF) % pF = nXZ at *
  generalize (ofB A 32 % pF) ^ (pF - 2) % pF = nI at *
  generalize ofB A 32 % pF = nX at *
  generalize ofB B 32 % pF = nY at *
  have hw0 : IntKind.i64.wrap 0 = 0 := by decide
  clear hA hB hC
  by_cases hx0 : nX = 0
  · have hi0 := hI0 hx0
    clear hI0 hne mI
    subst hx0
    subst hi0
    go_enter Try.func7, Try.ntmps7
    go_wp2_with (first
      | (go_at_call 25; refine cf1.mono ?_; clear cf1; rintro e w1 ⟨s1, rfl, hn1, hb1⟩; (have ba := hn1.bytes (by decide)); obtain ⟨g1, rfl, -⟩ := hn1; replace cf2 := cf2 w1 hb1)
      | (go_at_call 25; refine cf2.mono ?_; clear cf2; rintro e w2 ⟨s2, rfl, hn2, hb2⟩; (have bb := hn2.bytes (by decide)); obtain ⟨g2, rfl, -⟩ := hn2; (have hw := below_next hb1 hb2); replace ba := ba.still hb2; clear hb1 hb2; replace cf3 := cf3 w2 hw)
      | (go_at_call 25; refine cf3.mono ?_; clear cf3; rintro e w3 ⟨s3, rfl, hn3, hb3⟩; (have bc := hn3.bytes (by decide)); obtain ⟨g3, rfl, -⟩ := hn3; replace hw := below_next hw hb3; replace ba := ba.still hb3; replace bb := bb.still hb3; clear hb3)
      | (go_at_call 26; refine (c0 _).mono ?_; clear c0; rintro e w4 ⟨s4, rfl, hn4, hb4⟩; (have bz := hn4.bytes (by decide)); (have tz := hn4.str); obtain ⟨g4, rfl, -⟩ := hn4; replace hw := below_next hw hb4; replace ba := ba.still hb4; replace bb := bb.still hb4; replace bc := bc.still hb4; clear hb4; replace cc := cc w4 _ ba)
      | (go_at_call 15; refine cc.mono ?_; clear cc; rintro e w5 ⟨s5, rfl, hn5, hb5⟩; (have tx := hn5.str); obtain ⟨g5, rfl, -⟩ := hn5; replace hw := below_next hw hb5; replace ba := ba.still hb5; replace bb := bb.still hb5; replace bc := bc.still hb5; replace bz := bz.still hb5; replace tz := tz.still hb5; clear hb5)
      | (go_at_call 17; refine (num3_any _ _).mono ?_; rintro e wn ⟨rfl, hwn⟩; subst hwn)
      | (go_at_call 19; refine (hk _).mono ?_; clear hk; rintro e w6 ⟨rfl, hb6⟩; replace hw := below_next hw hb6; replace ba := ba.still hb6; replace bb := bb.still hb6; replace bc := bc.still hb6; replace bz := bz.still hb6; replace tz := tz.still hb6; replace tx := tx.still hb6; clear hb6))
    have hdrew : Below w6.heap.size w6 w6.drew := (Below.refl _ _).drew
    replace ba := ba.still hdrew
    replace bb := bb.still hdrew
    replace bc := bc.still hdrew
    replace bz := bz.still hdrew
    replace tz := tz.still hdrew
    replace tx := tx.still hdrew
    replace hw := below_next hw hdrew
    clear hdrew
    refine wp_region_noPanic ?_
    refine wp_region_held_drew (S := fun w' => Below w6.drew.heap.size w6.drew w') (by kernel_rfl) (Below.refl _ _) (fun hHeld => ?_)
    clear hHeld
    refine wpAnyH_take (i := 0) (oi := { dst := some 31, op := Op.move (Operand.tmp 0), type := 22, pos := "law.go:115", after := #[], guard := none }) (v := ?va0) rfl (by kernel_rfl) (by kernel_rfl) (by kernel_rfl) (fun _ _ _ h => h) (Or.inl ⟨by rfl, ?ha0⟩) (Below.refl _ _) ?ra0
    case ha0 =>
      intro w hSw
      go_simp
      try with_reducible rfl
    (try simp only [Act.put, List.setIfInBounds_toArray, List.set_cons_zero, List.set_cons_succ])
    refine wpAnyH_take (i := 1) (oi := { dst := some 32, op := Op.move (Operand.tmp 1), type := 22, pos := "law.go:115", after := #[], guard := none }) (v := ?va1) rfl (by kernel_rfl) (by kernel_rfl) (by kernel_rfl) (fun _ _ _ h => h) (Or.inl ⟨by rfl, ?ha1⟩) (Below.refl _ _) ?ra1
    case ha1 =>
      intro w hSw
      go_simp
      try with_reducible rfl
    (try simp only [Act.put, List.setIfInBounds_toArray, List.set_cons_zero, List.set_cons_succ])
    refine wpAnyH_take (i := 4) (oi := { dst := some 35, op := Op.move (Operand.tmp 1), type := 22, pos := "law.go:115", after := #[], guard := none }) (v := ?va4) rfl (by kernel_rfl) (by kernel_rfl) (by kernel_rfl) (fun _ _ _ h => h) (Or.inl ⟨by rfl, ?ha4⟩) (Below.refl _ _) ?ra4
    case ha4 =>
      intro w hSw
      go_simp
      try with_reducible rfl
    (try simp only [Act.put, List.setIfInBounds_toArray, List.set_cons_zero, List.set_cons_succ])
    refine wpAnyH_take (i := 5) (oi := { dst := some 36, op := Op.move (Operand.tmp 0), type := 22, pos := "law.go:115", after := #[], guard := none }) (v := ?va5) rfl (by kernel_rfl) (by kernel_rfl) (by kernel_rfl) (fun _ _ _ h => h) (Or.inl ⟨by rfl, ?ha5⟩) (Below.refl _ _) ?ra5
    case ha5 =>
      intro w hSw
      go_simp
      try with_reducible rfl
    (try simp only [Act.put, List.setIfInBounds_toArray, List.set_cons_zero, List.set_cons_succ])
    refine wpAnyH_ready (rs := [2]) (by kernel_rfl) (by simp) ?_
    refine AllReadyH.cons (o := { dst := some 33, op := Op.call { callee := Callee.value (Operand.func 27), args := #[Operand.tmp 31, Operand.tmp 32], argTypes := #[22, 22] }, type := 22, pos := "law.go:115", after := #[{ on := 0, ground := Ground.data }, { on := 1, ground := Ground.data }], guard := none }) rfl (fun K hK => ?_) AllReadyH.nil
    go_simp
    (go_at_call 27; refine (mAB _ _ _ ba bb).mono ?_; rintro e w21 ⟨s21, rfl, hn21, hb21⟩; (have t21 := hn21.str); obtain ⟨g21, rfl, -⟩ := hn21)
    (try go_simp)
    refine hK.out _ _ hb21 (fun h => ?_)
    clear h hK K
    refine wpAnyH_narrow (S' := fun w' => Below w21.heap.size w21 w') (fun _ h => below_next hb21 h) _ _ _ _ ?_
    replace ba := ba.still hb21
    replace bb := bb.still hb21
    replace bc := bc.still hb21
    replace bz := bz.still hb21
    replace tz := tz.still hb21
    replace tx := tx.still hb21
    replace hw := below_next hw hb21
    clear hb21
    (try simp only [Act.put, List.setIfInBounds_toArray, List.set_cons_zero, List.set_cons_succ])
    refine wpAnyH_take (i := 3) (oi := { dst := some 34, op := Op.convert 22 9 (Operand.tmp 33), type := 9, pos := "law.go:115", after := #[{ on := 2, ground := Ground.data }], guard := none }) (v := ?va3) rfl (by kernel_rfl) (by kernel_rfl) (by kernel_rfl) (fun _ _ _ h => h) (Or.inl ⟨by rfl, ?ha3⟩) (Below.refl _ _) ?ra3
    case ha3 =>
      intro w hSw
      have q := t21.conv w hSw
      go_simp
      try with_reducible rfl
    (try simp only [Act.put, List.setIfInBounds_toArray, List.set_cons_zero, List.set_cons_succ])
    refine wpAnyH_ready (rs := [6]) (by kernel_rfl) (by simp) ?_
    refine AllReadyH.cons (o := { dst := some 37, op := Op.call { callee := Callee.value (Operand.func 27), args := #[Operand.tmp 35, Operand.tmp 36], argTypes := #[22, 22] }, type := 22, pos := "law.go:115", after := #[{ on := 4, ground := Ground.data }, { on := 5, ground := Ground.data }, { on := 2, ground := Ground.chain }], guard := none }) rfl (fun K hK => ?_) AllReadyH.nil
    go_simp
    (go_at_call 27; refine (mBA _ _ _ bb ba).mono ?_; rintro e w22 ⟨s22, rfl, hn22, hb22⟩; (have t22 := hn22.str); obtain ⟨g22, rfl, -⟩ := hn22)
    (try go_simp)
    refine hK.out _ _ hb22 (fun h => ?_)
    clear h hK K
    refine wpAnyH_narrow (S' := fun w' => Below w22.heap.size w22 w') (fun _ h => below_next hb22 h) _ _ _ _ ?_
    replace ba := ba.still hb22
    replace bb := bb.still hb22
    replace bc := bc.still hb22
    replace bz := bz.still hb22
    replace tz := tz.still hb22
    replace tx := tx.still hb22
    replace t21 := t21.still hb22
    replace hw := below_next hw hb22
    clear hb22
    (try simp only [Act.put, List.setIfInBounds_toArray, List.set_cons_zero, List.set_cons_succ])
    refine wpAnyH_take (i := 7) (oi := { dst := some 38, op := Op.convert 22 9 (Operand.tmp 37), type := 9, pos := "law.go:115", after := #[{ on := 6, ground := Ground.data }], guard := none }) (v := ?va7) rfl (by kernel_rfl) (by kernel_rfl) (by kernel_rfl) (fun _ _ _ h => h) (Or.inl ⟨by rfl, ?ha7⟩) (Below.refl _ _) ?ra7
    case ha7 =>
      intro w hSw
      have q := t22.conv w hSw
      go_simp
      try with_reducible rfl
    (try simp only [Act.put, List.setIfInBounds_toArray, List.set_cons_zero, List.set_cons_succ])
    refine wpAnyH_take (i := 8) (oi := { dst := some 39, op := Op.binOp BinOp.neq 9 (Operand.tmp 34) (Operand.tmp 38) 9, type := 4, pos := "law.go:115", after := #[{ on := 3, ground := Ground.data }, { on := 7, ground := Ground.data }], guard := none }) (v := ?va8) rfl (by kernel_rfl) (by kernel_rfl) (by kernel_rfl) (fun _ _ _ h => h) (Or.inl ⟨by rfl, ?ha8⟩) (Below.refl _ _) ?ra8
    case ha8 =>
      intro w hSw
      go_simp
      try with_reducible rfl
    (try simp only [Act.put, List.setIfInBounds_toArray, List.set_cons_zero, List.set_cons_succ])
    refine wpAnyH_take (i := 9) (oi := { dst := some 40, op := Op.move (Operand.tmp 39), type := 4, pos := "law.go:115", after := #[{ on := 8, ground := Ground.data }, { on := 6, ground := Ground.chain }], guard := none }) (v := ?va9) rfl (by kernel_rfl) (by kernel_rfl) (by kernel_rfl) (fun _ _ _ h => h) (Or.inl ⟨by rfl, ?ha9⟩) (Below.refl _ _) ?ra9
    case ha9 =>
      intro w hSw
      go_simp
      try with_reducible rfl
    (try simp only [Act.put, List.setIfInBounds_toArray, List.set_cons_zero, List.set_cons_succ])
    refine wpAnyH_take (i := 10) (oi := { dst := some 41, op := Op.move (Operand.tmp 0), type := 22, pos := "law.go:115", after := #[{ on := 9, ground := Ground.guard }], guard := some (9, false) }) (v := ?va10) rfl (by kernel_rfl) (by kernel_rfl) (by kernel_rfl) (fun _ _ _ h => h) (Or.inl ⟨by rfl, ?ha10⟩) (Below.refl _ _) ?ra10
    case ha10 =>
      intro w hSw
      go_simp
      try with_reducible rfl
    (try simp only [Act.put, List.setIfInBounds_toArray, List.set_cons_zero, List.set_cons_succ])
    refine wpAnyH_take (i := 11) (oi := { dst := some 42, op := Op.move (Operand.tmp 1), type := 22, pos := "law.go:115", after := #[{ on := 9, ground := Ground.guard }], guard := some (9, false) }) (v := ?va11) rfl (by kernel_rfl) (by kernel_rfl) (by kernel_rfl) (fun _ _ _ h => h) (Or.inl ⟨by rfl, ?ha11⟩) (Below.refl _ _) ?ra11
    case ha11 =>
      intro w hSw
      go_simp
      try with_reducible rfl
    (try simp only [Act.put, List.setIfInBounds_toArray, List.set_cons_zero, List.set_cons_succ])
    refine wpAnyH_take (i := 14) (oi := { dst := some 45, op := Op.move (Operand.tmp 1), type := 22, pos := "law.go:115", after := #[{ on := 9, ground := Ground.guard }], guard := some (9, false) }) (v := ?va14) rfl (by kernel_rfl) (by kernel_rfl) (by kernel_rfl) (fun _ _ _ h => h) (Or.inl ⟨by rfl, ?ha14⟩) (Below.refl _ _) ?ra14
    case ha14 =>
      intro w hSw
      go_simp
      try with_reducible rfl
    (try simp only [Act.put, List.setIfInBounds_toArray, List.set_cons_zero, List.set_cons_succ])
    refine wpAnyH_take (i := 15) (oi := { dst := some 46, op := Op.move (Operand.tmp 0), type := 22, pos := "law.go:115", after := #[{ on := 9, ground := Ground.guard }], guard := some (9, false) }) (v := ?va15) rfl (by kernel_rfl) (by kernel_rfl) (by kernel_rfl) (fun _ _ _ h => h) (Or.inl ⟨by rfl, ?ha15⟩) (Below.refl _ _) ?ra15
    case ha15 =>
      intro w hSw
      go_simp
      try with_reducible rfl
    (try simp only [Act.put, List.setIfInBounds_toArray, List.set_cons_zero, List.set_cons_succ])
    refine wpAnyH_ready (rs := [12]) (by kernel_rfl) (by simp) ?_
    refine AllReadyH.cons (o := { dst := some 43, op := Op.call { callee := Callee.value (Operand.func 28), args := #[Operand.tmp 41, Operand.tmp 42], argTypes := #[22, 22] }, type := 22, pos := "law.go:115", after := #[{ on := 10, ground := Ground.data }, { on := 11, ground := Ground.data }, { on := 9, ground := Ground.chain }, { on := 9, ground := Ground.guard }], guard := some (9, false) }) rfl (fun K hK => ?_) AllReadyH.nil
    go_simp
    (go_at_call 28; refine (aAB _ _ _ ba bb).mono ?_; rintro e w23 ⟨s23, rfl, hn23, hb23⟩; (have t23 := hn23.str); obtain ⟨g23, rfl, -⟩ := hn23)
    (try go_simp)
    refine hK.out _ _ hb23 (fun h => ?_)
    clear h hK K
    refine wpAnyH_narrow (S' := fun w' => Below w23.heap.size w23 w') (fun _ h => below_next hb23 h) _ _ _ _ ?_
    replace ba := ba.still hb23
    replace bb := bb.still hb23
    replace bc := bc.still hb23
    replace bz := bz.still hb23
    replace tz := tz.still hb23
    replace tx := tx.still hb23
    replace t21 := t21.still hb23
    replace t22 := t22.still hb23
    replace hw := below_next hw hb23
    clear hb23
    (try simp only [Act.put, List.setIfInBounds_toArray, List.set_cons_zero, List.set_cons_succ])
    refine wpAnyH_take (i := 13) (oi := { dst := some 44, op := Op.convert 22 9 (Operand.tmp 43), type := 9, pos := "law.go:115", after := #[{ on := 12, ground := Ground.data }, { on := 9, ground := Ground.guard }], guard := some (9, false) }) (v := ?va13) rfl (by kernel_rfl) (by kernel_rfl) (by kernel_rfl) (fun _ _ _ h => h) (Or.inl ⟨by rfl, ?ha13⟩) (Below.refl _ _) ?ra13
    case ha13 =>
      intro w hSw
      have q := t23.conv w hSw
      go_simp
      try with_reducible rfl
    (try simp only [Act.put, List.setIfInBounds_toArray, List.set_cons_zero, List.set_cons_succ])
    refine wpAnyH_ready (rs := [16]) (by kernel_rfl) (by simp) ?_
    refine AllReadyH.cons (o := { dst := some 47, op := Op.call { callee := Callee.value (Operand.func 28), args := #[Operand.tmp 45, Operand.tmp 46], argTypes := #[22, 22] }, type := 22, pos := "law.go:115", after := #[{ on := 14, ground := Ground.data }, { on := 15, ground := Ground.data }, { on := 12, ground := Ground.chain }, { on := 9, ground := Ground.guard }], guard := some (9, false) }) rfl (fun K hK => ?_) AllReadyH.nil
    go_simp
    (go_at_call 28; refine (aBA _ _ _ bb ba).mono ?_; rintro e w24 ⟨s24, rfl, hn24, hb24⟩; (have t24 := hn24.str); obtain ⟨g24, rfl, -⟩ := hn24)
    (try go_simp)
    refine hK.out _ _ hb24 (fun h => ?_)
    clear h hK K
    refine wpAnyH_narrow (S' := fun w' => Below w24.heap.size w24 w') (fun _ h => below_next hb24 h) _ _ _ _ ?_
    replace ba := ba.still hb24
    replace bb := bb.still hb24
    replace bc := bc.still hb24
    replace bz := bz.still hb24
    replace tz := tz.still hb24
    replace tx := tx.still hb24
    replace t21 := t21.still hb24
    replace t22 := t22.still hb24
    replace t23 := t23.still hb24
    replace hw := below_next hw hb24
    clear hb24
    (try simp only [Act.put, List.setIfInBounds_toArray, List.set_cons_zero, List.set_cons_succ])
    refine wpAnyH_take (i := 17) (oi := { dst := some 48, op := Op.convert 22 9 (Operand.tmp 47), type := 9, pos := "law.go:115", after := #[{ on := 16, ground := Ground.data }, { on := 9, ground := Ground.guard }], guard := some (9, false) }) (v := ?va17) rfl (by kernel_rfl) (by kernel_rfl) (by kernel_rfl) (fun _ _ _ h => h) (Or.inl ⟨by rfl, ?ha17⟩) (Below.refl _ _) ?ra17
    case ha17 =>
      intro w hSw
      have q := t24.conv w hSw
      go_simp
      try with_reducible rfl
    (try simp only [Act.put, List.setIfInBounds_toArray, List.set_cons_zero, List.set_cons_succ])
    refine wpAnyH_take (i := 18) (oi := { dst := some 49, op := Op.binOp BinOp.neq 9 (Operand.tmp 44) (Operand.tmp 48) 9, type := 4, pos := "law.go:115", after := #[{ on := 13, ground := Ground.data }, { on := 17, ground := Ground.data }, { on := 9, ground := Ground.guard }], guard := some (9, false) }) (v := ?va18) rfl (by kernel_rfl) (by kernel_rfl) (by kernel_rfl) (fun _ _ _ h => h) (Or.inl ⟨by rfl, ?ha18⟩) (Below.refl _ _) ?ra18
    case ha18 =>
      intro w hSw
      go_simp
      try with_reducible rfl
    (try simp only [Act.put, List.setIfInBounds_toArray, List.set_cons_zero, List.set_cons_succ])
    refine wpAnyH_take (i := 19) (oi := { dst := some 50, op := Op.pick (Operand.tmp 40) (Operand.const (Value.bool true)) (Operand.tmp 49), type := 4, pos := "law.go:115", after := #[{ on := 9, ground := Ground.data }, { on := 18, ground := Ground.data }], guard := none }) (v := ?va19) rfl (by kernel_rfl) (by kernel_rfl) (by kernel_rfl) (fun _ _ _ h => h) (Or.inl ⟨by rfl, ?ha19⟩) (Below.refl _ _) ?ra19
    case ha19 =>
      intro w hSw
      go_simp
      try with_reducible rfl
    (try simp only [Act.put, List.setIfInBounds_toArray, List.set_cons_zero, List.set_cons_succ])
    refine wpAnyH_take (i := 20) (oi := { dst := some 51, op := Op.move (Operand.tmp 50), type := 4, pos := "law.go:115", after := #[{ on := 19, ground := Ground.data }, { on := 16, ground := Ground.chain }], guard := none }) (v := ?va20) rfl (by kernel_rfl) (by kernel_rfl) (by kernel_rfl) (fun _ _ _ h => h) (Or.inl ⟨by rfl, ?ha20⟩) (Below.refl _ _) ?ra20
    case ha20 =>
      intro w hSw
      go_simp
      try with_reducible rfl
    (try simp only [Act.put, List.setIfInBounds_toArray, List.set_cons_zero, List.set_cons_succ])
    refine wpAnyH_take (i := 21) (oi := { dst := some 52, op := Op.move (Operand.tmp 0), type := 22, pos := "law.go:115", after := #[{ on := 20, ground := Ground.guard }], guard := some (20, false) }) (v := ?va21) rfl (by kernel_rfl) (by kernel_rfl) (by kernel_rfl) (fun _ _ _ h => h) (Or.inl ⟨by rfl, ?ha21⟩) (Below.refl _ _) ?ra21
    case ha21 =>
      intro w hSw
      go_simp
      try with_reducible rfl
    (try simp only [Act.put, List.setIfInBounds_toArray, List.set_cons_zero, List.set_cons_succ])
    refine wpAnyH_take (i := 22) (oi := { dst := some 53, op := Op.move (Operand.tmp 1), type := 22, pos := "law.go:115", after := #[{ on := 20, ground := Ground.guard }], guard := some (20, false) }) (v := ?va22) rfl (by kernel_rfl) (by kernel_rfl) (by kernel_rfl) (fun _ _ _ h => h) (Or.inl ⟨by rfl, ?ha22⟩) (Below.refl _ _) ?ra22
    case ha22 =>
      intro w hSw
      go_simp
      try with_reducible rfl
    (try simp only [Act.put, List.setIfInBounds_toArray, List.set_cons_zero, List.set_cons_succ])
    refine wpAnyH_take (i := 24) (oi := { dst := some 55, op := Op.move (Operand.tmp 2), type := 22, pos := "law.go:115", after := #[{ on := 20, ground := Ground.guard }], guard := some (20, false) }) (v := ?va24) rfl (by kernel_rfl) (by kernel_rfl) (by kernel_rfl) (fun _ _ _ h => h) (Or.inl ⟨by rfl, ?ha24⟩) (Below.refl _ _) ?ra24
    case ha24 =>
      intro w hSw
      go_simp
      try with_reducible rfl
    (try simp only [Act.put, List.setIfInBounds_toArray, List.set_cons_zero, List.set_cons_succ])
    refine wpAnyH_take (i := 27) (oi := { dst := some 58, op := Op.move (Operand.tmp 0), type := 22, pos := "law.go:115", after := #[{ on := 20, ground := Ground.guard }], guard := some (20, false) }) (v := ?va27) rfl (by kernel_rfl) (by kernel_rfl) (by kernel_rfl) (fun _ _ _ h => h) (Or.inl ⟨by rfl, ?ha27⟩) (Below.refl _ _) ?ra27
    case ha27 =>
      intro w hSw
      go_simp
      try with_reducible rfl
    (try simp only [Act.put, List.setIfInBounds_toArray, List.set_cons_zero, List.set_cons_succ])
    refine wpAnyH_take (i := 28) (oi := { dst := some 59, op := Op.move (Operand.tmp 1), type := 22, pos := "law.go:115", after := #[{ on := 20, ground := Ground.guard }], guard := some (20, false) }) (v := ?va28) rfl (by kernel_rfl) (by kernel_rfl) (by kernel_rfl) (fun _ _ _ h => h) (Or.inl ⟨by rfl, ?ha28⟩) (Below.refl _ _) ?ra28
    case ha28 =>
      intro w hSw
      go_simp
      try with_reducible rfl
    (try simp only [Act.put, List.setIfInBounds_toArray, List.set_cons_zero, List.set_cons_succ])
    refine wpAnyH_take (i := 29) (oi := { dst := some 60, op := Op.move (Operand.tmp 2), type := 22, pos := "law.go:115", after := #[{ on := 20, ground := Ground.guard }], guard := some (20, false) }) (v := ?va29) rfl (by kernel_rfl) (by kernel_rfl) (by kernel_rfl) (fun _ _ _ h => h) (Or.inl ⟨by rfl, ?ha29⟩) (Below.refl _ _) ?ra29
    case ha29 =>
      intro w hSw
      go_simp
      try with_reducible rfl
    (try simp only [Act.put, List.setIfInBounds_toArray, List.set_cons_zero, List.set_cons_succ])
    refine wpAnyH_ready (rs := [23]) (by kernel_rfl) (by simp) ?_
    refine AllReadyH.cons (o := { dst := some 54, op := Op.call { callee := Callee.value (Operand.func 27), args := #[Operand.tmp 52, Operand.tmp 53], argTypes := #[22, 22] }, type := 22, pos := "law.go:115", after := #[{ on := 21, ground := Ground.data }, { on := 22, ground := Ground.data }, { on := 20, ground := Ground.chain }, { on := 20, ground := Ground.guard }], guard := some (20, false) }) rfl (fun K hK => ?_) AllReadyH.nil
    go_simp
    (go_at_call 27; refine (mAB _ _ _ ba bb).mono ?_; rintro e w25 ⟨s25, rfl, hn25, hb25⟩; (have b25 := hn25.bytes (by decide)); obtain ⟨g25, rfl, -⟩ := hn25)
    (try go_simp)
    refine hK.out _ _ hb25 (fun h => ?_)
    clear h hK K
    refine wpAnyH_narrow (S' := fun w' => Below w25.heap.size w25 w') (fun _ h => below_next hb25 h) _ _ _ _ ?_
    replace ba := ba.still hb25
    replace bb := bb.still hb25
    replace bc := bc.still hb25
    replace bz := bz.still hb25
    replace tz := tz.still hb25
    replace tx := tx.still hb25
    replace t21 := t21.still hb25
    replace t22 := t22.still hb25
    replace t23 := t23.still hb25
    replace t24 := t24.still hb25
    replace hw := below_next hw hb25
    clear hb25
    (try simp only [Act.put, List.setIfInBounds_toArray, List.set_cons_zero, List.set_cons_succ])
    refine wpAnyH_ready (rs := [25]) (by kernel_rfl) (by simp) ?_
    refine AllReadyH.cons (o := { dst := some 56, op := Op.call { callee := Callee.value (Operand.func 27), args := #[Operand.tmp 54, Operand.tmp 55], argTypes := #[22, 22] }, type := 22, pos := "law.go:115", after := #[{ on := 23, ground := Ground.data }, { on := 24, ground := Ground.data }, { on := 23, ground := Ground.chain }, { on := 20, ground := Ground.guard }], guard := some (20, false) }) rfl (fun K hK => ?_) AllReadyH.nil
    go_simp
    (go_at_call 27; refine (mT _ _ _ b25 bc).mono ?_; rintro e w26 ⟨s26, rfl, hn26, hb26⟩; (have t26 := hn26.str); obtain ⟨g26, rfl, -⟩ := hn26)
    (try go_simp)
    refine hK.out _ _ hb26 (fun h => ?_)
    clear h hK K
    refine wpAnyH_narrow (S' := fun w' => Below w26.heap.size w26 w') (fun _ h => below_next hb26 h) _ _ _ _ ?_
    clear b25
    replace ba := ba.still hb26
    replace bb := bb.still hb26
    replace bc := bc.still hb26
    replace bz := bz.still hb26
    replace tz := tz.still hb26
    replace tx := tx.still hb26
    replace t21 := t21.still hb26
    replace t22 := t22.still hb26
    replace t23 := t23.still hb26
    replace t24 := t24.still hb26
    replace hw := below_next hw hb26
    clear hb26
    (try simp only [Act.put, List.setIfInBounds_toArray, List.set_cons_zero, List.set_cons_succ])
    refine wpAnyH_take (i := 26) (oi := { dst := some 57, op := Op.convert 22 9 (Operand.tmp 56), type := 9, pos := "law.go:115", after := #[{ on := 25, ground := Ground.data }, { on := 20, ground := Ground.guard }], guard := some (20, false) }) (v := ?va26) rfl (by kernel_rfl) (by kernel_rfl) (by kernel_rfl) (fun _ _ _ h => h) (Or.inl ⟨by rfl, ?ha26⟩) (Below.refl _ _) ?ra26
    case ha26 =>
      intro w hSw
      have q := t26.conv w hSw
      go_simp
      try with_reducible rfl
    (try simp only [Act.put, List.setIfInBounds_toArray, List.set_cons_zero, List.set_cons_succ])
    refine wpAnyH_ready (rs := [30]) (by kernel_rfl) (by simp) ?_
    refine AllReadyH.cons (o := { dst := some 61, op := Op.call { callee := Callee.value (Operand.func 27), args := #[Operand.tmp 59, Operand.tmp 60], argTypes := #[22, 22] }, type := 22, pos := "law.go:115", after := #[{ on := 28, ground := Ground.data }, { on := 29, ground := Ground.data }, { on := 25, ground := Ground.chain }, { on := 20, ground := Ground.guard }], guard := some (20, false) }) rfl (fun K hK => ?_) AllReadyH.nil
    go_simp
    (go_at_call 27; refine (mBC _ _ _ bb bc).mono ?_; rintro e w27 ⟨s27, rfl, hn27, hb27⟩; (have b27 := hn27.bytes (by decide)); obtain ⟨g27, rfl, -⟩ := hn27)
    (try go_simp)
    refine hK.out _ _ hb27 (fun h => ?_)
    clear h hK K
    refine wpAnyH_narrow (S' := fun w' => Below w27.heap.size w27 w') (fun _ h => below_next hb27 h) _ _ _ _ ?_
    replace ba := ba.still hb27
    replace bb := bb.still hb27
    replace bc := bc.still hb27
    replace bz := bz.still hb27
    replace tz := tz.still hb27
    replace tx := tx.still hb27
    replace t21 := t21.still hb27
    replace t22 := t22.still hb27
    replace t23 := t23.still hb27
    replace t24 := t24.still hb27
    replace t26 := t26.still hb27
    replace hw := below_next hw hb27
    clear hb27
    (try simp only [Act.put, List.setIfInBounds_toArray, List.set_cons_zero, List.set_cons_succ])
    refine wpAnyH_ready (rs := [31]) (by kernel_rfl) (by simp) ?_
    refine AllReadyH.cons (o := { dst := some 62, op := Op.call { callee := Callee.value (Operand.func 27), args := #[Operand.tmp 58, Operand.tmp 61], argTypes := #[22, 22] }, type := 22, pos := "law.go:115", after := #[{ on := 27, ground := Ground.data }, { on := 30, ground := Ground.data }, { on := 30, ground := Ground.chain }, { on := 20, ground := Ground.guard }], guard := some (20, false) }) rfl (fun K hK => ?_) AllReadyH.nil
    go_simp
    (go_at_call 27; refine (mU _ _ _ ba b27).mono ?_; rintro e w28 ⟨s28, rfl, hn28, hb28⟩; (have t28 := hn28.str); obtain ⟨g28, rfl, -⟩ := hn28)
    (try go_simp)
    refine hK.out _ _ hb28 (fun h => ?_)
    clear h hK K
    refine wpAnyH_narrow (S' := fun w' => Below w28.heap.size w28 w') (fun _ h => below_next hb28 h) _ _ _ _ ?_
    clear b27
    replace ba := ba.still hb28
    replace bb := bb.still hb28
    replace bc := bc.still hb28
    replace bz := bz.still hb28
    replace tz := tz.still hb28
    replace tx := tx.still hb28
    replace t21 := t21.still hb28
    replace t22 := t22.still hb28
    replace t23 := t23.still hb28
    replace t24 := t24.still hb28
    replace t26 := t26.still hb28
    replace hw := below_next hw hb28
    clear hb28
    (try simp only [Act.put, List.setIfInBounds_toArray, List.set_cons_zero, List.set_cons_succ])
    refine wpAnyH_take (i := 32) (oi := { dst := some 63, op := Op.convert 22 9 (Operand.tmp 62), type := 9, pos := "law.go:115", after := #[{ on := 31, ground := Ground.data }, { on := 20, ground := Ground.guard }], guard := some (20, false) }) (v := ?va32) rfl (by kernel_rfl) (by kernel_rfl) (by kernel_rfl) (fun _ _ _ h => h) (Or.inl ⟨by rfl, ?ha32⟩) (Below.refl _ _) ?ra32
    case ha32 =>
      intro w hSw
      have q := t28.conv w hSw
      go_simp
      try with_reducible rfl
    (try simp only [Act.put, List.setIfInBounds_toArray, List.set_cons_zero, List.set_cons_succ])
    refine wpAnyH_take (i := 33) (oi := { dst := some 64, op := Op.binOp BinOp.neq 9 (Operand.tmp 57) (Operand.tmp 63) 9, type := 4, pos := "law.go:115", after := #[{ on := 26, ground := Ground.data }, { on := 32, ground := Ground.data }, { on := 20, ground := Ground.guard }], guard := some (20, false) }) (v := ?va33) rfl (by kernel_rfl) (by kernel_rfl) (by kernel_rfl) (fun _ _ _ h => h) (Or.inl ⟨by rfl, ?ha33⟩) (Below.refl _ _) ?ra33
    case ha33 =>
      intro w hSw
      go_simp
      try with_reducible rfl
    (try simp only [Act.put, List.setIfInBounds_toArray, List.set_cons_zero, List.set_cons_succ])
    refine wpAnyH_take (i := 34) (oi := { dst := some 65, op := Op.pick (Operand.tmp 51) (Operand.const (Value.bool true)) (Operand.tmp 64), type := 4, pos := "law.go:115", after := #[{ on := 20, ground := Ground.data }, { on := 33, ground := Ground.data }], guard := none }) (v := ?va34) rfl (by kernel_rfl) (by kernel_rfl) (by kernel_rfl) (fun _ _ _ h => h) (Or.inl ⟨by rfl, ?ha34⟩) (Below.refl _ _) ?ra34
    case ha34 =>
      intro w hSw
      go_simp
      try with_reducible rfl
    (try simp only [Act.put, List.setIfInBounds_toArray, List.set_cons_zero, List.set_cons_succ])
    refine wpAnyH_take (i := 35) (oi := { dst := some 66, op := Op.move (Operand.tmp 65), type := 4, pos := "law.go:115", after := #[{ on := 34, ground := Ground.data }, { on := 31, ground := Ground.chain }], guard := none }) (v := ?va35) rfl (by kernel_rfl) (by kernel_rfl) (by kernel_rfl) (fun _ _ _ h => h) (Or.inl ⟨by rfl, ?ha35⟩) (Below.refl _ _) ?ra35
    case ha35 =>
      intro w hSw
      go_simp
      try with_reducible rfl
    (try simp only [Act.put, List.setIfInBounds_toArray, List.set_cons_zero, List.set_cons_succ])
    refine wpAnyH_take (i := 36) (oi := { dst := some 67, op := Op.move (Operand.tmp 0), type := 22, pos := "law.go:115", after := #[{ on := 35, ground := Ground.guard }], guard := some (35, false) }) (v := ?va36) rfl (by kernel_rfl) (by kernel_rfl) (by kernel_rfl) (fun _ _ _ h => h) (Or.inl ⟨by rfl, ?ha36⟩) (Below.refl _ _) ?ra36
    case ha36 =>
      intro w hSw
      go_simp
      try with_reducible rfl
    (try simp only [Act.put, List.setIfInBounds_toArray, List.set_cons_zero, List.set_cons_succ])
    refine wpAnyH_take (i := 37) (oi := { dst := some 68, op := Op.move (Operand.tmp 1), type := 22, pos := "law.go:115", after := #[{ on := 35, ground := Ground.guard }], guard := some (35, false) }) (v := ?va37) rfl (by kernel_rfl) (by kernel_rfl) (by kernel_rfl) (fun _ _ _ h => h) (Or.inl ⟨by rfl, ?ha37⟩) (Below.refl _ _) ?ra37
    case ha37 =>
      intro w hSw
      go_simp
      try with_reducible rfl
    (try simp only [Act.put, List.setIfInBounds_toArray, List.set_cons_zero, List.set_cons_succ])
    refine wpAnyH_take (i := 39) (oi := { dst := some 70, op := Op.move (Operand.tmp 2), type := 22, pos := "law.go:115", after := #[{ on := 35, ground := Ground.guard }], guard := some (35, false) }) (v := ?va39) rfl (by kernel_rfl) (by kernel_rfl) (by kernel_rfl) (fun _ _ _ h => h) (Or.inl ⟨by rfl, ?ha39⟩) (Below.refl _ _) ?ra39
    case ha39 =>
      intro w hSw
      go_simp
      try with_reducible rfl
    (try simp only [Act.put, List.setIfInBounds_toArray, List.set_cons_zero, List.set_cons_succ])
    refine wpAnyH_take (i := 42) (oi := { dst := some 73, op := Op.move (Operand.tmp 0), type := 22, pos := "law.go:115", after := #[{ on := 35, ground := Ground.guard }], guard := some (35, false) }) (v := ?va42) rfl (by kernel_rfl) (by kernel_rfl) (by kernel_rfl) (fun _ _ _ h => h) (Or.inl ⟨by rfl, ?ha42⟩) (Below.refl _ _) ?ra42
    case ha42 =>
      intro w hSw
      go_simp
      try with_reducible rfl
    (try simp only [Act.put, List.setIfInBounds_toArray, List.set_cons_zero, List.set_cons_succ])
    refine wpAnyH_take (i := 43) (oi := { dst := some 74, op := Op.move (Operand.tmp 1), type := 22, pos := "law.go:115", after := #[{ on := 35, ground := Ground.guard }], guard := some (35, false) }) (v := ?va43) rfl (by kernel_rfl) (by kernel_rfl) (by kernel_rfl) (fun _ _ _ h => h) (Or.inl ⟨by rfl, ?ha43⟩) (Below.refl _ _) ?ra43
    case ha43 =>
      intro w hSw
      go_simp
      try with_reducible rfl
    (try simp only [Act.put, List.setIfInBounds_toArray, List.set_cons_zero, List.set_cons_succ])
    refine wpAnyH_take (i := 44) (oi := { dst := some 75, op := Op.move (Operand.tmp 2), type := 22, pos := "law.go:115", after := #[{ on := 35, ground := Ground.guard }], guard := some (35, false) }) (v := ?va44) rfl (by kernel_rfl) (by kernel_rfl) (by kernel_rfl) (fun _ _ _ h => h) (Or.inl ⟨by rfl, ?ha44⟩) (Below.refl _ _) ?ra44
    case ha44 =>
      intro w hSw
      go_simp
      try with_reducible rfl
    (try simp only [Act.put, List.setIfInBounds_toArray, List.set_cons_zero, List.set_cons_succ])
    refine wpAnyH_ready (rs := [38]) (by kernel_rfl) (by simp) ?_
    refine AllReadyH.cons (o := { dst := some 69, op := Op.call { callee := Callee.value (Operand.func 28), args := #[Operand.tmp 67, Operand.tmp 68], argTypes := #[22, 22] }, type := 22, pos := "law.go:115", after := #[{ on := 36, ground := Ground.data }, { on := 37, ground := Ground.data }, { on := 35, ground := Ground.chain }, { on := 35, ground := Ground.guard }], guard := some (35, false) }) rfl (fun K hK => ?_) AllReadyH.nil
    go_simp
    (go_at_call 28; refine (aAB _ _ _ ba bb).mono ?_; rintro e w29 ⟨s29, rfl, hn29, hb29⟩; (have b29 := hn29.bytes (by decide)); obtain ⟨g29, rfl, -⟩ := hn29)
    (try go_simp)
    refine hK.out _ _ hb29 (fun h => ?_)
    clear h hK K
    refine wpAnyH_narrow (S' := fun w' => Below w29.heap.size w29 w') (fun _ h => below_next hb29 h) _ _ _ _ ?_
    replace ba := ba.still hb29
    replace bb := bb.still hb29
    replace bc := bc.still hb29
    replace bz := bz.still hb29
    replace tz := tz.still hb29
    replace tx := tx.still hb29
    replace t21 := t21.still hb29
    replace t22 := t22.still hb29
    replace t23 := t23.still hb29
    replace t24 := t24.still hb29
    replace t26 := t26.still hb29
    replace t28 := t28.still hb29
    replace hw := below_next hw hb29
    clear hb29
    (try simp only [Act.put, List.setIfInBounds_toArray, List.set_cons_zero, List.set_cons_succ])
    refine wpAnyH_ready (rs := [40]) (by kernel_rfl) (by simp) ?_
    refine AllReadyH.cons (o := { dst := some 71, op := Op.call { callee := Callee.value (Operand.func 28), args := #[Operand.tmp 69, Operand.tmp 70], argTypes := #[22, 22] }, type := 22, pos := "law.go:115", after := #[{ on := 38, ground := Ground.data }, { on := 39, ground := Ground.data }, { on := 38, ground := Ground.chain }, { on := 35, ground := Ground.guard }], guard := some (35, false) }) rfl (fun K hK => ?_) AllReadyH.nil
    go_simp
    (go_at_call 28; refine (aQ _ _ _ b29 bc).mono ?_; rintro e w30 ⟨s30, rfl, hn30, hb30⟩; (have t30 := hn30.str); obtain ⟨g30, rfl, -⟩ := hn30)
    (try go_simp)
    refine hK.out _ _ hb30 (fun h => ?_)
    clear h hK K
    refine wpAnyH_narrow (S' := fun w' => Below w30.heap.size w30 w') (fun _ h => below_next hb30 h) _ _ _ _ ?_
    clear b29
    replace ba := ba.still hb30
    replace bb := bb.still hb30
    replace bc := bc.still hb30
    replace bz := bz.still hb30
    replace tz := tz.still hb30
    replace tx := tx.still hb30
    replace t21 := t21.still hb30
    replace t22 := t22.still hb30
    replace t23 := t23.still hb30
    replace t24 := t24.still hb30
    replace t26 := t26.still hb30
    replace t28 := t28.still hb30
    replace hw := below_next hw hb30
    clear hb30
    (try simp only [Act.put, List.setIfInBounds_toArray, List.set_cons_zero, List.set_cons_succ])
    refine wpAnyH_take (i := 41) (oi := { dst := some 72, op := Op.convert 22 9 (Operand.tmp 71), type := 9, pos := "law.go:115", after := #[{ on := 40, ground := Ground.data }, { on := 35, ground := Ground.guard }], guard := some (35, false) }) (v := ?va41) rfl (by kernel_rfl) (by kernel_rfl) (by kernel_rfl) (fun _ _ _ h => h) (Or.inl ⟨by rfl, ?ha41⟩) (Below.refl _ _) ?ra41
    case ha41 =>
      intro w hSw
      have q := t30.conv w hSw
      go_simp
      try with_reducible rfl
    (try simp only [Act.put, List.setIfInBounds_toArray, List.set_cons_zero, List.set_cons_succ])
    refine wpAnyH_ready (rs := [45]) (by kernel_rfl) (by simp) ?_
    refine AllReadyH.cons (o := { dst := some 76, op := Op.call { callee := Callee.value (Operand.func 28), args := #[Operand.tmp 74, Operand.tmp 75], argTypes := #[22, 22] }, type := 22, pos := "law.go:115", after := #[{ on := 43, ground := Ground.data }, { on := 44, ground := Ground.data }, { on := 40, ground := Ground.chain }, { on := 35, ground := Ground.guard }], guard := some (35, false) }) rfl (fun K hK => ?_) AllReadyH.nil
    go_simp
    (go_at_call 28; refine (aBC _ _ _ bb bc).mono ?_; rintro e w31 ⟨s31, rfl, hn31, hb31⟩; (have b31 := hn31.bytes (by decide)); obtain ⟨g31, rfl, -⟩ := hn31)
    (try go_simp)
    refine hK.out _ _ hb31 (fun h => ?_)
    clear h hK K
    refine wpAnyH_narrow (S' := fun w' => Below w31.heap.size w31 w') (fun _ h => below_next hb31 h) _ _ _ _ ?_
    replace ba := ba.still hb31
    replace bb := bb.still hb31
    replace bc := bc.still hb31
    replace bz := bz.still hb31
    replace tz := tz.still hb31
    replace tx := tx.still hb31
    replace t21 := t21.still hb31
    replace t22 := t22.still hb31
    replace t23 := t23.still hb31
    replace t24 := t24.still hb31
    replace t26 := t26.still hb31
    replace t28 := t28.still hb31
    replace t30 := t30.still hb31
    replace hw := below_next hw hb31
    clear hb31
    (try simp only [Act.put, List.setIfInBounds_toArray, List.set_cons_zero, List.set_cons_succ])
    refine wpAnyH_ready (rs := [46]) (by kernel_rfl) (by simp) ?_
    refine AllReadyH.cons (o := { dst := some 77, op := Op.call { callee := Callee.value (Operand.func 28), args := #[Operand.tmp 73, Operand.tmp 76], argTypes := #[22, 22] }, type := 22, pos := "law.go:115", after := #[{ on := 42, ground := Ground.data }, { on := 45, ground := Ground.data }, { on := 45, ground := Ground.chain }, { on := 35, ground := Ground.guard }], guard := some (35, false) }) rfl (fun K hK => ?_) AllReadyH.nil
    go_simp
    (go_at_call 28; refine (aR _ _ _ ba b31).mono ?_; rintro e w32 ⟨s32, rfl, hn32, hb32⟩; (have t32 := hn32.str); obtain ⟨g32, rfl, -⟩ := hn32)
    (try go_simp)
    refine hK.out _ _ hb32 (fun h => ?_)
    clear h hK K
    refine wpAnyH_narrow (S' := fun w' => Below w32.heap.size w32 w') (fun _ h => below_next hb32 h) _ _ _ _ ?_
    clear b31
    replace ba := ba.still hb32
    replace bb := bb.still hb32
    replace bc := bc.still hb32
    replace bz := bz.still hb32
    replace tz := tz.still hb32
    replace tx := tx.still hb32
    replace t21 := t21.still hb32
    replace t22 := t22.still hb32
    replace t23 := t23.still hb32
    replace t24 := t24.still hb32
    replace t26 := t26.still hb32
    replace t28 := t28.still hb32
    replace t30 := t30.still hb32
    replace hw := below_next hw hb32
    clear hb32
    (try simp only [Act.put, List.setIfInBounds_toArray, List.set_cons_zero, List.set_cons_succ])
    refine wpAnyH_take (i := 47) (oi := { dst := some 78, op := Op.convert 22 9 (Operand.tmp 77), type := 9, pos := "law.go:115", after := #[{ on := 46, ground := Ground.data }, { on := 35, ground := Ground.guard }], guard := some (35, false) }) (v := ?va47) rfl (by kernel_rfl) (by kernel_rfl) (by kernel_rfl) (fun _ _ _ h => h) (Or.inl ⟨by rfl, ?ha47⟩) (Below.refl _ _) ?ra47
    case ha47 =>
      intro w hSw
      have q := t32.conv w hSw
      go_simp
      try with_reducible rfl
    (try simp only [Act.put, List.setIfInBounds_toArray, List.set_cons_zero, List.set_cons_succ])
    refine wpAnyH_take (i := 48) (oi := { dst := some 79, op := Op.binOp BinOp.neq 9 (Operand.tmp 72) (Operand.tmp 78) 9, type := 4, pos := "law.go:115", after := #[{ on := 41, ground := Ground.data }, { on := 47, ground := Ground.data }, { on := 35, ground := Ground.guard }], guard := some (35, false) }) (v := ?va48) rfl (by kernel_rfl) (by kernel_rfl) (by kernel_rfl) (fun _ _ _ h => h) (Or.inl ⟨by rfl, ?ha48⟩) (Below.refl _ _) ?ra48
    case ha48 =>
      intro w hSw
      go_simp
      try with_reducible rfl
    (try simp only [Act.put, List.setIfInBounds_toArray, List.set_cons_zero, List.set_cons_succ])
    refine wpAnyH_take (i := 49) (oi := { dst := some 80, op := Op.pick (Operand.tmp 66) (Operand.const (Value.bool true)) (Operand.tmp 79), type := 4, pos := "law.go:115", after := #[{ on := 35, ground := Ground.data }, { on := 48, ground := Ground.data }], guard := none }) (v := ?va49) rfl (by kernel_rfl) (by kernel_rfl) (by kernel_rfl) (fun _ _ _ h => h) (Or.inl ⟨by rfl, ?ha49⟩) (Below.refl _ _) ?ra49
    case ha49 =>
      intro w hSw
      go_simp
      try with_reducible rfl
    (try simp only [Act.put, List.setIfInBounds_toArray, List.set_cons_zero, List.set_cons_succ])
    refine wpAnyH_done (by kernel_rfl) ?_ _
    refine NoPanic.normal ?_
    clear t21 t22 t23 t24 t26 t28 t30 t32
    go_wp2
    have hdrew : Below w32.heap.size w32 w32.drew := (Below.refl _ _).drew
    replace ba := ba.still hdrew
    replace bb := bb.still hdrew
    replace bc := bc.still hdrew
    replace bz := bz.still hdrew
    replace tz := tz.still hdrew
    replace tx := tx.still hdrew
    replace hw := below_next hw hdrew
    clear hdrew
    refine wp_region_noPanic ?_
    refine wp_region_held_drew (S := fun w' => Below w32.drew.heap.size w32.drew w') (by kernel_rfl) (Below.refl _ _) (fun hHeld => ?_)
    clear hHeld
    refine wpAnyH_take (i := 0) (oi := { dst := some 81, op := Op.move (Operand.tmp 0), type := 22, pos := "law.go:118", after := #[], guard := none }) (v := ?vb0) rfl (by kernel_rfl) (by kernel_rfl) (by kernel_rfl) (fun _ _ _ h => h) (Or.inl ⟨by rfl, ?hb0⟩) (Below.refl _ _) ?rb0
    case hb0 =>
      intro w hSw
      go_simp
      try with_reducible rfl
    (try simp only [Act.put, List.setIfInBounds_toArray, List.set_cons_zero, List.set_cons_succ])
    refine wpAnyH_take (i := 1) (oi := { dst := some 82, op := Op.move (Operand.tmp 1), type := 22, pos := "law.go:118", after := #[], guard := none }) (v := ?vb1) rfl (by kernel_rfl) (by kernel_rfl) (by kernel_rfl) (fun _ _ _ h => h) (Or.inl ⟨by rfl, ?hb1⟩) (Below.refl _ _) ?rb1
    case hb1 =>
      intro w hSw
      go_simp
      try with_reducible rfl
    (try simp only [Act.put, List.setIfInBounds_toArray, List.set_cons_zero, List.set_cons_succ])
    refine wpAnyH_take (i := 2) (oi := { dst := some 83, op := Op.move (Operand.tmp 2), type := 22, pos := "law.go:118", after := #[], guard := none }) (v := ?vb2) rfl (by kernel_rfl) (by kernel_rfl) (by kernel_rfl) (fun _ _ _ h => h) (Or.inl ⟨by rfl, ?hb2⟩) (Below.refl _ _) ?rb2
    case hb2 =>
      intro w hSw
      go_simp
      try with_reducible rfl
    (try simp only [Act.put, List.setIfInBounds_toArray, List.set_cons_zero, List.set_cons_succ])
    refine wpAnyH_take (i := 6) (oi := { dst := some 87, op := Op.move (Operand.tmp 0), type := 22, pos := "law.go:118", after := #[], guard := none }) (v := ?vb6) rfl (by kernel_rfl) (by kernel_rfl) (by kernel_rfl) (fun _ _ _ h => h) (Or.inl ⟨by rfl, ?hb6⟩) (Below.refl _ _) ?rb6
    case hb6 =>
      intro w hSw
      go_simp
      try with_reducible rfl
    (try simp only [Act.put, List.setIfInBounds_toArray, List.set_cons_zero, List.set_cons_succ])
    refine wpAnyH_take (i := 7) (oi := { dst := some 88, op := Op.move (Operand.tmp 1), type := 22, pos := "law.go:118", after := #[], guard := none }) (v := ?vb7) rfl (by kernel_rfl) (by kernel_rfl) (by kernel_rfl) (fun _ _ _ h => h) (Or.inl ⟨by rfl, ?hb7⟩) (Below.refl _ _) ?rb7
    case hb7 =>
      intro w hSw
      go_simp
      try with_reducible rfl
    (try simp only [Act.put, List.setIfInBounds_toArray, List.set_cons_zero, List.set_cons_succ])
    refine wpAnyH_take (i := 9) (oi := { dst := some 90, op := Op.move (Operand.tmp 0), type := 22, pos := "law.go:118", after := #[], guard := none }) (v := ?vb9) rfl (by kernel_rfl) (by kernel_rfl) (by kernel_rfl) (fun _ _ _ h => h) (Or.inl ⟨by rfl, ?hb9⟩) (Below.refl _ _) ?rb9
    case hb9 =>
      intro w hSw
      go_simp
      try with_reducible rfl
    (try simp only [Act.put, List.setIfInBounds_toArray, List.set_cons_zero, List.set_cons_succ])
    refine wpAnyH_take (i := 10) (oi := { dst := some 91, op := Op.move (Operand.tmp 2), type := 22, pos := "law.go:118", after := #[], guard := none }) (v := ?vb10) rfl (by kernel_rfl) (by kernel_rfl) (by kernel_rfl) (fun _ _ _ h => h) (Or.inl ⟨by rfl, ?hb10⟩) (Below.refl _ _) ?rb10
    case hb10 =>
      intro w hSw
      go_simp
      try with_reducible rfl
    (try simp only [Act.put, List.setIfInBounds_toArray, List.set_cons_zero, List.set_cons_succ])
    refine wpAnyH_ready (rs := [3]) (by kernel_rfl) (by simp) ?_
    refine AllReadyH.cons (o := { dst := some 84, op := Op.call { callee := Callee.value (Operand.func 28), args := #[Operand.tmp 82, Operand.tmp 83], argTypes := #[22, 22] }, type := 22, pos := "law.go:118", after := #[{ on := 1, ground := Ground.data }, { on := 2, ground := Ground.data }], guard := none }) rfl (fun K hK => ?_) AllReadyH.nil
    go_simp
    (go_at_call 28; refine (aBC _ _ _ bb bc).mono ?_; rintro e w41 ⟨s41, rfl, hn41, hb41⟩; (have b41 := hn41.bytes (by decide)); obtain ⟨g41, rfl, -⟩ := hn41)
    (try go_simp)
    refine hK.out _ _ hb41 (fun h => ?_)
    clear h hK K
    refine wpAnyH_narrow (S' := fun w' => Below w41.heap.size w41 w') (fun _ h => below_next hb41 h) _ _ _ _ ?_
    replace ba := ba.still hb41
    replace bb := bb.still hb41
    replace bc := bc.still hb41
    replace bz := bz.still hb41
    replace tz := tz.still hb41
    replace tx := tx.still hb41
    replace hw := below_next hw hb41
    clear hb41
    (try simp only [Act.put, List.setIfInBounds_toArray, List.set_cons_zero, List.set_cons_succ])
    refine wpAnyH_ready (rs := [4]) (by kernel_rfl) (by simp) ?_
    refine AllReadyH.cons (o := { dst := some 85, op := Op.call { callee := Callee.value (Operand.func 27), args := #[Operand.tmp 81, Operand.tmp 84], argTypes := #[22, 22] }, type := 22, pos := "law.go:118", after := #[{ on := 0, ground := Ground.data }, { on := 3, ground := Ground.data }, { on := 3, ground := Ground.chain }], guard := none }) rfl (fun K hK => ?_) AllReadyH.nil
    go_simp
    (go_at_call 27; refine (mE _ _ _ ba b41).mono ?_; rintro e w42 ⟨s42, rfl, hn42, hb42⟩; (have t42 := hn42.str); obtain ⟨g42, rfl, -⟩ := hn42)
    (try go_simp)
    refine hK.out _ _ hb42 (fun h => ?_)
    clear h hK K
    refine wpAnyH_narrow (S' := fun w' => Below w42.heap.size w42 w') (fun _ h => below_next hb42 h) _ _ _ _ ?_
    clear b41
    replace ba := ba.still hb42
    replace bb := bb.still hb42
    replace bc := bc.still hb42
    replace bz := bz.still hb42
    replace tz := tz.still hb42
    replace tx := tx.still hb42
    replace hw := below_next hw hb42
    clear hb42
    (try simp only [Act.put, List.setIfInBounds_toArray, List.set_cons_zero, List.set_cons_succ])
    refine wpAnyH_take (i := 5) (oi := { dst := some 86, op := Op.convert 22 9 (Operand.tmp 85), type := 9, pos := "law.go:118", after := #[{ on := 4, ground := Ground.data }], guard := none }) (v := ?vb5) rfl (by kernel_rfl) (by kernel_rfl) (by kernel_rfl) (fun _ _ _ h => h) (Or.inl ⟨by rfl, ?hb5⟩) (Below.refl _ _) ?rb5
    case hb5 =>
      intro w hSw
      have q := t42.conv w hSw
      go_simp
      try with_reducible rfl
    (try simp only [Act.put, List.setIfInBounds_toArray, List.set_cons_zero, List.set_cons_succ])
    refine wpAnyH_ready (rs := [8]) (by kernel_rfl) (by simp) ?_
    refine AllReadyH.cons (o := { dst := some 89, op := Op.call { callee := Callee.value (Operand.func 27), args := #[Operand.tmp 87, Operand.tmp 88], argTypes := #[22, 22] }, type := 22, pos := "law.go:118", after := #[{ on := 6, ground := Ground.data }, { on := 7, ground := Ground.data }, { on := 4, ground := Ground.chain }], guard := none }) rfl (fun K hK => ?_) AllReadyH.nil
    go_simp
    (go_at_call 27; refine (mAB _ _ _ ba bb).mono ?_; rintro e w43 ⟨s43, rfl, hn43, hb43⟩; (have b43 := hn43.bytes (by decide)); obtain ⟨g43, rfl, -⟩ := hn43)
    (try go_simp)
    refine hK.out _ _ hb43 (fun h => ?_)
    clear h hK K
    refine wpAnyH_narrow (S' := fun w' => Below w43.heap.size w43 w') (fun _ h => below_next hb43 h) _ _ _ _ ?_
    replace ba := ba.still hb43
    replace bb := bb.still hb43
    replace bc := bc.still hb43
    replace bz := bz.still hb43
    replace tz := tz.still hb43
    replace tx := tx.still hb43
    replace t42 := t42.still hb43
    replace hw := below_next hw hb43
    clear hb43
    (try simp only [Act.put, List.setIfInBounds_toArray, List.set_cons_zero, List.set_cons_succ])
    refine wpAnyH_ready (rs := [11]) (by kernel_rfl) (by simp) ?_
    refine AllReadyH.cons (o := { dst := some 92, op := Op.call { callee := Callee.value (Operand.func 27), args := #[Operand.tmp 90, Operand.tmp 91], argTypes := #[22, 22] }, type := 22, pos := "law.go:118", after := #[{ on := 9, ground := Ground.data }, { on := 10, ground := Ground.data }, { on := 8, ground := Ground.chain }], guard := none }) rfl (fun K hK => ?_) AllReadyH.nil
    go_simp
    (go_at_call 27; refine (mAC _ _ _ ba bc).mono ?_; rintro e w44 ⟨s44, rfl, hn44, hb44⟩; (have b44 := hn44.bytes (by decide)); obtain ⟨g44, rfl, -⟩ := hn44)
    (try go_simp)
    refine hK.out _ _ hb44 (fun h => ?_)
    clear h hK K
    refine wpAnyH_narrow (S' := fun w' => Below w44.heap.size w44 w') (fun _ h => below_next hb44 h) _ _ _ _ ?_
    replace ba := ba.still hb44
    replace bb := bb.still hb44
    replace bc := bc.still hb44
    replace bz := bz.still hb44
    replace tz := tz.still hb44
    replace tx := tx.still hb44
    replace t42 := t42.still hb44
    replace b43 := b43.still hb44
    replace hw := below_next hw hb44
    clear hb44
    (try simp only [Act.put, List.setIfInBounds_toArray, List.set_cons_zero, List.set_cons_succ])
    refine wpAnyH_ready (rs := [12]) (by kernel_rfl) (by simp) ?_
    refine AllReadyH.cons (o := { dst := some 93, op := Op.call { callee := Callee.value (Operand.func 28), args := #[Operand.tmp 89, Operand.tmp 92], argTypes := #[22, 22] }, type := 22, pos := "law.go:118", after := #[{ on := 8, ground := Ground.data }, { on := 11, ground := Ground.data }, { on := 11, ground := Ground.chain }], guard := none }) rfl (fun K hK => ?_) AllReadyH.nil
    go_simp
    (go_at_call 28; refine (aE _ _ _ b43 b44).mono ?_; rintro e w45 ⟨s45, rfl, hn45, hb45⟩; (have t45 := hn45.str); obtain ⟨g45, rfl, -⟩ := hn45)
    (try go_simp)
    refine hK.out _ _ hb45 (fun h => ?_)
    clear h hK K
    refine wpAnyH_narrow (S' := fun w' => Below w45.heap.size w45 w') (fun _ h => below_next hb45 h) _ _ _ _ ?_
    clear b43
    clear b44
    clear bc
    replace ba := ba.still hb45
    replace bb := bb.still hb45
    replace bz := bz.still hb45
    replace tz := tz.still hb45
    replace tx := tx.still hb45
    replace t42 := t42.still hb45
    replace hw := below_next hw hb45
    clear hb45
    (try simp only [Act.put, List.setIfInBounds_toArray, List.set_cons_zero, List.set_cons_succ])
    refine wpAnyH_take (i := 13) (oi := { dst := some 94, op := Op.convert 22 9 (Operand.tmp 93), type := 9, pos := "law.go:118", after := #[{ on := 12, ground := Ground.data }], guard := none }) (v := ?vb13) rfl (by kernel_rfl) (by kernel_rfl) (by kernel_rfl) (fun _ _ _ h => h) (Or.inl ⟨by rfl, ?hb13⟩) (Below.refl _ _) ?rb13
    case hb13 =>
      intro w hSw
      have q := t45.conv w hSw
      go_simp
      try with_reducible rfl
    (try simp only [Act.put, List.setIfInBounds_toArray, List.set_cons_zero, List.set_cons_succ])
    refine wpAnyH_take (i := 14) (oi := { dst := some 95, op := Op.binOp BinOp.neq 9 (Operand.tmp 86) (Operand.tmp 94) 9, type := 4, pos := "law.go:118", after := #[{ on := 5, ground := Ground.data }, { on := 13, ground := Ground.data }], guard := none }) (v := ?vb14) rfl (by kernel_rfl) (by kernel_rfl) (by kernel_rfl) (fun _ _ _ h => h) (Or.inl ⟨by rfl, ?hb14⟩) (Below.refl _ _) ?rb14
    case hb14 =>
      intro w hSw
      go_simp
      try with_reducible rfl
    (try simp only [Act.put, List.setIfInBounds_toArray, List.set_cons_zero, List.set_cons_succ])
    refine wpAnyH_take (i := 15) (oi := { dst := some 96, op := Op.move (Operand.tmp 95), type := 4, pos := "law.go:118", after := #[{ on := 14, ground := Ground.data }, { on := 12, ground := Ground.chain }], guard := none }) (v := ?vb15) rfl (by kernel_rfl) (by kernel_rfl) (by kernel_rfl) (fun _ _ _ h => h) (Or.inl ⟨by rfl, ?hb15⟩) (Below.refl _ _) ?rb15
    case hb15 =>
      intro w hSw
      go_simp
      try with_reducible rfl
    (try simp only [Act.put, List.setIfInBounds_toArray, List.set_cons_zero, List.set_cons_succ])
    refine wpAnyH_take (i := 16) (oi := { dst := some 97, op := Op.move (Operand.tmp 0), type := 22, pos := "law.go:118", after := #[{ on := 15, ground := Ground.guard }], guard := some (15, false) }) (v := ?vb16) rfl (by kernel_rfl) (by kernel_rfl) (by kernel_rfl) (fun _ _ _ h => h) (Or.inl ⟨by rfl, ?hb16⟩) (Below.refl _ _) ?rb16
    case hb16 =>
      intro w hSw
      go_simp
      try with_reducible rfl
    (try simp only [Act.put, List.setIfInBounds_toArray, List.set_cons_zero, List.set_cons_succ])
    refine wpAnyH_take (i := 17) (oi := { dst := some 98, op := Op.move (Operand.tmp 1), type := 22, pos := "law.go:118", after := #[{ on := 15, ground := Ground.guard }], guard := some (15, false) }) (v := ?vb17) rfl (by kernel_rfl) (by kernel_rfl) (by kernel_rfl) (fun _ _ _ h => h) (Or.inl ⟨by rfl, ?hb17⟩) (Below.refl _ _) ?rb17
    case hb17 =>
      intro w hSw
      go_simp
      try with_reducible rfl
    (try simp only [Act.put, List.setIfInBounds_toArray, List.set_cons_zero, List.set_cons_succ])
    refine wpAnyH_take (i := 19) (oi := { dst := some 100, op := Op.move (Operand.tmp 1), type := 22, pos := "law.go:118", after := #[{ on := 15, ground := Ground.guard }], guard := some (15, false) }) (v := ?vb19) rfl (by kernel_rfl) (by kernel_rfl) (by kernel_rfl) (fun _ _ _ h => h) (Or.inl ⟨by rfl, ?hb19⟩) (Below.refl _ _) ?rb19
    case hb19 =>
      intro w hSw
      go_simp
      try with_reducible rfl
    (try simp only [Act.put, List.setIfInBounds_toArray, List.set_cons_zero, List.set_cons_succ])
    refine wpAnyH_take (i := 22) (oi := { dst := some 103, op := Op.move (Operand.tmp 8), type := 22, pos := "law.go:118", after := #[{ on := 15, ground := Ground.guard }], guard := some (15, false) }) (v := ?vb22) rfl (by kernel_rfl) (by kernel_rfl) (by kernel_rfl) (fun _ _ _ h => h) (Or.inl ⟨by rfl, ?hb22⟩) (Below.refl _ _) ?rb22
    case hb22 =>
      intro w hSw
      go_simp
      try with_reducible rfl
    (try simp only [Act.put, List.setIfInBounds_toArray, List.set_cons_zero, List.set_cons_succ])
    refine wpAnyH_take (i := 23) (oi := { dst := some 104, op := Op.convert 22 9 (Operand.tmp 103), type := 9, pos := "law.go:118", after := #[{ on := 22, ground := Ground.data }, { on := 15, ground := Ground.guard }], guard := some (15, false) }) (v := ?vb23) rfl (by kernel_rfl) (by kernel_rfl) (by kernel_rfl) (fun _ _ _ h => h) (Or.inl ⟨by rfl, ?hb23⟩) (Below.refl _ _) ?rb23
    case hb23 =>
      intro w hSw
      have q := tx.conv w hSw
      go_simp
      try with_reducible rfl
    (try simp only [Act.put, List.setIfInBounds_toArray, List.set_cons_zero, List.set_cons_succ])
    refine wpAnyH_ready (rs := [18]) (by kernel_rfl) (by simp) ?_
    refine AllReadyH.cons (o := { dst := some 99, op := Op.call { callee := Callee.value (Operand.func 28), args := #[Operand.tmp 97, Operand.tmp 98], argTypes := #[22, 22] }, type := 22, pos := "law.go:118", after := #[{ on := 16, ground := Ground.data }, { on := 17, ground := Ground.data }, { on := 15, ground := Ground.chain }, { on := 15, ground := Ground.guard }], guard := some (15, false) }) rfl (fun K hK => ?_) AllReadyH.nil
    go_simp
    (go_at_call 28; refine (aAB _ _ _ ba bb).mono ?_; rintro e w46 ⟨s46, rfl, hn46, hb46⟩; (have b46 := hn46.bytes (by decide)); obtain ⟨g46, rfl, -⟩ := hn46)
    (try go_simp)
    refine hK.out _ _ hb46 (fun h => ?_)
    clear h hK K
    refine wpAnyH_narrow (S' := fun w' => Below w46.heap.size w46 w') (fun _ h => below_next hb46 h) _ _ _ _ ?_
    replace ba := ba.still hb46
    replace bb := bb.still hb46
    replace bz := bz.still hb46
    replace tz := tz.still hb46
    replace tx := tx.still hb46
    replace t42 := t42.still hb46
    replace t45 := t45.still hb46
    replace hw := below_next hw hb46
    clear hb46
    (try simp only [Act.put, List.setIfInBounds_toArray, List.set_cons_zero, List.set_cons_succ])
    refine wpAnyH_ready (rs := [20]) (by kernel_rfl) (by simp) ?_
    refine AllReadyH.cons (o := { dst := some 101, op := Op.call { callee := Callee.value (Operand.func 29), args := #[Operand.tmp 99, Operand.tmp 100], argTypes := #[22, 22] }, type := 22, pos := "law.go:118", after := #[{ on := 18, ground := Ground.data }, { on := 19, ground := Ground.data }, { on := 18, ground := Ground.chain }, { on := 15, ground := Ground.guard }], guard := some (15, false) }) rfl (fun K hK => ?_) AllReadyH.nil
    go_simp
    (go_at_call 29; refine (sX _ _ _ b46 bb).mono ?_; rintro e w47 ⟨s47, rfl, hn47, hb47⟩; (have t47 := hn47.str); obtain ⟨g47, rfl, -⟩ := hn47)
    (try go_simp)
    refine hK.out _ _ hb47 (fun h => ?_)
    clear h hK K
    refine wpAnyH_narrow (S' := fun w' => Below w47.heap.size w47 w') (fun _ h => below_next hb47 h) _ _ _ _ ?_
    clear b46
    replace ba := ba.still hb47
    replace bb := bb.still hb47
    replace bz := bz.still hb47
    replace tz := tz.still hb47
    replace tx := tx.still hb47
    replace t42 := t42.still hb47
    replace t45 := t45.still hb47
    replace hw := below_next hw hb47
    clear hb47
    (try simp only [Act.put, List.setIfInBounds_toArray, List.set_cons_zero, List.set_cons_succ])
    refine wpAnyH_take (i := 21) (oi := { dst := some 102, op := Op.convert 22 9 (Operand.tmp 101), type := 9, pos := "law.go:118", after := #[{ on := 20, ground := Ground.data }, { on := 15, ground := Ground.guard }], guard := some (15, false) }) (v := ?vb21) rfl (by kernel_rfl) (by kernel_rfl) (by kernel_rfl) (fun _ _ _ h => h) (Or.inl ⟨by rfl, ?hb21⟩) (Below.refl _ _) ?rb21
    case hb21 =>
      intro w hSw
      have q := t47.conv w hSw
      go_simp
      try with_reducible rfl
    (try simp only [Act.put, List.setIfInBounds_toArray, List.set_cons_zero, List.set_cons_succ])
    refine wpAnyH_take (i := 24) (oi := { dst := some 105, op := Op.binOp BinOp.neq 9 (Operand.tmp 102) (Operand.tmp 104) 9, type := 4, pos := "law.go:118", after := #[{ on := 21, ground := Ground.data }, { on := 23, ground := Ground.data }, { on := 15, ground := Ground.guard }], guard := some (15, false) }) (v := ?vb24) rfl (by kernel_rfl) (by kernel_rfl) (by kernel_rfl) (fun _ _ _ h => h) (Or.inl ⟨by rfl, ?hb24⟩) (Below.refl _ _) ?rb24
    case hb24 =>
      intro w hSw
      go_simp
      try with_reducible rfl
    (try simp only [Act.put, List.setIfInBounds_toArray, List.set_cons_zero, List.set_cons_succ])
    refine wpAnyH_take (i := 25) (oi := { dst := some 106, op := Op.pick (Operand.tmp 96) (Operand.const (Value.bool true)) (Operand.tmp 105), type := 4, pos := "law.go:118", after := #[{ on := 15, ground := Ground.data }, { on := 24, ground := Ground.data }], guard := none }) (v := ?vb25) rfl (by kernel_rfl) (by kernel_rfl) (by kernel_rfl) (fun _ _ _ h => h) (Or.inl ⟨by rfl, ?hb25⟩) (Below.refl _ _) ?rb25
    case hb25 =>
      intro w hSw
      go_simp
      try with_reducible rfl
    (try simp only [Act.put, List.setIfInBounds_toArray, List.set_cons_zero, List.set_cons_succ])
    refine wpAnyH_take (i := 26) (oi := { dst := some 107, op := Op.move (Operand.tmp 106), type := 4, pos := "law.go:118", after := #[{ on := 25, ground := Ground.data }, { on := 20, ground := Ground.chain }], guard := none }) (v := ?vb26) rfl (by kernel_rfl) (by kernel_rfl) (by kernel_rfl) (fun _ _ _ h => h) (Or.inl ⟨by rfl, ?hb26⟩) (Below.refl _ _) ?rb26
    case hb26 =>
      intro w hSw
      go_simp
      try with_reducible rfl
    (try simp only [Act.put, List.setIfInBounds_toArray, List.set_cons_zero, List.set_cons_succ])
    refine wpAnyH_take (i := 27) (oi := { dst := some 108, op := Op.move (Operand.tmp 0), type := 22, pos := "law.go:118", after := #[{ on := 26, ground := Ground.guard }], guard := some (26, false) }) (v := ?vb27) rfl (by kernel_rfl) (by kernel_rfl) (by kernel_rfl) (fun _ _ _ h => h) (Or.inl ⟨by rfl, ?hb27⟩) (Below.refl _ _) ?rb27
    case hb27 =>
      intro w hSw
      go_simp
      try with_reducible rfl
    (try simp only [Act.put, List.setIfInBounds_toArray, List.set_cons_zero, List.set_cons_succ])
    refine wpAnyH_take (i := 28) (oi := { dst := some 109, op := Op.move (Operand.tmp 7), type := 22, pos := "law.go:118", after := #[{ on := 26, ground := Ground.guard }], guard := some (26, false) }) (v := ?vb28) rfl (by kernel_rfl) (by kernel_rfl) (by kernel_rfl) (fun _ _ _ h => h) (Or.inl ⟨by rfl, ?hb28⟩) (Below.refl _ _) ?rb28
    case hb28 =>
      intro w hSw
      go_simp
      try with_reducible rfl
    (try simp only [Act.put, List.setIfInBounds_toArray, List.set_cons_zero, List.set_cons_succ])
    refine wpAnyH_take (i := 31) (oi := { dst := some 112, op := Op.move (Operand.tmp 8), type := 22, pos := "law.go:118", after := #[{ on := 26, ground := Ground.guard }], guard := some (26, false) }) (v := ?vb31) rfl (by kernel_rfl) (by kernel_rfl) (by kernel_rfl) (fun _ _ _ h => h) (Or.inl ⟨by rfl, ?hb31⟩) (Below.refl _ _) ?rb31
    case hb31 =>
      intro w hSw
      go_simp
      try with_reducible rfl
    (try simp only [Act.put, List.setIfInBounds_toArray, List.set_cons_zero, List.set_cons_succ])
    refine wpAnyH_take (i := 32) (oi := { dst := some 113, op := Op.convert 22 9 (Operand.tmp 112), type := 9, pos := "law.go:118", after := #[{ on := 31, ground := Ground.data }, { on := 26, ground := Ground.guard }], guard := some (26, false) }) (v := ?vb32) rfl (by kernel_rfl) (by kernel_rfl) (by kernel_rfl) (fun _ _ _ h => h) (Or.inl ⟨by rfl, ?hb32⟩) (Below.refl _ _) ?rb32
    case hb32 =>
      intro w hSw
      have q := tx.conv w hSw
      go_simp
      try with_reducible rfl
    (try simp only [Act.put, List.setIfInBounds_toArray, List.set_cons_zero, List.set_cons_succ])
    refine wpAnyH_ready (rs := [29]) (by kernel_rfl) (by simp) ?_
    refine AllReadyH.cons (o := { dst := some 110, op := Op.call { callee := Callee.value (Operand.func 28), args := #[Operand.tmp 108, Operand.tmp 109], argTypes := #[22, 22] }, type := 22, pos := "law.go:118", after := #[{ on := 27, ground := Ground.data }, { on := 28, ground := Ground.data }, { on := 26, ground := Ground.chain }, { on := 26, ground := Ground.guard }], guard := some (26, false) }) rfl (fun K hK => ?_) AllReadyH.nil
    go_simp
    (go_at_call 28; refine (aZ _ _ _ ba bz).mono ?_; rintro e w48 ⟨s48, rfl, hn48, hb48⟩; (have t48 := hn48.str); obtain ⟨g48, rfl, -⟩ := hn48)
    (try go_simp)
    refine hK.out _ _ hb48 (fun h => ?_)
    clear h hK K
    refine wpAnyH_narrow (S' := fun w' => Below w48.heap.size w48 w') (fun _ h => below_next hb48 h) _ _ _ _ ?_
    replace ba := ba.still hb48
    replace bb := bb.still hb48
    replace bz := bz.still hb48
    replace tz := tz.still hb48
    replace tx := tx.still hb48
    replace t42 := t42.still hb48
    replace t45 := t45.still hb48
    replace t47 := t47.still hb48
    replace hw := below_next hw hb48
    clear hb48
    (try simp only [Act.put, List.setIfInBounds_toArray, List.set_cons_zero, List.set_cons_succ])
    refine wpAnyH_take (i := 30) (oi := { dst := some 111, op := Op.convert 22 9 (Operand.tmp 110), type := 9, pos := "law.go:118", after := #[{ on := 29, ground := Ground.data }, { on := 26, ground := Ground.guard }], guard := some (26, false) }) (v := ?vb30) rfl (by kernel_rfl) (by kernel_rfl) (by kernel_rfl) (fun _ _ _ h => h) (Or.inl ⟨by rfl, ?hb30⟩) (Below.refl _ _) ?rb30
    case hb30 =>
      intro w hSw
      have q := t48.conv w hSw
      go_simp
      try with_reducible rfl
    (try simp only [Act.put, List.setIfInBounds_toArray, List.set_cons_zero, List.set_cons_succ])
    refine wpAnyH_take (i := 33) (oi := { dst := some 114, op := Op.binOp BinOp.neq 9 (Operand.tmp 111) (Operand.tmp 113) 9, type := 4, pos := "law.go:118", after := #[{ on := 30, ground := Ground.data }, { on := 32, ground := Ground.data }, { on := 26, ground := Ground.guard }], guard := some (26, false) }) (v := ?vb33) rfl (by kernel_rfl) (by kernel_rfl) (by kernel_rfl) (fun _ _ _ h => h) (Or.inl ⟨by rfl, ?hb33⟩) (Below.refl _ _) ?rb33
    case hb33 =>
      intro w hSw
      go_simp
      try with_reducible rfl
    (try simp only [Act.put, List.setIfInBounds_toArray, List.set_cons_zero, List.set_cons_succ])
    refine wpAnyH_take (i := 34) (oi := { dst := some 115, op := Op.pick (Operand.tmp 107) (Operand.const (Value.bool true)) (Operand.tmp 114), type := 4, pos := "law.go:118", after := #[{ on := 26, ground := Ground.data }, { on := 33, ground := Ground.data }], guard := none }) (v := ?vb34) rfl (by kernel_rfl) (by kernel_rfl) (by kernel_rfl) (fun _ _ _ h => h) (Or.inl ⟨by rfl, ?hb34⟩) (Below.refl _ _) ?rb34
    case hb34 =>
      intro w hSw
      go_simp
      try with_reducible rfl
    (try simp only [Act.put, List.setIfInBounds_toArray, List.set_cons_zero, List.set_cons_succ])
    refine wpAnyH_take (i := 35) (oi := { dst := some 116, op := Op.move (Operand.tmp 115), type := 4, pos := "law.go:118", after := #[{ on := 34, ground := Ground.data }, { on := 29, ground := Ground.chain }], guard := none }) (v := ?vb35) rfl (by kernel_rfl) (by kernel_rfl) (by kernel_rfl) (fun _ _ _ h => h) (Or.inl ⟨by rfl, ?hb35⟩) (Below.refl _ _) ?rb35
    case hb35 =>
      intro w hSw
      go_simp
      try with_reducible rfl
    (try simp only [Act.put, List.setIfInBounds_toArray, List.set_cons_zero, List.set_cons_succ])
    refine wpAnyH_take (i := 36) (oi := { dst := some 117, op := Op.move (Operand.tmp 0), type := 22, pos := "law.go:118", after := #[{ on := 35, ground := Ground.guard }], guard := some (35, false) }) (v := ?vb36) rfl (by kernel_rfl) (by kernel_rfl) (by kernel_rfl) (fun _ _ _ h => h) (Or.inl ⟨by rfl, ?hb36⟩) (Below.refl _ _) ?rb36
    case hb36 =>
      intro w hSw
      go_simp
      try with_reducible rfl
    (try simp only [Act.put, List.setIfInBounds_toArray, List.set_cons_zero, List.set_cons_succ])
    refine wpAnyH_take (i := 40) (oi := { dst := some 121, op := Op.move (Operand.tmp 8), type := 22, pos := "law.go:118", after := #[{ on := 35, ground := Ground.guard }], guard := some (35, false) }) (v := ?vb40) rfl (by kernel_rfl) (by kernel_rfl) (by kernel_rfl) (fun _ _ _ h => h) (Or.inl ⟨by rfl, ?hb40⟩) (Below.refl _ _) ?rb40
    case hb40 =>
      intro w hSw
      go_simp
      try with_reducible rfl
    (try simp only [Act.put, List.setIfInBounds_toArray, List.set_cons_zero, List.set_cons_succ])
    refine wpAnyH_take (i := 41) (oi := { dst := some 122, op := Op.convert 22 9 (Operand.tmp 121), type := 9, pos := "law.go:118", after := #[{ on := 40, ground := Ground.data }, { on := 35, ground := Ground.guard }], guard := some (35, false) }) (v := ?vb41) rfl (by kernel_rfl) (by kernel_rfl) (by kernel_rfl) (fun _ _ _ h => h) (Or.inl ⟨by rfl, ?hb41⟩) (Below.refl _ _) ?rb41
    case hb41 =>
      intro w hSw
      have q := tx.conv w hSw
      go_simp
      try with_reducible rfl
    (try simp only [Act.put, List.setIfInBounds_toArray, List.set_cons_zero, List.set_cons_succ])
    refine wpAnyH_ready (rs := [37]) (by kernel_rfl) (by simp) ?_
    refine AllReadyH.cons (o := { dst := some 118, op := Op.call { callee := Callee.value (Operand.func 26), args := #[Operand.const (Value.int IntKind.u8 1)], argTypes := #[5] }, type := 22, pos := "law.go:118", after := #[{ on := 35, ground := Ground.chain }, { on := 35, ground := Ground.guard }], guard := some (35, false) }) rfl (fun K hK => ?_) AllReadyH.nil
    go_simp
    (go_at_call 26; refine (c1 _).mono ?_; clear c1; rintro e w49 ⟨s49, rfl, hn49, hb49⟩; (have b49 := hn49.bytes (by decide)); obtain ⟨g49, rfl, -⟩ := hn49)
    (try go_simp)
    refine hK.out _ _ hb49 (fun h => ?_)
    clear h hK K
    refine wpAnyH_narrow (S' := fun w' => Below w49.heap.size w49 w') (fun _ h => below_next hb49 h) _ _ _ _ ?_
    replace ba := ba.still hb49
    replace bb := bb.still hb49
    replace bz := bz.still hb49
    replace tz := tz.still hb49
    replace tx := tx.still hb49
    replace t42 := t42.still hb49
    replace t45 := t45.still hb49
    replace t47 := t47.still hb49
    replace t48 := t48.still hb49
    replace hw := below_next hw hb49
    clear hb49
    (try simp only [Act.put, List.setIfInBounds_toArray, List.set_cons_zero, List.set_cons_succ])
    refine wpAnyH_ready (rs := [38]) (by kernel_rfl) (by simp) ?_
    refine AllReadyH.cons (o := { dst := some 119, op := Op.call { callee := Callee.value (Operand.func 27), args := #[Operand.tmp 117, Operand.tmp 118], argTypes := #[22, 22] }, type := 22, pos := "law.go:118", after := #[{ on := 36, ground := Ground.data }, { on := 37, ground := Ground.data }, { on := 37, ground := Ground.chain }, { on := 35, ground := Ground.guard }], guard := some (35, false) }) rfl (fun K hK => ?_) AllReadyH.nil
    go_simp
    (go_at_call 27; refine (mO _ _ _ ba b49).mono ?_; rintro e w50 ⟨s50, rfl, hn50, hb50⟩; (have t50 := hn50.str); obtain ⟨g50, rfl, -⟩ := hn50)
    (try go_simp)
    refine hK.out _ _ hb50 (fun h => ?_)
    clear h hK K
    refine wpAnyH_narrow (S' := fun w' => Below w50.heap.size w50 w') (fun _ h => below_next hb50 h) _ _ _ _ ?_
    clear b49
    replace ba := ba.still hb50
    replace bb := bb.still hb50
    replace bz := bz.still hb50
    replace tz := tz.still hb50
    replace tx := tx.still hb50
    replace t42 := t42.still hb50
    replace t45 := t45.still hb50
    replace t47 := t47.still hb50
    replace t48 := t48.still hb50
    replace hw := below_next hw hb50
    clear hb50
    (try simp only [Act.put, List.setIfInBounds_toArray, List.set_cons_zero, List.set_cons_succ])
    refine wpAnyH_take (i := 39) (oi := { dst := some 120, op := Op.convert 22 9 (Operand.tmp 119), type := 9, pos := "law.go:118", after := #[{ on := 38, ground := Ground.data }, { on := 35, ground := Ground.guard }], guard := some (35, false) }) (v := ?vb39) rfl (by kernel_rfl) (by kernel_rfl) (by kernel_rfl) (fun _ _ _ h => h) (Or.inl ⟨by rfl, ?hb39⟩) (Below.refl _ _) ?rb39
    case hb39 =>
      intro w hSw
      have q := t50.conv w hSw
      go_simp
      try with_reducible rfl
    (try simp only [Act.put, List.setIfInBounds_toArray, List.set_cons_zero, List.set_cons_succ])
    refine wpAnyH_take (i := 42) (oi := { dst := some 123, op := Op.binOp BinOp.neq 9 (Operand.tmp 120) (Operand.tmp 122) 9, type := 4, pos := "law.go:118", after := #[{ on := 39, ground := Ground.data }, { on := 41, ground := Ground.data }, { on := 35, ground := Ground.guard }], guard := some (35, false) }) (v := ?vb42) rfl (by kernel_rfl) (by kernel_rfl) (by kernel_rfl) (fun _ _ _ h => h) (Or.inl ⟨by rfl, ?hb42⟩) (Below.refl _ _) ?rb42
    case hb42 =>
      intro w hSw
      go_simp
      try with_reducible rfl
    (try simp only [Act.put, List.setIfInBounds_toArray, List.set_cons_zero, List.set_cons_succ])
    refine wpAnyH_take (i := 43) (oi := { dst := some 124, op := Op.pick (Operand.tmp 116) (Operand.const (Value.bool true)) (Operand.tmp 123), type := 4, pos := "law.go:118", after := #[{ on := 35, ground := Ground.data }, { on := 42, ground := Ground.data }], guard := none }) (v := ?vb43) rfl (by kernel_rfl) (by kernel_rfl) (by kernel_rfl) (fun _ _ _ h => h) (Or.inl ⟨by rfl, ?hb43⟩) (Below.refl _ _) ?rb43
    case hb43 =>
      intro w hSw
      go_simp
      try with_reducible rfl
    (try simp only [Act.put, List.setIfInBounds_toArray, List.set_cons_zero, List.set_cons_succ])
    refine wpAnyH_done (by kernel_rfl) ?_ _
    refine NoPanic.normal ?_
    clear t42 t45 t47 t48 t50
    replace ci := ci w50 _ ba
    go_wp2_with (first
      | (go_at_call 22; refine ci.mono ?_; clear ci; rintro e w51 ⟨s51, rfl, hn51, hb51⟩; (have bi := hn51.bytes (by decide)); (have ti := hn51.str); obtain ⟨g51, rfl, -⟩ := hn51; replace hw := below_next hw hb51; replace ba := ba.still hb51; replace bb := bb.still hb51; replace bz := bz.still hb51; replace tz := tz.still hb51; replace tx := tx.still hb51; clear hb51; (have q1 := tx.conv w51 (Below.refl _ _)); (have q2 := tz.conv w51 (Below.refl _ _)); (have q3 := ti.conv w51 (Below.refl _ _)))
      | (go_at_call 17; refine (num3_any _ _).mono ?_; rintro e wn ⟨rfl, hwn⟩; subst hwn))
    go_ret
    exact ⟨rfl, hw⟩
  · have hne' := hne hx0
    clear hI0 hne
    go_enter Try.func7, Try.ntmps7
    go_wp2_with (first
      | (go_at_call 25; refine cf1.mono ?_; clear cf1; rintro e w1 ⟨s1, rfl, hn1, hb1⟩; (have ba := hn1.bytes (by decide)); obtain ⟨g1, rfl, -⟩ := hn1; replace cf2 := cf2 w1 hb1)
      | (go_at_call 25; refine cf2.mono ?_; clear cf2; rintro e w2 ⟨s2, rfl, hn2, hb2⟩; (have bb := hn2.bytes (by decide)); obtain ⟨g2, rfl, -⟩ := hn2; (have hw := below_next hb1 hb2); replace ba := ba.still hb2; clear hb1 hb2; replace cf3 := cf3 w2 hw)
      | (go_at_call 25; refine cf3.mono ?_; clear cf3; rintro e w3 ⟨s3, rfl, hn3, hb3⟩; (have bc := hn3.bytes (by decide)); obtain ⟨g3, rfl, -⟩ := hn3; replace hw := below_next hw hb3; replace ba := ba.still hb3; replace bb := bb.still hb3; clear hb3)
      | (go_at_call 26; refine (c0 _).mono ?_; clear c0; rintro e w4 ⟨s4, rfl, hn4, hb4⟩; (have bz := hn4.bytes (by decide)); (have tz := hn4.str); obtain ⟨g4, rfl, -⟩ := hn4; replace hw := below_next hw hb4; replace ba := ba.still hb4; replace bb := bb.still hb4; replace bc := bc.still hb4; clear hb4; replace cc := cc w4 _ ba)
      | (go_at_call 15; refine cc.mono ?_; clear cc; rintro e w5 ⟨s5, rfl, hn5, hb5⟩; (have tx := hn5.str); obtain ⟨g5, rfl, -⟩ := hn5; replace hw := below_next hw hb5; replace ba := ba.still hb5; replace bb := bb.still hb5; replace bc := bc.still hb5; replace bz := bz.still hb5; replace tz := tz.still hb5; clear hb5)
      | (go_at_call 17; refine (num3_any _ _).mono ?_; rintro e wn ⟨rfl, hwn⟩; subst hwn)
      | (go_at_call 19; refine (hk _).mono ?_; clear hk; rintro e w6 ⟨rfl, hb6⟩; replace hw := below_next hw hb6; replace ba := ba.still hb6; replace bb := bb.still hb6; replace bc := bc.still hb6; replace bz := bz.still hb6; replace tz := tz.still hb6; replace tx := tx.still hb6; clear hb6))
    have hdrew : Below w6.heap.size w6 w6.drew := (Below.refl _ _).drew
    replace ba := ba.still hdrew
    replace bb := bb.still hdrew
    replace bc := bc.still hdrew
    replace bz := bz.still hdrew
    replace tz := tz.still hdrew
    replace tx := tx.still hdrew
    replace hw := below_next hw hdrew
    clear hdrew
    refine wp_region_noPanic ?_
    refine wp_region_held_drew (S := fun w' => Below w6.drew.heap.size w6.drew w') (by kernel_rfl) (Below.refl _ _) (fun hHeld => ?_)
    clear hHeld
    refine wpAnyH_take (i := 0) (oi := { dst := some 31, op := Op.move (Operand.tmp 0), type := 22, pos := "law.go:115", after := #[], guard := none }) (v := ?vd0) rfl (by kernel_rfl) (by kernel_rfl) (by kernel_rfl) (fun _ _ _ h => h) (Or.inl ⟨by rfl, ?hd0⟩) (Below.refl _ _) ?rd0
    case hd0 =>
      intro w hSw
      go_simp
      try with_reducible rfl
    (try simp only [Act.put, List.setIfInBounds_toArray, List.set_cons_zero, List.set_cons_succ])
    refine wpAnyH_take (i := 1) (oi := { dst := some 32, op := Op.move (Operand.tmp 1), type := 22, pos := "law.go:115", after := #[], guard := none }) (v := ?vd1) rfl (by kernel_rfl) (by kernel_rfl) (by kernel_rfl) (fun _ _ _ h => h) (Or.inl ⟨by rfl, ?hd1⟩) (Below.refl _ _) ?rd1
    case hd1 =>
      intro w hSw
      go_simp
      try with_reducible rfl
    (try simp only [Act.put, List.setIfInBounds_toArray, List.set_cons_zero, List.set_cons_succ])
    refine wpAnyH_take (i := 4) (oi := { dst := some 35, op := Op.move (Operand.tmp 1), type := 22, pos := "law.go:115", after := #[], guard := none }) (v := ?vd4) rfl (by kernel_rfl) (by kernel_rfl) (by kernel_rfl) (fun _ _ _ h => h) (Or.inl ⟨by rfl, ?hd4⟩) (Below.refl _ _) ?rd4
    case hd4 =>
      intro w hSw
      go_simp
      try with_reducible rfl
    (try simp only [Act.put, List.setIfInBounds_toArray, List.set_cons_zero, List.set_cons_succ])
    refine wpAnyH_take (i := 5) (oi := { dst := some 36, op := Op.move (Operand.tmp 0), type := 22, pos := "law.go:115", after := #[], guard := none }) (v := ?vd5) rfl (by kernel_rfl) (by kernel_rfl) (by kernel_rfl) (fun _ _ _ h => h) (Or.inl ⟨by rfl, ?hd5⟩) (Below.refl _ _) ?rd5
    case hd5 =>
      intro w hSw
      go_simp
      try with_reducible rfl
    (try simp only [Act.put, List.setIfInBounds_toArray, List.set_cons_zero, List.set_cons_succ])
    refine wpAnyH_ready (rs := [2]) (by kernel_rfl) (by simp) ?_
    refine AllReadyH.cons (o := { dst := some 33, op := Op.call { callee := Callee.value (Operand.func 27), args := #[Operand.tmp 31, Operand.tmp 32], argTypes := #[22, 22] }, type := 22, pos := "law.go:115", after := #[{ on := 0, ground := Ground.data }, { on := 1, ground := Ground.data }], guard := none }) rfl (fun K hK => ?_) AllReadyH.nil
    go_simp
    (go_at_call 27; refine (mAB _ _ _ ba bb).mono ?_; rintro e w21 ⟨s21, rfl, hn21, hb21⟩; (have t21 := hn21.str); obtain ⟨g21, rfl, -⟩ := hn21)
    (try go_simp)
    refine hK.out _ _ hb21 (fun h => ?_)
    clear h hK K
    refine wpAnyH_narrow (S' := fun w' => Below w21.heap.size w21 w') (fun _ h => below_next hb21 h) _ _ _ _ ?_
    replace ba := ba.still hb21
    replace bb := bb.still hb21
    replace bc := bc.still hb21
    replace bz := bz.still hb21
    replace tz := tz.still hb21
    replace tx := tx.still hb21
    replace hw := below_next hw hb21
    clear hb21
    (try simp only [Act.put, List.setIfInBounds_toArray, List.set_cons_zero, List.set_cons_succ])
    refine wpAnyH_take (i := 3) (oi := { dst := some 34, op := Op.convert 22 9 (Operand.tmp 33), type := 9, pos := "law.go:115", after := #[{ on := 2, ground := Ground.data }], guard := none }) (v := ?vd3) rfl (by kernel_rfl) (by kernel_rfl) (by kernel_rfl) (fun _ _ _ h => h) (Or.inl ⟨by rfl, ?hd3⟩) (Below.refl _ _) ?rd3
    case hd3 =>
      intro w hSw
      have q := t21.conv w hSw
      go_simp
      try with_reducible rfl
    (try simp only [Act.put, List.setIfInBounds_toArray, List.set_cons_zero, List.set_cons_succ])
    refine wpAnyH_ready (rs := [6]) (by kernel_rfl) (by simp) ?_
    refine AllReadyH.cons (o := { dst := some 37, op := Op.call { callee := Callee.value (Operand.func 27), args := #[Operand.tmp 35, Operand.tmp 36], argTypes := #[22, 22] }, type := 22, pos := "law.go:115", after := #[{ on := 4, ground := Ground.data }, { on := 5, ground := Ground.data }, { on := 2, ground := Ground.chain }], guard := none }) rfl (fun K hK => ?_) AllReadyH.nil
    go_simp
    (go_at_call 27; refine (mBA _ _ _ bb ba).mono ?_; rintro e w22 ⟨s22, rfl, hn22, hb22⟩; (have t22 := hn22.str); obtain ⟨g22, rfl, -⟩ := hn22)
    (try go_simp)
    refine hK.out _ _ hb22 (fun h => ?_)
    clear h hK K
    refine wpAnyH_narrow (S' := fun w' => Below w22.heap.size w22 w') (fun _ h => below_next hb22 h) _ _ _ _ ?_
    replace ba := ba.still hb22
    replace bb := bb.still hb22
    replace bc := bc.still hb22
    replace bz := bz.still hb22
    replace tz := tz.still hb22
    replace tx := tx.still hb22
    replace t21 := t21.still hb22
    replace hw := below_next hw hb22
    clear hb22
    (try simp only [Act.put, List.setIfInBounds_toArray, List.set_cons_zero, List.set_cons_succ])
    refine wpAnyH_take (i := 7) (oi := { dst := some 38, op := Op.convert 22 9 (Operand.tmp 37), type := 9, pos := "law.go:115", after := #[{ on := 6, ground := Ground.data }], guard := none }) (v := ?vd7) rfl (by kernel_rfl) (by kernel_rfl) (by kernel_rfl) (fun _ _ _ h => h) (Or.inl ⟨by rfl, ?hd7⟩) (Below.refl _ _) ?rd7
    case hd7 =>
      intro w hSw
      have q := t22.conv w hSw
      go_simp
      try with_reducible rfl
    (try simp only [Act.put, List.setIfInBounds_toArray, List.set_cons_zero, List.set_cons_succ])
    refine wpAnyH_take (i := 8) (oi := { dst := some 39, op := Op.binOp BinOp.neq 9 (Operand.tmp 34) (Operand.tmp 38) 9, type := 4, pos := "law.go:115", after := #[{ on := 3, ground := Ground.data }, { on := 7, ground := Ground.data }], guard := none }) (v := ?vd8) rfl (by kernel_rfl) (by kernel_rfl) (by kernel_rfl) (fun _ _ _ h => h) (Or.inl ⟨by rfl, ?hd8⟩) (Below.refl _ _) ?rd8
    case hd8 =>
      intro w hSw
      go_simp
      try with_reducible rfl
    (try simp only [Act.put, List.setIfInBounds_toArray, List.set_cons_zero, List.set_cons_succ])
    refine wpAnyH_take (i := 9) (oi := { dst := some 40, op := Op.move (Operand.tmp 39), type := 4, pos := "law.go:115", after := #[{ on := 8, ground := Ground.data }, { on := 6, ground := Ground.chain }], guard := none }) (v := ?vd9) rfl (by kernel_rfl) (by kernel_rfl) (by kernel_rfl) (fun _ _ _ h => h) (Or.inl ⟨by rfl, ?hd9⟩) (Below.refl _ _) ?rd9
    case hd9 =>
      intro w hSw
      go_simp
      try with_reducible rfl
    (try simp only [Act.put, List.setIfInBounds_toArray, List.set_cons_zero, List.set_cons_succ])
    refine wpAnyH_take (i := 10) (oi := { dst := some 41, op := Op.move (Operand.tmp 0), type := 22, pos := "law.go:115", after := #[{ on := 9, ground := Ground.guard }], guard := some (9, false) }) (v := ?vd10) rfl (by kernel_rfl) (by kernel_rfl) (by kernel_rfl) (fun _ _ _ h => h) (Or.inl ⟨by rfl, ?hd10⟩) (Below.refl _ _) ?rd10
    case hd10 =>
      intro w hSw
      go_simp
      try with_reducible rfl
    (try simp only [Act.put, List.setIfInBounds_toArray, List.set_cons_zero, List.set_cons_succ])
    refine wpAnyH_take (i := 11) (oi := { dst := some 42, op := Op.move (Operand.tmp 1), type := 22, pos := "law.go:115", after := #[{ on := 9, ground := Ground.guard }], guard := some (9, false) }) (v := ?vd11) rfl (by kernel_rfl) (by kernel_rfl) (by kernel_rfl) (fun _ _ _ h => h) (Or.inl ⟨by rfl, ?hd11⟩) (Below.refl _ _) ?rd11
    case hd11 =>
      intro w hSw
      go_simp
      try with_reducible rfl
    (try simp only [Act.put, List.setIfInBounds_toArray, List.set_cons_zero, List.set_cons_succ])
    refine wpAnyH_take (i := 14) (oi := { dst := some 45, op := Op.move (Operand.tmp 1), type := 22, pos := "law.go:115", after := #[{ on := 9, ground := Ground.guard }], guard := some (9, false) }) (v := ?vd14) rfl (by kernel_rfl) (by kernel_rfl) (by kernel_rfl) (fun _ _ _ h => h) (Or.inl ⟨by rfl, ?hd14⟩) (Below.refl _ _) ?rd14
    case hd14 =>
      intro w hSw
      go_simp
      try with_reducible rfl
    (try simp only [Act.put, List.setIfInBounds_toArray, List.set_cons_zero, List.set_cons_succ])
    refine wpAnyH_take (i := 15) (oi := { dst := some 46, op := Op.move (Operand.tmp 0), type := 22, pos := "law.go:115", after := #[{ on := 9, ground := Ground.guard }], guard := some (9, false) }) (v := ?vd15) rfl (by kernel_rfl) (by kernel_rfl) (by kernel_rfl) (fun _ _ _ h => h) (Or.inl ⟨by rfl, ?hd15⟩) (Below.refl _ _) ?rd15
    case hd15 =>
      intro w hSw
      go_simp
      try with_reducible rfl
    (try simp only [Act.put, List.setIfInBounds_toArray, List.set_cons_zero, List.set_cons_succ])
    refine wpAnyH_ready (rs := [12]) (by kernel_rfl) (by simp) ?_
    refine AllReadyH.cons (o := { dst := some 43, op := Op.call { callee := Callee.value (Operand.func 28), args := #[Operand.tmp 41, Operand.tmp 42], argTypes := #[22, 22] }, type := 22, pos := "law.go:115", after := #[{ on := 10, ground := Ground.data }, { on := 11, ground := Ground.data }, { on := 9, ground := Ground.chain }, { on := 9, ground := Ground.guard }], guard := some (9, false) }) rfl (fun K hK => ?_) AllReadyH.nil
    go_simp
    (go_at_call 28; refine (aAB _ _ _ ba bb).mono ?_; rintro e w23 ⟨s23, rfl, hn23, hb23⟩; (have t23 := hn23.str); obtain ⟨g23, rfl, -⟩ := hn23)
    (try go_simp)
    refine hK.out _ _ hb23 (fun h => ?_)
    clear h hK K
    refine wpAnyH_narrow (S' := fun w' => Below w23.heap.size w23 w') (fun _ h => below_next hb23 h) _ _ _ _ ?_
    replace ba := ba.still hb23
    replace bb := bb.still hb23
    replace bc := bc.still hb23
    replace bz := bz.still hb23
    replace tz := tz.still hb23
    replace tx := tx.still hb23
    replace t21 := t21.still hb23
    replace t22 := t22.still hb23
    replace hw := below_next hw hb23
    clear hb23
    (try simp only [Act.put, List.setIfInBounds_toArray, List.set_cons_zero, List.set_cons_succ])
    refine wpAnyH_take (i := 13) (oi := { dst := some 44, op := Op.convert 22 9 (Operand.tmp 43), type := 9, pos := "law.go:115", after := #[{ on := 12, ground := Ground.data }, { on := 9, ground := Ground.guard }], guard := some (9, false) }) (v := ?vd13) rfl (by kernel_rfl) (by kernel_rfl) (by kernel_rfl) (fun _ _ _ h => h) (Or.inl ⟨by rfl, ?hd13⟩) (Below.refl _ _) ?rd13
    case hd13 =>
      intro w hSw
      have q := t23.conv w hSw
      go_simp
      try with_reducible rfl
    (try simp only [Act.put, List.setIfInBounds_toArray, List.set_cons_zero, List.set_cons_succ])
    refine wpAnyH_ready (rs := [16]) (by kernel_rfl) (by simp) ?_
    refine AllReadyH.cons (o := { dst := some 47, op := Op.call { callee := Callee.value (Operand.func 28), args := #[Operand.tmp 45, Operand.tmp 46], argTypes := #[22, 22] }, type := 22, pos := "law.go:115", after := #[{ on := 14, ground := Ground.data }, { on := 15, ground := Ground.data }, { on := 12, ground := Ground.chain }, { on := 9, ground := Ground.guard }], guard := some (9, false) }) rfl (fun K hK => ?_) AllReadyH.nil
    go_simp
    (go_at_call 28; refine (aBA _ _ _ bb ba).mono ?_; rintro e w24 ⟨s24, rfl, hn24, hb24⟩; (have t24 := hn24.str); obtain ⟨g24, rfl, -⟩ := hn24)
    (try go_simp)
    refine hK.out _ _ hb24 (fun h => ?_)
    clear h hK K
    refine wpAnyH_narrow (S' := fun w' => Below w24.heap.size w24 w') (fun _ h => below_next hb24 h) _ _ _ _ ?_
    replace ba := ba.still hb24
    replace bb := bb.still hb24
    replace bc := bc.still hb24
    replace bz := bz.still hb24
    replace tz := tz.still hb24
    replace tx := tx.still hb24
    replace t21 := t21.still hb24
    replace t22 := t22.still hb24
    replace t23 := t23.still hb24
    replace hw := below_next hw hb24
    clear hb24
    (try simp only [Act.put, List.setIfInBounds_toArray, List.set_cons_zero, List.set_cons_succ])
    refine wpAnyH_take (i := 17) (oi := { dst := some 48, op := Op.convert 22 9 (Operand.tmp 47), type := 9, pos := "law.go:115", after := #[{ on := 16, ground := Ground.data }, { on := 9, ground := Ground.guard }], guard := some (9, false) }) (v := ?vd17) rfl (by kernel_rfl) (by kernel_rfl) (by kernel_rfl) (fun _ _ _ h => h) (Or.inl ⟨by rfl, ?hd17⟩) (Below.refl _ _) ?rd17
    case hd17 =>
      intro w hSw
      have q := t24.conv w hSw
      go_simp
      try with_reducible rfl
    (try simp only [Act.put, List.setIfInBounds_toArray, List.set_cons_zero, List.set_cons_succ])
    refine wpAnyH_take (i := 18) (oi := { dst := some 49, op := Op.binOp BinOp.neq 9 (Operand.tmp 44) (Operand.tmp 48) 9, type := 4, pos := "law.go:115", after := #[{ on := 13, ground := Ground.data }, { on := 17, ground := Ground.data }, { on := 9, ground := Ground.guard }], guard := some (9, false) }) (v := ?vd18) rfl (by kernel_rfl) (by kernel_rfl) (by kernel_rfl) (fun _ _ _ h => h) (Or.inl ⟨by rfl, ?hd18⟩) (Below.refl _ _) ?rd18
    case hd18 =>
      intro w hSw
      go_simp
      try with_reducible rfl
    (try simp only [Act.put, List.setIfInBounds_toArray, List.set_cons_zero, List.set_cons_succ])
    refine wpAnyH_take (i := 19) (oi := { dst := some 50, op := Op.pick (Operand.tmp 40) (Operand.const (Value.bool true)) (Operand.tmp 49), type := 4, pos := "law.go:115", after := #[{ on := 9, ground := Ground.data }, { on := 18, ground := Ground.data }], guard := none }) (v := ?vd19) rfl (by kernel_rfl) (by kernel_rfl) (by kernel_rfl) (fun _ _ _ h => h) (Or.inl ⟨by rfl, ?hd19⟩) (Below.refl _ _) ?rd19
    case hd19 =>
      intro w hSw
      go_simp
      try with_reducible rfl
    (try simp only [Act.put, List.setIfInBounds_toArray, List.set_cons_zero, List.set_cons_succ])
    refine wpAnyH_take (i := 20) (oi := { dst := some 51, op := Op.move (Operand.tmp 50), type := 4, pos := "law.go:115", after := #[{ on := 19, ground := Ground.data }, { on := 16, ground := Ground.chain }], guard := none }) (v := ?vd20) rfl (by kernel_rfl) (by kernel_rfl) (by kernel_rfl) (fun _ _ _ h => h) (Or.inl ⟨by rfl, ?hd20⟩) (Below.refl _ _) ?rd20
    case hd20 =>
      intro w hSw
      go_simp
      try with_reducible rfl
    (try simp only [Act.put, List.setIfInBounds_toArray, List.set_cons_zero, List.set_cons_succ])
    refine wpAnyH_take (i := 21) (oi := { dst := some 52, op := Op.move (Operand.tmp 0), type := 22, pos := "law.go:115", after := #[{ on := 20, ground := Ground.guard }], guard := some (20, false) }) (v := ?vd21) rfl (by kernel_rfl) (by kernel_rfl) (by kernel_rfl) (fun _ _ _ h => h) (Or.inl ⟨by rfl, ?hd21⟩) (Below.refl _ _) ?rd21
    case hd21 =>
      intro w hSw
      go_simp
      try with_reducible rfl
    (try simp only [Act.put, List.setIfInBounds_toArray, List.set_cons_zero, List.set_cons_succ])
    refine wpAnyH_take (i := 22) (oi := { dst := some 53, op := Op.move (Operand.tmp 1), type := 22, pos := "law.go:115", after := #[{ on := 20, ground := Ground.guard }], guard := some (20, false) }) (v := ?vd22) rfl (by kernel_rfl) (by kernel_rfl) (by kernel_rfl) (fun _ _ _ h => h) (Or.inl ⟨by rfl, ?hd22⟩) (Below.refl _ _) ?rd22
    case hd22 =>
      intro w hSw
      go_simp
      try with_reducible rfl
    (try simp only [Act.put, List.setIfInBounds_toArray, List.set_cons_zero, List.set_cons_succ])
    refine wpAnyH_take (i := 24) (oi := { dst := some 55, op := Op.move (Operand.tmp 2), type := 22, pos := "law.go:115", after := #[{ on := 20, ground := Ground.guard }], guard := some (20, false) }) (v := ?vd24) rfl (by kernel_rfl) (by kernel_rfl) (by kernel_rfl) (fun _ _ _ h => h) (Or.inl ⟨by rfl, ?hd24⟩) (Below.refl _ _) ?rd24
    case hd24 =>
      intro w hSw
      go_simp
      try with_reducible rfl
    (try simp only [Act.put, List.setIfInBounds_toArray, List.set_cons_zero, List.set_cons_succ])
    refine wpAnyH_take (i := 27) (oi := { dst := some 58, op := Op.move (Operand.tmp 0), type := 22, pos := "law.go:115", after := #[{ on := 20, ground := Ground.guard }], guard := some (20, false) }) (v := ?vd27) rfl (by kernel_rfl) (by kernel_rfl) (by kernel_rfl) (fun _ _ _ h => h) (Or.inl ⟨by rfl, ?hd27⟩) (Below.refl _ _) ?rd27
    case hd27 =>
      intro w hSw
      go_simp
      try with_reducible rfl
    (try simp only [Act.put, List.setIfInBounds_toArray, List.set_cons_zero, List.set_cons_succ])
    refine wpAnyH_take (i := 28) (oi := { dst := some 59, op := Op.move (Operand.tmp 1), type := 22, pos := "law.go:115", after := #[{ on := 20, ground := Ground.guard }], guard := some (20, false) }) (v := ?vd28) rfl (by kernel_rfl) (by kernel_rfl) (by kernel_rfl) (fun _ _ _ h => h) (Or.inl ⟨by rfl, ?hd28⟩) (Below.refl _ _) ?rd28
    case hd28 =>
      intro w hSw
      go_simp
      try with_reducible rfl
    (try simp only [Act.put, List.setIfInBounds_toArray, List.set_cons_zero, List.set_cons_succ])
    refine wpAnyH_take (i := 29) (oi := { dst := some 60, op := Op.move (Operand.tmp 2), type := 22, pos := "law.go:115", after := #[{ on := 20, ground := Ground.guard }], guard := some (20, false) }) (v := ?vd29) rfl (by kernel_rfl) (by kernel_rfl) (by kernel_rfl) (fun _ _ _ h => h) (Or.inl ⟨by rfl, ?hd29⟩) (Below.refl _ _) ?rd29
    case hd29 =>
      intro w hSw
      go_simp
      try with_reducible rfl
    (try simp only [Act.put, List.setIfInBounds_toArray, List.set_cons_zero, List.set_cons_succ])
    refine wpAnyH_ready (rs := [23]) (by kernel_rfl) (by simp) ?_
    refine AllReadyH.cons (o := { dst := some 54, op := Op.call { callee := Callee.value (Operand.func 27), args := #[Operand.tmp 52, Operand.tmp 53], argTypes := #[22, 22] }, type := 22, pos := "law.go:115", after := #[{ on := 21, ground := Ground.data }, { on := 22, ground := Ground.data }, { on := 20, ground := Ground.chain }, { on := 20, ground := Ground.guard }], guard := some (20, false) }) rfl (fun K hK => ?_) AllReadyH.nil
    go_simp
    (go_at_call 27; refine (mAB _ _ _ ba bb).mono ?_; rintro e w25 ⟨s25, rfl, hn25, hb25⟩; (have b25 := hn25.bytes (by decide)); obtain ⟨g25, rfl, -⟩ := hn25)
    (try go_simp)
    refine hK.out _ _ hb25 (fun h => ?_)
    clear h hK K
    refine wpAnyH_narrow (S' := fun w' => Below w25.heap.size w25 w') (fun _ h => below_next hb25 h) _ _ _ _ ?_
    replace ba := ba.still hb25
    replace bb := bb.still hb25
    replace bc := bc.still hb25
    replace bz := bz.still hb25
    replace tz := tz.still hb25
    replace tx := tx.still hb25
    replace t21 := t21.still hb25
    replace t22 := t22.still hb25
    replace t23 := t23.still hb25
    replace t24 := t24.still hb25
    replace hw := below_next hw hb25
    clear hb25
    (try simp only [Act.put, List.setIfInBounds_toArray, List.set_cons_zero, List.set_cons_succ])
    refine wpAnyH_ready (rs := [25]) (by kernel_rfl) (by simp) ?_
    refine AllReadyH.cons (o := { dst := some 56, op := Op.call { callee := Callee.value (Operand.func 27), args := #[Operand.tmp 54, Operand.tmp 55], argTypes := #[22, 22] }, type := 22, pos := "law.go:115", after := #[{ on := 23, ground := Ground.data }, { on := 24, ground := Ground.data }, { on := 23, ground := Ground.chain }, { on := 20, ground := Ground.guard }], guard := some (20, false) }) rfl (fun K hK => ?_) AllReadyH.nil
    go_simp
    (go_at_call 27; refine (mT _ _ _ b25 bc).mono ?_; rintro e w26 ⟨s26, rfl, hn26, hb26⟩; (have t26 := hn26.str); obtain ⟨g26, rfl, -⟩ := hn26)
    (try go_simp)
    refine hK.out _ _ hb26 (fun h => ?_)
    clear h hK K
    refine wpAnyH_narrow (S' := fun w' => Below w26.heap.size w26 w') (fun _ h => below_next hb26 h) _ _ _ _ ?_
    clear b25
    replace ba := ba.still hb26
    replace bb := bb.still hb26
    replace bc := bc.still hb26
    replace bz := bz.still hb26
    replace tz := tz.still hb26
    replace tx := tx.still hb26
    replace t21 := t21.still hb26
    replace t22 := t22.still hb26
    replace t23 := t23.still hb26
    replace t24 := t24.still hb26
    replace hw := below_next hw hb26
    clear hb26
    (try simp only [Act.put, List.setIfInBounds_toArray, List.set_cons_zero, List.set_cons_succ])
    refine wpAnyH_take (i := 26) (oi := { dst := some 57, op := Op.convert 22 9 (Operand.tmp 56), type := 9, pos := "law.go:115", after := #[{ on := 25, ground := Ground.data }, { on := 20, ground := Ground.guard }], guard := some (20, false) }) (v := ?vd26) rfl (by kernel_rfl) (by kernel_rfl) (by kernel_rfl) (fun _ _ _ h => h) (Or.inl ⟨by rfl, ?hd26⟩) (Below.refl _ _) ?rd26
    case hd26 =>
      intro w hSw
      have q := t26.conv w hSw
      go_simp
      try with_reducible rfl
    (try simp only [Act.put, List.setIfInBounds_toArray, List.set_cons_zero, List.set_cons_succ])
    refine wpAnyH_ready (rs := [30]) (by kernel_rfl) (by simp) ?_
    refine AllReadyH.cons (o := { dst := some 61, op := Op.call { callee := Callee.value (Operand.func 27), args := #[Operand.tmp 59, Operand.tmp 60], argTypes := #[22, 22] }, type := 22, pos := "law.go:115", after := #[{ on := 28, ground := Ground.data }, { on := 29, ground := Ground.data }, { on := 25, ground := Ground.chain }, { on := 20, ground := Ground.guard }], guard := some (20, false) }) rfl (fun K hK => ?_) AllReadyH.nil
    go_simp
    (go_at_call 27; refine (mBC _ _ _ bb bc).mono ?_; rintro e w27 ⟨s27, rfl, hn27, hb27⟩; (have b27 := hn27.bytes (by decide)); obtain ⟨g27, rfl, -⟩ := hn27)
    (try go_simp)
    refine hK.out _ _ hb27 (fun h => ?_)
    clear h hK K
    refine wpAnyH_narrow (S' := fun w' => Below w27.heap.size w27 w') (fun _ h => below_next hb27 h) _ _ _ _ ?_
    replace ba := ba.still hb27
    replace bb := bb.still hb27
    replace bc := bc.still hb27
    replace bz := bz.still hb27
    replace tz := tz.still hb27
    replace tx := tx.still hb27
    replace t21 := t21.still hb27
    replace t22 := t22.still hb27
    replace t23 := t23.still hb27
    replace t24 := t24.still hb27
    replace t26 := t26.still hb27
    replace hw := below_next hw hb27
    clear hb27
    (try simp only [Act.put, List.setIfInBounds_toArray, List.set_cons_zero, List.set_cons_succ])
    refine wpAnyH_ready (rs := [31]) (by kernel_rfl) (by simp) ?_
    refine AllReadyH.cons (o := { dst := some 62, op := Op.call { callee := Callee.value (Operand.func 27), args := #[Operand.tmp 58, Operand.tmp 61], argTypes := #[22, 22] }, type := 22, pos := "law.go:115", after := #[{ on := 27, ground := Ground.data }, { on := 30, ground := Ground.data }, { on := 30, ground := Ground.chain }, { on := 20, ground := Ground.guard }], guard := some (20, false) }) rfl (fun K hK => ?_) AllReadyH.nil
    go_simp
    (go_at_call 27; refine (mU _ _ _ ba b27).mono ?_; rintro e w28 ⟨s28, rfl, hn28, hb28⟩; (have t28 := hn28.str); obtain ⟨g28, rfl, -⟩ := hn28)
    (try go_simp)
    refine hK.out _ _ hb28 (fun h => ?_)
    clear h hK K
    refine wpAnyH_narrow (S' := fun w' => Below w28.heap.size w28 w') (fun _ h => below_next hb28 h) _ _ _ _ ?_
    clear b27
    replace ba := ba.still hb28
    replace bb := bb.still hb28
    replace bc := bc.still hb28
    replace bz := bz.still hb28
    replace tz := tz.still hb28
    replace tx := tx.still hb28
    replace t21 := t21.still hb28
    replace t22 := t22.still hb28
    replace t23 := t23.still hb28
    replace t24 := t24.still hb28
    replace t26 := t26.still hb28
    replace hw := below_next hw hb28
    clear hb28
    (try simp only [Act.put, List.setIfInBounds_toArray, List.set_cons_zero, List.set_cons_succ])
    refine wpAnyH_take (i := 32) (oi := { dst := some 63, op := Op.convert 22 9 (Operand.tmp 62), type := 9, pos := "law.go:115", after := #[{ on := 31, ground := Ground.data }, { on := 20, ground := Ground.guard }], guard := some (20, false) }) (v := ?vd32) rfl (by kernel_rfl) (by kernel_rfl) (by kernel_rfl) (fun _ _ _ h => h) (Or.inl ⟨by rfl, ?hd32⟩) (Below.refl _ _) ?rd32
    case hd32 =>
      intro w hSw
      have q := t28.conv w hSw
      go_simp
      try with_reducible rfl
    (try simp only [Act.put, List.setIfInBounds_toArray, List.set_cons_zero, List.set_cons_succ])
    refine wpAnyH_take (i := 33) (oi := { dst := some 64, op := Op.binOp BinOp.neq 9 (Operand.tmp 57) (Operand.tmp 63) 9, type := 4, pos := "law.go:115", after := #[{ on := 26, ground := Ground.data }, { on := 32, ground := Ground.data }, { on := 20, ground := Ground.guard }], guard := some (20, false) }) (v := ?vd33) rfl (by kernel_rfl) (by kernel_rfl) (by kernel_rfl) (fun _ _ _ h => h) (Or.inl ⟨by rfl, ?hd33⟩) (Below.refl _ _) ?rd33
    case hd33 =>
      intro w hSw
      go_simp
      try with_reducible rfl
    (try simp only [Act.put, List.setIfInBounds_toArray, List.set_cons_zero, List.set_cons_succ])
    refine wpAnyH_take (i := 34) (oi := { dst := some 65, op := Op.pick (Operand.tmp 51) (Operand.const (Value.bool true)) (Operand.tmp 64), type := 4, pos := "law.go:115", after := #[{ on := 20, ground := Ground.data }, { on := 33, ground := Ground.data }], guard := none }) (v := ?vd34) rfl (by kernel_rfl) (by kernel_rfl) (by kernel_rfl) (fun _ _ _ h => h) (Or.inl ⟨by rfl, ?hd34⟩) (Below.refl _ _) ?rd34
    case hd34 =>
      intro w hSw
      go_simp
      try with_reducible rfl
    (try simp only [Act.put, List.setIfInBounds_toArray, List.set_cons_zero, List.set_cons_succ])
    refine wpAnyH_take (i := 35) (oi := { dst := some 66, op := Op.move (Operand.tmp 65), type := 4, pos := "law.go:115", after := #[{ on := 34, ground := Ground.data }, { on := 31, ground := Ground.chain }], guard := none }) (v := ?vd35) rfl (by kernel_rfl) (by kernel_rfl) (by kernel_rfl) (fun _ _ _ h => h) (Or.inl ⟨by rfl, ?hd35⟩) (Below.refl _ _) ?rd35
    case hd35 =>
      intro w hSw
      go_simp
      try with_reducible rfl
    (try simp only [Act.put, List.setIfInBounds_toArray, List.set_cons_zero, List.set_cons_succ])
    refine wpAnyH_take (i := 36) (oi := { dst := some 67, op := Op.move (Operand.tmp 0), type := 22, pos := "law.go:115", after := #[{ on := 35, ground := Ground.guard }], guard := some (35, false) }) (v := ?vd36) rfl (by kernel_rfl) (by kernel_rfl) (by kernel_rfl) (fun _ _ _ h => h) (Or.inl ⟨by rfl, ?hd36⟩) (Below.refl _ _) ?rd36
    case hd36 =>
      intro w hSw
      go_simp
      try with_reducible rfl
    (try simp only [Act.put, List.setIfInBounds_toArray, List.set_cons_zero, List.set_cons_succ])
    refine wpAnyH_take (i := 37) (oi := { dst := some 68, op := Op.move (Operand.tmp 1), type := 22, pos := "law.go:115", after := #[{ on := 35, ground := Ground.guard }], guard := some (35, false) }) (v := ?vd37) rfl (by kernel_rfl) (by kernel_rfl) (by kernel_rfl) (fun _ _ _ h => h) (Or.inl ⟨by rfl, ?hd37⟩) (Below.refl _ _) ?rd37
    case hd37 =>
      intro w hSw
      go_simp
      try with_reducible rfl
    (try simp only [Act.put, List.setIfInBounds_toArray, List.set_cons_zero, List.set_cons_succ])
    refine wpAnyH_take (i := 39) (oi := { dst := some 70, op := Op.move (Operand.tmp 2), type := 22, pos := "law.go:115", after := #[{ on := 35, ground := Ground.guard }], guard := some (35, false) }) (v := ?vd39) rfl (by kernel_rfl) (by kernel_rfl) (by kernel_rfl) (fun _ _ _ h => h) (Or.inl ⟨by rfl, ?hd39⟩) (Below.refl _ _) ?rd39
    case hd39 =>
      intro w hSw
      go_simp
      try with_reducible rfl
    (try simp only [Act.put, List.setIfInBounds_toArray, List.set_cons_zero, List.set_cons_succ])
    refine wpAnyH_take (i := 42) (oi := { dst := some 73, op := Op.move (Operand.tmp 0), type := 22, pos := "law.go:115", after := #[{ on := 35, ground := Ground.guard }], guard := some (35, false) }) (v := ?vd42) rfl (by kernel_rfl) (by kernel_rfl) (by kernel_rfl) (fun _ _ _ h => h) (Or.inl ⟨by rfl, ?hd42⟩) (Below.refl _ _) ?rd42
    case hd42 =>
      intro w hSw
      go_simp
      try with_reducible rfl
    (try simp only [Act.put, List.setIfInBounds_toArray, List.set_cons_zero, List.set_cons_succ])
    refine wpAnyH_take (i := 43) (oi := { dst := some 74, op := Op.move (Operand.tmp 1), type := 22, pos := "law.go:115", after := #[{ on := 35, ground := Ground.guard }], guard := some (35, false) }) (v := ?vd43) rfl (by kernel_rfl) (by kernel_rfl) (by kernel_rfl) (fun _ _ _ h => h) (Or.inl ⟨by rfl, ?hd43⟩) (Below.refl _ _) ?rd43
    case hd43 =>
      intro w hSw
      go_simp
      try with_reducible rfl
    (try simp only [Act.put, List.setIfInBounds_toArray, List.set_cons_zero, List.set_cons_succ])
    refine wpAnyH_take (i := 44) (oi := { dst := some 75, op := Op.move (Operand.tmp 2), type := 22, pos := "law.go:115", after := #[{ on := 35, ground := Ground.guard }], guard := some (35, false) }) (v := ?vd44) rfl (by kernel_rfl) (by kernel_rfl) (by kernel_rfl) (fun _ _ _ h => h) (Or.inl ⟨by rfl, ?hd44⟩) (Below.refl _ _) ?rd44
    case hd44 =>
      intro w hSw
      go_simp
      try with_reducible rfl
    (try simp only [Act.put, List.setIfInBounds_toArray, List.set_cons_zero, List.set_cons_succ])
    refine wpAnyH_ready (rs := [38]) (by kernel_rfl) (by simp) ?_
    refine AllReadyH.cons (o := { dst := some 69, op := Op.call { callee := Callee.value (Operand.func 28), args := #[Operand.tmp 67, Operand.tmp 68], argTypes := #[22, 22] }, type := 22, pos := "law.go:115", after := #[{ on := 36, ground := Ground.data }, { on := 37, ground := Ground.data }, { on := 35, ground := Ground.chain }, { on := 35, ground := Ground.guard }], guard := some (35, false) }) rfl (fun K hK => ?_) AllReadyH.nil
    go_simp
    (go_at_call 28; refine (aAB _ _ _ ba bb).mono ?_; rintro e w29 ⟨s29, rfl, hn29, hb29⟩; (have b29 := hn29.bytes (by decide)); obtain ⟨g29, rfl, -⟩ := hn29)
    (try go_simp)
    refine hK.out _ _ hb29 (fun h => ?_)
    clear h hK K
    refine wpAnyH_narrow (S' := fun w' => Below w29.heap.size w29 w') (fun _ h => below_next hb29 h) _ _ _ _ ?_
    replace ba := ba.still hb29
    replace bb := bb.still hb29
    replace bc := bc.still hb29
    replace bz := bz.still hb29
    replace tz := tz.still hb29
    replace tx := tx.still hb29
    replace t21 := t21.still hb29
    replace t22 := t22.still hb29
    replace t23 := t23.still hb29
    replace t24 := t24.still hb29
    replace t26 := t26.still hb29
    replace t28 := t28.still hb29
    replace hw := below_next hw hb29
    clear hb29
    (try simp only [Act.put, List.setIfInBounds_toArray, List.set_cons_zero, List.set_cons_succ])
    refine wpAnyH_ready (rs := [40]) (by kernel_rfl) (by simp) ?_
    refine AllReadyH.cons (o := { dst := some 71, op := Op.call { callee := Callee.value (Operand.func 28), args := #[Operand.tmp 69, Operand.tmp 70], argTypes := #[22, 22] }, type := 22, pos := "law.go:115", after := #[{ on := 38, ground := Ground.data }, { on := 39, ground := Ground.data }, { on := 38, ground := Ground.chain }, { on := 35, ground := Ground.guard }], guard := some (35, false) }) rfl (fun K hK => ?_) AllReadyH.nil
    go_simp
    (go_at_call 28; refine (aQ _ _ _ b29 bc).mono ?_; rintro e w30 ⟨s30, rfl, hn30, hb30⟩; (have t30 := hn30.str); obtain ⟨g30, rfl, -⟩ := hn30)
    (try go_simp)
    refine hK.out _ _ hb30 (fun h => ?_)
    clear h hK K
    refine wpAnyH_narrow (S' := fun w' => Below w30.heap.size w30 w') (fun _ h => below_next hb30 h) _ _ _ _ ?_
    clear b29
    replace ba := ba.still hb30
    replace bb := bb.still hb30
    replace bc := bc.still hb30
    replace bz := bz.still hb30
    replace tz := tz.still hb30
    replace tx := tx.still hb30
    replace t21 := t21.still hb30
    replace t22 := t22.still hb30
    replace t23 := t23.still hb30
    replace t24 := t24.still hb30
    replace t26 := t26.still hb30
    replace t28 := t28.still hb30
    replace hw := below_next hw hb30
    clear hb30
    (try simp only [Act.put, List.setIfInBounds_toArray, List.set_cons_zero, List.set_cons_succ])
    refine wpAnyH_take (i := 41) (oi := { dst := some 72, op := Op.convert 22 9 (Operand.tmp 71), type := 9, pos := "law.go:115", after := #[{ on := 40, ground := Ground.data }, { on := 35, ground := Ground.guard }], guard := some (35, false) }) (v := ?vd41) rfl (by kernel_rfl) (by kernel_rfl) (by kernel_rfl) (fun _ _ _ h => h) (Or.inl ⟨by rfl, ?hd41⟩) (Below.refl _ _) ?rd41
    case hd41 =>
      intro w hSw
      have q := t30.conv w hSw
      go_simp
      try with_reducible rfl
    (try simp only [Act.put, List.setIfInBounds_toArray, List.set_cons_zero, List.set_cons_succ])
    refine wpAnyH_ready (rs := [45]) (by kernel_rfl) (by simp) ?_
    refine AllReadyH.cons (o := { dst := some 76, op := Op.call { callee := Callee.value (Operand.func 28), args := #[Operand.tmp 74, Operand.tmp 75], argTypes := #[22, 22] }, type := 22, pos := "law.go:115", after := #[{ on := 43, ground := Ground.data }, { on := 44, ground := Ground.data }, { on := 40, ground := Ground.chain }, { on := 35, ground := Ground.guard }], guard := some (35, false) }) rfl (fun K hK => ?_) AllReadyH.nil
    go_simp
    (go_at_call 28; refine (aBC _ _ _ bb bc).mono ?_; rintro e w31 ⟨s31, rfl, hn31, hb31⟩; (have b31 := hn31.bytes (by decide)); obtain ⟨g31, rfl, -⟩ := hn31)
    (try go_simp)
    refine hK.out _ _ hb31 (fun h => ?_)
    clear h hK K
    refine wpAnyH_narrow (S' := fun w' => Below w31.heap.size w31 w') (fun _ h => below_next hb31 h) _ _ _ _ ?_
    replace ba := ba.still hb31
    replace bb := bb.still hb31
    replace bc := bc.still hb31
    replace bz := bz.still hb31
    replace tz := tz.still hb31
    replace tx := tx.still hb31
    replace t21 := t21.still hb31
    replace t22 := t22.still hb31
    replace t23 := t23.still hb31
    replace t24 := t24.still hb31
    replace t26 := t26.still hb31
    replace t28 := t28.still hb31
    replace t30 := t30.still hb31
    replace hw := below_next hw hb31
    clear hb31
    (try simp only [Act.put, List.setIfInBounds_toArray, List.set_cons_zero, List.set_cons_succ])
    refine wpAnyH_ready (rs := [46]) (by kernel_rfl) (by simp) ?_
    refine AllReadyH.cons (o := { dst := some 77, op := Op.call { callee := Callee.value (Operand.func 28), args := #[Operand.tmp 73, Operand.tmp 76], argTypes := #[22, 22] }, type := 22, pos := "law.go:115", after := #[{ on := 42, ground := Ground.data }, { on := 45, ground := Ground.data }, { on := 45, ground := Ground.chain }, { on := 35, ground := Ground.guard }], guard := some (35, false) }) rfl (fun K hK => ?_) AllReadyH.nil
    go_simp
    (go_at_call 28; refine (aR _ _ _ ba b31).mono ?_; rintro e w32 ⟨s32, rfl, hn32, hb32⟩; (have t32 := hn32.str); obtain ⟨g32, rfl, -⟩ := hn32)
    (try go_simp)
    refine hK.out _ _ hb32 (fun h => ?_)
    clear h hK K
    refine wpAnyH_narrow (S' := fun w' => Below w32.heap.size w32 w') (fun _ h => below_next hb32 h) _ _ _ _ ?_
    clear b31
    replace ba := ba.still hb32
    replace bb := bb.still hb32
    replace bc := bc.still hb32
    replace bz := bz.still hb32
    replace tz := tz.still hb32
    replace tx := tx.still hb32
    replace t21 := t21.still hb32
    replace t22 := t22.still hb32
    replace t23 := t23.still hb32
    replace t24 := t24.still hb32
    replace t26 := t26.still hb32
    replace t28 := t28.still hb32
    replace t30 := t30.still hb32
    replace hw := below_next hw hb32
    clear hb32
    (try simp only [Act.put, List.setIfInBounds_toArray, List.set_cons_zero, List.set_cons_succ])
    refine wpAnyH_take (i := 47) (oi := { dst := some 78, op := Op.convert 22 9 (Operand.tmp 77), type := 9, pos := "law.go:115", after := #[{ on := 46, ground := Ground.data }, { on := 35, ground := Ground.guard }], guard := some (35, false) }) (v := ?vd47) rfl (by kernel_rfl) (by kernel_rfl) (by kernel_rfl) (fun _ _ _ h => h) (Or.inl ⟨by rfl, ?hd47⟩) (Below.refl _ _) ?rd47
    case hd47 =>
      intro w hSw
      have q := t32.conv w hSw
      go_simp
      try with_reducible rfl
    (try simp only [Act.put, List.setIfInBounds_toArray, List.set_cons_zero, List.set_cons_succ])
    refine wpAnyH_take (i := 48) (oi := { dst := some 79, op := Op.binOp BinOp.neq 9 (Operand.tmp 72) (Operand.tmp 78) 9, type := 4, pos := "law.go:115", after := #[{ on := 41, ground := Ground.data }, { on := 47, ground := Ground.data }, { on := 35, ground := Ground.guard }], guard := some (35, false) }) (v := ?vd48) rfl (by kernel_rfl) (by kernel_rfl) (by kernel_rfl) (fun _ _ _ h => h) (Or.inl ⟨by rfl, ?hd48⟩) (Below.refl _ _) ?rd48
    case hd48 =>
      intro w hSw
      go_simp
      try with_reducible rfl
    (try simp only [Act.put, List.setIfInBounds_toArray, List.set_cons_zero, List.set_cons_succ])
    refine wpAnyH_take (i := 49) (oi := { dst := some 80, op := Op.pick (Operand.tmp 66) (Operand.const (Value.bool true)) (Operand.tmp 79), type := 4, pos := "law.go:115", after := #[{ on := 35, ground := Ground.data }, { on := 48, ground := Ground.data }], guard := none }) (v := ?vd49) rfl (by kernel_rfl) (by kernel_rfl) (by kernel_rfl) (fun _ _ _ h => h) (Or.inl ⟨by rfl, ?hd49⟩) (Below.refl _ _) ?rd49
    case hd49 =>
      intro w hSw
      go_simp
      try with_reducible rfl
    (try simp only [Act.put, List.setIfInBounds_toArray, List.set_cons_zero, List.set_cons_succ])
    refine wpAnyH_done (by kernel_rfl) ?_ _
    refine NoPanic.normal ?_
    clear t21 t22 t23 t24 t26 t28 t30 t32
    go_wp2
    have hdrew : Below w32.heap.size w32 w32.drew := (Below.refl _ _).drew
    replace ba := ba.still hdrew
    replace bb := bb.still hdrew
    replace bc := bc.still hdrew
    replace bz := bz.still hdrew
    replace tz := tz.still hdrew
    replace tx := tx.still hdrew
    replace hw := below_next hw hdrew
    clear hdrew
    refine wp_region_noPanic ?_
    refine wp_region_held_drew (S := fun w' => Below w32.drew.heap.size w32.drew w') (by kernel_rfl) (Below.refl _ _) (fun hHeld => ?_)
    clear hHeld
    refine wpAnyH_take (i := 0) (oi := { dst := some 81, op := Op.move (Operand.tmp 0), type := 22, pos := "law.go:118", after := #[], guard := none }) (v := ?ve0) rfl (by kernel_rfl) (by kernel_rfl) (by kernel_rfl) (fun _ _ _ h => h) (Or.inl ⟨by rfl, ?he0⟩) (Below.refl _ _) ?re0
    case he0 =>
      intro w hSw
      go_simp
      try with_reducible rfl
    (try simp only [Act.put, List.setIfInBounds_toArray, List.set_cons_zero, List.set_cons_succ])
    refine wpAnyH_take (i := 1) (oi := { dst := some 82, op := Op.move (Operand.tmp 1), type := 22, pos := "law.go:118", after := #[], guard := none }) (v := ?ve1) rfl (by kernel_rfl) (by kernel_rfl) (by kernel_rfl) (fun _ _ _ h => h) (Or.inl ⟨by rfl, ?he1⟩) (Below.refl _ _) ?re1
    case he1 =>
      intro w hSw
      go_simp
      try with_reducible rfl
    (try simp only [Act.put, List.setIfInBounds_toArray, List.set_cons_zero, List.set_cons_succ])
    refine wpAnyH_take (i := 2) (oi := { dst := some 83, op := Op.move (Operand.tmp 2), type := 22, pos := "law.go:118", after := #[], guard := none }) (v := ?ve2) rfl (by kernel_rfl) (by kernel_rfl) (by kernel_rfl) (fun _ _ _ h => h) (Or.inl ⟨by rfl, ?he2⟩) (Below.refl _ _) ?re2
    case he2 =>
      intro w hSw
      go_simp
      try with_reducible rfl
    (try simp only [Act.put, List.setIfInBounds_toArray, List.set_cons_zero, List.set_cons_succ])
    refine wpAnyH_take (i := 6) (oi := { dst := some 87, op := Op.move (Operand.tmp 0), type := 22, pos := "law.go:118", after := #[], guard := none }) (v := ?ve6) rfl (by kernel_rfl) (by kernel_rfl) (by kernel_rfl) (fun _ _ _ h => h) (Or.inl ⟨by rfl, ?he6⟩) (Below.refl _ _) ?re6
    case he6 =>
      intro w hSw
      go_simp
      try with_reducible rfl
    (try simp only [Act.put, List.setIfInBounds_toArray, List.set_cons_zero, List.set_cons_succ])
    refine wpAnyH_take (i := 7) (oi := { dst := some 88, op := Op.move (Operand.tmp 1), type := 22, pos := "law.go:118", after := #[], guard := none }) (v := ?ve7) rfl (by kernel_rfl) (by kernel_rfl) (by kernel_rfl) (fun _ _ _ h => h) (Or.inl ⟨by rfl, ?he7⟩) (Below.refl _ _) ?re7
    case he7 =>
      intro w hSw
      go_simp
      try with_reducible rfl
    (try simp only [Act.put, List.setIfInBounds_toArray, List.set_cons_zero, List.set_cons_succ])
    refine wpAnyH_take (i := 9) (oi := { dst := some 90, op := Op.move (Operand.tmp 0), type := 22, pos := "law.go:118", after := #[], guard := none }) (v := ?ve9) rfl (by kernel_rfl) (by kernel_rfl) (by kernel_rfl) (fun _ _ _ h => h) (Or.inl ⟨by rfl, ?he9⟩) (Below.refl _ _) ?re9
    case he9 =>
      intro w hSw
      go_simp
      try with_reducible rfl
    (try simp only [Act.put, List.setIfInBounds_toArray, List.set_cons_zero, List.set_cons_succ])
    refine wpAnyH_take (i := 10) (oi := { dst := some 91, op := Op.move (Operand.tmp 2), type := 22, pos := "law.go:118", after := #[], guard := none }) (v := ?ve10) rfl (by kernel_rfl) (by kernel_rfl) (by kernel_rfl) (fun _ _ _ h => h) (Or.inl ⟨by rfl, ?he10⟩) (Below.refl _ _) ?re10
    case he10 =>
      intro w hSw
      go_simp
      try with_reducible rfl
    (try simp only [Act.put, List.setIfInBounds_toArray, List.set_cons_zero, List.set_cons_succ])
    refine wpAnyH_ready (rs := [3]) (by kernel_rfl) (by simp) ?_
    refine AllReadyH.cons (o := { dst := some 84, op := Op.call { callee := Callee.value (Operand.func 28), args := #[Operand.tmp 82, Operand.tmp 83], argTypes := #[22, 22] }, type := 22, pos := "law.go:118", after := #[{ on := 1, ground := Ground.data }, { on := 2, ground := Ground.data }], guard := none }) rfl (fun K hK => ?_) AllReadyH.nil
    go_simp
    (go_at_call 28; refine (aBC _ _ _ bb bc).mono ?_; rintro e w41 ⟨s41, rfl, hn41, hb41⟩; (have b41 := hn41.bytes (by decide)); obtain ⟨g41, rfl, -⟩ := hn41)
    (try go_simp)
    refine hK.out _ _ hb41 (fun h => ?_)
    clear h hK K
    refine wpAnyH_narrow (S' := fun w' => Below w41.heap.size w41 w') (fun _ h => below_next hb41 h) _ _ _ _ ?_
    replace ba := ba.still hb41
    replace bb := bb.still hb41
    replace bc := bc.still hb41
    replace bz := bz.still hb41
    replace tz := tz.still hb41
    replace tx := tx.still hb41
    replace hw := below_next hw hb41
    clear hb41
    (try simp only [Act.put, List.setIfInBounds_toArray, List.set_cons_zero, List.set_cons_succ])
    refine wpAnyH_ready (rs := [4]) (by kernel_rfl) (by simp) ?_
    refine AllReadyH.cons (o := { dst := some 85, op := Op.call { callee := Callee.value (Operand.func 27), args := #[Operand.tmp 81, Operand.tmp 84], argTypes := #[22, 22] }, type := 22, pos := "law.go:118", after := #[{ on := 0, ground := Ground.data }, { on := 3, ground := Ground.data }, { on := 3, ground := Ground.chain }], guard := none }) rfl (fun K hK => ?_) AllReadyH.nil
    go_simp
    (go_at_call 27; refine (mE _ _ _ ba b41).mono ?_; rintro e w42 ⟨s42, rfl, hn42, hb42⟩; (have t42 := hn42.str); obtain ⟨g42, rfl, -⟩ := hn42)
    (try go_simp)
    refine hK.out _ _ hb42 (fun h => ?_)
    clear h hK K
    refine wpAnyH_narrow (S' := fun w' => Below w42.heap.size w42 w') (fun _ h => below_next hb42 h) _ _ _ _ ?_
    clear b41
    replace ba := ba.still hb42
    replace bb := bb.still hb42
    replace bc := bc.still hb42
    replace bz := bz.still hb42
    replace tz := tz.still hb42
    replace tx := tx.still hb42
    replace hw := below_next hw hb42
    clear hb42
    (try simp only [Act.put, List.setIfInBounds_toArray, List.set_cons_zero, List.set_cons_succ])
    refine wpAnyH_take (i := 5) (oi := { dst := some 86, op := Op.convert 22 9 (Operand.tmp 85), type := 9, pos := "law.go:118", after := #[{ on := 4, ground := Ground.data }], guard := none }) (v := ?ve5) rfl (by kernel_rfl) (by kernel_rfl) (by kernel_rfl) (fun _ _ _ h => h) (Or.inl ⟨by rfl, ?he5⟩) (Below.refl _ _) ?re5
    case he5 =>
      intro w hSw
      have q := t42.conv w hSw
      go_simp
      try with_reducible rfl
    (try simp only [Act.put, List.setIfInBounds_toArray, List.set_cons_zero, List.set_cons_succ])
    refine wpAnyH_ready (rs := [8]) (by kernel_rfl) (by simp) ?_
    refine AllReadyH.cons (o := { dst := some 89, op := Op.call { callee := Callee.value (Operand.func 27), args := #[Operand.tmp 87, Operand.tmp 88], argTypes := #[22, 22] }, type := 22, pos := "law.go:118", after := #[{ on := 6, ground := Ground.data }, { on := 7, ground := Ground.data }, { on := 4, ground := Ground.chain }], guard := none }) rfl (fun K hK => ?_) AllReadyH.nil
    go_simp
    (go_at_call 27; refine (mAB _ _ _ ba bb).mono ?_; rintro e w43 ⟨s43, rfl, hn43, hb43⟩; (have b43 := hn43.bytes (by decide)); obtain ⟨g43, rfl, -⟩ := hn43)
    (try go_simp)
    refine hK.out _ _ hb43 (fun h => ?_)
    clear h hK K
    refine wpAnyH_narrow (S' := fun w' => Below w43.heap.size w43 w') (fun _ h => below_next hb43 h) _ _ _ _ ?_
    replace ba := ba.still hb43
    replace bb := bb.still hb43
    replace bc := bc.still hb43
    replace bz := bz.still hb43
    replace tz := tz.still hb43
    replace tx := tx.still hb43
    replace t42 := t42.still hb43
    replace hw := below_next hw hb43
    clear hb43
    (try simp only [Act.put, List.setIfInBounds_toArray, List.set_cons_zero, List.set_cons_succ])
    refine wpAnyH_ready (rs := [11]) (by kernel_rfl) (by simp) ?_
    refine AllReadyH.cons (o := { dst := some 92, op := Op.call { callee := Callee.value (Operand.func 27), args := #[Operand.tmp 90, Operand.tmp 91], argTypes := #[22, 22] }, type := 22, pos := "law.go:118", after := #[{ on := 9, ground := Ground.data }, { on := 10, ground := Ground.data }, { on := 8, ground := Ground.chain }], guard := none }) rfl (fun K hK => ?_) AllReadyH.nil
    go_simp
    (go_at_call 27; refine (mAC _ _ _ ba bc).mono ?_; rintro e w44 ⟨s44, rfl, hn44, hb44⟩; (have b44 := hn44.bytes (by decide)); obtain ⟨g44, rfl, -⟩ := hn44)
    (try go_simp)
    refine hK.out _ _ hb44 (fun h => ?_)
    clear h hK K
    refine wpAnyH_narrow (S' := fun w' => Below w44.heap.size w44 w') (fun _ h => below_next hb44 h) _ _ _ _ ?_
    replace ba := ba.still hb44
    replace bb := bb.still hb44
    replace bc := bc.still hb44
    replace bz := bz.still hb44
    replace tz := tz.still hb44
    replace tx := tx.still hb44
    replace t42 := t42.still hb44
    replace b43 := b43.still hb44
    replace hw := below_next hw hb44
    clear hb44
    (try simp only [Act.put, List.setIfInBounds_toArray, List.set_cons_zero, List.set_cons_succ])
    refine wpAnyH_ready (rs := [12]) (by kernel_rfl) (by simp) ?_
    refine AllReadyH.cons (o := { dst := some 93, op := Op.call { callee := Callee.value (Operand.func 28), args := #[Operand.tmp 89, Operand.tmp 92], argTypes := #[22, 22] }, type := 22, pos := "law.go:118", after := #[{ on := 8, ground := Ground.data }, { on := 11, ground := Ground.data }, { on := 11, ground := Ground.chain }], guard := none }) rfl (fun K hK => ?_) AllReadyH.nil
    go_simp
    (go_at_call 28; refine (aE _ _ _ b43 b44).mono ?_; rintro e w45 ⟨s45, rfl, hn45, hb45⟩; (have t45 := hn45.str); obtain ⟨g45, rfl, -⟩ := hn45)
    (try go_simp)
    refine hK.out _ _ hb45 (fun h => ?_)
    clear h hK K
    refine wpAnyH_narrow (S' := fun w' => Below w45.heap.size w45 w') (fun _ h => below_next hb45 h) _ _ _ _ ?_
    clear b43
    clear b44
    clear bc
    replace ba := ba.still hb45
    replace bb := bb.still hb45
    replace bz := bz.still hb45
    replace tz := tz.still hb45
    replace tx := tx.still hb45
    replace t42 := t42.still hb45
    replace hw := below_next hw hb45
    clear hb45
    (try simp only [Act.put, List.setIfInBounds_toArray, List.set_cons_zero, List.set_cons_succ])
    refine wpAnyH_take (i := 13) (oi := { dst := some 94, op := Op.convert 22 9 (Operand.tmp 93), type := 9, pos := "law.go:118", after := #[{ on := 12, ground := Ground.data }], guard := none }) (v := ?ve13) rfl (by kernel_rfl) (by kernel_rfl) (by kernel_rfl) (fun _ _ _ h => h) (Or.inl ⟨by rfl, ?he13⟩) (Below.refl _ _) ?re13
    case he13 =>
      intro w hSw
      have q := t45.conv w hSw
      go_simp
      try with_reducible rfl
    (try simp only [Act.put, List.setIfInBounds_toArray, List.set_cons_zero, List.set_cons_succ])
    refine wpAnyH_take (i := 14) (oi := { dst := some 95, op := Op.binOp BinOp.neq 9 (Operand.tmp 86) (Operand.tmp 94) 9, type := 4, pos := "law.go:118", after := #[{ on := 5, ground := Ground.data }, { on := 13, ground := Ground.data }], guard := none }) (v := ?ve14) rfl (by kernel_rfl) (by kernel_rfl) (by kernel_rfl) (fun _ _ _ h => h) (Or.inl ⟨by rfl, ?he14⟩) (Below.refl _ _) ?re14
    case he14 =>
      intro w hSw
      go_simp
      try with_reducible rfl
    (try simp only [Act.put, List.setIfInBounds_toArray, List.set_cons_zero, List.set_cons_succ])
    refine wpAnyH_take (i := 15) (oi := { dst := some 96, op := Op.move (Operand.tmp 95), type := 4, pos := "law.go:118", after := #[{ on := 14, ground := Ground.data }, { on := 12, ground := Ground.chain }], guard := none }) (v := ?ve15) rfl (by kernel_rfl) (by kernel_rfl) (by kernel_rfl) (fun _ _ _ h => h) (Or.inl ⟨by rfl, ?he15⟩) (Below.refl _ _) ?re15
    case he15 =>
      intro w hSw
      go_simp
      try with_reducible rfl
    (try simp only [Act.put, List.setIfInBounds_toArray, List.set_cons_zero, List.set_cons_succ])
    refine wpAnyH_take (i := 16) (oi := { dst := some 97, op := Op.move (Operand.tmp 0), type := 22, pos := "law.go:118", after := #[{ on := 15, ground := Ground.guard }], guard := some (15, false) }) (v := ?ve16) rfl (by kernel_rfl) (by kernel_rfl) (by kernel_rfl) (fun _ _ _ h => h) (Or.inl ⟨by rfl, ?he16⟩) (Below.refl _ _) ?re16
    case he16 =>
      intro w hSw
      go_simp
      try with_reducible rfl
    (try simp only [Act.put, List.setIfInBounds_toArray, List.set_cons_zero, List.set_cons_succ])
    refine wpAnyH_take (i := 17) (oi := { dst := some 98, op := Op.move (Operand.tmp 1), type := 22, pos := "law.go:118", after := #[{ on := 15, ground := Ground.guard }], guard := some (15, false) }) (v := ?ve17) rfl (by kernel_rfl) (by kernel_rfl) (by kernel_rfl) (fun _ _ _ h => h) (Or.inl ⟨by rfl, ?he17⟩) (Below.refl _ _) ?re17
    case he17 =>
      intro w hSw
      go_simp
      try with_reducible rfl
    (try simp only [Act.put, List.setIfInBounds_toArray, List.set_cons_zero, List.set_cons_succ])
    refine wpAnyH_take (i := 19) (oi := { dst := some 100, op := Op.move (Operand.tmp 1), type := 22, pos := "law.go:118", after := #[{ on := 15, ground := Ground.guard }], guard := some (15, false) }) (v := ?ve19) rfl (by kernel_rfl) (by kernel_rfl) (by kernel_rfl) (fun _ _ _ h => h) (Or.inl ⟨by rfl, ?he19⟩) (Below.refl _ _) ?re19
    case he19 =>
      intro w hSw
      go_simp
      try with_reducible rfl
    (try simp only [Act.put, List.setIfInBounds_toArray, List.set_cons_zero, List.set_cons_succ])
    refine wpAnyH_take (i := 22) (oi := { dst := some 103, op := Op.move (Operand.tmp 8), type := 22, pos := "law.go:118", after := #[{ on := 15, ground := Ground.guard }], guard := some (15, false) }) (v := ?ve22) rfl (by kernel_rfl) (by kernel_rfl) (by kernel_rfl) (fun _ _ _ h => h) (Or.inl ⟨by rfl, ?he22⟩) (Below.refl _ _) ?re22
    case he22 =>
      intro w hSw
      go_simp
      try with_reducible rfl
    (try simp only [Act.put, List.setIfInBounds_toArray, List.set_cons_zero, List.set_cons_succ])
    refine wpAnyH_take (i := 23) (oi := { dst := some 104, op := Op.convert 22 9 (Operand.tmp 103), type := 9, pos := "law.go:118", after := #[{ on := 22, ground := Ground.data }, { on := 15, ground := Ground.guard }], guard := some (15, false) }) (v := ?ve23) rfl (by kernel_rfl) (by kernel_rfl) (by kernel_rfl) (fun _ _ _ h => h) (Or.inl ⟨by rfl, ?he23⟩) (Below.refl _ _) ?re23
    case he23 =>
      intro w hSw
      have q := tx.conv w hSw
      go_simp
      try with_reducible rfl
    (try simp only [Act.put, List.setIfInBounds_toArray, List.set_cons_zero, List.set_cons_succ])
    refine wpAnyH_ready (rs := [18]) (by kernel_rfl) (by simp) ?_
    refine AllReadyH.cons (o := { dst := some 99, op := Op.call { callee := Callee.value (Operand.func 28), args := #[Operand.tmp 97, Operand.tmp 98], argTypes := #[22, 22] }, type := 22, pos := "law.go:118", after := #[{ on := 16, ground := Ground.data }, { on := 17, ground := Ground.data }, { on := 15, ground := Ground.chain }, { on := 15, ground := Ground.guard }], guard := some (15, false) }) rfl (fun K hK => ?_) AllReadyH.nil
    go_simp
    (go_at_call 28; refine (aAB _ _ _ ba bb).mono ?_; rintro e w46 ⟨s46, rfl, hn46, hb46⟩; (have b46 := hn46.bytes (by decide)); obtain ⟨g46, rfl, -⟩ := hn46)
    (try go_simp)
    refine hK.out _ _ hb46 (fun h => ?_)
    clear h hK K
    refine wpAnyH_narrow (S' := fun w' => Below w46.heap.size w46 w') (fun _ h => below_next hb46 h) _ _ _ _ ?_
    replace ba := ba.still hb46
    replace bb := bb.still hb46
    replace bz := bz.still hb46
    replace tz := tz.still hb46
    replace tx := tx.still hb46
    replace t42 := t42.still hb46
    replace t45 := t45.still hb46
    replace hw := below_next hw hb46
    clear hb46
    (try simp only [Act.put, List.setIfInBounds_toArray, List.set_cons_zero, List.set_cons_succ])
    refine wpAnyH_ready (rs := [20]) (by kernel_rfl) (by simp) ?_
    refine AllReadyH.cons (o := { dst := some 101, op := Op.call { callee := Callee.value (Operand.func 29), args := #[Operand.tmp 99, Operand.tmp 100], argTypes := #[22, 22] }, type := 22, pos := "law.go:118", after := #[{ on := 18, ground := Ground.data }, { on := 19, ground := Ground.data }, { on := 18, ground := Ground.chain }, { on := 15, ground := Ground.guard }], guard := some (15, false) }) rfl (fun K hK => ?_) AllReadyH.nil
    go_simp
    (go_at_call 29; refine (sX _ _ _ b46 bb).mono ?_; rintro e w47 ⟨s47, rfl, hn47, hb47⟩; (have t47 := hn47.str); obtain ⟨g47, rfl, -⟩ := hn47)
    (try go_simp)
    refine hK.out _ _ hb47 (fun h => ?_)
    clear h hK K
    refine wpAnyH_narrow (S' := fun w' => Below w47.heap.size w47 w') (fun _ h => below_next hb47 h) _ _ _ _ ?_
    clear b46
    replace ba := ba.still hb47
    replace bb := bb.still hb47
    replace bz := bz.still hb47
    replace tz := tz.still hb47
    replace tx := tx.still hb47
    replace t42 := t42.still hb47
    replace t45 := t45.still hb47
    replace hw := below_next hw hb47
    clear hb47
    (try simp only [Act.put, List.setIfInBounds_toArray, List.set_cons_zero, List.set_cons_succ])
    refine wpAnyH_take (i := 21) (oi := { dst := some 102, op := Op.convert 22 9 (Operand.tmp 101), type := 9, pos := "law.go:118", after := #[{ on := 20, ground := Ground.data }, { on := 15, ground := Ground.guard }], guard := some (15, false) }) (v := ?ve21) rfl (by kernel_rfl) (by kernel_rfl) (by kernel_rfl) (fun _ _ _ h => h) (Or.inl ⟨by rfl, ?he21⟩) (Below.refl _ _) ?re21
    case he21 =>
      intro w hSw
      have q := t47.conv w hSw
      go_simp
      try with_reducible rfl
    (try simp only [Act.put, List.setIfInBounds_toArray, List.set_cons_zero, List.set_cons_succ])
    refine wpAnyH_take (i := 24) (oi := { dst := some 105, op := Op.binOp BinOp.neq 9 (Operand.tmp 102) (Operand.tmp 104) 9, type := 4, pos := "law.go:118", after := #[{ on := 21, ground := Ground.data }, { on := 23, ground := Ground.data }, { on := 15, ground := Ground.guard }], guard := some (15, false) }) (v := ?ve24) rfl (by kernel_rfl) (by kernel_rfl) (by kernel_rfl) (fun _ _ _ h => h) (Or.inl ⟨by rfl, ?he24⟩) (Below.refl _ _) ?re24
    case he24 =>
      intro w hSw
      go_simp
      try with_reducible rfl
    (try simp only [Act.put, List.setIfInBounds_toArray, List.set_cons_zero, List.set_cons_succ])
    refine wpAnyH_take (i := 25) (oi := { dst := some 106, op := Op.pick (Operand.tmp 96) (Operand.const (Value.bool true)) (Operand.tmp 105), type := 4, pos := "law.go:118", after := #[{ on := 15, ground := Ground.data }, { on := 24, ground := Ground.data }], guard := none }) (v := ?ve25) rfl (by kernel_rfl) (by kernel_rfl) (by kernel_rfl) (fun _ _ _ h => h) (Or.inl ⟨by rfl, ?he25⟩) (Below.refl _ _) ?re25
    case he25 =>
      intro w hSw
      go_simp
      try with_reducible rfl
    (try simp only [Act.put, List.setIfInBounds_toArray, List.set_cons_zero, List.set_cons_succ])
    refine wpAnyH_take (i := 26) (oi := { dst := some 107, op := Op.move (Operand.tmp 106), type := 4, pos := "law.go:118", after := #[{ on := 25, ground := Ground.data }, { on := 20, ground := Ground.chain }], guard := none }) (v := ?ve26) rfl (by kernel_rfl) (by kernel_rfl) (by kernel_rfl) (fun _ _ _ h => h) (Or.inl ⟨by rfl, ?he26⟩) (Below.refl _ _) ?re26
    case he26 =>
      intro w hSw
      go_simp
      try with_reducible rfl
    (try simp only [Act.put, List.setIfInBounds_toArray, List.set_cons_zero, List.set_cons_succ])
    refine wpAnyH_take (i := 27) (oi := { dst := some 108, op := Op.move (Operand.tmp 0), type := 22, pos := "law.go:118", after := #[{ on := 26, ground := Ground.guard }], guard := some (26, false) }) (v := ?ve27) rfl (by kernel_rfl) (by kernel_rfl) (by kernel_rfl) (fun _ _ _ h => h) (Or.inl ⟨by rfl, ?he27⟩) (Below.refl _ _) ?re27
    case he27 =>
      intro w hSw
      go_simp
      try with_reducible rfl
    (try simp only [Act.put, List.setIfInBounds_toArray, List.set_cons_zero, List.set_cons_succ])
    refine wpAnyH_take (i := 28) (oi := { dst := some 109, op := Op.move (Operand.tmp 7), type := 22, pos := "law.go:118", after := #[{ on := 26, ground := Ground.guard }], guard := some (26, false) }) (v := ?ve28) rfl (by kernel_rfl) (by kernel_rfl) (by kernel_rfl) (fun _ _ _ h => h) (Or.inl ⟨by rfl, ?he28⟩) (Below.refl _ _) ?re28
    case he28 =>
      intro w hSw
      go_simp
      try with_reducible rfl
    (try simp only [Act.put, List.setIfInBounds_toArray, List.set_cons_zero, List.set_cons_succ])
    refine wpAnyH_take (i := 31) (oi := { dst := some 112, op := Op.move (Operand.tmp 8), type := 22, pos := "law.go:118", after := #[{ on := 26, ground := Ground.guard }], guard := some (26, false) }) (v := ?ve31) rfl (by kernel_rfl) (by kernel_rfl) (by kernel_rfl) (fun _ _ _ h => h) (Or.inl ⟨by rfl, ?he31⟩) (Below.refl _ _) ?re31
    case he31 =>
      intro w hSw
      go_simp
      try with_reducible rfl
    (try simp only [Act.put, List.setIfInBounds_toArray, List.set_cons_zero, List.set_cons_succ])
    refine wpAnyH_take (i := 32) (oi := { dst := some 113, op := Op.convert 22 9 (Operand.tmp 112), type := 9, pos := "law.go:118", after := #[{ on := 31, ground := Ground.data }, { on := 26, ground := Ground.guard }], guard := some (26, false) }) (v := ?ve32) rfl (by kernel_rfl) (by kernel_rfl) (by kernel_rfl) (fun _ _ _ h => h) (Or.inl ⟨by rfl, ?he32⟩) (Below.refl _ _) ?re32
    case he32 =>
      intro w hSw
      have q := tx.conv w hSw
      go_simp
      try with_reducible rfl
    (try simp only [Act.put, List.setIfInBounds_toArray, List.set_cons_zero, List.set_cons_succ])
    refine wpAnyH_ready (rs := [29]) (by kernel_rfl) (by simp) ?_
    refine AllReadyH.cons (o := { dst := some 110, op := Op.call { callee := Callee.value (Operand.func 28), args := #[Operand.tmp 108, Operand.tmp 109], argTypes := #[22, 22] }, type := 22, pos := "law.go:118", after := #[{ on := 27, ground := Ground.data }, { on := 28, ground := Ground.data }, { on := 26, ground := Ground.chain }, { on := 26, ground := Ground.guard }], guard := some (26, false) }) rfl (fun K hK => ?_) AllReadyH.nil
    go_simp
    (go_at_call 28; refine (aZ _ _ _ ba bz).mono ?_; rintro e w48 ⟨s48, rfl, hn48, hb48⟩; (have t48 := hn48.str); obtain ⟨g48, rfl, -⟩ := hn48)
    (try go_simp)
    refine hK.out _ _ hb48 (fun h => ?_)
    clear h hK K
    refine wpAnyH_narrow (S' := fun w' => Below w48.heap.size w48 w') (fun _ h => below_next hb48 h) _ _ _ _ ?_
    replace ba := ba.still hb48
    replace bb := bb.still hb48
    replace bz := bz.still hb48
    replace tz := tz.still hb48
    replace tx := tx.still hb48
    replace t42 := t42.still hb48
    replace t45 := t45.still hb48
    replace t47 := t47.still hb48
    replace hw := below_next hw hb48
    clear hb48
    (try simp only [Act.put, List.setIfInBounds_toArray, List.set_cons_zero, List.set_cons_succ])
    refine wpAnyH_take (i := 30) (oi := { dst := some 111, op := Op.convert 22 9 (Operand.tmp 110), type := 9, pos := "law.go:118", after := #[{ on := 29, ground := Ground.data }, { on := 26, ground := Ground.guard }], guard := some (26, false) }) (v := ?ve30) rfl (by kernel_rfl) (by kernel_rfl) (by kernel_rfl) (fun _ _ _ h => h) (Or.inl ⟨by rfl, ?he30⟩) (Below.refl _ _) ?re30
    case he30 =>
      intro w hSw
      have q := t48.conv w hSw
      go_simp
      try with_reducible rfl
    (try simp only [Act.put, List.setIfInBounds_toArray, List.set_cons_zero, List.set_cons_succ])
    refine wpAnyH_take (i := 33) (oi := { dst := some 114, op := Op.binOp BinOp.neq 9 (Operand.tmp 111) (Operand.tmp 113) 9, type := 4, pos := "law.go:118", after := #[{ on := 30, ground := Ground.data }, { on := 32, ground := Ground.data }, { on := 26, ground := Ground.guard }], guard := some (26, false) }) (v := ?ve33) rfl (by kernel_rfl) (by kernel_rfl) (by kernel_rfl) (fun _ _ _ h => h) (Or.inl ⟨by rfl, ?he33⟩) (Below.refl _ _) ?re33
    case he33 =>
      intro w hSw
      go_simp
      try with_reducible rfl
    (try simp only [Act.put, List.setIfInBounds_toArray, List.set_cons_zero, List.set_cons_succ])
    refine wpAnyH_take (i := 34) (oi := { dst := some 115, op := Op.pick (Operand.tmp 107) (Operand.const (Value.bool true)) (Operand.tmp 114), type := 4, pos := "law.go:118", after := #[{ on := 26, ground := Ground.data }, { on := 33, ground := Ground.data }], guard := none }) (v := ?ve34) rfl (by kernel_rfl) (by kernel_rfl) (by kernel_rfl) (fun _ _ _ h => h) (Or.inl ⟨by rfl, ?he34⟩) (Below.refl _ _) ?re34
    case he34 =>
      intro w hSw
      go_simp
      try with_reducible rfl
    (try simp only [Act.put, List.setIfInBounds_toArray, List.set_cons_zero, List.set_cons_succ])
    refine wpAnyH_take (i := 35) (oi := { dst := some 116, op := Op.move (Operand.tmp 115), type := 4, pos := "law.go:118", after := #[{ on := 34, ground := Ground.data }, { on := 29, ground := Ground.chain }], guard := none }) (v := ?ve35) rfl (by kernel_rfl) (by kernel_rfl) (by kernel_rfl) (fun _ _ _ h => h) (Or.inl ⟨by rfl, ?he35⟩) (Below.refl _ _) ?re35
    case he35 =>
      intro w hSw
      go_simp
      try with_reducible rfl
    (try simp only [Act.put, List.setIfInBounds_toArray, List.set_cons_zero, List.set_cons_succ])
    refine wpAnyH_take (i := 36) (oi := { dst := some 117, op := Op.move (Operand.tmp 0), type := 22, pos := "law.go:118", after := #[{ on := 35, ground := Ground.guard }], guard := some (35, false) }) (v := ?ve36) rfl (by kernel_rfl) (by kernel_rfl) (by kernel_rfl) (fun _ _ _ h => h) (Or.inl ⟨by rfl, ?he36⟩) (Below.refl _ _) ?re36
    case he36 =>
      intro w hSw
      go_simp
      try with_reducible rfl
    (try simp only [Act.put, List.setIfInBounds_toArray, List.set_cons_zero, List.set_cons_succ])
    refine wpAnyH_take (i := 40) (oi := { dst := some 121, op := Op.move (Operand.tmp 8), type := 22, pos := "law.go:118", after := #[{ on := 35, ground := Ground.guard }], guard := some (35, false) }) (v := ?ve40) rfl (by kernel_rfl) (by kernel_rfl) (by kernel_rfl) (fun _ _ _ h => h) (Or.inl ⟨by rfl, ?he40⟩) (Below.refl _ _) ?re40
    case he40 =>
      intro w hSw
      go_simp
      try with_reducible rfl
    (try simp only [Act.put, List.setIfInBounds_toArray, List.set_cons_zero, List.set_cons_succ])
    refine wpAnyH_take (i := 41) (oi := { dst := some 122, op := Op.convert 22 9 (Operand.tmp 121), type := 9, pos := "law.go:118", after := #[{ on := 40, ground := Ground.data }, { on := 35, ground := Ground.guard }], guard := some (35, false) }) (v := ?ve41) rfl (by kernel_rfl) (by kernel_rfl) (by kernel_rfl) (fun _ _ _ h => h) (Or.inl ⟨by rfl, ?he41⟩) (Below.refl _ _) ?re41
    case he41 =>
      intro w hSw
      have q := tx.conv w hSw
      go_simp
      try with_reducible rfl
    (try simp only [Act.put, List.setIfInBounds_toArray, List.set_cons_zero, List.set_cons_succ])
    refine wpAnyH_ready (rs := [37]) (by kernel_rfl) (by simp) ?_
    refine AllReadyH.cons (o := { dst := some 118, op := Op.call { callee := Callee.value (Operand.func 26), args := #[Operand.const (Value.int IntKind.u8 1)], argTypes := #[5] }, type := 22, pos := "law.go:118", after := #[{ on := 35, ground := Ground.chain }, { on := 35, ground := Ground.guard }], guard := some (35, false) }) rfl (fun K hK => ?_) AllReadyH.nil
    go_simp
    (go_at_call 26; refine (c1 _).mono ?_; clear c1; rintro e w49 ⟨s49, rfl, hn49, hb49⟩; (have b49 := hn49.bytes (by decide)); obtain ⟨g49, rfl, -⟩ := hn49)
    (try go_simp)
    refine hK.out _ _ hb49 (fun h => ?_)
    clear h hK K
    refine wpAnyH_narrow (S' := fun w' => Below w49.heap.size w49 w') (fun _ h => below_next hb49 h) _ _ _ _ ?_
    replace ba := ba.still hb49
    replace bb := bb.still hb49
    replace bz := bz.still hb49
    replace tz := tz.still hb49
    replace tx := tx.still hb49
    replace t42 := t42.still hb49
    replace t45 := t45.still hb49
    replace t47 := t47.still hb49
    replace t48 := t48.still hb49
    replace hw := below_next hw hb49
    clear hb49
    (try simp only [Act.put, List.setIfInBounds_toArray, List.set_cons_zero, List.set_cons_succ])
    refine wpAnyH_ready (rs := [38]) (by kernel_rfl) (by simp) ?_
    refine AllReadyH.cons (o := { dst := some 119, op := Op.call { callee := Callee.value (Operand.func 27), args := #[Operand.tmp 117, Operand.tmp 118], argTypes := #[22, 22] }, type := 22, pos := "law.go:118", after := #[{ on := 36, ground := Ground.data }, { on := 37, ground := Ground.data }, { on := 37, ground := Ground.chain }, { on := 35, ground := Ground.guard }], guard := some (35, false) }) rfl (fun K hK => ?_) AllReadyH.nil
    go_simp
    (go_at_call 27; refine (mO _ _ _ ba b49).mono ?_; rintro e w50 ⟨s50, rfl, hn50, hb50⟩; (have t50 := hn50.str); obtain ⟨g50, rfl, -⟩ := hn50)
    (try go_simp)
    refine hK.out _ _ hb50 (fun h => ?_)
    clear h hK K
    refine wpAnyH_narrow (S' := fun w' => Below w50.heap.size w50 w') (fun _ h => below_next hb50 h) _ _ _ _ ?_
    clear b49
    replace ba := ba.still hb50
    replace bb := bb.still hb50
    replace bz := bz.still hb50
    replace tz := tz.still hb50
    replace tx := tx.still hb50
    replace t42 := t42.still hb50
    replace t45 := t45.still hb50
    replace t47 := t47.still hb50
    replace t48 := t48.still hb50
    replace hw := below_next hw hb50
    clear hb50
    (try simp only [Act.put, List.setIfInBounds_toArray, List.set_cons_zero, List.set_cons_succ])
    refine wpAnyH_take (i := 39) (oi := { dst := some 120, op := Op.convert 22 9 (Operand.tmp 119), type := 9, pos := "law.go:118", after := #[{ on := 38, ground := Ground.data }, { on := 35, ground := Ground.guard }], guard := some (35, false) }) (v := ?ve39) rfl (by kernel_rfl) (by kernel_rfl) (by kernel_rfl) (fun _ _ _ h => h) (Or.inl ⟨by rfl, ?he39⟩) (Below.refl _ _) ?re39
    case he39 =>
      intro w hSw
      have q := t50.conv w hSw
      go_simp
      try with_reducible rfl
    (try simp only [Act.put, List.setIfInBounds_toArray, List.set_cons_zero, List.set_cons_succ])
    refine wpAnyH_take (i := 42) (oi := { dst := some 123, op := Op.binOp BinOp.neq 9 (Operand.tmp 120) (Operand.tmp 122) 9, type := 4, pos := "law.go:118", after := #[{ on := 39, ground := Ground.data }, { on := 41, ground := Ground.data }, { on := 35, ground := Ground.guard }], guard := some (35, false) }) (v := ?ve42) rfl (by kernel_rfl) (by kernel_rfl) (by kernel_rfl) (fun _ _ _ h => h) (Or.inl ⟨by rfl, ?he42⟩) (Below.refl _ _) ?re42
    case he42 =>
      intro w hSw
      go_simp
      try with_reducible rfl
    (try simp only [Act.put, List.setIfInBounds_toArray, List.set_cons_zero, List.set_cons_succ])
    refine wpAnyH_take (i := 43) (oi := { dst := some 124, op := Op.pick (Operand.tmp 116) (Operand.const (Value.bool true)) (Operand.tmp 123), type := 4, pos := "law.go:118", after := #[{ on := 35, ground := Ground.data }, { on := 42, ground := Ground.data }], guard := none }) (v := ?ve43) rfl (by kernel_rfl) (by kernel_rfl) (by kernel_rfl) (fun _ _ _ h => h) (Or.inl ⟨by rfl, ?he43⟩) (Below.refl _ _) ?re43
    case he43 =>
      intro w hSw
      go_simp
      try with_reducible rfl
    (try simp only [Act.put, List.setIfInBounds_toArray, List.set_cons_zero, List.set_cons_succ])
    refine wpAnyH_done (by kernel_rfl) ?_ _
    refine NoPanic.normal ?_
    clear t42 t45 t47 t48 t50
    replace ci := ci w50 _ ba
    go_wp2_with (first
      | (go_at_call 22; refine ci.mono ?_; clear ci; rintro e w51 ⟨s51, rfl, hn51, hb51⟩; (have bi := hn51.bytes (by decide)); (have ti := hn51.str); obtain ⟨g51, rfl, -⟩ := hn51; replace hw := below_next hw hb51; replace ba := ba.still hb51; replace bb := bb.still hb51; replace bz := bz.still hb51; replace tz := tz.still hb51; replace tx := tx.still hb51; clear hb51; (have q1 := tx.conv w51 (Below.refl _ _)); (have q2 := tz.conv w51 (Below.refl _ _)); (have q3 := ti.conv w51 (Below.refl _ _)))
      | (go_at_call 17; refine (num3_any _ _).mono ?_; rintro e wn ⟨rfl, hwn⟩; subst hwn))
    clear q1 q2 q3 tx tz ti
    have hdrew : Below w51.heap.size w51 w51.drew := (Below.refl _ _).drew
    replace ba := ba.still hdrew
    replace bb := bb.still hdrew
    replace bz := bz.still hdrew
    replace bi := bi.still hdrew
    replace hw := below_next hw hdrew
    clear hdrew
    refine wp_region_noPanic ?_
    refine wp_region_held_drew (S := fun w' => Below w51.drew.heap.size w51.drew w') (by kernel_rfl) (Below.refl _ _) (fun hHeld => ?_)
    clear hHeld
    refine wpAnyH_take (i := 0) (oi := { dst := some 145, op := Op.move (Operand.tmp 11), type := 24, pos := "law.go:125", after := #[], guard := none }) (v := ?vc0) rfl (by kernel_rfl) (by kernel_rfl) (by kernel_rfl) (fun _ _ _ h => h) (Or.inl ⟨by rfl, ?hc0⟩) (Below.refl _ _) ?rc0
    case hc0 =>
      intro w hSw
      go_simp
      try with_reducible rfl
    (try simp only [Act.put, List.setIfInBounds_toArray, List.set_cons_zero, List.set_cons_succ])
    refine wpAnyH_ready (rs := [1]) (by kernel_rfl) (by simp) ?_
    refine AllReadyH.cons (o := { dst := some 146, op := Op.call { callee := Callee.value (Operand.func 17), args := #[Operand.tmp 145], argTypes := #[24] }, type := 3, pos := "law.go:125", after := #[{ on := 0, ground := Ground.data }], guard := none }) rfl (fun K hK => ?_) AllReadyH.nil
    go_simp
    (go_at_call 17; refine (num3_any _ _).mono ?_; rintro e wn ⟨rfl, hwn⟩; subst hwn)
    (try go_simp)
    refine hK.out _ _ (Below.refl _ _) (fun h => ?_)
    clear h hK K
    (try simp only [Act.put, List.setIfInBounds_toArray, List.set_cons_zero, List.set_cons_succ])
    refine wpAnyH_take (i := 2) (oi := { dst := some 147, op := Op.binOp BinOp.eql 3 (Operand.tmp 146) (Operand.const (Value.int IntKind.i64 0)) 3, type := 4, pos := "law.go:125", after := #[{ on := 1, ground := Ground.data }], guard := none }) (v := ?vc2) rfl (by kernel_rfl) (by kernel_rfl) (by kernel_rfl) (fun _ _ _ h => h) (Or.inl ⟨by rfl, ?hc2⟩) (Below.refl _ _) ?rc2
    case hc2 =>
      intro w hSw
      go_simp
      try with_reducible rfl
    (try simp only [Act.put, List.setIfInBounds_toArray, List.set_cons_zero, List.set_cons_succ])
    refine wpAnyH_take (i := 3) (oi := { dst := some 148, op := Op.move (Operand.tmp 147), type := 4, pos := "law.go:125", after := #[{ on := 2, ground := Ground.data }, { on := 1, ground := Ground.chain }], guard := none }) (v := ?vc3) rfl (by kernel_rfl) (by kernel_rfl) (by kernel_rfl) (fun _ _ _ h => h) (Or.inl ⟨by rfl, ?hc3⟩) (Below.refl _ _) ?rc3
    case hc3 =>
      intro w hSw
      go_simp
      try with_reducible rfl
    (try simp only [Act.put, List.setIfInBounds_toArray, List.set_cons_zero, List.set_cons_succ])
    refine wpAnyH_take (i := 4) (oi := { dst := some 149, op := Op.move (Operand.tmp 0), type := 22, pos := "law.go:125", after := #[{ on := 3, ground := Ground.guard }], guard := some (3, true) }) (v := ?vc4) rfl (by kernel_rfl) (by kernel_rfl) (by kernel_rfl) (fun _ _ _ h => h) (Or.inl ⟨by rfl, ?hc4⟩) (Below.refl _ _) ?rc4
    case hc4 =>
      intro w hSw
      go_simp
      try with_reducible rfl
    (try simp only [Act.put, List.setIfInBounds_toArray, List.set_cons_zero, List.set_cons_succ])
    refine wpAnyH_take (i := 5) (oi := { dst := some 150, op := Op.move (Operand.tmp 10), type := 22, pos := "law.go:125", after := #[{ on := 3, ground := Ground.guard }], guard := some (3, true) }) (v := ?vc5) rfl (by kernel_rfl) (by kernel_rfl) (by kernel_rfl) (fun _ _ _ h => h) (Or.inl ⟨by rfl, ?hc5⟩) (Below.refl _ _) ?rc5
    case hc5 =>
      intro w hSw
      go_simp
      try with_reducible rfl
    (try simp only [Act.put, List.setIfInBounds_toArray, List.set_cons_zero, List.set_cons_succ])
    refine wpAnyH_take (i := 7) (oi := { dst := some 152, op := Op.move (Operand.tmp 1), type := 22, pos := "law.go:125", after := #[{ on := 3, ground := Ground.guard }], guard := some (3, true) }) (v := ?vc7) rfl (by kernel_rfl) (by kernel_rfl) (by kernel_rfl) (fun _ _ _ h => h) (Or.inl ⟨by rfl, ?hc7⟩) (Below.refl _ _) ?rc7
    case hc7 =>
      intro w hSw
      go_simp
      try with_reducible rfl
    (try simp only [Act.put, List.setIfInBounds_toArray, List.set_cons_zero, List.set_cons_succ])
    refine wpAnyH_take (i := 10) (oi := { dst := some 155, op := Op.move (Operand.tmp 1), type := 22, pos := "law.go:125", after := #[{ on := 3, ground := Ground.guard }], guard := some (3, true) }) (v := ?vc10) rfl (by kernel_rfl) (by kernel_rfl) (by kernel_rfl) (fun _ _ _ h => h) (Or.inl ⟨by rfl, ?hc10⟩) (Below.refl _ _) ?rc10
    case hc10 =>
      intro w hSw
      go_simp
      try with_reducible rfl
    (try simp only [Act.put, List.setIfInBounds_toArray, List.set_cons_zero, List.set_cons_succ])
    refine wpAnyH_take (i := 11) (oi := { dst := some 156, op := Op.move (Operand.tmp 7), type := 22, pos := "law.go:125", after := #[{ on := 3, ground := Ground.guard }], guard := some (3, true) }) (v := ?vc11) rfl (by kernel_rfl) (by kernel_rfl) (by kernel_rfl) (fun _ _ _ h => h) (Or.inl ⟨by rfl, ?hc11⟩) (Below.refl _ _) ?rc11
    case hc11 =>
      intro w hSw
      go_simp
      try with_reducible rfl
    (try simp only [Act.put, List.setIfInBounds_toArray, List.set_cons_zero, List.set_cons_succ])
    refine wpAnyH_ready (rs := [6]) (by kernel_rfl) (by simp) ?_
    refine AllReadyH.cons (o := { dst := some 151, op := Op.call { callee := Callee.value (Operand.func 27), args := #[Operand.tmp 149, Operand.tmp 150], argTypes := #[22, 22] }, type := 22, pos := "law.go:125", after := #[{ on := 4, ground := Ground.data }, { on := 5, ground := Ground.data }, { on := 3, ground := Ground.chain }, { on := 3, ground := Ground.guard }], guard := some (3, true) }) rfl (fun K hK => ?_) AllReadyH.nil
    go_simp
    (go_at_call 27; refine (mI _ _ _ hx0 ba bi).mono ?_; rintro e w61 ⟨s61, rfl, hn61, hb61⟩; (have b61 := hn61.bytes (by decide)); obtain ⟨g61, rfl, -⟩ := hn61)
    (try go_simp)
    refine hK.out _ _ hb61 (fun h => ?_)
    clear h hK K
    refine wpAnyH_narrow (S' := fun w' => Below w61.heap.size w61 w') (fun _ h => below_next hb61 h) _ _ _ _ ?_
    replace ba := ba.still hb61
    replace bb := bb.still hb61
    replace bz := bz.still hb61
    replace bi := bi.still hb61
    replace hw := below_next hw hb61
    clear hb61
    (try simp only [Act.put, List.setIfInBounds_toArray, List.set_cons_zero, List.set_cons_succ])
    refine wpAnyH_ready (rs := [8]) (by kernel_rfl) (by simp) ?_
    refine AllReadyH.cons (o := { dst := some 153, op := Op.call { callee := Callee.value (Operand.func 27), args := #[Operand.tmp 151, Operand.tmp 152], argTypes := #[22, 22] }, type := 22, pos := "law.go:125", after := #[{ on := 6, ground := Ground.data }, { on := 7, ground := Ground.data }, { on := 6, ground := Ground.chain }, { on := 3, ground := Ground.guard }], guard := some (3, true) }) rfl (fun K hK => ?_) AllReadyH.nil
    go_simp
    (go_at_call 27; refine (mY _ _ _ b61 bb).mono ?_; rintro e w62 ⟨s62, rfl, hn62, hb62⟩; (have t62 := hn62.str); obtain ⟨g62, rfl, -⟩ := hn62)
    (try go_simp)
    refine hK.out _ _ hb62 (fun h => ?_)
    clear h hK K
    refine wpAnyH_narrow (S' := fun w' => Below w62.heap.size w62 w') (fun _ h => below_next hb62 h) _ _ _ _ ?_
    clear b61
    replace ba := ba.still hb62
    replace bb := bb.still hb62
    replace bz := bz.still hb62
    replace bi := bi.still hb62
    replace hw := below_next hw hb62
    clear hb62
    (try simp only [Act.put, List.setIfInBounds_toArray, List.set_cons_zero, List.set_cons_succ])
    refine wpAnyH_take (i := 9) (oi := { dst := some 154, op := Op.convert 22 9 (Operand.tmp 153), type := 9, pos := "law.go:125", after := #[{ on := 8, ground := Ground.data }, { on := 3, ground := Ground.guard }], guard := some (3, true) }) (v := ?vc9) rfl (by kernel_rfl) (by kernel_rfl) (by kernel_rfl) (fun _ _ _ h => h) (Or.inl ⟨by rfl, ?hc9⟩) (Below.refl _ _) ?rc9
    case hc9 =>
      intro w hSw
      have q := t62.conv w hSw
      go_simp
      try with_reducible rfl
    (try simp only [Act.put, List.setIfInBounds_toArray, List.set_cons_zero, List.set_cons_succ])
    refine wpAnyH_ready (rs := [12]) (by kernel_rfl) (by simp) ?_
    refine AllReadyH.cons (o := { dst := some 157, op := Op.call { callee := Callee.value (Operand.func 28), args := #[Operand.tmp 155, Operand.tmp 156], argTypes := #[22, 22] }, type := 22, pos := "law.go:125", after := #[{ on := 10, ground := Ground.data }, { on := 11, ground := Ground.data }, { on := 8, ground := Ground.chain }, { on := 3, ground := Ground.guard }], guard := some (3, true) }) rfl (fun K hK => ?_) AllReadyH.nil
    go_simp
    (go_at_call 28; refine (aY _ _ _ bb bz).mono ?_; rintro e w63 ⟨s63, rfl, hn63, hb63⟩; (have t63 := hn63.str); obtain ⟨g63, rfl, -⟩ := hn63)
    (try go_simp)
    refine hK.out _ _ hb63 (fun h => ?_)
    clear h hK K
    refine wpAnyH_narrow (S' := fun w' => Below w63.heap.size w63 w') (fun _ h => below_next hb63 h) _ _ _ _ ?_
    replace ba := ba.still hb63
    replace bb := bb.still hb63
    replace bz := bz.still hb63
    replace bi := bi.still hb63
    replace t62 := t62.still hb63
    replace hw := below_next hw hb63
    clear hb63
    (try simp only [Act.put, List.setIfInBounds_toArray, List.set_cons_zero, List.set_cons_succ])
    refine wpAnyH_take (i := 13) (oi := { dst := some 158, op := Op.convert 22 9 (Operand.tmp 157), type := 9, pos := "law.go:125", after := #[{ on := 12, ground := Ground.data }, { on := 3, ground := Ground.guard }], guard := some (3, true) }) (v := ?vc13) rfl (by kernel_rfl) (by kernel_rfl) (by kernel_rfl) (fun _ _ _ h => h) (Or.inl ⟨by rfl, ?hc13⟩) (Below.refl _ _) ?rc13
    case hc13 =>
      intro w hSw
      have q := t63.conv w hSw
      go_simp
      try with_reducible rfl
    (try simp only [Act.put, List.setIfInBounds_toArray, List.set_cons_zero, List.set_cons_succ])
    refine wpAnyH_take (i := 14) (oi := { dst := some 159, op := Op.binOp BinOp.eql 9 (Operand.tmp 154) (Operand.tmp 158) 9, type := 4, pos := "law.go:125", after := #[{ on := 9, ground := Ground.data }, { on := 13, ground := Ground.data }, { on := 3, ground := Ground.guard }], guard := some (3, true) }) (v := ?vc14) rfl (by kernel_rfl) (by kernel_rfl) (by kernel_rfl) (fun _ _ _ h => h) (Or.inl ⟨by rfl, ?hc14⟩) (Below.refl _ _) ?rc14
    case hc14 =>
      intro w hSw
      go_simp
      try with_reducible rfl
    (try simp only [Act.put, List.setIfInBounds_toArray, List.set_cons_zero, List.set_cons_succ])
    refine wpAnyH_take (i := 15) (oi := { dst := some 160, op := Op.pick (Operand.tmp 148) (Operand.tmp 159) (Operand.const (Value.bool false)), type := 4, pos := "law.go:125", after := #[{ on := 3, ground := Ground.data }, { on := 14, ground := Ground.data }], guard := none }) (v := ?vc15) rfl (by kernel_rfl) (by kernel_rfl) (by kernel_rfl) (fun _ _ _ h => h) (Or.inl ⟨by rfl, ?hc15⟩) (Below.refl _ _) ?rc15
    case hc15 =>
      intro w hSw
      go_simp
      try with_reducible rfl
    (try simp only [Act.put, List.setIfInBounds_toArray, List.set_cons_zero, List.set_cons_succ])
    refine wpAnyH_take (i := 16) (oi := { dst := some 6, op := Op.assign (Operand.tmp 160), type := 4, pos := "law.go:125", after := #[{ on := 15, ground := Ground.data }, { on := 12, ground := Ground.chain }, { on := 0, ground := Ground.phase }, { on := 1, ground := Ground.phase }, { on := 2, ground := Ground.phase }, { on := 3, ground := Ground.phase }, { on := 4, ground := Ground.phase }, { on := 5, ground := Ground.phase }, { on := 6, ground := Ground.phase }, { on := 7, ground := Ground.phase }, { on := 8, ground := Ground.phase }, { on := 9, ground := Ground.phase }, { on := 10, ground := Ground.phase }, { on := 11, ground := Ground.phase }, { on := 12, ground := Ground.phase }, { on := 13, ground := Ground.phase }, { on := 14, ground := Ground.phase }, { on := 15, ground := Ground.phase }], guard := none }) (v := ?vc16) rfl (by kernel_rfl) (by kernel_rfl) (by kernel_rfl) (fun _ _ _ h => h) (Or.inl ⟨by rfl, ?hc16⟩) (Below.refl _ _) ?rc16
    case hc16 =>
      intro w hSw
      go_simp
      try with_reducible rfl
    (try simp only [Act.put, List.setIfInBounds_toArray, List.set_cons_zero, List.set_cons_succ])
    refine wpAnyH_done (by kernel_rfl) ?_ _
    refine NoPanic.normal ?_
    go_wp2
    go_ret
    exact ⟨rfl, hw⟩
end Go.Proofs.Ytinigkpidhbgcaa
