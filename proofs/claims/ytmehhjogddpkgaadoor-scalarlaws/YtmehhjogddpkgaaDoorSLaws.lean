/- The walk of the law ScalarLaws in the model. -/
import Derived.Test.YtmehhjogddpkgaaDoorSOne
import Derived.Test.YtmehhjogddpkgaaDoorSMulN
namespace Go.Proofs.YtmehhjogddpkgaaDoor
open Go.RowKit
theorem ofB_rest (N : Nat) : ofB (byt (N % oL)) 32 = N % oL := ofB_byt32 _ (Nat.lt_trans (Nat.mod_lt _ (by decide)) (by unfold oL; decide))
theorem laws_nums (a b c : Nat) : (c + a * b % oL) % oL = (c + a * b) % oL ∧ a * b % oL * c % oL = a * b * c % oL ∧ a * (b * c % oL) % oL = a * b * c % oL ∧ (a * c % oL + a * b % oL) % oL = a * ((c + b) % oL) % oL := by
  refine ⟨?_, ?_, ?_, ?_⟩
  · rw [Nat.add_mod, Nat.mod_mod, ← Nat.add_mod]
  · rw [Nat.mul_mod, Nat.mod_mod, ← Nat.mul_mod]
  · rw [Nat.mul_mod, Nat.mod_mod, ← Nat.mul_mod, Nat.mul_assoc]
  · rw [← Nat.add_mod, ← Nat.mul_add, Nat.mul_mod, Nat.mul_mod a ((c + b) % oL), Nat.mod_mod]
set_option maxRecDepth 20000 in
set_option maxHeartbeats 16000000 in
theorem scalarLaws_any (a b c : Value) (n m p : Nat) (ds bs cs : Nat → Nat) (hds : ∀ j, ds j < 256) (hbs : ∀ j, bs j < 256) (hcs : ∀ j, cs j < 256) (w : World) (hO0 : Ord w) (ha : BytesIn w a n ds) (hb : BytesIn w b m bs) (hc : BytesIn w c p cs) :
    Calls Tryd.prog 6 #[a, b, c] w fun e w' => e = .returned (.bool true) ∧ Below w.heap.size w w' := by
  have cf1 := fit_any a n ds w ha
  have cf2 := fun W (h : Below w.heap.size w W) => fit_any b m bs W (hb.still h)
  have cf3 := fun W (h : Below w.heap.size w W) => fit_any c p cs W (hc.still h)
  have hA := fitB_lt hds (n := n)
  have hB := fitB_lt hbs (n := m)
  have hC := fitB_lt hcs (n := p)
  obtain ⟨xa, ka, rfl, -⟩ := ha.src
  obtain ⟨xb, kb, rfl, -⟩ := hb.src
  obtain ⟨xc, kc, rfl, -⟩ := hc.src
  clear ha hb hc
  generalize fitB n ds = A at *
  generalize fitB m bs = B at *
  generalize fitB p cs = C at *
  clear hds hbs hcs
  obtain ⟨l1, l2, l3, l4⟩ := laws_nums (ofB A 32) (ofB B 32) (ofB C 32)
  have cr1 := fun W x hOW hx => reduce_good x 32 A hA (by decide) W hOW hx
  have cr2 := fun W x hOW hx => reduce_good x 32 (byt (ofB A 32 % oL)) (byt_all _) (by decide) W hOW hx
  rw [ofB_rest, Nat.mod_mod] at cr2
  have cd := fun W x hOW hx => canonical_good x (byt (ofB A 32 % oL)) (byt_all _) W hOW hx
  rw [canon_rest] at cd
  have cM := fun W x y z hOW hx hy hz => muladd_good x y z A B C hA hB hC W hOW hx hy hz
  have cdD := fun W x hOW hx => canonical_good x (byt ((ofB C 32 + ofB A 32 * ofB B 32) % oL)) (byt_all _) W hOW hx
  rw [canon_rest] at cdD
  have hk := fun W hOW => knows4_any W hOW
  have c1 : ∀ W, Calls Tryd.prog 20 #[.int .u8 1] W fun e w' => ∃ s, e = .returned s ∧ NewB W w' s 32 (byt 1) ∧ Below W.heap.size W w' := fun W => small_any 1 (by decide) W
  have mAB := fun W x y hOW hx hy => mul4_N x y A B (ofB A 32 * ofB B 32 % oL) hA hB rfl W hOW hx hy
  have mBA := fun W x y hOW hx hy => mul4_N x y B A (ofB A 32 * ofB B 32 % oL) hB hA (by rw [Nat.mul_comm]) W hOW hx hy
  have aD := fun W x y hOW hx hy => add4_N x y (byt (ofB A 32 * ofB B 32 % oL)) C ((ofB C 32 + ofB A 32 * ofB B 32) % oL) (byt_all _) hC (by rw [ofB_rest]; exact l1) W hOW hx hy
  have mA1 := fun W x y hOW hx hy => mul4_N x y A (byt 1) (ofB A 32 % oL) hA (byt_all _) (by rw [ofB_byt32 1 (by decide), Nat.mul_one]) W hOW hx hy
  have mABC := fun W x y hOW hx hy => mul4_N x y (byt (ofB A 32 * ofB B 32 % oL)) C (ofB A 32 * ofB B 32 * ofB C 32 % oL) (byt_all _) hC (by rw [ofB_rest]; exact l2) W hOW hx hy
  have mBC := fun W x y hOW hx hy => mul4_N x y B C (ofB B 32 * ofB C 32 % oL) hB hC rfl W hOW hx hy
  have mABC' := fun W x y hOW hx hy => mul4_N x y A (byt (ofB B 32 * ofB C 32 % oL)) (ofB A 32 * ofB B 32 * ofB C 32 % oL) hA (byt_all _) (by rw [ofB_rest]; exact l3) W hOW hx hy
  have aBC := fun W x y hOW hx hy => add4_N x y B C ((ofB C 32 + ofB B 32) % oL) hB hC rfl W hOW hx hy
  have mAP := fun W x y hOW hx hy => mul4_N x y A (byt ((ofB C 32 + ofB B 32) % oL)) (ofB A 32 * ((ofB C 32 + ofB B 32) % oL) % oL) hA (byt_all _) (by rw [ofB_rest]) W hOW hx hy
  have mAC := fun W x y hOW hx hy => mul4_N x y A C (ofB A 32 * ofB C 32 % oL) hA hC rfl W hOW hx hy
  have aE := fun W x y hOW hx hy => add4_N x y (byt (ofB A 32 * ofB B 32 % oL)) (byt (ofB A 32 * ofB C 32 % oL)) (ofB A 32 * ((ofB C 32 + ofB B 32) % oL) % oL) (byt_all _) (byt_all _) (by rw [ofB_rest, ofB_rest]; exact l4) W hOW hx hy
  have aAB := fun W x y hOW hx hy => add4_N x y A B ((ofB B 32 + ofB A 32) % oL) hA hB rfl W hOW hx hy
  have aBA := fun W x y hOW hx hy => add4_N x y B A ((ofB B 32 + ofB A 32) % oL) hB hA (by rw [Nat.add_comm]) W hOW hx hy
  clear l1 l2 l3 l4
  generalize ofB A 32 * ((ofB C 32 + ofB B 32) % oL) % oL = nE at *
  generalize (ofB B 32 + ofB A 32) % oL = nU at *
  generalize (ofB C 32 + ofB B 32) % oL = nP at *
  generalize ofB A 32 * ofB C 32 % oL = nAC at *
  generalize ofB B 32 * ofB C 32 % oL = nBC at *
  generalize ofB A 32 * ofB B 32 * ofB C 32 % oL = nT at *
  generalize (ofB C 32 + ofB A 32 * ofB B 32) % oL = nD at *
  generalize ofB A 32 * ofB B 32 % oL = nAB at *
  generalize ofB A 32 % oL = nR at *
  have hw0 : IntKind.i64.wrap 0 = 0 := by decide
  clear hA hB hC
  go_enter Tryd.func6, Tryd.ntmps6
  go_wp2_with (first
    | (go_at_call 21; refine cf1.mono ?_; clear cf1; rintro e w1 ⟨s1, rfl, hn1, hb1⟩; (have ba := hn1.bytes (by decide)); obtain ⟨g1, rfl, -⟩ := hn1; replace cf2 := cf2 w1 hb1)
    | (go_at_call 21; refine cf2.mono ?_; clear cf2; rintro e w2 ⟨s2, rfl, hn2, hb2⟩; (have bb := hn2.bytes (by decide)); obtain ⟨g2, rfl, -⟩ := hn2; (have hw := below_next hb1 hb2); replace ba := ba.still hb2; clear hb1 hb2; replace cf3 := cf3 w2 hw)
    | (go_at_call 21; refine cf3.mono ?_; clear cf3; rintro e w3 ⟨s3, rfl, hn3, hb3⟩; (have bc := hn3.bytes (by decide)); obtain ⟨g3, rfl, -⟩ := hn3; replace hw := below_next hw hb3; replace ba := ba.still hb3; replace bb := bb.still hb3; clear hb3; (have hO := hO0.still hw); replace cr1 := cr1 w3 _ hO ba)
    | (go_at_call 9; refine cr1.mono ?_; clear cr1; rintro e w4 ⟨s4, rfl, hn4, hb4⟩; (have br := hn4.bytes (by decide)); (have tr := hn4.str); obtain ⟨g4, rfl, -⟩ := hn4; replace hw := below_next hw hb4; replace ba := ba.still hb4; replace bb := bb.still hb4; replace bc := bc.still hb4; replace hO := hO.still hb4; clear hb4; replace cr2 := cr2 w4 _ hO br)
    | (go_at_call 9; refine cr2.mono ?_; clear cr2; rintro e w5 ⟨s5, rfl, hn5, hb5⟩; (have ts := hn5.str); obtain ⟨g5, rfl, -⟩ := hn5; replace hw := below_next hw hb5; replace ba := ba.still hb5; replace bb := bb.still hb5; replace bc := bc.still hb5; replace br := br.still hb5; replace tr := tr.still hb5; replace hO := hO.still hb5; clear hb5; (have q1 := tr.conv w5 (Below.refl _ _)); (have q2 := ts.conv w5 (Below.refl _ _)); replace cd := cd w5 _ hO br)
    | (go_at_call 11; refine (num4_any _ _).mono ?_; rintro e wn ⟨rfl, hwn⟩; subst hwn)
    | (go_at_call 12; refine cd.mono ?_; clear cd; rintro e w6 ⟨rfl, hb6⟩; replace hw := below_next hw hb6; replace ba := ba.still hb6; replace bb := bb.still hb6; replace bc := bc.still hb6; replace tr := tr.still hb6; replace hO := hO.still hb6; clear hb6 q1 q2 ts br)
    | (go_at_call 15; refine (hk _ hO).mono ?_; clear hk; rintro e w7 ⟨rfl, hb7⟩; replace hw := below_next hw hb7; replace ba := ba.still hb7; replace bb := bb.still hb7; replace bc := bc.still hb7; replace tr := tr.still hb7; replace hO := hO.still hb7; clear hb7; replace cM := cM w7 _ _ _ hO ba bb bc)
    | (go_at_call 16; refine cM.mono ?_; clear cM; rintro e w8 ⟨s8, rfl, hn8, hb8⟩; (have bd := hn8.bytes (by decide)); (have td := hn8.str); obtain ⟨g8, rfl, -⟩ := hn8; replace hw := below_next hw hb8; replace ba := ba.still hb8; replace bb := bb.still hb8; replace bc := bc.still hb8; replace tr := tr.still hb8; replace hO := hO.still hb8; clear hb8))
  have hdrew : Below w8.heap.size w8 w8.drew := (Below.refl _ _).drew
  replace hO := hO.still hdrew
  replace ba := ba.still hdrew
  replace bb := bb.still hdrew
  replace bc := bc.still hdrew
  replace tr := tr.still hdrew
  replace td := td.still hdrew
  replace bd := bd.still hdrew
  replace hw := below_next hw hdrew
  clear hdrew
  refine wp_region_noPanic ?_
  refine wp_region_held_drew (S := fun w' => Below w8.drew.heap.size w8.drew w') (by kernel_rfl) (Below.refl _ _) (fun hHeld => ?_)
  clear hHeld
  refine wpAnyH_take (i := 0) (oi := { dst := some 58, op := Op.move (Operand.tmp 12), type := 24, pos := "law.go:83", after := #[], guard := none }) (v := ?va0) rfl (by kernel_rfl) (by kernel_rfl) (by kernel_rfl) (fun _ _ _ h => h) (Or.inl ⟨by rfl, ?ha0⟩) (Below.refl _ _) ?ra0
  case ha0 =>
    intro w hSw
    go_simp
    try with_reducible rfl
  (try simp only [Act.put, List.setIfInBounds_toArray, List.set_cons_zero, List.set_cons_succ])
  refine wpAnyH_ready (rs := [1]) (by kernel_rfl) (by simp) ?_
  refine AllReadyH.cons (o := { dst := some 59, op := Op.call { callee := Callee.value (Operand.func 11), args := #[Operand.tmp 58], argTypes := #[24] }, type := 3, pos := "law.go:83", after := #[{ on := 0, ground := Ground.data }], guard := none }) rfl (fun K hK => ?_) AllReadyH.nil
  go_simp
  (go_at_call 11; refine (num4_any _ _).mono ?_; rintro e wn ⟨rfl, hwn⟩; subst hwn)
  (try go_simp)
  refine hK.out _ _ (Below.refl _ _) (fun h => ?_)
  clear h hK K
  (try simp only [Act.put, List.setIfInBounds_toArray, List.set_cons_zero, List.set_cons_succ])
  refine wpAnyH_take (i := 2) (oi := { dst := some 60, op := Op.binOp BinOp.neq 3 (Operand.tmp 59) (Operand.const (Value.int IntKind.i64 0)) 3, type := 4, pos := "law.go:83", after := #[{ on := 1, ground := Ground.data }], guard := none }) (v := ?va2) rfl (by kernel_rfl) (by kernel_rfl) (by kernel_rfl) (fun _ _ _ h => h) (Or.inl ⟨by rfl, ?ha2⟩) (Below.refl _ _) ?ra2
  case ha2 =>
    intro w hSw
    go_simp
    try with_reducible rfl
  (try simp only [Act.put, List.setIfInBounds_toArray, List.set_cons_zero, List.set_cons_succ])
  refine wpAnyH_take (i := 3) (oi := { dst := some 61, op := Op.move (Operand.tmp 60), type := 4, pos := "law.go:83", after := #[{ on := 2, ground := Ground.data }, { on := 1, ground := Ground.chain }], guard := none }) (v := ?va3) rfl (by kernel_rfl) (by kernel_rfl) (by kernel_rfl) (fun _ _ _ h => h) (Or.inl ⟨by rfl, ?ha3⟩) (Below.refl _ _) ?ra3
  case ha3 =>
    intro w hSw
    go_simp
    try with_reducible rfl
  (try simp only [Act.put, List.setIfInBounds_toArray, List.set_cons_zero, List.set_cons_succ])
  refine wpAnyH_take (i := 4) (oi := { dst := some 62, op := Op.move (Operand.tmp 11), type := 22, pos := "law.go:83", after := #[{ on := 3, ground := Ground.guard }], guard := some (3, false) }) (v := ?va4) rfl (by kernel_rfl) (by kernel_rfl) (by kernel_rfl) (fun _ _ _ h => h) (Or.inl ⟨by rfl, ?ha4⟩) (Below.refl _ _) ?ra4
  case ha4 =>
    intro w hSw
    go_simp
    try with_reducible rfl
  (try simp only [Act.put, List.setIfInBounds_toArray, List.set_cons_zero, List.set_cons_succ])
  refine wpAnyH_ready (rs := [5]) (by kernel_rfl) (by simp) ?_
  refine AllReadyH.cons (o := { dst := some 63, op := Op.call { callee := Callee.value (Operand.func 12), args := #[Operand.tmp 62], argTypes := #[22] }, type := 4, pos := "law.go:83", after := #[{ on := 4, ground := Ground.data }, { on := 3, ground := Ground.chain }, { on := 3, ground := Ground.guard }], guard := some (3, false) }) rfl (fun K hK => ?_) AllReadyH.nil
  go_simp
  (go_at_call 12; refine (cdD _ _ hO bd).mono ?_; clear cdD; rintro e w20 ⟨rfl, hb20⟩)
  (try go_simp)
  refine hK.out _ _ hb20 (fun h => ?_)
  clear h hK K
  refine wpAnyH_narrow (S' := fun w' => Below w20.heap.size w20 w') (fun _ h => below_next hb20 h) _ _ _ _ ?_
  clear bd
  replace hO := hO.still hb20
  replace ba := ba.still hb20
  replace bb := bb.still hb20
  replace bc := bc.still hb20
  replace tr := tr.still hb20
  replace td := td.still hb20
  replace hw := below_next hw hb20
  clear hb20
  (try simp only [Act.put, List.setIfInBounds_toArray, List.set_cons_zero, List.set_cons_succ])
  refine wpAnyH_take (i := 6) (oi := { dst := some 64, op := Op.unOp UnOp.not 4 (Operand.tmp 63), type := 4, pos := "law.go:83", after := #[{ on := 5, ground := Ground.data }, { on := 3, ground := Ground.guard }], guard := some (3, false) }) (v := ?va6) rfl (by kernel_rfl) (by kernel_rfl) (by kernel_rfl) (fun _ _ _ h => h) (Or.inl ⟨by rfl, ?ha6⟩) (Below.refl _ _) ?ra6
  case ha6 =>
    intro w hSw
    go_simp
    try with_reducible rfl
  (try simp only [Act.put, List.setIfInBounds_toArray, List.set_cons_zero, List.set_cons_succ])
  refine wpAnyH_take (i := 7) (oi := { dst := some 65, op := Op.pick (Operand.tmp 61) (Operand.const (Value.bool true)) (Operand.tmp 64), type := 4, pos := "law.go:83", after := #[{ on := 3, ground := Ground.data }, { on := 6, ground := Ground.data }], guard := none }) (v := ?va7) rfl (by kernel_rfl) (by kernel_rfl) (by kernel_rfl) (fun _ _ _ h => h) (Or.inl ⟨by rfl, ?ha7⟩) (Below.refl _ _) ?ra7
  case ha7 =>
    intro w hSw
    go_simp
    try with_reducible rfl
  (try simp only [Act.put, List.setIfInBounds_toArray, List.set_cons_zero, List.set_cons_succ])
  refine wpAnyH_take (i := 8) (oi := { dst := some 66, op := Op.move (Operand.tmp 65), type := 4, pos := "law.go:83", after := #[{ on := 7, ground := Ground.data }, { on := 5, ground := Ground.chain }], guard := none }) (v := ?va8) rfl (by kernel_rfl) (by kernel_rfl) (by kernel_rfl) (fun _ _ _ h => h) (Or.inl ⟨by rfl, ?ha8⟩) (Below.refl _ _) ?ra8
  case ha8 =>
    intro w hSw
    go_simp
    try with_reducible rfl
  (try simp only [Act.put, List.setIfInBounds_toArray, List.set_cons_zero, List.set_cons_succ])
  refine wpAnyH_take (i := 9) (oi := { dst := some 67, op := Op.move (Operand.tmp 11), type := 22, pos := "law.go:83", after := #[{ on := 8, ground := Ground.guard }], guard := some (8, false) }) (v := ?va9) rfl (by kernel_rfl) (by kernel_rfl) (by kernel_rfl) (fun _ _ _ h => h) (Or.inl ⟨by rfl, ?ha9⟩) (Below.refl _ _) ?ra9
  case ha9 =>
    intro w hSw
    go_simp
    try with_reducible rfl
  (try simp only [Act.put, List.setIfInBounds_toArray, List.set_cons_zero, List.set_cons_succ])
  refine wpAnyH_take (i := 10) (oi := { dst := some 68, op := Op.convert 22 9 (Operand.tmp 67), type := 9, pos := "law.go:83", after := #[{ on := 9, ground := Ground.data }, { on := 8, ground := Ground.guard }], guard := some (8, false) }) (v := ?va10) rfl (by kernel_rfl) (by kernel_rfl) (by kernel_rfl) (fun _ _ _ h => h) (Or.inl ⟨by rfl, ?ha10⟩) (Below.refl _ _) ?ra10
  case ha10 =>
    intro w hSw
    have q := td.conv w hSw
    go_simp
    try with_reducible rfl
  (try simp only [Act.put, List.setIfInBounds_toArray, List.set_cons_zero, List.set_cons_succ])
  refine wpAnyH_take (i := 11) (oi := { dst := some 69, op := Op.move (Operand.tmp 0), type := 22, pos := "law.go:83", after := #[{ on := 8, ground := Ground.guard }], guard := some (8, false) }) (v := ?va11) rfl (by kernel_rfl) (by kernel_rfl) (by kernel_rfl) (fun _ _ _ h => h) (Or.inl ⟨by rfl, ?ha11⟩) (Below.refl _ _) ?ra11
  case ha11 =>
    intro w hSw
    go_simp
    try with_reducible rfl
  (try simp only [Act.put, List.setIfInBounds_toArray, List.set_cons_zero, List.set_cons_succ])
  refine wpAnyH_take (i := 12) (oi := { dst := some 70, op := Op.move (Operand.tmp 1), type := 22, pos := "law.go:83", after := #[{ on := 8, ground := Ground.guard }], guard := some (8, false) }) (v := ?va12) rfl (by kernel_rfl) (by kernel_rfl) (by kernel_rfl) (fun _ _ _ h => h) (Or.inl ⟨by rfl, ?ha12⟩) (Below.refl _ _) ?ra12
  case ha12 =>
    intro w hSw
    go_simp
    try with_reducible rfl
  (try simp only [Act.put, List.setIfInBounds_toArray, List.set_cons_zero, List.set_cons_succ])
  refine wpAnyH_take (i := 14) (oi := { dst := some 72, op := Op.move (Operand.tmp 2), type := 22, pos := "law.go:83", after := #[{ on := 8, ground := Ground.guard }], guard := some (8, false) }) (v := ?va14) rfl (by kernel_rfl) (by kernel_rfl) (by kernel_rfl) (fun _ _ _ h => h) (Or.inl ⟨by rfl, ?ha14⟩) (Below.refl _ _) ?ra14
  case ha14 =>
    intro w hSw
    go_simp
    try with_reducible rfl
  (try simp only [Act.put, List.setIfInBounds_toArray, List.set_cons_zero, List.set_cons_succ])
  refine wpAnyH_ready (rs := [13]) (by kernel_rfl) (by simp) ?_
  refine AllReadyH.cons (o := { dst := some 71, op := Op.call { callee := Callee.value (Operand.func 23), args := #[Operand.tmp 69, Operand.tmp 70], argTypes := #[22, 22] }, type := 22, pos := "law.go:83", after := #[{ on := 11, ground := Ground.data }, { on := 12, ground := Ground.data }, { on := 8, ground := Ground.chain }, { on := 8, ground := Ground.guard }], guard := some (8, false) }) rfl (fun K hK => ?_) AllReadyH.nil
  go_simp
  (go_at_call 23; refine (mAB _ _ _ hO ba bb).mono ?_; rintro e w21 ⟨s21, rfl, hn21, hb21⟩; (have b21 := hn21.bytes (by decide)); obtain ⟨g21, rfl, -⟩ := hn21)
  (try go_simp)
  refine hK.out _ _ hb21 (fun h => ?_)
  clear h hK K
  refine wpAnyH_narrow (S' := fun w' => Below w21.heap.size w21 w') (fun _ h => below_next hb21 h) _ _ _ _ ?_
  replace hO := hO.still hb21
  replace ba := ba.still hb21
  replace bb := bb.still hb21
  replace bc := bc.still hb21
  replace tr := tr.still hb21
  replace td := td.still hb21
  replace hw := below_next hw hb21
  clear hb21
  (try simp only [Act.put, List.setIfInBounds_toArray, List.set_cons_zero, List.set_cons_succ])
  refine wpAnyH_ready (rs := [15]) (by kernel_rfl) (by simp) ?_
  refine AllReadyH.cons (o := { dst := some 73, op := Op.call { callee := Callee.value (Operand.func 22), args := #[Operand.tmp 71, Operand.tmp 72], argTypes := #[22, 22] }, type := 22, pos := "law.go:83", after := #[{ on := 13, ground := Ground.data }, { on := 14, ground := Ground.data }, { on := 13, ground := Ground.chain }, { on := 8, ground := Ground.guard }], guard := some (8, false) }) rfl (fun K hK => ?_) AllReadyH.nil
  go_simp
  (go_at_call 22; refine (aD _ _ _ hO b21 bc).mono ?_; rintro e w22 ⟨s22, rfl, hn22, hb22⟩; (have t22 := hn22.str); obtain ⟨g22, rfl, -⟩ := hn22)
  (try go_simp)
  refine hK.out _ _ hb22 (fun h => ?_)
  clear h hK K
  refine wpAnyH_narrow (S' := fun w' => Below w22.heap.size w22 w') (fun _ h => below_next hb22 h) _ _ _ _ ?_
  clear b21
  replace hO := hO.still hb22
  replace ba := ba.still hb22
  replace bb := bb.still hb22
  replace bc := bc.still hb22
  replace tr := tr.still hb22
  replace td := td.still hb22
  replace hw := below_next hw hb22
  clear hb22
  (try simp only [Act.put, List.setIfInBounds_toArray, List.set_cons_zero, List.set_cons_succ])
  refine wpAnyH_take (i := 16) (oi := { dst := some 74, op := Op.convert 22 9 (Operand.tmp 73), type := 9, pos := "law.go:83", after := #[{ on := 15, ground := Ground.data }, { on := 8, ground := Ground.guard }], guard := some (8, false) }) (v := ?va16) rfl (by kernel_rfl) (by kernel_rfl) (by kernel_rfl) (fun _ _ _ h => h) (Or.inl ⟨by rfl, ?ha16⟩) (Below.refl _ _) ?ra16
  case ha16 =>
    intro w hSw
    have q := t22.conv w hSw
    go_simp
    try with_reducible rfl
  (try simp only [Act.put, List.setIfInBounds_toArray, List.set_cons_zero, List.set_cons_succ])
  refine wpAnyH_take (i := 17) (oi := { dst := some 75, op := Op.binOp BinOp.neq 9 (Operand.tmp 68) (Operand.tmp 74) 9, type := 4, pos := "law.go:83", after := #[{ on := 10, ground := Ground.data }, { on := 16, ground := Ground.data }, { on := 8, ground := Ground.guard }], guard := some (8, false) }) (v := ?va17) rfl (by kernel_rfl) (by kernel_rfl) (by kernel_rfl) (fun _ _ _ h => h) (Or.inl ⟨by rfl, ?ha17⟩) (Below.refl _ _) ?ra17
  case ha17 =>
    intro w hSw
    go_simp
    try with_reducible rfl
  (try simp only [Act.put, List.setIfInBounds_toArray, List.set_cons_zero, List.set_cons_succ])
  refine wpAnyH_take (i := 18) (oi := { dst := some 76, op := Op.pick (Operand.tmp 66) (Operand.const (Value.bool true)) (Operand.tmp 75), type := 4, pos := "law.go:83", after := #[{ on := 8, ground := Ground.data }, { on := 17, ground := Ground.data }], guard := none }) (v := ?va18) rfl (by kernel_rfl) (by kernel_rfl) (by kernel_rfl) (fun _ _ _ h => h) (Or.inl ⟨by rfl, ?ha18⟩) (Below.refl _ _) ?ra18
  case ha18 =>
    intro w hSw
    go_simp
    try with_reducible rfl
  (try simp only [Act.put, List.setIfInBounds_toArray, List.set_cons_zero, List.set_cons_succ])
  refine wpAnyH_take (i := 19) (oi := { dst := some 77, op := Op.move (Operand.tmp 76), type := 4, pos := "law.go:83", after := #[{ on := 18, ground := Ground.data }, { on := 15, ground := Ground.chain }], guard := none }) (v := ?va19) rfl (by kernel_rfl) (by kernel_rfl) (by kernel_rfl) (fun _ _ _ h => h) (Or.inl ⟨by rfl, ?ha19⟩) (Below.refl _ _) ?ra19
  case ha19 =>
    intro w hSw
    go_simp
    try with_reducible rfl
  (try simp only [Act.put, List.setIfInBounds_toArray, List.set_cons_zero, List.set_cons_succ])
  refine wpAnyH_take (i := 20) (oi := { dst := some 78, op := Op.move (Operand.tmp 0), type := 22, pos := "law.go:83", after := #[{ on := 19, ground := Ground.guard }], guard := some (19, false) }) (v := ?va20) rfl (by kernel_rfl) (by kernel_rfl) (by kernel_rfl) (fun _ _ _ h => h) (Or.inl ⟨by rfl, ?ha20⟩) (Below.refl _ _) ?ra20
  case ha20 =>
    intro w hSw
    go_simp
    try with_reducible rfl
  (try simp only [Act.put, List.setIfInBounds_toArray, List.set_cons_zero, List.set_cons_succ])
  refine wpAnyH_take (i := 24) (oi := { dst := some 82, op := Op.move (Operand.tmp 7), type := 22, pos := "law.go:83", after := #[{ on := 19, ground := Ground.guard }], guard := some (19, false) }) (v := ?va24) rfl (by kernel_rfl) (by kernel_rfl) (by kernel_rfl) (fun _ _ _ h => h) (Or.inl ⟨by rfl, ?ha24⟩) (Below.refl _ _) ?ra24
  case ha24 =>
    intro w hSw
    go_simp
    try with_reducible rfl
  (try simp only [Act.put, List.setIfInBounds_toArray, List.set_cons_zero, List.set_cons_succ])
  refine wpAnyH_take (i := 25) (oi := { dst := some 83, op := Op.convert 22 9 (Operand.tmp 82), type := 9, pos := "law.go:83", after := #[{ on := 24, ground := Ground.data }, { on := 19, ground := Ground.guard }], guard := some (19, false) }) (v := ?va25) rfl (by kernel_rfl) (by kernel_rfl) (by kernel_rfl) (fun _ _ _ h => h) (Or.inl ⟨by rfl, ?ha25⟩) (Below.refl _ _) ?ra25
  case ha25 =>
    intro w hSw
    have q := tr.conv w hSw
    go_simp
    try with_reducible rfl
  (try simp only [Act.put, List.setIfInBounds_toArray, List.set_cons_zero, List.set_cons_succ])
  refine wpAnyH_ready (rs := [21]) (by kernel_rfl) (by simp) ?_
  refine AllReadyH.cons (o := { dst := some 79, op := Op.call { callee := Callee.value (Operand.func 20), args := #[Operand.const (Value.int IntKind.u8 1)], argTypes := #[5] }, type := 22, pos := "law.go:83", after := #[{ on := 19, ground := Ground.chain }, { on := 19, ground := Ground.guard }], guard := some (19, false) }) rfl (fun K hK => ?_) AllReadyH.nil
  go_simp
  (go_at_call 20; refine (c1 _).mono ?_; clear c1; rintro e w23 ⟨s23, rfl, hn23, hb23⟩; (have b23 := hn23.bytes (by decide)); obtain ⟨g23, rfl, -⟩ := hn23)
  (try go_simp)
  refine hK.out _ _ hb23 (fun h => ?_)
  clear h hK K
  refine wpAnyH_narrow (S' := fun w' => Below w23.heap.size w23 w') (fun _ h => below_next hb23 h) _ _ _ _ ?_
  replace hO := hO.still hb23
  replace ba := ba.still hb23
  replace bb := bb.still hb23
  replace bc := bc.still hb23
  replace tr := tr.still hb23
  replace td := td.still hb23
  replace t22 := t22.still hb23
  replace hw := below_next hw hb23
  clear hb23
  (try simp only [Act.put, List.setIfInBounds_toArray, List.set_cons_zero, List.set_cons_succ])
  refine wpAnyH_ready (rs := [22]) (by kernel_rfl) (by simp) ?_
  refine AllReadyH.cons (o := { dst := some 80, op := Op.call { callee := Callee.value (Operand.func 23), args := #[Operand.tmp 78, Operand.tmp 79], argTypes := #[22, 22] }, type := 22, pos := "law.go:83", after := #[{ on := 20, ground := Ground.data }, { on := 21, ground := Ground.data }, { on := 21, ground := Ground.chain }, { on := 19, ground := Ground.guard }], guard := some (19, false) }) rfl (fun K hK => ?_) AllReadyH.nil
  go_simp
  (go_at_call 23; refine (mA1 _ _ _ hO ba b23).mono ?_; rintro e w24 ⟨s24, rfl, hn24, hb24⟩; (have t24 := hn24.str); obtain ⟨g24, rfl, -⟩ := hn24)
  (try go_simp)
  refine hK.out _ _ hb24 (fun h => ?_)
  clear h hK K
  refine wpAnyH_narrow (S' := fun w' => Below w24.heap.size w24 w') (fun _ h => below_next hb24 h) _ _ _ _ ?_
  clear b23
  replace hO := hO.still hb24
  replace ba := ba.still hb24
  replace bb := bb.still hb24
  replace bc := bc.still hb24
  replace tr := tr.still hb24
  replace td := td.still hb24
  replace t22 := t22.still hb24
  replace hw := below_next hw hb24
  clear hb24
  (try simp only [Act.put, List.setIfInBounds_toArray, List.set_cons_zero, List.set_cons_succ])
  refine wpAnyH_take (i := 23) (oi := { dst := some 81, op := Op.convert 22 9 (Operand.tmp 80), type := 9, pos := "law.go:83", after := #[{ on := 22, ground := Ground.data }, { on := 19, ground := Ground.guard }], guard := some (19, false) }) (v := ?va23) rfl (by kernel_rfl) (by kernel_rfl) (by kernel_rfl) (fun _ _ _ h => h) (Or.inl ⟨by rfl, ?ha23⟩) (Below.refl _ _) ?ra23
  case ha23 =>
    intro w hSw
    have q := t24.conv w hSw
    go_simp
    try with_reducible rfl
  (try simp only [Act.put, List.setIfInBounds_toArray, List.set_cons_zero, List.set_cons_succ])
  refine wpAnyH_take (i := 26) (oi := { dst := some 84, op := Op.binOp BinOp.neq 9 (Operand.tmp 81) (Operand.tmp 83) 9, type := 4, pos := "law.go:83", after := #[{ on := 23, ground := Ground.data }, { on := 25, ground := Ground.data }, { on := 19, ground := Ground.guard }], guard := some (19, false) }) (v := ?va26) rfl (by kernel_rfl) (by kernel_rfl) (by kernel_rfl) (fun _ _ _ h => h) (Or.inl ⟨by rfl, ?ha26⟩) (Below.refl _ _) ?ra26
  case ha26 =>
    intro w hSw
    go_simp
    try with_reducible rfl
  (try simp only [Act.put, List.setIfInBounds_toArray, List.set_cons_zero, List.set_cons_succ])
  refine wpAnyH_take (i := 27) (oi := { dst := some 85, op := Op.pick (Operand.tmp 77) (Operand.const (Value.bool true)) (Operand.tmp 84), type := 4, pos := "law.go:83", after := #[{ on := 19, ground := Ground.data }, { on := 26, ground := Ground.data }], guard := none }) (v := ?va27) rfl (by kernel_rfl) (by kernel_rfl) (by kernel_rfl) (fun _ _ _ h => h) (Or.inl ⟨by rfl, ?ha27⟩) (Below.refl _ _) ?ra27
  case ha27 =>
    intro w hSw
    go_simp
    try with_reducible rfl
  (try simp only [Act.put, List.setIfInBounds_toArray, List.set_cons_zero, List.set_cons_succ])
  refine wpAnyH_done (by kernel_rfl) ?_ _
  refine NoPanic.normal ?_
  clear tr td t22 t24
  go_wp2
  have hdrew : Below w24.heap.size w24 w24.drew := (Below.refl _ _).drew
  replace hO := hO.still hdrew
  replace ba := ba.still hdrew
  replace bb := bb.still hdrew
  replace bc := bc.still hdrew
  replace hw := below_next hw hdrew
  clear hdrew
  refine wp_region_noPanic ?_
  refine wp_region_held_drew (S := fun w' => Below w24.drew.heap.size w24.drew w') (by kernel_rfl) (Below.refl _ _) (fun hHeld => ?_)
  clear hHeld
  refine wpAnyH_take (i := 0) (oi := { dst := some 86, op := Op.move (Operand.tmp 0), type := 22, pos := "law.go:86", after := #[], guard := none }) (v := ?vb0) rfl (by kernel_rfl) (by kernel_rfl) (by kernel_rfl) (fun _ _ _ h => h) (Or.inl ⟨by rfl, ?hb0⟩) (Below.refl _ _) ?rb0
  case hb0 =>
    intro w hSw
    go_simp
    try with_reducible rfl
  (try simp only [Act.put, List.setIfInBounds_toArray, List.set_cons_zero, List.set_cons_succ])
  refine wpAnyH_take (i := 1) (oi := { dst := some 87, op := Op.move (Operand.tmp 1), type := 22, pos := "law.go:86", after := #[], guard := none }) (v := ?vb1) rfl (by kernel_rfl) (by kernel_rfl) (by kernel_rfl) (fun _ _ _ h => h) (Or.inl ⟨by rfl, ?hb1⟩) (Below.refl _ _) ?rb1
  case hb1 =>
    intro w hSw
    go_simp
    try with_reducible rfl
  (try simp only [Act.put, List.setIfInBounds_toArray, List.set_cons_zero, List.set_cons_succ])
  refine wpAnyH_take (i := 4) (oi := { dst := some 90, op := Op.move (Operand.tmp 1), type := 22, pos := "law.go:86", after := #[], guard := none }) (v := ?vb4) rfl (by kernel_rfl) (by kernel_rfl) (by kernel_rfl) (fun _ _ _ h => h) (Or.inl ⟨by rfl, ?hb4⟩) (Below.refl _ _) ?rb4
  case hb4 =>
    intro w hSw
    go_simp
    try with_reducible rfl
  (try simp only [Act.put, List.setIfInBounds_toArray, List.set_cons_zero, List.set_cons_succ])
  refine wpAnyH_take (i := 5) (oi := { dst := some 91, op := Op.move (Operand.tmp 0), type := 22, pos := "law.go:86", after := #[], guard := none }) (v := ?vb5) rfl (by kernel_rfl) (by kernel_rfl) (by kernel_rfl) (fun _ _ _ h => h) (Or.inl ⟨by rfl, ?hb5⟩) (Below.refl _ _) ?rb5
  case hb5 =>
    intro w hSw
    go_simp
    try with_reducible rfl
  (try simp only [Act.put, List.setIfInBounds_toArray, List.set_cons_zero, List.set_cons_succ])
  refine wpAnyH_ready (rs := [2]) (by kernel_rfl) (by simp) ?_
  refine AllReadyH.cons (o := { dst := some 88, op := Op.call { callee := Callee.value (Operand.func 23), args := #[Operand.tmp 86, Operand.tmp 87], argTypes := #[22, 22] }, type := 22, pos := "law.go:86", after := #[{ on := 0, ground := Ground.data }, { on := 1, ground := Ground.data }], guard := none }) rfl (fun K hK => ?_) AllReadyH.nil
  go_simp
  (go_at_call 23; refine (mAB _ _ _ hO ba bb).mono ?_; rintro e w31 ⟨s31, rfl, hn31, hb31⟩; (have t31 := hn31.str); obtain ⟨g31, rfl, -⟩ := hn31)
  (try go_simp)
  refine hK.out _ _ hb31 (fun h => ?_)
  clear h hK K
  refine wpAnyH_narrow (S' := fun w' => Below w31.heap.size w31 w') (fun _ h => below_next hb31 h) _ _ _ _ ?_
  replace hO := hO.still hb31
  replace ba := ba.still hb31
  replace bb := bb.still hb31
  replace bc := bc.still hb31
  replace hw := below_next hw hb31
  clear hb31
  (try simp only [Act.put, List.setIfInBounds_toArray, List.set_cons_zero, List.set_cons_succ])
  refine wpAnyH_take (i := 3) (oi := { dst := some 89, op := Op.convert 22 9 (Operand.tmp 88), type := 9, pos := "law.go:86", after := #[{ on := 2, ground := Ground.data }], guard := none }) (v := ?vb3) rfl (by kernel_rfl) (by kernel_rfl) (by kernel_rfl) (fun _ _ _ h => h) (Or.inl ⟨by rfl, ?hb3⟩) (Below.refl _ _) ?rb3
  case hb3 =>
    intro w hSw
    have q := t31.conv w hSw
    go_simp
    try with_reducible rfl
  (try simp only [Act.put, List.setIfInBounds_toArray, List.set_cons_zero, List.set_cons_succ])
  refine wpAnyH_ready (rs := [6]) (by kernel_rfl) (by simp) ?_
  refine AllReadyH.cons (o := { dst := some 92, op := Op.call { callee := Callee.value (Operand.func 23), args := #[Operand.tmp 90, Operand.tmp 91], argTypes := #[22, 22] }, type := 22, pos := "law.go:86", after := #[{ on := 4, ground := Ground.data }, { on := 5, ground := Ground.data }, { on := 2, ground := Ground.chain }], guard := none }) rfl (fun K hK => ?_) AllReadyH.nil
  go_simp
  (go_at_call 23; refine (mBA _ _ _ hO bb ba).mono ?_; rintro e w32 ⟨s32, rfl, hn32, hb32⟩; (have t32 := hn32.str); obtain ⟨g32, rfl, -⟩ := hn32)
  (try go_simp)
  refine hK.out _ _ hb32 (fun h => ?_)
  clear h hK K
  refine wpAnyH_narrow (S' := fun w' => Below w32.heap.size w32 w') (fun _ h => below_next hb32 h) _ _ _ _ ?_
  replace hO := hO.still hb32
  replace ba := ba.still hb32
  replace bb := bb.still hb32
  replace bc := bc.still hb32
  replace t31 := t31.still hb32
  replace hw := below_next hw hb32
  clear hb32
  (try simp only [Act.put, List.setIfInBounds_toArray, List.set_cons_zero, List.set_cons_succ])
  refine wpAnyH_take (i := 7) (oi := { dst := some 93, op := Op.convert 22 9 (Operand.tmp 92), type := 9, pos := "law.go:86", after := #[{ on := 6, ground := Ground.data }], guard := none }) (v := ?vb7) rfl (by kernel_rfl) (by kernel_rfl) (by kernel_rfl) (fun _ _ _ h => h) (Or.inl ⟨by rfl, ?hb7⟩) (Below.refl _ _) ?rb7
  case hb7 =>
    intro w hSw
    have q := t32.conv w hSw
    go_simp
    try with_reducible rfl
  (try simp only [Act.put, List.setIfInBounds_toArray, List.set_cons_zero, List.set_cons_succ])
  refine wpAnyH_take (i := 8) (oi := { dst := some 94, op := Op.binOp BinOp.eql 9 (Operand.tmp 89) (Operand.tmp 93) 9, type := 4, pos := "law.go:86", after := #[{ on := 3, ground := Ground.data }, { on := 7, ground := Ground.data }], guard := none }) (v := ?vb8) rfl (by kernel_rfl) (by kernel_rfl) (by kernel_rfl) (fun _ _ _ h => h) (Or.inl ⟨by rfl, ?hb8⟩) (Below.refl _ _) ?rb8
  case hb8 =>
    intro w hSw
    go_simp
    try with_reducible rfl
  (try simp only [Act.put, List.setIfInBounds_toArray, List.set_cons_zero, List.set_cons_succ])
  refine wpAnyH_take (i := 9) (oi := { dst := some 95, op := Op.move (Operand.tmp 94), type := 4, pos := "law.go:86", after := #[{ on := 8, ground := Ground.data }, { on := 6, ground := Ground.chain }], guard := none }) (v := ?vb9) rfl (by kernel_rfl) (by kernel_rfl) (by kernel_rfl) (fun _ _ _ h => h) (Or.inl ⟨by rfl, ?hb9⟩) (Below.refl _ _) ?rb9
  case hb9 =>
    intro w hSw
    go_simp
    try with_reducible rfl
  (try simp only [Act.put, List.setIfInBounds_toArray, List.set_cons_zero, List.set_cons_succ])
  refine wpAnyH_take (i := 10) (oi := { dst := some 96, op := Op.move (Operand.tmp 0), type := 22, pos := "law.go:86", after := #[{ on := 9, ground := Ground.guard }], guard := some (9, true) }) (v := ?vb10) rfl (by kernel_rfl) (by kernel_rfl) (by kernel_rfl) (fun _ _ _ h => h) (Or.inl ⟨by rfl, ?hb10⟩) (Below.refl _ _) ?rb10
  case hb10 =>
    intro w hSw
    go_simp
    try with_reducible rfl
  (try simp only [Act.put, List.setIfInBounds_toArray, List.set_cons_zero, List.set_cons_succ])
  refine wpAnyH_take (i := 11) (oi := { dst := some 97, op := Op.move (Operand.tmp 1), type := 22, pos := "law.go:86", after := #[{ on := 9, ground := Ground.guard }], guard := some (9, true) }) (v := ?vb11) rfl (by kernel_rfl) (by kernel_rfl) (by kernel_rfl) (fun _ _ _ h => h) (Or.inl ⟨by rfl, ?hb11⟩) (Below.refl _ _) ?rb11
  case hb11 =>
    intro w hSw
    go_simp
    try with_reducible rfl
  (try simp only [Act.put, List.setIfInBounds_toArray, List.set_cons_zero, List.set_cons_succ])
  refine wpAnyH_take (i := 13) (oi := { dst := some 99, op := Op.move (Operand.tmp 2), type := 22, pos := "law.go:86", after := #[{ on := 9, ground := Ground.guard }], guard := some (9, true) }) (v := ?vb13) rfl (by kernel_rfl) (by kernel_rfl) (by kernel_rfl) (fun _ _ _ h => h) (Or.inl ⟨by rfl, ?hb13⟩) (Below.refl _ _) ?rb13
  case hb13 =>
    intro w hSw
    go_simp
    try with_reducible rfl
  (try simp only [Act.put, List.setIfInBounds_toArray, List.set_cons_zero, List.set_cons_succ])
  refine wpAnyH_take (i := 16) (oi := { dst := some 102, op := Op.move (Operand.tmp 0), type := 22, pos := "law.go:86", after := #[{ on := 9, ground := Ground.guard }], guard := some (9, true) }) (v := ?vb16) rfl (by kernel_rfl) (by kernel_rfl) (by kernel_rfl) (fun _ _ _ h => h) (Or.inl ⟨by rfl, ?hb16⟩) (Below.refl _ _) ?rb16
  case hb16 =>
    intro w hSw
    go_simp
    try with_reducible rfl
  (try simp only [Act.put, List.setIfInBounds_toArray, List.set_cons_zero, List.set_cons_succ])
  refine wpAnyH_take (i := 17) (oi := { dst := some 103, op := Op.move (Operand.tmp 1), type := 22, pos := "law.go:86", after := #[{ on := 9, ground := Ground.guard }], guard := some (9, true) }) (v := ?vb17) rfl (by kernel_rfl) (by kernel_rfl) (by kernel_rfl) (fun _ _ _ h => h) (Or.inl ⟨by rfl, ?hb17⟩) (Below.refl _ _) ?rb17
  case hb17 =>
    intro w hSw
    go_simp
    try with_reducible rfl
  (try simp only [Act.put, List.setIfInBounds_toArray, List.set_cons_zero, List.set_cons_succ])
  refine wpAnyH_take (i := 18) (oi := { dst := some 104, op := Op.move (Operand.tmp 2), type := 22, pos := "law.go:86", after := #[{ on := 9, ground := Ground.guard }], guard := some (9, true) }) (v := ?vb18) rfl (by kernel_rfl) (by kernel_rfl) (by kernel_rfl) (fun _ _ _ h => h) (Or.inl ⟨by rfl, ?hb18⟩) (Below.refl _ _) ?rb18
  case hb18 =>
    intro w hSw
    go_simp
    try with_reducible rfl
  (try simp only [Act.put, List.setIfInBounds_toArray, List.set_cons_zero, List.set_cons_succ])
  refine wpAnyH_ready (rs := [12]) (by kernel_rfl) (by simp) ?_
  refine AllReadyH.cons (o := { dst := some 98, op := Op.call { callee := Callee.value (Operand.func 23), args := #[Operand.tmp 96, Operand.tmp 97], argTypes := #[22, 22] }, type := 22, pos := "law.go:86", after := #[{ on := 10, ground := Ground.data }, { on := 11, ground := Ground.data }, { on := 9, ground := Ground.chain }, { on := 9, ground := Ground.guard }], guard := some (9, true) }) rfl (fun K hK => ?_) AllReadyH.nil
  go_simp
  (go_at_call 23; refine (mAB _ _ _ hO ba bb).mono ?_; rintro e w33 ⟨s33, rfl, hn33, hb33⟩; (have b33 := hn33.bytes (by decide)); obtain ⟨g33, rfl, -⟩ := hn33)
  (try go_simp)
  refine hK.out _ _ hb33 (fun h => ?_)
  clear h hK K
  refine wpAnyH_narrow (S' := fun w' => Below w33.heap.size w33 w') (fun _ h => below_next hb33 h) _ _ _ _ ?_
  replace hO := hO.still hb33
  replace ba := ba.still hb33
  replace bb := bb.still hb33
  replace bc := bc.still hb33
  replace t31 := t31.still hb33
  replace t32 := t32.still hb33
  replace hw := below_next hw hb33
  clear hb33
  (try simp only [Act.put, List.setIfInBounds_toArray, List.set_cons_zero, List.set_cons_succ])
  refine wpAnyH_ready (rs := [14]) (by kernel_rfl) (by simp) ?_
  refine AllReadyH.cons (o := { dst := some 100, op := Op.call { callee := Callee.value (Operand.func 23), args := #[Operand.tmp 98, Operand.tmp 99], argTypes := #[22, 22] }, type := 22, pos := "law.go:86", after := #[{ on := 12, ground := Ground.data }, { on := 13, ground := Ground.data }, { on := 12, ground := Ground.chain }, { on := 9, ground := Ground.guard }], guard := some (9, true) }) rfl (fun K hK => ?_) AllReadyH.nil
  go_simp
  (go_at_call 23; refine (mABC _ _ _ hO b33 bc).mono ?_; rintro e w34 ⟨s34, rfl, hn34, hb34⟩; (have t34 := hn34.str); obtain ⟨g34, rfl, -⟩ := hn34)
  (try go_simp)
  refine hK.out _ _ hb34 (fun h => ?_)
  clear h hK K
  refine wpAnyH_narrow (S' := fun w' => Below w34.heap.size w34 w') (fun _ h => below_next hb34 h) _ _ _ _ ?_
  clear b33
  replace hO := hO.still hb34
  replace ba := ba.still hb34
  replace bb := bb.still hb34
  replace bc := bc.still hb34
  replace t31 := t31.still hb34
  replace t32 := t32.still hb34
  replace hw := below_next hw hb34
  clear hb34
  (try simp only [Act.put, List.setIfInBounds_toArray, List.set_cons_zero, List.set_cons_succ])
  refine wpAnyH_take (i := 15) (oi := { dst := some 101, op := Op.convert 22 9 (Operand.tmp 100), type := 9, pos := "law.go:86", after := #[{ on := 14, ground := Ground.data }, { on := 9, ground := Ground.guard }], guard := some (9, true) }) (v := ?vb15) rfl (by kernel_rfl) (by kernel_rfl) (by kernel_rfl) (fun _ _ _ h => h) (Or.inl ⟨by rfl, ?hb15⟩) (Below.refl _ _) ?rb15
  case hb15 =>
    intro w hSw
    have q := t34.conv w hSw
    go_simp
    try with_reducible rfl
  (try simp only [Act.put, List.setIfInBounds_toArray, List.set_cons_zero, List.set_cons_succ])
  refine wpAnyH_ready (rs := [19]) (by kernel_rfl) (by simp) ?_
  refine AllReadyH.cons (o := { dst := some 105, op := Op.call { callee := Callee.value (Operand.func 23), args := #[Operand.tmp 103, Operand.tmp 104], argTypes := #[22, 22] }, type := 22, pos := "law.go:86", after := #[{ on := 17, ground := Ground.data }, { on := 18, ground := Ground.data }, { on := 14, ground := Ground.chain }, { on := 9, ground := Ground.guard }], guard := some (9, true) }) rfl (fun K hK => ?_) AllReadyH.nil
  go_simp
  (go_at_call 23; refine (mBC _ _ _ hO bb bc).mono ?_; rintro e w35 ⟨s35, rfl, hn35, hb35⟩; (have b35 := hn35.bytes (by decide)); obtain ⟨g35, rfl, -⟩ := hn35)
  (try go_simp)
  refine hK.out _ _ hb35 (fun h => ?_)
  clear h hK K
  refine wpAnyH_narrow (S' := fun w' => Below w35.heap.size w35 w') (fun _ h => below_next hb35 h) _ _ _ _ ?_
  replace hO := hO.still hb35
  replace ba := ba.still hb35
  replace bb := bb.still hb35
  replace bc := bc.still hb35
  replace t31 := t31.still hb35
  replace t32 := t32.still hb35
  replace t34 := t34.still hb35
  replace hw := below_next hw hb35
  clear hb35
  (try simp only [Act.put, List.setIfInBounds_toArray, List.set_cons_zero, List.set_cons_succ])
  refine wpAnyH_ready (rs := [20]) (by kernel_rfl) (by simp) ?_
  refine AllReadyH.cons (o := { dst := some 106, op := Op.call { callee := Callee.value (Operand.func 23), args := #[Operand.tmp 102, Operand.tmp 105], argTypes := #[22, 22] }, type := 22, pos := "law.go:86", after := #[{ on := 16, ground := Ground.data }, { on := 19, ground := Ground.data }, { on := 19, ground := Ground.chain }, { on := 9, ground := Ground.guard }], guard := some (9, true) }) rfl (fun K hK => ?_) AllReadyH.nil
  go_simp
  (go_at_call 23; refine (mABC' _ _ _ hO ba b35).mono ?_; rintro e w36 ⟨s36, rfl, hn36, hb36⟩; (have t36 := hn36.str); obtain ⟨g36, rfl, -⟩ := hn36)
  (try go_simp)
  refine hK.out _ _ hb36 (fun h => ?_)
  clear h hK K
  refine wpAnyH_narrow (S' := fun w' => Below w36.heap.size w36 w') (fun _ h => below_next hb36 h) _ _ _ _ ?_
  clear b35
  replace hO := hO.still hb36
  replace ba := ba.still hb36
  replace bb := bb.still hb36
  replace bc := bc.still hb36
  replace t31 := t31.still hb36
  replace t32 := t32.still hb36
  replace t34 := t34.still hb36
  replace hw := below_next hw hb36
  clear hb36
  (try simp only [Act.put, List.setIfInBounds_toArray, List.set_cons_zero, List.set_cons_succ])
  refine wpAnyH_take (i := 21) (oi := { dst := some 107, op := Op.convert 22 9 (Operand.tmp 106), type := 9, pos := "law.go:86", after := #[{ on := 20, ground := Ground.data }, { on := 9, ground := Ground.guard }], guard := some (9, true) }) (v := ?vb21) rfl (by kernel_rfl) (by kernel_rfl) (by kernel_rfl) (fun _ _ _ h => h) (Or.inl ⟨by rfl, ?hb21⟩) (Below.refl _ _) ?rb21
  case hb21 =>
    intro w hSw
    have q := t36.conv w hSw
    go_simp
    try with_reducible rfl
  (try simp only [Act.put, List.setIfInBounds_toArray, List.set_cons_zero, List.set_cons_succ])
  refine wpAnyH_take (i := 22) (oi := { dst := some 108, op := Op.binOp BinOp.eql 9 (Operand.tmp 101) (Operand.tmp 107) 9, type := 4, pos := "law.go:86", after := #[{ on := 15, ground := Ground.data }, { on := 21, ground := Ground.data }, { on := 9, ground := Ground.guard }], guard := some (9, true) }) (v := ?vb22) rfl (by kernel_rfl) (by kernel_rfl) (by kernel_rfl) (fun _ _ _ h => h) (Or.inl ⟨by rfl, ?hb22⟩) (Below.refl _ _) ?rb22
  case hb22 =>
    intro w hSw
    go_simp
    try with_reducible rfl
  (try simp only [Act.put, List.setIfInBounds_toArray, List.set_cons_zero, List.set_cons_succ])
  refine wpAnyH_take (i := 23) (oi := { dst := some 109, op := Op.pick (Operand.tmp 95) (Operand.tmp 108) (Operand.const (Value.bool false)), type := 4, pos := "law.go:86", after := #[{ on := 9, ground := Ground.data }, { on := 22, ground := Ground.data }], guard := none }) (v := ?vb23) rfl (by kernel_rfl) (by kernel_rfl) (by kernel_rfl) (fun _ _ _ h => h) (Or.inl ⟨by rfl, ?hb23⟩) (Below.refl _ _) ?rb23
  case hb23 =>
    intro w hSw
    go_simp
    try with_reducible rfl
  (try simp only [Act.put, List.setIfInBounds_toArray, List.set_cons_zero, List.set_cons_succ])
  refine wpAnyH_take (i := 24) (oi := { dst := some 110, op := Op.move (Operand.tmp 109), type := 4, pos := "law.go:86", after := #[{ on := 23, ground := Ground.data }, { on := 20, ground := Ground.chain }], guard := none }) (v := ?vb24) rfl (by kernel_rfl) (by kernel_rfl) (by kernel_rfl) (fun _ _ _ h => h) (Or.inl ⟨by rfl, ?hb24⟩) (Below.refl _ _) ?rb24
  case hb24 =>
    intro w hSw
    go_simp
    try with_reducible rfl
  (try simp only [Act.put, List.setIfInBounds_toArray, List.set_cons_zero, List.set_cons_succ])
  refine wpAnyH_take (i := 25) (oi := { dst := some 111, op := Op.move (Operand.tmp 0), type := 22, pos := "law.go:86", after := #[{ on := 24, ground := Ground.guard }], guard := some (24, true) }) (v := ?vb25) rfl (by kernel_rfl) (by kernel_rfl) (by kernel_rfl) (fun _ _ _ h => h) (Or.inl ⟨by rfl, ?hb25⟩) (Below.refl _ _) ?rb25
  case hb25 =>
    intro w hSw
    go_simp
    try with_reducible rfl
  (try simp only [Act.put, List.setIfInBounds_toArray, List.set_cons_zero, List.set_cons_succ])
  refine wpAnyH_take (i := 26) (oi := { dst := some 112, op := Op.move (Operand.tmp 1), type := 22, pos := "law.go:86", after := #[{ on := 24, ground := Ground.guard }], guard := some (24, true) }) (v := ?vb26) rfl (by kernel_rfl) (by kernel_rfl) (by kernel_rfl) (fun _ _ _ h => h) (Or.inl ⟨by rfl, ?hb26⟩) (Below.refl _ _) ?rb26
  case hb26 =>
    intro w hSw
    go_simp
    try with_reducible rfl
  (try simp only [Act.put, List.setIfInBounds_toArray, List.set_cons_zero, List.set_cons_succ])
  refine wpAnyH_take (i := 27) (oi := { dst := some 113, op := Op.move (Operand.tmp 2), type := 22, pos := "law.go:86", after := #[{ on := 24, ground := Ground.guard }], guard := some (24, true) }) (v := ?vb27) rfl (by kernel_rfl) (by kernel_rfl) (by kernel_rfl) (fun _ _ _ h => h) (Or.inl ⟨by rfl, ?hb27⟩) (Below.refl _ _) ?rb27
  case hb27 =>
    intro w hSw
    go_simp
    try with_reducible rfl
  (try simp only [Act.put, List.setIfInBounds_toArray, List.set_cons_zero, List.set_cons_succ])
  refine wpAnyH_take (i := 31) (oi := { dst := some 117, op := Op.move (Operand.tmp 0), type := 22, pos := "law.go:86", after := #[{ on := 24, ground := Ground.guard }], guard := some (24, true) }) (v := ?vb31) rfl (by kernel_rfl) (by kernel_rfl) (by kernel_rfl) (fun _ _ _ h => h) (Or.inl ⟨by rfl, ?hb31⟩) (Below.refl _ _) ?rb31
  case hb31 =>
    intro w hSw
    go_simp
    try with_reducible rfl
  (try simp only [Act.put, List.setIfInBounds_toArray, List.set_cons_zero, List.set_cons_succ])
  refine wpAnyH_take (i := 32) (oi := { dst := some 118, op := Op.move (Operand.tmp 1), type := 22, pos := "law.go:86", after := #[{ on := 24, ground := Ground.guard }], guard := some (24, true) }) (v := ?vb32) rfl (by kernel_rfl) (by kernel_rfl) (by kernel_rfl) (fun _ _ _ h => h) (Or.inl ⟨by rfl, ?hb32⟩) (Below.refl _ _) ?rb32
  case hb32 =>
    intro w hSw
    go_simp
    try with_reducible rfl
  (try simp only [Act.put, List.setIfInBounds_toArray, List.set_cons_zero, List.set_cons_succ])
  refine wpAnyH_take (i := 34) (oi := { dst := some 120, op := Op.move (Operand.tmp 0), type := 22, pos := "law.go:86", after := #[{ on := 24, ground := Ground.guard }], guard := some (24, true) }) (v := ?vb34) rfl (by kernel_rfl) (by kernel_rfl) (by kernel_rfl) (fun _ _ _ h => h) (Or.inl ⟨by rfl, ?hb34⟩) (Below.refl _ _) ?rb34
  case hb34 =>
    intro w hSw
    go_simp
    try with_reducible rfl
  (try simp only [Act.put, List.setIfInBounds_toArray, List.set_cons_zero, List.set_cons_succ])
  refine wpAnyH_take (i := 35) (oi := { dst := some 121, op := Op.move (Operand.tmp 2), type := 22, pos := "law.go:86", after := #[{ on := 24, ground := Ground.guard }], guard := some (24, true) }) (v := ?vb35) rfl (by kernel_rfl) (by kernel_rfl) (by kernel_rfl) (fun _ _ _ h => h) (Or.inl ⟨by rfl, ?hb35⟩) (Below.refl _ _) ?rb35
  case hb35 =>
    intro w hSw
    go_simp
    try with_reducible rfl
  (try simp only [Act.put, List.setIfInBounds_toArray, List.set_cons_zero, List.set_cons_succ])
  refine wpAnyH_ready (rs := [28]) (by kernel_rfl) (by simp) ?_
  refine AllReadyH.cons (o := { dst := some 114, op := Op.call { callee := Callee.value (Operand.func 22), args := #[Operand.tmp 112, Operand.tmp 113], argTypes := #[22, 22] }, type := 22, pos := "law.go:86", after := #[{ on := 26, ground := Ground.data }, { on := 27, ground := Ground.data }, { on := 24, ground := Ground.chain }, { on := 24, ground := Ground.guard }], guard := some (24, true) }) rfl (fun K hK => ?_) AllReadyH.nil
  go_simp
  (go_at_call 22; refine (aBC _ _ _ hO bb bc).mono ?_; rintro e w37 ⟨s37, rfl, hn37, hb37⟩; (have b37 := hn37.bytes (by decide)); obtain ⟨g37, rfl, -⟩ := hn37)
  (try go_simp)
  refine hK.out _ _ hb37 (fun h => ?_)
  clear h hK K
  refine wpAnyH_narrow (S' := fun w' => Below w37.heap.size w37 w') (fun _ h => below_next hb37 h) _ _ _ _ ?_
  replace hO := hO.still hb37
  replace ba := ba.still hb37
  replace bb := bb.still hb37
  replace bc := bc.still hb37
  replace t31 := t31.still hb37
  replace t32 := t32.still hb37
  replace t34 := t34.still hb37
  replace t36 := t36.still hb37
  replace hw := below_next hw hb37
  clear hb37
  (try simp only [Act.put, List.setIfInBounds_toArray, List.set_cons_zero, List.set_cons_succ])
  refine wpAnyH_ready (rs := [29]) (by kernel_rfl) (by simp) ?_
  refine AllReadyH.cons (o := { dst := some 115, op := Op.call { callee := Callee.value (Operand.func 23), args := #[Operand.tmp 111, Operand.tmp 114], argTypes := #[22, 22] }, type := 22, pos := "law.go:86", after := #[{ on := 25, ground := Ground.data }, { on := 28, ground := Ground.data }, { on := 28, ground := Ground.chain }, { on := 24, ground := Ground.guard }], guard := some (24, true) }) rfl (fun K hK => ?_) AllReadyH.nil
  go_simp
  (go_at_call 23; refine (mAP _ _ _ hO ba b37).mono ?_; rintro e w38 ⟨s38, rfl, hn38, hb38⟩; (have t38 := hn38.str); obtain ⟨g38, rfl, -⟩ := hn38)
  (try go_simp)
  refine hK.out _ _ hb38 (fun h => ?_)
  clear h hK K
  refine wpAnyH_narrow (S' := fun w' => Below w38.heap.size w38 w') (fun _ h => below_next hb38 h) _ _ _ _ ?_
  clear b37
  replace hO := hO.still hb38
  replace ba := ba.still hb38
  replace bb := bb.still hb38
  replace bc := bc.still hb38
  replace t31 := t31.still hb38
  replace t32 := t32.still hb38
  replace t34 := t34.still hb38
  replace t36 := t36.still hb38
  replace hw := below_next hw hb38
  clear hb38
  (try simp only [Act.put, List.setIfInBounds_toArray, List.set_cons_zero, List.set_cons_succ])
  refine wpAnyH_take (i := 30) (oi := { dst := some 116, op := Op.convert 22 9 (Operand.tmp 115), type := 9, pos := "law.go:86", after := #[{ on := 29, ground := Ground.data }, { on := 24, ground := Ground.guard }], guard := some (24, true) }) (v := ?vb30) rfl (by kernel_rfl) (by kernel_rfl) (by kernel_rfl) (fun _ _ _ h => h) (Or.inl ⟨by rfl, ?hb30⟩) (Below.refl _ _) ?rb30
  case hb30 =>
    intro w hSw
    have q := t38.conv w hSw
    go_simp
    try with_reducible rfl
  (try simp only [Act.put, List.setIfInBounds_toArray, List.set_cons_zero, List.set_cons_succ])
  refine wpAnyH_ready (rs := [33]) (by kernel_rfl) (by simp) ?_
  refine AllReadyH.cons (o := { dst := some 119, op := Op.call { callee := Callee.value (Operand.func 23), args := #[Operand.tmp 117, Operand.tmp 118], argTypes := #[22, 22] }, type := 22, pos := "law.go:86", after := #[{ on := 31, ground := Ground.data }, { on := 32, ground := Ground.data }, { on := 29, ground := Ground.chain }, { on := 24, ground := Ground.guard }], guard := some (24, true) }) rfl (fun K hK => ?_) AllReadyH.nil
  go_simp
  (go_at_call 23; refine (mAB _ _ _ hO ba bb).mono ?_; rintro e w39 ⟨s39, rfl, hn39, hb39⟩; (have b39 := hn39.bytes (by decide)); obtain ⟨g39, rfl, -⟩ := hn39)
  (try go_simp)
  refine hK.out _ _ hb39 (fun h => ?_)
  clear h hK K
  refine wpAnyH_narrow (S' := fun w' => Below w39.heap.size w39 w') (fun _ h => below_next hb39 h) _ _ _ _ ?_
  replace hO := hO.still hb39
  replace ba := ba.still hb39
  replace bb := bb.still hb39
  replace bc := bc.still hb39
  replace t31 := t31.still hb39
  replace t32 := t32.still hb39
  replace t34 := t34.still hb39
  replace t36 := t36.still hb39
  replace t38 := t38.still hb39
  replace hw := below_next hw hb39
  clear hb39
  (try simp only [Act.put, List.setIfInBounds_toArray, List.set_cons_zero, List.set_cons_succ])
  refine wpAnyH_ready (rs := [36]) (by kernel_rfl) (by simp) ?_
  refine AllReadyH.cons (o := { dst := some 122, op := Op.call { callee := Callee.value (Operand.func 23), args := #[Operand.tmp 120, Operand.tmp 121], argTypes := #[22, 22] }, type := 22, pos := "law.go:86", after := #[{ on := 34, ground := Ground.data }, { on := 35, ground := Ground.data }, { on := 33, ground := Ground.chain }, { on := 24, ground := Ground.guard }], guard := some (24, true) }) rfl (fun K hK => ?_) AllReadyH.nil
  go_simp
  (go_at_call 23; refine (mAC _ _ _ hO ba bc).mono ?_; rintro e w40 ⟨s40, rfl, hn40, hb40⟩; (have b40 := hn40.bytes (by decide)); obtain ⟨g40, rfl, -⟩ := hn40)
  (try go_simp)
  refine hK.out _ _ hb40 (fun h => ?_)
  clear h hK K
  refine wpAnyH_narrow (S' := fun w' => Below w40.heap.size w40 w') (fun _ h => below_next hb40 h) _ _ _ _ ?_
  replace hO := hO.still hb40
  replace ba := ba.still hb40
  replace bb := bb.still hb40
  replace bc := bc.still hb40
  replace t31 := t31.still hb40
  replace t32 := t32.still hb40
  replace t34 := t34.still hb40
  replace t36 := t36.still hb40
  replace t38 := t38.still hb40
  replace b39 := b39.still hb40
  replace hw := below_next hw hb40
  clear hb40
  (try simp only [Act.put, List.setIfInBounds_toArray, List.set_cons_zero, List.set_cons_succ])
  refine wpAnyH_ready (rs := [37]) (by kernel_rfl) (by simp) ?_
  refine AllReadyH.cons (o := { dst := some 123, op := Op.call { callee := Callee.value (Operand.func 22), args := #[Operand.tmp 119, Operand.tmp 122], argTypes := #[22, 22] }, type := 22, pos := "law.go:86", after := #[{ on := 33, ground := Ground.data }, { on := 36, ground := Ground.data }, { on := 36, ground := Ground.chain }, { on := 24, ground := Ground.guard }], guard := some (24, true) }) rfl (fun K hK => ?_) AllReadyH.nil
  go_simp
  (go_at_call 22; refine (aE _ _ _ hO b39 b40).mono ?_; rintro e w41 ⟨s41, rfl, hn41, hb41⟩; (have t41 := hn41.str); obtain ⟨g41, rfl, -⟩ := hn41)
  (try go_simp)
  refine hK.out _ _ hb41 (fun h => ?_)
  clear h hK K
  refine wpAnyH_narrow (S' := fun w' => Below w41.heap.size w41 w') (fun _ h => below_next hb41 h) _ _ _ _ ?_
  clear b39
  clear b40
  replace hO := hO.still hb41
  replace ba := ba.still hb41
  replace bb := bb.still hb41
  replace bc := bc.still hb41
  replace t31 := t31.still hb41
  replace t32 := t32.still hb41
  replace t34 := t34.still hb41
  replace t36 := t36.still hb41
  replace t38 := t38.still hb41
  replace hw := below_next hw hb41
  clear hb41
  (try simp only [Act.put, List.setIfInBounds_toArray, List.set_cons_zero, List.set_cons_succ])
  refine wpAnyH_take (i := 38) (oi := { dst := some 124, op := Op.convert 22 9 (Operand.tmp 123), type := 9, pos := "law.go:86", after := #[{ on := 37, ground := Ground.data }, { on := 24, ground := Ground.guard }], guard := some (24, true) }) (v := ?vb38) rfl (by kernel_rfl) (by kernel_rfl) (by kernel_rfl) (fun _ _ _ h => h) (Or.inl ⟨by rfl, ?hb38⟩) (Below.refl _ _) ?rb38
  case hb38 =>
    intro w hSw
    have q := t41.conv w hSw
    go_simp
    try with_reducible rfl
  (try simp only [Act.put, List.setIfInBounds_toArray, List.set_cons_zero, List.set_cons_succ])
  refine wpAnyH_take (i := 39) (oi := { dst := some 125, op := Op.binOp BinOp.eql 9 (Operand.tmp 116) (Operand.tmp 124) 9, type := 4, pos := "law.go:86", after := #[{ on := 30, ground := Ground.data }, { on := 38, ground := Ground.data }, { on := 24, ground := Ground.guard }], guard := some (24, true) }) (v := ?vb39) rfl (by kernel_rfl) (by kernel_rfl) (by kernel_rfl) (fun _ _ _ h => h) (Or.inl ⟨by rfl, ?hb39⟩) (Below.refl _ _) ?rb39
  case hb39 =>
    intro w hSw
    go_simp
    try with_reducible rfl
  (try simp only [Act.put, List.setIfInBounds_toArray, List.set_cons_zero, List.set_cons_succ])
  refine wpAnyH_take (i := 40) (oi := { dst := some 126, op := Op.pick (Operand.tmp 110) (Operand.tmp 125) (Operand.const (Value.bool false)), type := 4, pos := "law.go:86", after := #[{ on := 24, ground := Ground.data }, { on := 39, ground := Ground.data }], guard := none }) (v := ?vb40) rfl (by kernel_rfl) (by kernel_rfl) (by kernel_rfl) (fun _ _ _ h => h) (Or.inl ⟨by rfl, ?hb40⟩) (Below.refl _ _) ?rb40
  case hb40 =>
    intro w hSw
    go_simp
    try with_reducible rfl
  (try simp only [Act.put, List.setIfInBounds_toArray, List.set_cons_zero, List.set_cons_succ])
  refine wpAnyH_take (i := 41) (oi := { dst := some 127, op := Op.move (Operand.tmp 126), type := 4, pos := "law.go:86", after := #[{ on := 40, ground := Ground.data }, { on := 37, ground := Ground.chain }], guard := none }) (v := ?vb41) rfl (by kernel_rfl) (by kernel_rfl) (by kernel_rfl) (fun _ _ _ h => h) (Or.inl ⟨by rfl, ?hb41⟩) (Below.refl _ _) ?rb41
  case hb41 =>
    intro w hSw
    go_simp
    try with_reducible rfl
  (try simp only [Act.put, List.setIfInBounds_toArray, List.set_cons_zero, List.set_cons_succ])
  refine wpAnyH_take (i := 42) (oi := { dst := some 128, op := Op.move (Operand.tmp 0), type := 22, pos := "law.go:86", after := #[{ on := 41, ground := Ground.guard }], guard := some (41, true) }) (v := ?vb42) rfl (by kernel_rfl) (by kernel_rfl) (by kernel_rfl) (fun _ _ _ h => h) (Or.inl ⟨by rfl, ?hb42⟩) (Below.refl _ _) ?rb42
  case hb42 =>
    intro w hSw
    go_simp
    try with_reducible rfl
  (try simp only [Act.put, List.setIfInBounds_toArray, List.set_cons_zero, List.set_cons_succ])
  refine wpAnyH_take (i := 43) (oi := { dst := some 129, op := Op.move (Operand.tmp 1), type := 22, pos := "law.go:86", after := #[{ on := 41, ground := Ground.guard }], guard := some (41, true) }) (v := ?vb43) rfl (by kernel_rfl) (by kernel_rfl) (by kernel_rfl) (fun _ _ _ h => h) (Or.inl ⟨by rfl, ?hb43⟩) (Below.refl _ _) ?rb43
  case hb43 =>
    intro w hSw
    go_simp
    try with_reducible rfl
  (try simp only [Act.put, List.setIfInBounds_toArray, List.set_cons_zero, List.set_cons_succ])
  refine wpAnyH_take (i := 46) (oi := { dst := some 132, op := Op.move (Operand.tmp 1), type := 22, pos := "law.go:86", after := #[{ on := 41, ground := Ground.guard }], guard := some (41, true) }) (v := ?vb46) rfl (by kernel_rfl) (by kernel_rfl) (by kernel_rfl) (fun _ _ _ h => h) (Or.inl ⟨by rfl, ?hb46⟩) (Below.refl _ _) ?rb46
  case hb46 =>
    intro w hSw
    go_simp
    try with_reducible rfl
  (try simp only [Act.put, List.setIfInBounds_toArray, List.set_cons_zero, List.set_cons_succ])
  refine wpAnyH_take (i := 47) (oi := { dst := some 133, op := Op.move (Operand.tmp 0), type := 22, pos := "law.go:86", after := #[{ on := 41, ground := Ground.guard }], guard := some (41, true) }) (v := ?vb47) rfl (by kernel_rfl) (by kernel_rfl) (by kernel_rfl) (fun _ _ _ h => h) (Or.inl ⟨by rfl, ?hb47⟩) (Below.refl _ _) ?rb47
  case hb47 =>
    intro w hSw
    go_simp
    try with_reducible rfl
  (try simp only [Act.put, List.setIfInBounds_toArray, List.set_cons_zero, List.set_cons_succ])
  refine wpAnyH_ready (rs := [44]) (by kernel_rfl) (by simp) ?_
  refine AllReadyH.cons (o := { dst := some 130, op := Op.call { callee := Callee.value (Operand.func 22), args := #[Operand.tmp 128, Operand.tmp 129], argTypes := #[22, 22] }, type := 22, pos := "law.go:86", after := #[{ on := 42, ground := Ground.data }, { on := 43, ground := Ground.data }, { on := 41, ground := Ground.chain }, { on := 41, ground := Ground.guard }], guard := some (41, true) }) rfl (fun K hK => ?_) AllReadyH.nil
  go_simp
  (go_at_call 22; refine (aAB _ _ _ hO ba bb).mono ?_; rintro e w42 ⟨s42, rfl, hn42, hb42⟩; (have t42 := hn42.str); obtain ⟨g42, rfl, -⟩ := hn42)
  (try go_simp)
  refine hK.out _ _ hb42 (fun h => ?_)
  clear h hK K
  refine wpAnyH_narrow (S' := fun w' => Below w42.heap.size w42 w') (fun _ h => below_next hb42 h) _ _ _ _ ?_
  replace hO := hO.still hb42
  replace ba := ba.still hb42
  replace bb := bb.still hb42
  replace bc := bc.still hb42
  replace t31 := t31.still hb42
  replace t32 := t32.still hb42
  replace t34 := t34.still hb42
  replace t36 := t36.still hb42
  replace t38 := t38.still hb42
  replace t41 := t41.still hb42
  replace hw := below_next hw hb42
  clear hb42
  (try simp only [Act.put, List.setIfInBounds_toArray, List.set_cons_zero, List.set_cons_succ])
  refine wpAnyH_take (i := 45) (oi := { dst := some 131, op := Op.convert 22 9 (Operand.tmp 130), type := 9, pos := "law.go:86", after := #[{ on := 44, ground := Ground.data }, { on := 41, ground := Ground.guard }], guard := some (41, true) }) (v := ?vb45) rfl (by kernel_rfl) (by kernel_rfl) (by kernel_rfl) (fun _ _ _ h => h) (Or.inl ⟨by rfl, ?hb45⟩) (Below.refl _ _) ?rb45
  case hb45 =>
    intro w hSw
    have q := t42.conv w hSw
    go_simp
    try with_reducible rfl
  (try simp only [Act.put, List.setIfInBounds_toArray, List.set_cons_zero, List.set_cons_succ])
  refine wpAnyH_ready (rs := [48]) (by kernel_rfl) (by simp) ?_
  refine AllReadyH.cons (o := { dst := some 134, op := Op.call { callee := Callee.value (Operand.func 22), args := #[Operand.tmp 132, Operand.tmp 133], argTypes := #[22, 22] }, type := 22, pos := "law.go:86", after := #[{ on := 46, ground := Ground.data }, { on := 47, ground := Ground.data }, { on := 44, ground := Ground.chain }, { on := 41, ground := Ground.guard }], guard := some (41, true) }) rfl (fun K hK => ?_) AllReadyH.nil
  go_simp
  (go_at_call 22; refine (aBA _ _ _ hO bb ba).mono ?_; rintro e w43 ⟨s43, rfl, hn43, hb43⟩; (have t43 := hn43.str); obtain ⟨g43, rfl, -⟩ := hn43)
  (try go_simp)
  refine hK.out _ _ hb43 (fun h => ?_)
  clear h hK K
  refine wpAnyH_narrow (S' := fun w' => Below w43.heap.size w43 w') (fun _ h => below_next hb43 h) _ _ _ _ ?_
  replace hO := hO.still hb43
  replace ba := ba.still hb43
  replace bb := bb.still hb43
  replace bc := bc.still hb43
  replace t31 := t31.still hb43
  replace t32 := t32.still hb43
  replace t34 := t34.still hb43
  replace t36 := t36.still hb43
  replace t38 := t38.still hb43
  replace t41 := t41.still hb43
  replace t42 := t42.still hb43
  replace hw := below_next hw hb43
  clear hb43
  (try simp only [Act.put, List.setIfInBounds_toArray, List.set_cons_zero, List.set_cons_succ])
  refine wpAnyH_take (i := 49) (oi := { dst := some 135, op := Op.convert 22 9 (Operand.tmp 134), type := 9, pos := "law.go:86", after := #[{ on := 48, ground := Ground.data }, { on := 41, ground := Ground.guard }], guard := some (41, true) }) (v := ?vb49) rfl (by kernel_rfl) (by kernel_rfl) (by kernel_rfl) (fun _ _ _ h => h) (Or.inl ⟨by rfl, ?hb49⟩) (Below.refl _ _) ?rb49
  case hb49 =>
    intro w hSw
    have q := t43.conv w hSw
    go_simp
    try with_reducible rfl
  (try simp only [Act.put, List.setIfInBounds_toArray, List.set_cons_zero, List.set_cons_succ])
  refine wpAnyH_take (i := 50) (oi := { dst := some 136, op := Op.binOp BinOp.eql 9 (Operand.tmp 131) (Operand.tmp 135) 9, type := 4, pos := "law.go:86", after := #[{ on := 45, ground := Ground.data }, { on := 49, ground := Ground.data }, { on := 41, ground := Ground.guard }], guard := some (41, true) }) (v := ?vb50) rfl (by kernel_rfl) (by kernel_rfl) (by kernel_rfl) (fun _ _ _ h => h) (Or.inl ⟨by rfl, ?hb50⟩) (Below.refl _ _) ?rb50
  case hb50 =>
    intro w hSw
    go_simp
    try with_reducible rfl
  (try simp only [Act.put, List.setIfInBounds_toArray, List.set_cons_zero, List.set_cons_succ])
  refine wpAnyH_take (i := 51) (oi := { dst := some 137, op := Op.pick (Operand.tmp 127) (Operand.tmp 136) (Operand.const (Value.bool false)), type := 4, pos := "law.go:86", after := #[{ on := 41, ground := Ground.data }, { on := 50, ground := Ground.data }], guard := none }) (v := ?vb51) rfl (by kernel_rfl) (by kernel_rfl) (by kernel_rfl) (fun _ _ _ h => h) (Or.inl ⟨by rfl, ?hb51⟩) (Below.refl _ _) ?rb51
  case hb51 =>
    intro w hSw
    go_simp
    try with_reducible rfl
  (try simp only [Act.put, List.setIfInBounds_toArray, List.set_cons_zero, List.set_cons_succ])
  refine wpAnyH_take (i := 52) (oi := { dst := some 6, op := Op.assign (Operand.tmp 137), type := 4, pos := "law.go:86", after := #[{ on := 51, ground := Ground.data }, { on := 48, ground := Ground.chain }, { on := 0, ground := Ground.phase }, { on := 1, ground := Ground.phase }, { on := 2, ground := Ground.phase }, { on := 3, ground := Ground.phase }, { on := 4, ground := Ground.phase }, { on := 5, ground := Ground.phase }, { on := 6, ground := Ground.phase }, { on := 7, ground := Ground.phase }, { on := 8, ground := Ground.phase }, { on := 9, ground := Ground.phase }, { on := 10, ground := Ground.phase }, { on := 11, ground := Ground.phase }, { on := 12, ground := Ground.phase }, { on := 13, ground := Ground.phase }, { on := 14, ground := Ground.phase }, { on := 15, ground := Ground.phase }, { on := 16, ground := Ground.phase }, { on := 17, ground := Ground.phase }, { on := 18, ground := Ground.phase }, { on := 19, ground := Ground.phase }, { on := 20, ground := Ground.phase }, { on := 21, ground := Ground.phase }, { on := 22, ground := Ground.phase }, { on := 23, ground := Ground.phase }, { on := 24, ground := Ground.phase }, { on := 25, ground := Ground.phase }, { on := 26, ground := Ground.phase }, { on := 27, ground := Ground.phase }, { on := 28, ground := Ground.phase }, { on := 29, ground := Ground.phase }, { on := 30, ground := Ground.phase }, { on := 31, ground := Ground.phase }, { on := 32, ground := Ground.phase }, { on := 33, ground := Ground.phase }, { on := 34, ground := Ground.phase }, { on := 35, ground := Ground.phase }, { on := 36, ground := Ground.phase }, { on := 37, ground := Ground.phase }, { on := 38, ground := Ground.phase }, { on := 39, ground := Ground.phase }, { on := 40, ground := Ground.phase }, { on := 41, ground := Ground.phase }, { on := 42, ground := Ground.phase }, { on := 43, ground := Ground.phase }, { on := 44, ground := Ground.phase }, { on := 45, ground := Ground.phase }, { on := 46, ground := Ground.phase }, { on := 47, ground := Ground.phase }, { on := 48, ground := Ground.phase }, { on := 49, ground := Ground.phase }, { on := 50, ground := Ground.phase }, { on := 51, ground := Ground.phase }], guard := none }) (v := ?vb52) rfl (by kernel_rfl) (by kernel_rfl) (by kernel_rfl) (fun _ _ _ h => h) (Or.inl ⟨by rfl, ?hb52⟩) (Below.refl _ _) ?rb52
  case hb52 =>
    intro w hSw
    go_simp
    try with_reducible rfl
  (try simp only [Act.put, List.setIfInBounds_toArray, List.set_cons_zero, List.set_cons_succ])
  refine wpAnyH_done (by kernel_rfl) ?_ _
  refine NoPanic.normal ?_
  go_wp2
  go_ret
  exact ⟨rfl, hw⟩
end Go.Proofs.YtmehhjogddpkgaaDoor
