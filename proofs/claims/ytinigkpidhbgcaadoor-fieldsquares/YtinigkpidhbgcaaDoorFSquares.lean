/- The walk of the law FieldSquares in the model. -/
import Derived.Test.YtinigkpidhbgcaaDoorFRoots
import Derived.Test.YtinigkpidhbgcaaDoorFMulN
import Derived.Test.YtinigkpidhbgcaaDoorSqMath
namespace Go.Proofs.YtinigkpidhbgcaaDoor
open Go.RowKit
/-- A byte in memory. -/
structure B0 (w : World) (g o b : Nat) : Prop where
  c : w.cell? ⟨g, o, none⟩ = some (.int .u8 (b : Int))
  lt : g < w.heap.size
theorem B0.still {w w' : World} {g o b : Nat} (h : B0 w g o b) (hb : Below w.heap.size w w') : B0 w' g o b := ⟨(hb.cell (p := ⟨g, o, none⟩) h.lt).trans h.c, Nat.lt_of_lt_of_le h.lt hb.size⟩
theorem NewB.first {w w' : World} {g : Nat} {X : Nat → Nat} (h : NewB w w' (.slice (some ⟨g, 0, none⟩) 32 32) 32 X) : B0 w' g 0 (X 0) := by
  obtain ⟨g', e, -, hr⟩ := h
  obtain rfl : g = g' := by injection e with e; injection e with e; injection e
  exact ⟨(hr 0 (by decide)).1, block_lt_of_cell (hr 0 (by decide)).1⟩
theorem diff_zero {p x y : Nat} (hx : x < p) (hy : y < p) : decide ((x + p - y) % p = 0) = decide (x = y) := by
  rcases Nat.lt_trichotomy x y with h | h | h
  · rw [Nat.mod_eq_of_lt (by omega), decide_eq_false (by omega), decide_eq_false (by omega)]
  · subst h
    rw [Nat.add_sub_cancel_left, Nat.mod_self, decide_eq_true rfl, decide_eq_true rfl]
  · rw [show x + p - y = (x - y) + p by omega, Nat.add_mod_right, Nat.mod_eq_of_lt (by omega), decide_eq_false (by omega), decide_eq_false (by omega)]
set_option maxRecDepth 20000 in
set_option maxHeartbeats 16000000 in
theorem fieldSquares_any (a b : Value) (n m : Nat) (ds bs : Nat → Nat) (hds : ∀ j, ds j < 256) (hbs : ∀ j, bs j < 256) (w : World) (im : IM w) (ha : BytesIn w a n ds) (hb : BytesIn w b m bs) :
    Calls Tryd.prog 4 #[a, b] w fun e w' => e = .returned (.bool true) ∧ Below w.heap.size w w' := by
  have cf1 := fit_any a n ds w ha
  have cf2 := fun W (h : Below w.heap.size w W) => fit_any b m bs W (hb.still h)
  have hA := fitB_lt hds (n := n)
  have hB := fitB_lt hbs (n := m)
  obtain ⟨xa, ka, rfl, -⟩ := ha.src
  obtain ⟨xb, kb, rfl, -⟩ := hb.src
  clear ha hb
  generalize fitB n ds = A at *
  generalize fitB m bs = B at *
  clear hds hbs
  have hU : ofB A 32 % pF < pF := Nat.mod_lt _ pF_pos
  have hV : ofB B 32 % pF < pF := Nat.mod_lt _ pF_pos
  have e0 : ofB (byt 0) 32 % pF = 0 := by kernel_rfl
  have e1 : ofB (byt 1) 32 % pF = 1 := by kernel_rfl
  have cR := fun x y W hi hx hy => froot_good x y A B hA hB W hi hx hy
  have hsame := root_same kP_eq hU hV
  have hNl := rootR_lt kP (ofB A 32 % pF) (ofB B 32 % pF)
  have hSl : (ofB A 32 % pF) * (ofB A 32 % pF) % pF < pF := Nat.mod_lt _ pF_pos
  obtain ⟨M, hM⟩ : ∃ M, rootP kP ((ofB A 32 % pF) * (ofB A 32 % pF) % pF) 1 = some M := Option.isSome_iff_exists.1 (root_found kP_eq hU)
  have hM2 := (root_is hSl hM).1
  have hMl : M < pF := by
    have h := rootR_lt kP ((ofB A 32 % pF) * (ofB A 32 % pF) % pF) 1
    rw [← root_same kP_eq hSl (by decide), hM] at h
    exact h
  have cR2 : ∀ x y W, IM W → BytesIn W x 32 (byt ((ofB A 32 % pF) * (ofB A 32 % pF) % pF)) → BytesIn W y 32 (byt 1) → Calls Tryd.prog 6 #[x, y] W fun e w' => ∃ s, e = .returned (.tuple #[s, .bool true, .int .i64 0]) ∧ NewB W w' s 32 (byt M) ∧ Below W.heap.size W w' := fun x y W hi hx hy => by
    have h := froot_good x y _ (byt 1) (byt_all _) (byt_all 1) W hi hx hy
    rw [ofB_restF, e1, hM] at h
    exact h
  have mYY := fun W x y hx hy => mul3_N x y (byt M) (byt M) ((ofB A 32 % pF) * (ofB A 32 % pF) % pF) (byt_all M) (byt_all M) (by rw [ofB_low hMl]; rw [Nat.mul_one, Nat.mod_mod] at hM2; exact hM2) W hx hy
  have mUU := fun W x y hx hy => mul3_N x y A A ((ofB A 32 % pF) * (ofB A 32 % pF) % pF) hA hA rfl W hx hy
  have aU := fun W x y hx hy => add3_N x y A (byt 0) (ofB A 32 % pF) hA (byt_all 0) (by rw [e0, Nat.add_zero, Nat.mod_mod]) W hx hy
  have aV := fun W x y hx hy => add3_N x y B (byt 0) (ofB B 32 % pF) hB (byt_all 0) (by rw [e0, Nat.add_zero, Nat.mod_mod]) W hx hy
  have sUV := fun W x y hx hy => sub3_N x y A B ((ofB A 32 % pF + pF - ofB B 32 % pF) % pF) hA hB rfl W hx hy
  have hDl : (ofB A 32 % pF + pF - ofB B 32 % pF) % pF < pF := Nat.mod_lt _ pF_pos
  obtain ⟨z, hz⟩ : ∃ z, z = decide (ofB A 32 % pF = ofB B 32 % pF) := ⟨_, rfl⟩
  have q1 : ((strB 32 (byt ((ofB A 32 % pF + pF - ofB B 32 % pF) % pF))).toList == (strB 32 (byt 0)).toList) = z := by
    rw [strN_eq hDl pF_pos, diff_zero hU hV, hz]
  have q2 : ((strB 32 (byt (ofB A 32 % pF))).toList == (strB 32 (byt (ofB B 32 % pF))).toList) = z := by
    rw [strN_eq hU hV, hz]
  have mXX := fun (N : Nat) (hN : N < pF) W x y hx hy => mul3_N x y (byt N) (byt N) (N * N % pF) (byt_all N) (byt_all N) (by rw [ofB_low hN]) W hx hy
  have mXV := fun (N : Nat) (h : N * N % pF * (ofB B 32 % pF) % pF = ofB A 32 % pF) W x y hx hy => mul3_N x y (byt (N * N % pF)) B (ofB A 32 % pF) (byt_all _) hB (by rw [ofB_restF]; exact h) W hx hy
  have c0 : ∀ W, Calls Tryd.prog 14 #[.int .u8 0] W fun e w' => ∃ s, e = .returned s ∧ NewB W w' s 32 (byt 0) ∧ Below W.heap.size W w' := fun W => small_any 0 (by decide) W
  have c1 : ∀ W, Calls Tryd.prog 14 #[.int .u8 1] W fun e w' => ∃ s, e = .returned s ∧ NewB W w' s 32 (byt 1) ∧ Below W.heap.size W w' := fun W => small_any 1 (by decide) W
  have hk := fun W => knows3_any W
  rw [← hsame] at hNl
  have hN : ∃ (N : Nat) (ok : Bool), (∀ x y W, IM W → BytesIn W x 32 A → BytesIn W y 32 B → Calls Tryd.prog 6 #[x, y] W fun e w' => ∃ s, e = .returned (.tuple #[s, .bool ok, .int .i64 0]) ∧ NewB W w' s 32 (byt N) ∧ Below W.heap.size W w') ∧ N < pF ∧ (ok = true → N * N % pF * (ofB B 32 % pF) % pF = ofB A 32 % pF ∧ ((byt N 0 : Nat) : Int) % 2 = 0) := by
    refine ⟨_, _, cR, hNl, fun hok => ?_⟩
    obtain ⟨r, hr⟩ := Option.isSome_iff_exists.1 hok
    rw [hr]
    obtain ⟨h1, h2⟩ := root_is hU hr
    have h3 := byt0_mod r
    exact ⟨h1, by show ((byt r 0 : Nat) : Int) % 2 = 0; omega⟩
  clear cR hsame hNl hM hM2 hSl hMl hDl hz e0 e1
  obtain ⟨N, ok, cR, hNl, hok⟩ := hN
  replace mXX := mXX N hNl
  replace mXV := mXV N
  generalize (ofB A 32 % pF) * (ofB A 32 % pF) % pF = nS at *
  generalize (ofB A 32 % pF + pF - ofB B 32 % pF) % pF = nD at *
  generalize ofB A 32 % pF = nU at *
  generalize ofB B 32 % pF = nV at *
  clear hA hB hU hV hNl
  go_enter Tryd.func4, Tryd.ntmps4
  go_upto_region 6 with (first
    | (go_at_call 11; refine cf1.mono ?_; clear cf1; rintro e w1 ⟨s1, rfl, hn1, hb1⟩; (have ba := hn1.bytes (by decide)); obtain ⟨g1, rfl, -⟩ := hn1; replace cf2 := cf2 w1 hb1)
    | (go_at_call 11; refine cf2.mono ?_; clear cf2; rintro e w2 ⟨s2, rfl, hn2, hb2⟩; (have bb := hn2.bytes (by decide)); obtain ⟨g2, rfl, -⟩ := hn2; (have hw := below_next hb1 hb2); replace ba := ba.still hb2; clear hb1 hb2; replace im := im.still hw; replace cR := cR _ _ w2 im ba bb)
    | (go_at_call 6; refine cR.mono ?_; clear cR; rintro e w3 ⟨s3, rfl, hn3, hb3⟩; (have bx := hn3.bytes (by decide)); (obtain ⟨g3, hs3⟩ : ∃ g3, s3 = .slice (some ⟨g3, 0, none⟩) 32 32 := by (obtain ⟨g3, e, -⟩ := hn3; exact ⟨g3, e⟩)); subst hs3; (have cx := hn3.first); clear hn3; replace hw := below_next hw hb3; replace ba := ba.still hb3; replace bb := bb.still hb3; replace im := im.still hb3; clear hb3)
    | (go_at_call 8; refine (num3_any _ _).mono ?_; rintro e wn ⟨rfl, hwn⟩; subst hwn)
    | (go_at_call 10; refine (hk _).mono ?_; clear hk; rintro e w6 ⟨rfl, hb6⟩; replace hw := below_next hw hb6; replace ba := ba.still hb6; replace bb := bb.still hb6; replace bx := bx.still hb6; replace cx := cx.still hb6; replace im := im.still hb6; clear hb6))
  (try simp only [Act.put, List.setIfInBounds_toArray, List.set_cons_zero, List.set_cons_succ])
  cases ok with
  | true =>
    obtain ⟨hX, hev⟩ := hok rfl
    clear hok
    replace mXV := mXV hX
    clear hX
    have hev2 : (((byt N 0 : Nat) : Int).tmod 2 != 0) = false := by rw [Int.tmod_eq_emod_of_nonneg (by omega), hev]; rfl
    clear hev
    have hdrew : Below w6.heap.size w6 w6.drew := (Below.refl _ _).drew
    replace ba := ba.still hdrew
    replace bb := bb.still hdrew
    replace bx := bx.still hdrew
    replace cx := cx.still hdrew
    replace im := im.still hdrew
    replace hw := below_next hw hdrew
    clear hdrew
    refine wp_region_noPanic ?_
    refine wp_region_held_drew (S := fun w' => Below w6.drew.heap.size w6.drew w') (by kernel_rfl) (Below.refl _ _) (fun hHeld => ?_)
    clear hHeld
    refine wpAnyH_take (i := 0) (oi := { dst := some 35, op := Op.move (Operand.tmp 6), type := 4, pos := "law.go:136", after := #[], guard := none }) (v := ?vsa0) rfl (by kernel_rfl) (by kernel_rfl) (by kernel_rfl) (fun _ _ _ h => h) (Or.inl ⟨by rfl, ?hsa0⟩) (Below.refl _ _) ?rsa0
    case hsa0 =>
      intro w hSw
      go_simp
      try with_reducible rfl
    (try simp only [Act.put, List.setIfInBounds_toArray, List.set_cons_zero, List.set_cons_succ])
    refine wpAnyH_take (i := 1) (oi := { dst := some 36, op := Op.move (Operand.tmp 35), type := 4, pos := "law.go:136", after := #[{ on := 0, ground := Ground.data }], guard := none }) (v := ?vsa1) rfl (by kernel_rfl) (by kernel_rfl) (by kernel_rfl) (fun _ _ _ h => h) (Or.inl ⟨by rfl, ?hsa1⟩) (Below.refl _ _) ?rsa1
    case hsa1 =>
      intro w hSw
      go_simp
      try with_reducible rfl
    (try simp only [Act.put, List.setIfInBounds_toArray, List.set_cons_zero, List.set_cons_succ])
    refine wpAnyH_take (i := 2) (oi := { dst := some 37, op := Op.move (Operand.tmp 5), type := 22, pos := "law.go:136", after := #[{ on := 1, ground := Ground.guard }], guard := some (1, true) }) (v := ?vsa2) rfl (by kernel_rfl) (by kernel_rfl) (by kernel_rfl) (fun _ _ _ h => h) (Or.inl ⟨by rfl, ?hsa2⟩) (Below.refl _ _) ?rsa2
    case hsa2 =>
      intro w hSw
      go_simp
      try with_reducible rfl
    (try simp only [Act.put, List.setIfInBounds_toArray, List.set_cons_zero, List.set_cons_succ])
    refine wpAnyH_take (i := 3) (oi := { dst := some 38, op := Op.move (Operand.tmp 5), type := 22, pos := "law.go:136", after := #[{ on := 1, ground := Ground.guard }], guard := some (1, true) }) (v := ?vsa3) rfl (by kernel_rfl) (by kernel_rfl) (by kernel_rfl) (fun _ _ _ h => h) (Or.inl ⟨by rfl, ?hsa3⟩) (Below.refl _ _) ?rsa3
    case hsa3 =>
      intro w hSw
      go_simp
      try with_reducible rfl
    (try simp only [Act.put, List.setIfInBounds_toArray, List.set_cons_zero, List.set_cons_succ])
    refine wpAnyH_take (i := 5) (oi := { dst := some 40, op := Op.move (Operand.tmp 1), type := 22, pos := "law.go:136", after := #[{ on := 1, ground := Ground.guard }], guard := some (1, true) }) (v := ?vsa5) rfl (by kernel_rfl) (by kernel_rfl) (by kernel_rfl) (fun _ _ _ h => h) (Or.inl ⟨by rfl, ?hsa5⟩) (Below.refl _ _) ?rsa5
    case hsa5 =>
      intro w hSw
      go_simp
      try with_reducible rfl
    (try simp only [Act.put, List.setIfInBounds_toArray, List.set_cons_zero, List.set_cons_succ])
    refine wpAnyH_take (i := 8) (oi := { dst := some 43, op := Op.move (Operand.tmp 0), type := 22, pos := "law.go:136", after := #[{ on := 1, ground := Ground.guard }], guard := some (1, true) }) (v := ?vsa8) rfl (by kernel_rfl) (by kernel_rfl) (by kernel_rfl) (fun _ _ _ h => h) (Or.inl ⟨by rfl, ?hsa8⟩) (Below.refl _ _) ?rsa8
    case hsa8 =>
      intro w hSw
      go_simp
      try with_reducible rfl
    (try simp only [Act.put, List.setIfInBounds_toArray, List.set_cons_zero, List.set_cons_succ])
    refine wpAnyH_ready (rs := [4]) (by kernel_rfl) (by simp) ?_
    refine AllReadyH.cons (o := { dst := some 39, op := Op.call { callee := Callee.value (Operand.func 12), args := #[Operand.tmp 37, Operand.tmp 38], argTypes := #[22, 22] }, type := 22, pos := "law.go:136", after := #[{ on := 2, ground := Ground.data }, { on := 3, ground := Ground.data }, { on := 1, ground := Ground.chain }, { on := 1, ground := Ground.guard }], guard := some (1, true) }) rfl (fun K hK => ?_) AllReadyH.nil
    go_simp
    (go_at_call 12; refine (mXX _ _ _ bx bx).mono ?_; rintro e w21 ⟨s21, rfl, hn21, hb21⟩; (have b21 := hn21.bytes (by decide)); obtain ⟨g21, rfl, -⟩ := hn21)
    (try go_simp)
    refine hK.out _ _ hb21 (fun h => ?_)
    clear h hK K
    refine wpAnyH_narrow (S' := fun w' => Below w21.heap.size w21 w') (fun _ h => below_next hb21 h) _ _ _ _ ?_
    replace ba := ba.still hb21
    replace bb := bb.still hb21
    replace bx := bx.still hb21
    replace cx := cx.still hb21
    replace im := im.still hb21
    replace hw := below_next hw hb21
    clear hb21
    (try simp only [Act.put, List.setIfInBounds_toArray, List.set_cons_zero, List.set_cons_succ])
    refine wpAnyH_ready (rs := [6]) (by kernel_rfl) (by simp) ?_
    refine AllReadyH.cons (o := { dst := some 41, op := Op.call { callee := Callee.value (Operand.func 12), args := #[Operand.tmp 39, Operand.tmp 40], argTypes := #[22, 22] }, type := 22, pos := "law.go:136", after := #[{ on := 4, ground := Ground.data }, { on := 5, ground := Ground.data }, { on := 4, ground := Ground.chain }, { on := 1, ground := Ground.guard }], guard := some (1, true) }) rfl (fun K hK => ?_) AllReadyH.nil
    go_simp
    (go_at_call 12; refine (mXV _ _ _ b21 bb).mono ?_; rintro e w22 ⟨s22, rfl, hn22, hb22⟩; (have t22 := hn22.str); obtain ⟨g22, rfl, -⟩ := hn22)
    (try go_simp)
    refine hK.out _ _ hb22 (fun h => ?_)
    clear h hK K
    refine wpAnyH_narrow (S' := fun w' => Below w22.heap.size w22 w') (fun _ h => below_next hb22 h) _ _ _ _ ?_
    clear b21
    replace ba := ba.still hb22
    replace bb := bb.still hb22
    replace bx := bx.still hb22
    replace cx := cx.still hb22
    replace im := im.still hb22
    replace hw := below_next hw hb22
    clear hb22
    (try simp only [Act.put, List.setIfInBounds_toArray, List.set_cons_zero, List.set_cons_succ])
    refine wpAnyH_take (i := 7) (oi := { dst := some 42, op := Op.convert 22 9 (Operand.tmp 41), type := 9, pos := "law.go:136", after := #[{ on := 6, ground := Ground.data }, { on := 1, ground := Ground.guard }], guard := some (1, true) }) (v := ?vsa7) rfl (by kernel_rfl) (by kernel_rfl) (by kernel_rfl) (fun _ _ _ h => h) (Or.inl ⟨by rfl, ?hsa7⟩) (Below.refl _ _) ?rsa7
    case hsa7 =>
      intro w hSw
      have q := t22.conv w hSw
      go_simp
      try with_reducible rfl
    (try simp only [Act.put, List.setIfInBounds_toArray, List.set_cons_zero, List.set_cons_succ])
    refine wpAnyH_ready (rs := [9]) (by kernel_rfl) (by simp) ?_
    refine AllReadyH.cons (o := { dst := some 44, op := Op.call { callee := Callee.value (Operand.func 14), args := #[Operand.const (Value.int IntKind.u8 0)], argTypes := #[5] }, type := 22, pos := "law.go:136", after := #[{ on := 6, ground := Ground.chain }, { on := 1, ground := Ground.guard }], guard := some (1, true) }) rfl (fun K hK => ?_) AllReadyH.nil
    go_simp
    (go_at_call 14; refine (c0 _).mono ?_; rintro e w23 ⟨s23, rfl, hn23, hb23⟩; (have b23 := hn23.bytes (by decide)); obtain ⟨g23, rfl, -⟩ := hn23)
    (try go_simp)
    refine hK.out _ _ hb23 (fun h => ?_)
    clear h hK K
    refine wpAnyH_narrow (S' := fun w' => Below w23.heap.size w23 w') (fun _ h => below_next hb23 h) _ _ _ _ ?_
    replace ba := ba.still hb23
    replace bb := bb.still hb23
    replace bx := bx.still hb23
    replace cx := cx.still hb23
    replace im := im.still hb23
    replace t22 := t22.still hb23
    replace hw := below_next hw hb23
    clear hb23
    (try simp only [Act.put, List.setIfInBounds_toArray, List.set_cons_zero, List.set_cons_succ])
    refine wpAnyH_ready (rs := [10]) (by kernel_rfl) (by simp) ?_
    refine AllReadyH.cons (o := { dst := some 45, op := Op.call { callee := Callee.value (Operand.func 13), args := #[Operand.tmp 43, Operand.tmp 44], argTypes := #[22, 22] }, type := 22, pos := "law.go:136", after := #[{ on := 8, ground := Ground.data }, { on := 9, ground := Ground.data }, { on := 9, ground := Ground.chain }, { on := 1, ground := Ground.guard }], guard := some (1, true) }) rfl (fun K hK => ?_) AllReadyH.nil
    go_simp
    (go_at_call 13; refine (aU _ _ _ ba b23).mono ?_; rintro e w24 ⟨s24, rfl, hn24, hb24⟩; (have t24 := hn24.str); obtain ⟨g24, rfl, -⟩ := hn24)
    (try go_simp)
    refine hK.out _ _ hb24 (fun h => ?_)
    clear h hK K
    refine wpAnyH_narrow (S' := fun w' => Below w24.heap.size w24 w') (fun _ h => below_next hb24 h) _ _ _ _ ?_
    clear b23
    replace ba := ba.still hb24
    replace bb := bb.still hb24
    replace bx := bx.still hb24
    replace cx := cx.still hb24
    replace im := im.still hb24
    replace t22 := t22.still hb24
    replace hw := below_next hw hb24
    clear hb24
    (try simp only [Act.put, List.setIfInBounds_toArray, List.set_cons_zero, List.set_cons_succ])
    refine wpAnyH_take (i := 11) (oi := { dst := some 46, op := Op.convert 22 9 (Operand.tmp 45), type := 9, pos := "law.go:136", after := #[{ on := 10, ground := Ground.data }, { on := 1, ground := Ground.guard }], guard := some (1, true) }) (v := ?vsa11) rfl (by kernel_rfl) (by kernel_rfl) (by kernel_rfl) (fun _ _ _ h => h) (Or.inl ⟨by rfl, ?hsa11⟩) (Below.refl _ _) ?rsa11
    case hsa11 =>
      intro w hSw
      have q := t24.conv w hSw
      go_simp
      try with_reducible rfl
    (try simp only [Act.put, List.setIfInBounds_toArray, List.set_cons_zero, List.set_cons_succ])
    refine wpAnyH_take (i := 12) (oi := { dst := some 47, op := Op.binOp BinOp.neq 9 (Operand.tmp 42) (Operand.tmp 46) 9, type := 4, pos := "law.go:136", after := #[{ on := 7, ground := Ground.data }, { on := 11, ground := Ground.data }, { on := 1, ground := Ground.guard }], guard := some (1, true) }) (v := ?vsa12) rfl (by kernel_rfl) (by kernel_rfl) (by kernel_rfl) (fun _ _ _ h => h) (Or.inl ⟨by rfl, ?hsa12⟩) (Below.refl _ _) ?rsa12
    case hsa12 =>
      intro w hSw
      go_simp
      try with_reducible rfl
    (try simp only [Act.put, List.setIfInBounds_toArray, List.set_cons_zero, List.set_cons_succ])
    refine wpAnyH_take (i := 13) (oi := { dst := some 48, op := Op.move (Operand.tmp 47), type := 4, pos := "law.go:136", after := #[{ on := 12, ground := Ground.data }, { on := 10, ground := Ground.chain }, { on := 1, ground := Ground.guard }], guard := some (1, true) }) (v := ?vsa13) rfl (by kernel_rfl) (by kernel_rfl) (by kernel_rfl) (fun _ _ _ h => h) (Or.inl ⟨by rfl, ?hsa13⟩) (Below.refl _ _) ?rsa13
    case hsa13 =>
      intro w hSw
      go_simp
      try with_reducible rfl
    (try simp only [Act.put, List.setIfInBounds_toArray, List.set_cons_zero, List.set_cons_succ])
    refine wpAnyH_take (i := 14) (oi := { dst := some 49, op := Op.move (Operand.tmp 5), type := 22, pos := "law.go:136", after := #[{ on := 13, ground := Ground.guard }], guard := some (13, false) }) (v := ?vsa14) rfl (by kernel_rfl) (by kernel_rfl) (by kernel_rfl) (fun _ _ _ h => h) (Or.inl ⟨by rfl, ?hsa14⟩) (Below.refl _ _) ?rsa14
    case hsa14 =>
      intro w hSw
      go_simp
      try with_reducible rfl
    (try simp only [Act.put, List.setIfInBounds_toArray, List.set_cons_zero, List.set_cons_succ])
    refine wpAnyH_take (i := 15) (oi := { dst := some 50, op := Op.indexAddr 22 (Operand.tmp 49) (Operand.const (Value.int IntKind.i64 0)), type := 0, pos := "law.go:136", after := #[{ on := 14, ground := Ground.data }, { on := 13, ground := Ground.guard }], guard := some (13, false) }) (v := ?vsa15) rfl (by kernel_rfl) (by kernel_rfl) (by kernel_rfl) (fun _ _ _ h => h) (Or.inl ⟨by rfl, ?hsa15⟩) (Below.refl _ _) ?rsa15
    case hsa15 =>
      intro w hSw
      go_simp
      try with_reducible rfl
    (try simp only [Act.put, List.setIfInBounds_toArray, List.set_cons_zero, List.set_cons_succ])
    refine wpAnyH_take (i := 16) (oi := { dst := some 51, op := Op.load 5 (Operand.tmp 50), type := 5, pos := "law.go:136", after := #[{ on := 15, ground := Ground.data }, { on := 13, ground := Ground.guard }], guard := some (13, false) }) (v := ?vsa16) rfl (by kernel_rfl) (by kernel_rfl) (by kernel_rfl) (fun _ _ _ h => h) (Or.inl ⟨by rfl, ?hsa16⟩) (Below.refl _ _) ?rsa16
    case hsa16 =>
      intro w hSw
      have q := (cx.still hSw).c
      go_simp
      try with_reducible rfl
    (try simp only [Act.put, List.setIfInBounds_toArray, List.set_cons_zero, List.set_cons_succ])
    refine wpAnyH_take (i := 17) (oi := { dst := some 52, op := Op.binOp BinOp.rem 5 (Operand.tmp 51) (Operand.const (Value.int IntKind.u8 2)) 5, type := 5, pos := "law.go:136", after := #[{ on := 16, ground := Ground.data }, { on := 13, ground := Ground.guard }], guard := some (13, false) }) (v := ?vsa17) rfl (by kernel_rfl) (by kernel_rfl) (by kernel_rfl) (fun _ _ _ h => h) (Or.inl ⟨by rfl, ?hsa17⟩) (Below.refl _ _) ?rsa17
    case hsa17 =>
      intro w hSw
      go_simp
      try with_reducible rfl
    (try simp only [Act.put, List.setIfInBounds_toArray, List.set_cons_zero, List.set_cons_succ])
    refine wpAnyH_take (i := 18) (oi := { dst := some 53, op := Op.binOp BinOp.neq 5 (Operand.tmp 52) (Operand.const (Value.int IntKind.u8 0)) 5, type := 4, pos := "law.go:136", after := #[{ on := 17, ground := Ground.data }, { on := 13, ground := Ground.guard }], guard := some (13, false) }) (v := ?vsa18) rfl (by kernel_rfl) (by kernel_rfl) (by kernel_rfl) (fun _ _ _ h => h) (Or.inl ⟨by rfl, ?hsa18⟩) (Below.refl _ _) ?rsa18
    case hsa18 =>
      intro w hSw
      go_simp
      try with_reducible rfl
    (try simp only [Act.put, List.setIfInBounds_toArray, List.set_cons_zero, List.set_cons_succ])
    refine wpAnyH_take (i := 19) (oi := { dst := some 54, op := Op.pick (Operand.tmp 48) (Operand.const (Value.bool true)) (Operand.tmp 53), type := 4, pos := "law.go:136", after := #[{ on := 13, ground := Ground.data }, { on := 18, ground := Ground.data }, { on := 1, ground := Ground.guard }], guard := some (1, true) }) (v := ?vsa19) rfl (by kernel_rfl) (by kernel_rfl) (by kernel_rfl) (fun _ _ _ h => h) (Or.inl ⟨by rfl, ?hsa19⟩) (Below.refl _ _) ?rsa19
    case hsa19 =>
      intro w hSw
      go_simp
      try with_reducible rfl
    (try simp only [Act.put, List.setIfInBounds_toArray, List.set_cons_zero, List.set_cons_succ])
    refine wpAnyH_take (i := 20) (oi := { dst := some 55, op := Op.pick (Operand.tmp 36) (Operand.tmp 54) (Operand.const (Value.bool false)), type := 4, pos := "law.go:136", after := #[{ on := 1, ground := Ground.data }, { on := 19, ground := Ground.data }], guard := none }) (v := ?vsa20) rfl (by kernel_rfl) (by kernel_rfl) (by kernel_rfl) (fun _ _ _ h => h) (Or.inl ⟨by rfl, ?hsa20⟩) (Below.refl _ _) ?rsa20
    case hsa20 =>
      intro w hSw
      go_simp
      try with_reducible rfl
    (try simp only [Act.put, List.setIfInBounds_toArray, List.set_cons_zero, List.set_cons_succ])
    refine wpAnyH_done (by kernel_rfl) ?_ _
    refine NoPanic.normal ?_
    (try rw [hev2])
    clear hev2
    clear t22 t24 bx cx
    go_upto_region 9 with (first
      | (go_at_call 12; refine (mUU _ _ _ ba ba).mono ?_; rintro e w31 ⟨s31, rfl, hn31, hb31⟩; (have b31 := hn31.bytes (by decide)); obtain ⟨g31, rfl, -⟩ := hn31; replace hw := below_next hw hb31; replace ba := ba.still hb31; replace bb := bb.still hb31; replace im := im.still hb31; clear hb31)
      | (go_at_call 14; refine (c1 _).mono ?_; clear c1; rintro e w32 ⟨s32, rfl, hn32, hb32⟩; (have b32 := hn32.bytes (by decide)); obtain ⟨g32, rfl, -⟩ := hn32; replace hw := below_next hw hb32; replace ba := ba.still hb32; replace bb := bb.still hb32; replace im := im.still hb32; replace b31 := b31.still hb32; clear hb32)
      | (go_at_call 6; refine (cR2 _ _ _ im b31 b32).mono ?_; clear cR2; rintro e w33 ⟨s33, rfl, hn33, hb33⟩; (have by33 := hn33.bytes (by decide)); obtain ⟨g33, rfl, -⟩ := hn33; replace hw := below_next hw hb33; replace ba := ba.still hb33; replace bb := bb.still hb33; clear hb33 b31 b32 im))
    (try simp only [Act.put, List.setIfInBounds_toArray, List.set_cons_zero, List.set_cons_succ])
    have hdrew : Below w33.heap.size w33 w33.drew := (Below.refl _ _).drew
    replace ba := ba.still hdrew
    replace bb := bb.still hdrew
    replace by33 := by33.still hdrew
    replace hw := below_next hw hdrew
    clear hdrew
    refine wp_region_noPanic ?_
    refine wp_region_held_drew (S := fun w' => Below w33.drew.heap.size w33.drew w') (by kernel_rfl) (Below.refl _ _) (fun hHeld => ?_)
    clear hHeld
    refine wpAnyH_take (i := 0) (oi := { dst := some 65, op := Op.move (Operand.tmp 10), type := 24, pos := "law.go:140", after := #[], guard := none }) (v := ?vsb0) rfl (by kernel_rfl) (by kernel_rfl) (by kernel_rfl) (fun _ _ _ h => h) (Or.inl ⟨by rfl, ?hsb0⟩) (Below.refl _ _) ?rsb0
    case hsb0 =>
      intro w hSw
      go_simp
      try with_reducible rfl
    (try simp only [Act.put, List.setIfInBounds_toArray, List.set_cons_zero, List.set_cons_succ])
    refine wpAnyH_ready (rs := [1]) (by kernel_rfl) (by simp) ?_
    refine AllReadyH.cons (o := { dst := some 66, op := Op.call { callee := Callee.value (Operand.func 8), args := #[Operand.tmp 65], argTypes := #[24] }, type := 3, pos := "law.go:140", after := #[{ on := 0, ground := Ground.data }], guard := none }) rfl (fun K hK => ?_) AllReadyH.nil
    go_simp
    (go_at_call 8; refine (num3_any _ _).mono ?_; rintro e wn ⟨rfl, hwn⟩; subst hwn)
    (try go_simp)
    refine hK.out _ _ (Below.refl _ _) (fun h => ?_)
    clear h hK K
    (try simp only [Act.put, List.setIfInBounds_toArray, List.set_cons_zero, List.set_cons_succ])
    refine wpAnyH_take (i := 2) (oi := { dst := some 67, op := Op.binOp BinOp.neq 3 (Operand.tmp 66) (Operand.const (Value.int IntKind.i64 0)) 3, type := 4, pos := "law.go:140", after := #[{ on := 1, ground := Ground.data }], guard := none }) (v := ?vsb2) rfl (by kernel_rfl) (by kernel_rfl) (by kernel_rfl) (fun _ _ _ h => h) (Or.inl ⟨by rfl, ?hsb2⟩) (Below.refl _ _) ?rsb2
    case hsb2 =>
      intro w hSw
      go_simp
      try with_reducible rfl
    (try simp only [Act.put, List.setIfInBounds_toArray, List.set_cons_zero, List.set_cons_succ])
    refine wpAnyH_take (i := 3) (oi := { dst := some 68, op := Op.move (Operand.tmp 67), type := 4, pos := "law.go:140", after := #[{ on := 2, ground := Ground.data }, { on := 1, ground := Ground.chain }], guard := none }) (v := ?vsb3) rfl (by kernel_rfl) (by kernel_rfl) (by kernel_rfl) (fun _ _ _ h => h) (Or.inl ⟨by rfl, ?hsb3⟩) (Below.refl _ _) ?rsb3
    case hsb3 =>
      intro w hSw
      go_simp
      try with_reducible rfl
    (try simp only [Act.put, List.setIfInBounds_toArray, List.set_cons_zero, List.set_cons_succ])
    refine wpAnyH_take (i := 4) (oi := { dst := some 69, op := Op.move (Operand.tmp 9), type := 4, pos := "law.go:140", after := #[{ on := 3, ground := Ground.guard }], guard := some (3, false) }) (v := ?vsb4) rfl (by kernel_rfl) (by kernel_rfl) (by kernel_rfl) (fun _ _ _ h => h) (Or.inl ⟨by rfl, ?hsb4⟩) (Below.refl _ _) ?rsb4
    case hsb4 =>
      intro w hSw
      go_simp
      try with_reducible rfl
    (try simp only [Act.put, List.setIfInBounds_toArray, List.set_cons_zero, List.set_cons_succ])
    refine wpAnyH_take (i := 5) (oi := { dst := some 70, op := Op.unOp UnOp.not 4 (Operand.tmp 69), type := 4, pos := "law.go:140", after := #[{ on := 4, ground := Ground.data }, { on := 3, ground := Ground.guard }], guard := some (3, false) }) (v := ?vsb5) rfl (by kernel_rfl) (by kernel_rfl) (by kernel_rfl) (fun _ _ _ h => h) (Or.inl ⟨by rfl, ?hsb5⟩) (Below.refl _ _) ?rsb5
    case hsb5 =>
      intro w hSw
      go_simp
      try with_reducible rfl
    (try simp only [Act.put, List.setIfInBounds_toArray, List.set_cons_zero, List.set_cons_succ])
    refine wpAnyH_take (i := 6) (oi := { dst := some 71, op := Op.pick (Operand.tmp 68) (Operand.const (Value.bool true)) (Operand.tmp 70), type := 4, pos := "law.go:140", after := #[{ on := 3, ground := Ground.data }, { on := 5, ground := Ground.data }], guard := none }) (v := ?vsb6) rfl (by kernel_rfl) (by kernel_rfl) (by kernel_rfl) (fun _ _ _ h => h) (Or.inl ⟨by rfl, ?hsb6⟩) (Below.refl _ _) ?rsb6
    case hsb6 =>
      intro w hSw
      go_simp
      try with_reducible rfl
    (try simp only [Act.put, List.setIfInBounds_toArray, List.set_cons_zero, List.set_cons_succ])
    refine wpAnyH_take (i := 7) (oi := { dst := some 72, op := Op.move (Operand.tmp 71), type := 4, pos := "law.go:140", after := #[{ on := 6, ground := Ground.data }, { on := 3, ground := Ground.chain }], guard := none }) (v := ?vsb7) rfl (by kernel_rfl) (by kernel_rfl) (by kernel_rfl) (fun _ _ _ h => h) (Or.inl ⟨by rfl, ?hsb7⟩) (Below.refl _ _) ?rsb7
    case hsb7 =>
      intro w hSw
      go_simp
      try with_reducible rfl
    (try simp only [Act.put, List.setIfInBounds_toArray, List.set_cons_zero, List.set_cons_succ])
    refine wpAnyH_take (i := 8) (oi := { dst := some 73, op := Op.move (Operand.tmp 8), type := 22, pos := "law.go:140", after := #[{ on := 7, ground := Ground.guard }], guard := some (7, false) }) (v := ?vsb8) rfl (by kernel_rfl) (by kernel_rfl) (by kernel_rfl) (fun _ _ _ h => h) (Or.inl ⟨by rfl, ?hsb8⟩) (Below.refl _ _) ?rsb8
    case hsb8 =>
      intro w hSw
      go_simp
      try with_reducible rfl
    (try simp only [Act.put, List.setIfInBounds_toArray, List.set_cons_zero, List.set_cons_succ])
    refine wpAnyH_take (i := 9) (oi := { dst := some 74, op := Op.move (Operand.tmp 8), type := 22, pos := "law.go:140", after := #[{ on := 7, ground := Ground.guard }], guard := some (7, false) }) (v := ?vsb9) rfl (by kernel_rfl) (by kernel_rfl) (by kernel_rfl) (fun _ _ _ h => h) (Or.inl ⟨by rfl, ?hsb9⟩) (Below.refl _ _) ?rsb9
    case hsb9 =>
      intro w hSw
      go_simp
      try with_reducible rfl
    (try simp only [Act.put, List.setIfInBounds_toArray, List.set_cons_zero, List.set_cons_succ])
    refine wpAnyH_take (i := 12) (oi := { dst := some 77, op := Op.move (Operand.tmp 0), type := 22, pos := "law.go:140", after := #[{ on := 7, ground := Ground.guard }], guard := some (7, false) }) (v := ?vsb12) rfl (by kernel_rfl) (by kernel_rfl) (by kernel_rfl) (fun _ _ _ h => h) (Or.inl ⟨by rfl, ?hsb12⟩) (Below.refl _ _) ?rsb12
    case hsb12 =>
      intro w hSw
      go_simp
      try with_reducible rfl
    (try simp only [Act.put, List.setIfInBounds_toArray, List.set_cons_zero, List.set_cons_succ])
    refine wpAnyH_take (i := 13) (oi := { dst := some 78, op := Op.move (Operand.tmp 0), type := 22, pos := "law.go:140", after := #[{ on := 7, ground := Ground.guard }], guard := some (7, false) }) (v := ?vsb13) rfl (by kernel_rfl) (by kernel_rfl) (by kernel_rfl) (fun _ _ _ h => h) (Or.inl ⟨by rfl, ?hsb13⟩) (Below.refl _ _) ?rsb13
    case hsb13 =>
      intro w hSw
      go_simp
      try with_reducible rfl
    (try simp only [Act.put, List.setIfInBounds_toArray, List.set_cons_zero, List.set_cons_succ])
    refine wpAnyH_ready (rs := [10]) (by kernel_rfl) (by simp) ?_
    refine AllReadyH.cons (o := { dst := some 75, op := Op.call { callee := Callee.value (Operand.func 12), args := #[Operand.tmp 73, Operand.tmp 74], argTypes := #[22, 22] }, type := 22, pos := "law.go:140", after := #[{ on := 8, ground := Ground.data }, { on := 9, ground := Ground.data }, { on := 7, ground := Ground.chain }, { on := 7, ground := Ground.guard }], guard := some (7, false) }) rfl (fun K hK => ?_) AllReadyH.nil
    go_simp
    (go_at_call 12; refine (mYY _ _ _ by33 by33).mono ?_; rintro e w41 ⟨s41, rfl, hn41, hb41⟩; (have t41 := hn41.str); obtain ⟨g41, rfl, -⟩ := hn41)
    (try go_simp)
    refine hK.out _ _ hb41 (fun h => ?_)
    clear h hK K
    refine wpAnyH_narrow (S' := fun w' => Below w41.heap.size w41 w') (fun _ h => below_next hb41 h) _ _ _ _ ?_
    clear by33
    replace ba := ba.still hb41
    replace bb := bb.still hb41
    replace hw := below_next hw hb41
    clear hb41
    (try simp only [Act.put, List.setIfInBounds_toArray, List.set_cons_zero, List.set_cons_succ])
    refine wpAnyH_take (i := 11) (oi := { dst := some 76, op := Op.convert 22 9 (Operand.tmp 75), type := 9, pos := "law.go:140", after := #[{ on := 10, ground := Ground.data }, { on := 7, ground := Ground.guard }], guard := some (7, false) }) (v := ?vsb11) rfl (by kernel_rfl) (by kernel_rfl) (by kernel_rfl) (fun _ _ _ h => h) (Or.inl ⟨by rfl, ?hsb11⟩) (Below.refl _ _) ?rsb11
    case hsb11 =>
      intro w hSw
      have q := t41.conv w hSw
      go_simp
      try with_reducible rfl
    (try simp only [Act.put, List.setIfInBounds_toArray, List.set_cons_zero, List.set_cons_succ])
    refine wpAnyH_ready (rs := [14]) (by kernel_rfl) (by simp) ?_
    refine AllReadyH.cons (o := { dst := some 79, op := Op.call { callee := Callee.value (Operand.func 12), args := #[Operand.tmp 77, Operand.tmp 78], argTypes := #[22, 22] }, type := 22, pos := "law.go:140", after := #[{ on := 12, ground := Ground.data }, { on := 13, ground := Ground.data }, { on := 10, ground := Ground.chain }, { on := 7, ground := Ground.guard }], guard := some (7, false) }) rfl (fun K hK => ?_) AllReadyH.nil
    go_simp
    (go_at_call 12; refine (mUU _ _ _ ba ba).mono ?_; rintro e w42 ⟨s42, rfl, hn42, hb42⟩; (have t42 := hn42.str); obtain ⟨g42, rfl, -⟩ := hn42)
    (try go_simp)
    refine hK.out _ _ hb42 (fun h => ?_)
    clear h hK K
    refine wpAnyH_narrow (S' := fun w' => Below w42.heap.size w42 w') (fun _ h => below_next hb42 h) _ _ _ _ ?_
    replace ba := ba.still hb42
    replace bb := bb.still hb42
    replace t41 := t41.still hb42
    replace hw := below_next hw hb42
    clear hb42
    (try simp only [Act.put, List.setIfInBounds_toArray, List.set_cons_zero, List.set_cons_succ])
    refine wpAnyH_take (i := 15) (oi := { dst := some 80, op := Op.convert 22 9 (Operand.tmp 79), type := 9, pos := "law.go:140", after := #[{ on := 14, ground := Ground.data }, { on := 7, ground := Ground.guard }], guard := some (7, false) }) (v := ?vsb15) rfl (by kernel_rfl) (by kernel_rfl) (by kernel_rfl) (fun _ _ _ h => h) (Or.inl ⟨by rfl, ?hsb15⟩) (Below.refl _ _) ?rsb15
    case hsb15 =>
      intro w hSw
      have q := t42.conv w hSw
      go_simp
      try with_reducible rfl
    (try simp only [Act.put, List.setIfInBounds_toArray, List.set_cons_zero, List.set_cons_succ])
    refine wpAnyH_take (i := 16) (oi := { dst := some 81, op := Op.binOp BinOp.neq 9 (Operand.tmp 76) (Operand.tmp 80) 9, type := 4, pos := "law.go:140", after := #[{ on := 11, ground := Ground.data }, { on := 15, ground := Ground.data }, { on := 7, ground := Ground.guard }], guard := some (7, false) }) (v := ?vsb16) rfl (by kernel_rfl) (by kernel_rfl) (by kernel_rfl) (fun _ _ _ h => h) (Or.inl ⟨by rfl, ?hsb16⟩) (Below.refl _ _) ?rsb16
    case hsb16 =>
      intro w hSw
      go_simp
      try with_reducible rfl
    (try simp only [Act.put, List.setIfInBounds_toArray, List.set_cons_zero, List.set_cons_succ])
    refine wpAnyH_take (i := 17) (oi := { dst := some 82, op := Op.pick (Operand.tmp 72) (Operand.const (Value.bool true)) (Operand.tmp 81), type := 4, pos := "law.go:140", after := #[{ on := 7, ground := Ground.data }, { on := 16, ground := Ground.data }], guard := none }) (v := ?vsb17) rfl (by kernel_rfl) (by kernel_rfl) (by kernel_rfl) (fun _ _ _ h => h) (Or.inl ⟨by rfl, ?hsb17⟩) (Below.refl _ _) ?rsb17
    case hsb17 =>
      intro w hSw
      go_simp
      try with_reducible rfl
    (try simp only [Act.put, List.setIfInBounds_toArray, List.set_cons_zero, List.set_cons_succ])
    refine wpAnyH_done (by kernel_rfl) ?_ _
    refine NoPanic.normal ?_
    clear t41 t42
    go_upto_region 11 with (fail)
    (try simp only [Act.put, List.setIfInBounds_toArray, List.set_cons_zero, List.set_cons_succ])
    have hdrew : Below w42.heap.size w42 w42.drew := (Below.refl _ _).drew
    replace ba := ba.still hdrew
    replace bb := bb.still hdrew
    replace hw := below_next hw hdrew
    clear hdrew
    refine wp_region_noPanic ?_
    refine wp_region_held_drew (S := fun w' => Below w42.drew.heap.size w42.drew w') (by kernel_rfl) (Below.refl _ _) (fun hHeld => ?_)
    clear hHeld
    refine wpAnyH_take (i := 0) (oi := { dst := some 83, op := Op.move (Operand.tmp 0), type := 22, pos := "law.go:143", after := #[], guard := none }) (v := ?vsc0) rfl (by kernel_rfl) (by kernel_rfl) (by kernel_rfl) (fun _ _ _ h => h) (Or.inl ⟨by rfl, ?hsc0⟩) (Below.refl _ _) ?rsc0
    case hsc0 =>
      intro w hSw
      go_simp
      try with_reducible rfl
    (try simp only [Act.put, List.setIfInBounds_toArray, List.set_cons_zero, List.set_cons_succ])
    refine wpAnyH_take (i := 1) (oi := { dst := some 84, op := Op.move (Operand.tmp 1), type := 22, pos := "law.go:143", after := #[], guard := none }) (v := ?vsc1) rfl (by kernel_rfl) (by kernel_rfl) (by kernel_rfl) (fun _ _ _ h => h) (Or.inl ⟨by rfl, ?hsc1⟩) (Below.refl _ _) ?rsc1
    case hsc1 =>
      intro w hSw
      go_simp
      try with_reducible rfl
    (try simp only [Act.put, List.setIfInBounds_toArray, List.set_cons_zero, List.set_cons_succ])
    refine wpAnyH_ready (rs := [2]) (by kernel_rfl) (by simp) ?_
    refine AllReadyH.cons (o := { dst := some 85, op := Op.call { callee := Callee.value (Operand.func 15), args := #[Operand.tmp 83, Operand.tmp 84], argTypes := #[22, 22] }, type := 22, pos := "law.go:143", after := #[{ on := 0, ground := Ground.data }, { on := 1, ground := Ground.data }], guard := none }) rfl (fun K hK => ?_) AllReadyH.nil
    go_simp
    (go_at_call 15; refine (sUV _ _ _ ba bb).mono ?_; rintro e w51 ⟨s51, rfl, hn51, hb51⟩; (have t51 := hn51.str); obtain ⟨g51, rfl, -⟩ := hn51)
    (try go_simp)
    refine hK.out _ _ hb51 (fun h => ?_)
    clear h hK K
    refine wpAnyH_narrow (S' := fun w' => Below w51.heap.size w51 w') (fun _ h => below_next hb51 h) _ _ _ _ ?_
    replace ba := ba.still hb51
    replace bb := bb.still hb51
    replace hw := below_next hw hb51
    clear hb51
    (try simp only [Act.put, List.setIfInBounds_toArray, List.set_cons_zero, List.set_cons_succ])
    refine wpAnyH_take (i := 3) (oi := { dst := some 86, op := Op.convert 22 9 (Operand.tmp 85), type := 9, pos := "law.go:143", after := #[{ on := 2, ground := Ground.data }], guard := none }) (v := ?vsc3) rfl (by kernel_rfl) (by kernel_rfl) (by kernel_rfl) (fun _ _ _ h => h) (Or.inl ⟨by rfl, ?hsc3⟩) (Below.refl _ _) ?rsc3
    case hsc3 =>
      intro w hSw
      have q := t51.conv w hSw
      go_simp
      try with_reducible rfl
    (try simp only [Act.put, List.setIfInBounds_toArray, List.set_cons_zero, List.set_cons_succ])
    refine wpAnyH_ready (rs := [4]) (by kernel_rfl) (by simp) ?_
    refine AllReadyH.cons (o := { dst := some 87, op := Op.call { callee := Callee.value (Operand.func 14), args := #[Operand.const (Value.int IntKind.u8 0)], argTypes := #[5] }, type := 22, pos := "law.go:143", after := #[{ on := 2, ground := Ground.chain }], guard := none }) rfl (fun K hK => ?_) AllReadyH.nil
    go_simp
    (go_at_call 14; refine (c0 _).mono ?_; rintro e w52 ⟨s52, rfl, hn52, hb52⟩; (have t52 := hn52.str); obtain ⟨g52, rfl, -⟩ := hn52)
    (try go_simp)
    refine hK.out _ _ hb52 (fun h => ?_)
    clear h hK K
    refine wpAnyH_narrow (S' := fun w' => Below w52.heap.size w52 w') (fun _ h => below_next hb52 h) _ _ _ _ ?_
    replace ba := ba.still hb52
    replace bb := bb.still hb52
    replace t51 := t51.still hb52
    replace hw := below_next hw hb52
    clear hb52
    (try simp only [Act.put, List.setIfInBounds_toArray, List.set_cons_zero, List.set_cons_succ])
    refine wpAnyH_take (i := 5) (oi := { dst := some 88, op := Op.convert 22 9 (Operand.tmp 87), type := 9, pos := "law.go:143", after := #[{ on := 4, ground := Ground.data }], guard := none }) (v := ?vsc5) rfl (by kernel_rfl) (by kernel_rfl) (by kernel_rfl) (fun _ _ _ h => h) (Or.inl ⟨by rfl, ?hsc5⟩) (Below.refl _ _) ?rsc5
    case hsc5 =>
      intro w hSw
      have q := t52.conv w hSw
      go_simp
      try with_reducible rfl
    (try simp only [Act.put, List.setIfInBounds_toArray, List.set_cons_zero, List.set_cons_succ])
    refine wpAnyH_take (i := 6) (oi := { dst := some 89, op := Op.binOp BinOp.eql 9 (Operand.tmp 86) (Operand.tmp 88) 9, type := 4, pos := "law.go:143", after := #[{ on := 3, ground := Ground.data }, { on := 5, ground := Ground.data }], guard := none }) (v := ?vsc6) rfl (by kernel_rfl) (by kernel_rfl) (by kernel_rfl) (fun _ _ _ h => h) (Or.inl ⟨by rfl, ?hsc6⟩) (Below.refl _ _) ?rsc6
    case hsc6 =>
      intro w hSw
      go_simp
      try with_reducible rfl
    (try simp only [Act.put, List.setIfInBounds_toArray, List.set_cons_zero, List.set_cons_succ])
    refine wpAnyH_take (i := 7) (oi := { dst := some 11, op := Op.assign (Operand.tmp 89), type := 4, pos := "law.go:143", after := #[{ on := 6, ground := Ground.data }, { on := 4, ground := Ground.chain }, { on := 0, ground := Ground.phase }, { on := 1, ground := Ground.phase }, { on := 2, ground := Ground.phase }, { on := 3, ground := Ground.phase }, { on := 4, ground := Ground.phase }, { on := 5, ground := Ground.phase }, { on := 6, ground := Ground.phase }], guard := none }) (v := ?vsc7) rfl (by kernel_rfl) (by kernel_rfl) (by kernel_rfl) (fun _ _ _ h => h) (Or.inl ⟨by rfl, ?hsc7⟩) (Below.refl _ _) ?rsc7
    case hsc7 =>
      intro w hSw
      go_simp
      try with_reducible rfl
    (try simp only [Act.put, List.setIfInBounds_toArray, List.set_cons_zero, List.set_cons_succ])
    refine wpAnyH_done (by kernel_rfl) ?_ _
    refine NoPanic.normal ?_
    clear t51 t52
    go_upto_region 12 with (fail)
    (try simp only [Act.put, List.setIfInBounds_toArray, List.set_cons_zero, List.set_cons_succ])
    have hdrew : Below w52.heap.size w52 w52.drew := (Below.refl _ _).drew
    replace ba := ba.still hdrew
    replace bb := bb.still hdrew
    replace hw := below_next hw hdrew
    clear hdrew
    refine wp_region_noPanic ?_
    refine wp_region_held_drew (S := fun w' => Below w52.drew.heap.size w52.drew w') (by kernel_rfl) (Below.refl _ _) (fun hHeld => ?_)
    clear hHeld
    refine wpAnyH_take (i := 0) (oi := { dst := some 90, op := Op.move (Operand.tmp 11), type := 4, pos := "law.go:144", after := #[], guard := none }) (v := ?vsd0) rfl (by kernel_rfl) (by kernel_rfl) (by kernel_rfl) (fun _ _ _ h => h) (Or.inl ⟨by rfl, ?hsd0⟩) (Below.refl _ _) ?rsd0
    case hsd0 =>
      intro w hSw
      go_simp
      try with_reducible rfl
    (try simp only [Act.put, List.setIfInBounds_toArray, List.set_cons_zero, List.set_cons_succ])
    refine wpAnyH_take (i := 1) (oi := { dst := some 91, op := Op.move (Operand.tmp 0), type := 22, pos := "law.go:144", after := #[], guard := none }) (v := ?vsd1) rfl (by kernel_rfl) (by kernel_rfl) (by kernel_rfl) (fun _ _ _ h => h) (Or.inl ⟨by rfl, ?hsd1⟩) (Below.refl _ _) ?rsd1
    case hsd1 =>
      intro w hSw
      go_simp
      try with_reducible rfl
    (try simp only [Act.put, List.setIfInBounds_toArray, List.set_cons_zero, List.set_cons_succ])
    refine wpAnyH_take (i := 5) (oi := { dst := some 95, op := Op.move (Operand.tmp 1), type := 22, pos := "law.go:144", after := #[], guard := none }) (v := ?vsd5) rfl (by kernel_rfl) (by kernel_rfl) (by kernel_rfl) (fun _ _ _ h => h) (Or.inl ⟨by rfl, ?hsd5⟩) (Below.refl _ _) ?rsd5
    case hsd5 =>
      intro w hSw
      go_simp
      try with_reducible rfl
    (try simp only [Act.put, List.setIfInBounds_toArray, List.set_cons_zero, List.set_cons_succ])
    refine wpAnyH_ready (rs := [2]) (by kernel_rfl) (by simp) ?_
    refine AllReadyH.cons (o := { dst := some 92, op := Op.call { callee := Callee.value (Operand.func 14), args := #[Operand.const (Value.int IntKind.u8 0)], argTypes := #[5] }, type := 22, pos := "law.go:144", after := #[], guard := none }) rfl (fun K hK => ?_) AllReadyH.nil
    go_simp
    (go_at_call 14; refine (c0 _).mono ?_; rintro e w61 ⟨s61, rfl, hn61, hb61⟩; (have b61 := hn61.bytes (by decide)); obtain ⟨g61, rfl, -⟩ := hn61)
    (try go_simp)
    refine hK.out _ _ hb61 (fun h => ?_)
    clear h hK K
    refine wpAnyH_narrow (S' := fun w' => Below w61.heap.size w61 w') (fun _ h => below_next hb61 h) _ _ _ _ ?_
    replace ba := ba.still hb61
    replace bb := bb.still hb61
    replace hw := below_next hw hb61
    clear hb61
    (try simp only [Act.put, List.setIfInBounds_toArray, List.set_cons_zero, List.set_cons_succ])
    refine wpAnyH_ready (rs := [3]) (by kernel_rfl) (by simp) ?_
    refine AllReadyH.cons (o := { dst := some 93, op := Op.call { callee := Callee.value (Operand.func 13), args := #[Operand.tmp 91, Operand.tmp 92], argTypes := #[22, 22] }, type := 22, pos := "law.go:144", after := #[{ on := 1, ground := Ground.data }, { on := 2, ground := Ground.data }, { on := 2, ground := Ground.chain }], guard := none }) rfl (fun K hK => ?_) AllReadyH.nil
    go_simp
    (go_at_call 13; refine (aU _ _ _ ba b61).mono ?_; rintro e w62 ⟨s62, rfl, hn62, hb62⟩; (have t62 := hn62.str); obtain ⟨g62, rfl, -⟩ := hn62)
    (try go_simp)
    refine hK.out _ _ hb62 (fun h => ?_)
    clear h hK K
    refine wpAnyH_narrow (S' := fun w' => Below w62.heap.size w62 w') (fun _ h => below_next hb62 h) _ _ _ _ ?_
    clear b61
    replace ba := ba.still hb62
    replace bb := bb.still hb62
    replace hw := below_next hw hb62
    clear hb62
    (try simp only [Act.put, List.setIfInBounds_toArray, List.set_cons_zero, List.set_cons_succ])
    refine wpAnyH_take (i := 4) (oi := { dst := some 94, op := Op.convert 22 9 (Operand.tmp 93), type := 9, pos := "law.go:144", after := #[{ on := 3, ground := Ground.data }], guard := none }) (v := ?vsd4) rfl (by kernel_rfl) (by kernel_rfl) (by kernel_rfl) (fun _ _ _ h => h) (Or.inl ⟨by rfl, ?hsd4⟩) (Below.refl _ _) ?rsd4
    case hsd4 =>
      intro w hSw
      have q := t62.conv w hSw
      go_simp
      try with_reducible rfl
    (try simp only [Act.put, List.setIfInBounds_toArray, List.set_cons_zero, List.set_cons_succ])
    refine wpAnyH_ready (rs := [6]) (by kernel_rfl) (by simp) ?_
    refine AllReadyH.cons (o := { dst := some 96, op := Op.call { callee := Callee.value (Operand.func 14), args := #[Operand.const (Value.int IntKind.u8 0)], argTypes := #[5] }, type := 22, pos := "law.go:144", after := #[{ on := 3, ground := Ground.chain }], guard := none }) rfl (fun K hK => ?_) AllReadyH.nil
    go_simp
    (go_at_call 14; refine (c0 _).mono ?_; rintro e w63 ⟨s63, rfl, hn63, hb63⟩; (have b63 := hn63.bytes (by decide)); obtain ⟨g63, rfl, -⟩ := hn63)
    (try go_simp)
    refine hK.out _ _ hb63 (fun h => ?_)
    clear h hK K
    refine wpAnyH_narrow (S' := fun w' => Below w63.heap.size w63 w') (fun _ h => below_next hb63 h) _ _ _ _ ?_
    replace ba := ba.still hb63
    replace bb := bb.still hb63
    replace t62 := t62.still hb63
    replace hw := below_next hw hb63
    clear hb63
    (try simp only [Act.put, List.setIfInBounds_toArray, List.set_cons_zero, List.set_cons_succ])
    refine wpAnyH_ready (rs := [7]) (by kernel_rfl) (by simp) ?_
    refine AllReadyH.cons (o := { dst := some 97, op := Op.call { callee := Callee.value (Operand.func 13), args := #[Operand.tmp 95, Operand.tmp 96], argTypes := #[22, 22] }, type := 22, pos := "law.go:144", after := #[{ on := 5, ground := Ground.data }, { on := 6, ground := Ground.data }, { on := 6, ground := Ground.chain }], guard := none }) rfl (fun K hK => ?_) AllReadyH.nil
    go_simp
    (go_at_call 13; refine (aV _ _ _ bb b63).mono ?_; rintro e w64 ⟨s64, rfl, hn64, hb64⟩; (have t64 := hn64.str); obtain ⟨g64, rfl, -⟩ := hn64)
    (try go_simp)
    refine hK.out _ _ hb64 (fun h => ?_)
    clear h hK K
    refine wpAnyH_narrow (S' := fun w' => Below w64.heap.size w64 w') (fun _ h => below_next hb64 h) _ _ _ _ ?_
    clear b63
    replace ba := ba.still hb64
    replace bb := bb.still hb64
    replace t62 := t62.still hb64
    replace hw := below_next hw hb64
    clear hb64
    (try simp only [Act.put, List.setIfInBounds_toArray, List.set_cons_zero, List.set_cons_succ])
    refine wpAnyH_take (i := 8) (oi := { dst := some 98, op := Op.convert 22 9 (Operand.tmp 97), type := 9, pos := "law.go:144", after := #[{ on := 7, ground := Ground.data }], guard := none }) (v := ?vsd8) rfl (by kernel_rfl) (by kernel_rfl) (by kernel_rfl) (fun _ _ _ h => h) (Or.inl ⟨by rfl, ?hsd8⟩) (Below.refl _ _) ?rsd8
    case hsd8 =>
      intro w hSw
      have q := t64.conv w hSw
      go_simp
      try with_reducible rfl
    (try simp only [Act.put, List.setIfInBounds_toArray, List.set_cons_zero, List.set_cons_succ])
    refine wpAnyH_take (i := 9) (oi := { dst := some 99, op := Op.binOp BinOp.eql 9 (Operand.tmp 94) (Operand.tmp 98) 9, type := 4, pos := "law.go:144", after := #[{ on := 4, ground := Ground.data }, { on := 8, ground := Ground.data }], guard := none }) (v := ?vsd9) rfl (by kernel_rfl) (by kernel_rfl) (by kernel_rfl) (fun _ _ _ h => h) (Or.inl ⟨by rfl, ?hsd9⟩) (Below.refl _ _) ?rsd9
    case hsd9 =>
      intro w hSw
      go_simp
      try with_reducible rfl
    (try simp only [Act.put, List.setIfInBounds_toArray, List.set_cons_zero, List.set_cons_succ])
    refine wpAnyH_take (i := 10) (oi := { dst := some 100, op := Op.binOp BinOp.eql 4 (Operand.tmp 90) (Operand.tmp 99) 4, type := 4, pos := "law.go:144", after := #[{ on := 0, ground := Ground.data }, { on := 9, ground := Ground.data }], guard := none }) (v := ?vsd10) rfl (by kernel_rfl) (by kernel_rfl) (by kernel_rfl) (fun _ _ _ h => h) (Or.inl ⟨by rfl, ?hsd10⟩) (Below.refl _ _) ?rsd10
    case hsd10 =>
      intro w hSw
      go_simp
      try with_reducible rfl
    (try simp only [Act.put, List.setIfInBounds_toArray, List.set_cons_zero, List.set_cons_succ])
    refine wpAnyH_take (i := 11) (oi := { dst := some 4, op := Op.assign (Operand.tmp 100), type := 4, pos := "law.go:144", after := #[{ on := 10, ground := Ground.data }, { on := 7, ground := Ground.chain }, { on := 0, ground := Ground.phase }, { on := 1, ground := Ground.phase }, { on := 2, ground := Ground.phase }, { on := 3, ground := Ground.phase }, { on := 4, ground := Ground.phase }, { on := 5, ground := Ground.phase }, { on := 6, ground := Ground.phase }, { on := 7, ground := Ground.phase }, { on := 8, ground := Ground.phase }, { on := 9, ground := Ground.phase }, { on := 10, ground := Ground.phase }], guard := none }) (v := ?vsd11) rfl (by kernel_rfl) (by kernel_rfl) (by kernel_rfl) (fun _ _ _ h => h) (Or.inl ⟨by rfl, ?hsd11⟩) (Below.refl _ _) ?rsd11
    case hsd11 =>
      intro w hSw
      go_simp
      try with_reducible rfl
    (try simp only [Act.put, List.setIfInBounds_toArray, List.set_cons_zero, List.set_cons_succ])
    refine wpAnyH_done (by kernel_rfl) ?_ _
    refine NoPanic.normal ?_
    go_wp2
    go_ret
    refine ⟨?_, hw⟩
    simp
  | false =>
    clear hok mXX mXV
    have hdrew : Below w6.heap.size w6 w6.drew := (Below.refl _ _).drew
    replace ba := ba.still hdrew
    replace bb := bb.still hdrew
    replace bx := bx.still hdrew
    replace cx := cx.still hdrew
    replace im := im.still hdrew
    replace hw := below_next hw hdrew
    clear hdrew
    refine wp_region_noPanic ?_
    refine wp_region_held_drew (S := fun w' => Below w6.drew.heap.size w6.drew w') (by kernel_rfl) (Below.refl _ _) (fun hHeld => ?_)
    clear hHeld
    refine wpAnyH_take (i := 0) (oi := { dst := some 35, op := Op.move (Operand.tmp 6), type := 4, pos := "law.go:136", after := #[], guard := none }) (v := ?vta0) rfl (by kernel_rfl) (by kernel_rfl) (by kernel_rfl) (fun _ _ _ h => h) (Or.inl ⟨by rfl, ?hta0⟩) (Below.refl _ _) ?rta0
    case hta0 =>
      intro w hSw
      go_simp
      try with_reducible rfl
    (try simp only [Act.put, List.setIfInBounds_toArray, List.set_cons_zero, List.set_cons_succ])
    refine wpAnyH_take (i := 1) (oi := { dst := some 36, op := Op.move (Operand.tmp 35), type := 4, pos := "law.go:136", after := #[{ on := 0, ground := Ground.data }], guard := none }) (v := ?vta1) rfl (by kernel_rfl) (by kernel_rfl) (by kernel_rfl) (fun _ _ _ h => h) (Or.inl ⟨by rfl, ?hta1⟩) (Below.refl _ _) ?rta1
    case hta1 =>
      intro w hSw
      go_simp
      try with_reducible rfl
    (try simp only [Act.put, List.setIfInBounds_toArray, List.set_cons_zero, List.set_cons_succ])
    refine wpAnyH_take (i := 2) (oi := { dst := some 37, op := Op.move (Operand.tmp 5), type := 22, pos := "law.go:136", after := #[{ on := 1, ground := Ground.guard }], guard := some (1, true) }) (v := undef) rfl (by kernel_rfl) (by kernel_rfl) (by kernel_rfl) (fun _ _ _ h => h) (Or.inr ⟨by rfl, rfl⟩) (Below.refl _ _) ?_
    (try simp only [Act.put, List.setIfInBounds_toArray, List.set_cons_zero, List.set_cons_succ])
    refine wpAnyH_take (i := 3) (oi := { dst := some 38, op := Op.move (Operand.tmp 5), type := 22, pos := "law.go:136", after := #[{ on := 1, ground := Ground.guard }], guard := some (1, true) }) (v := undef) rfl (by kernel_rfl) (by kernel_rfl) (by kernel_rfl) (fun _ _ _ h => h) (Or.inr ⟨by rfl, rfl⟩) (Below.refl _ _) ?_
    (try simp only [Act.put, List.setIfInBounds_toArray, List.set_cons_zero, List.set_cons_succ])
    refine wpAnyH_take (i := 4) (oi := { dst := some 39, op := Op.call { callee := Callee.value (Operand.func 12), args := #[Operand.tmp 37, Operand.tmp 38], argTypes := #[22, 22] }, type := 22, pos := "law.go:136", after := #[{ on := 2, ground := Ground.data }, { on := 3, ground := Ground.data }, { on := 1, ground := Ground.chain }, { on := 1, ground := Ground.guard }], guard := some (1, true) }) (v := undef) rfl (by kernel_rfl) (by kernel_rfl) (by kernel_rfl) (fun _ _ _ h => h) (Or.inr ⟨by rfl, rfl⟩) (Below.refl _ _) ?_
    (try simp only [Act.put, List.setIfInBounds_toArray, List.set_cons_zero, List.set_cons_succ])
    refine wpAnyH_take (i := 5) (oi := { dst := some 40, op := Op.move (Operand.tmp 1), type := 22, pos := "law.go:136", after := #[{ on := 1, ground := Ground.guard }], guard := some (1, true) }) (v := undef) rfl (by kernel_rfl) (by kernel_rfl) (by kernel_rfl) (fun _ _ _ h => h) (Or.inr ⟨by rfl, rfl⟩) (Below.refl _ _) ?_
    (try simp only [Act.put, List.setIfInBounds_toArray, List.set_cons_zero, List.set_cons_succ])
    refine wpAnyH_take (i := 6) (oi := { dst := some 41, op := Op.call { callee := Callee.value (Operand.func 12), args := #[Operand.tmp 39, Operand.tmp 40], argTypes := #[22, 22] }, type := 22, pos := "law.go:136", after := #[{ on := 4, ground := Ground.data }, { on := 5, ground := Ground.data }, { on := 4, ground := Ground.chain }, { on := 1, ground := Ground.guard }], guard := some (1, true) }) (v := undef) rfl (by kernel_rfl) (by kernel_rfl) (by kernel_rfl) (fun _ _ _ h => h) (Or.inr ⟨by rfl, rfl⟩) (Below.refl _ _) ?_
    (try simp only [Act.put, List.setIfInBounds_toArray, List.set_cons_zero, List.set_cons_succ])
    refine wpAnyH_take (i := 7) (oi := { dst := some 42, op := Op.convert 22 9 (Operand.tmp 41), type := 9, pos := "law.go:136", after := #[{ on := 6, ground := Ground.data }, { on := 1, ground := Ground.guard }], guard := some (1, true) }) (v := undef) rfl (by kernel_rfl) (by kernel_rfl) (by kernel_rfl) (fun _ _ _ h => h) (Or.inr ⟨by rfl, rfl⟩) (Below.refl _ _) ?_
    (try simp only [Act.put, List.setIfInBounds_toArray, List.set_cons_zero, List.set_cons_succ])
    refine wpAnyH_take (i := 8) (oi := { dst := some 43, op := Op.move (Operand.tmp 0), type := 22, pos := "law.go:136", after := #[{ on := 1, ground := Ground.guard }], guard := some (1, true) }) (v := undef) rfl (by kernel_rfl) (by kernel_rfl) (by kernel_rfl) (fun _ _ _ h => h) (Or.inr ⟨by rfl, rfl⟩) (Below.refl _ _) ?_
    (try simp only [Act.put, List.setIfInBounds_toArray, List.set_cons_zero, List.set_cons_succ])
    refine wpAnyH_take (i := 9) (oi := { dst := some 44, op := Op.call { callee := Callee.value (Operand.func 14), args := #[Operand.const (Value.int IntKind.u8 0)], argTypes := #[5] }, type := 22, pos := "law.go:136", after := #[{ on := 6, ground := Ground.chain }, { on := 1, ground := Ground.guard }], guard := some (1, true) }) (v := undef) rfl (by kernel_rfl) (by kernel_rfl) (by kernel_rfl) (fun _ _ _ h => h) (Or.inr ⟨by rfl, rfl⟩) (Below.refl _ _) ?_
    (try simp only [Act.put, List.setIfInBounds_toArray, List.set_cons_zero, List.set_cons_succ])
    refine wpAnyH_take (i := 10) (oi := { dst := some 45, op := Op.call { callee := Callee.value (Operand.func 13), args := #[Operand.tmp 43, Operand.tmp 44], argTypes := #[22, 22] }, type := 22, pos := "law.go:136", after := #[{ on := 8, ground := Ground.data }, { on := 9, ground := Ground.data }, { on := 9, ground := Ground.chain }, { on := 1, ground := Ground.guard }], guard := some (1, true) }) (v := undef) rfl (by kernel_rfl) (by kernel_rfl) (by kernel_rfl) (fun _ _ _ h => h) (Or.inr ⟨by rfl, rfl⟩) (Below.refl _ _) ?_
    (try simp only [Act.put, List.setIfInBounds_toArray, List.set_cons_zero, List.set_cons_succ])
    refine wpAnyH_take (i := 11) (oi := { dst := some 46, op := Op.convert 22 9 (Operand.tmp 45), type := 9, pos := "law.go:136", after := #[{ on := 10, ground := Ground.data }, { on := 1, ground := Ground.guard }], guard := some (1, true) }) (v := undef) rfl (by kernel_rfl) (by kernel_rfl) (by kernel_rfl) (fun _ _ _ h => h) (Or.inr ⟨by rfl, rfl⟩) (Below.refl _ _) ?_
    (try simp only [Act.put, List.setIfInBounds_toArray, List.set_cons_zero, List.set_cons_succ])
    refine wpAnyH_take (i := 12) (oi := { dst := some 47, op := Op.binOp BinOp.neq 9 (Operand.tmp 42) (Operand.tmp 46) 9, type := 4, pos := "law.go:136", after := #[{ on := 7, ground := Ground.data }, { on := 11, ground := Ground.data }, { on := 1, ground := Ground.guard }], guard := some (1, true) }) (v := undef) rfl (by kernel_rfl) (by kernel_rfl) (by kernel_rfl) (fun _ _ _ h => h) (Or.inr ⟨by rfl, rfl⟩) (Below.refl _ _) ?_
    (try simp only [Act.put, List.setIfInBounds_toArray, List.set_cons_zero, List.set_cons_succ])
    refine wpAnyH_take (i := 13) (oi := { dst := some 48, op := Op.move (Operand.tmp 47), type := 4, pos := "law.go:136", after := #[{ on := 12, ground := Ground.data }, { on := 10, ground := Ground.chain }, { on := 1, ground := Ground.guard }], guard := some (1, true) }) (v := undef) rfl (by kernel_rfl) (by kernel_rfl) (by kernel_rfl) (fun _ _ _ h => h) (Or.inr ⟨by rfl, rfl⟩) (Below.refl _ _) ?_
    (try simp only [Act.put, List.setIfInBounds_toArray, List.set_cons_zero, List.set_cons_succ])
    refine wpAnyH_take (i := 14) (oi := { dst := some 49, op := Op.move (Operand.tmp 5), type := 22, pos := "law.go:136", after := #[{ on := 13, ground := Ground.guard }], guard := some (13, false) }) (v := undef) rfl (by kernel_rfl) (by kernel_rfl) (by kernel_rfl) (fun _ _ _ h => h) (Or.inr ⟨by rfl, rfl⟩) (Below.refl _ _) ?_
    (try simp only [Act.put, List.setIfInBounds_toArray, List.set_cons_zero, List.set_cons_succ])
    refine wpAnyH_take (i := 15) (oi := { dst := some 50, op := Op.indexAddr 22 (Operand.tmp 49) (Operand.const (Value.int IntKind.i64 0)), type := 0, pos := "law.go:136", after := #[{ on := 14, ground := Ground.data }, { on := 13, ground := Ground.guard }], guard := some (13, false) }) (v := undef) rfl (by kernel_rfl) (by kernel_rfl) (by kernel_rfl) (fun _ _ _ h => h) (Or.inr ⟨by rfl, rfl⟩) (Below.refl _ _) ?_
    (try simp only [Act.put, List.setIfInBounds_toArray, List.set_cons_zero, List.set_cons_succ])
    refine wpAnyH_take (i := 16) (oi := { dst := some 51, op := Op.load 5 (Operand.tmp 50), type := 5, pos := "law.go:136", after := #[{ on := 15, ground := Ground.data }, { on := 13, ground := Ground.guard }], guard := some (13, false) }) (v := undef) rfl (by kernel_rfl) (by kernel_rfl) (by kernel_rfl) (fun _ _ _ h => h) (Or.inr ⟨by rfl, rfl⟩) (Below.refl _ _) ?_
    (try simp only [Act.put, List.setIfInBounds_toArray, List.set_cons_zero, List.set_cons_succ])
    refine wpAnyH_take (i := 17) (oi := { dst := some 52, op := Op.binOp BinOp.rem 5 (Operand.tmp 51) (Operand.const (Value.int IntKind.u8 2)) 5, type := 5, pos := "law.go:136", after := #[{ on := 16, ground := Ground.data }, { on := 13, ground := Ground.guard }], guard := some (13, false) }) (v := undef) rfl (by kernel_rfl) (by kernel_rfl) (by kernel_rfl) (fun _ _ _ h => h) (Or.inr ⟨by rfl, rfl⟩) (Below.refl _ _) ?_
    (try simp only [Act.put, List.setIfInBounds_toArray, List.set_cons_zero, List.set_cons_succ])
    refine wpAnyH_take (i := 18) (oi := { dst := some 53, op := Op.binOp BinOp.neq 5 (Operand.tmp 52) (Operand.const (Value.int IntKind.u8 0)) 5, type := 4, pos := "law.go:136", after := #[{ on := 17, ground := Ground.data }, { on := 13, ground := Ground.guard }], guard := some (13, false) }) (v := undef) rfl (by kernel_rfl) (by kernel_rfl) (by kernel_rfl) (fun _ _ _ h => h) (Or.inr ⟨by rfl, rfl⟩) (Below.refl _ _) ?_
    (try simp only [Act.put, List.setIfInBounds_toArray, List.set_cons_zero, List.set_cons_succ])
    refine wpAnyH_take (i := 19) (oi := { dst := some 54, op := Op.pick (Operand.tmp 48) (Operand.const (Value.bool true)) (Operand.tmp 53), type := 4, pos := "law.go:136", after := #[{ on := 13, ground := Ground.data }, { on := 18, ground := Ground.data }, { on := 1, ground := Ground.guard }], guard := some (1, true) }) (v := undef) rfl (by kernel_rfl) (by kernel_rfl) (by kernel_rfl) (fun _ _ _ h => h) (Or.inr ⟨by rfl, rfl⟩) (Below.refl _ _) ?_
    (try simp only [Act.put, List.setIfInBounds_toArray, List.set_cons_zero, List.set_cons_succ])
    refine wpAnyH_take (i := 20) (oi := { dst := some 55, op := Op.pick (Operand.tmp 36) (Operand.tmp 54) (Operand.const (Value.bool false)), type := 4, pos := "law.go:136", after := #[{ on := 1, ground := Ground.data }, { on := 19, ground := Ground.data }], guard := none }) (v := ?vta20) rfl (by kernel_rfl) (by kernel_rfl) (by kernel_rfl) (fun _ _ _ h => h) (Or.inl ⟨by rfl, ?hta20⟩) (Below.refl _ _) ?rta20
    case hta20 =>
      intro w hSw
      go_simp
      try with_reducible rfl
    (try simp only [Act.put, List.setIfInBounds_toArray, List.set_cons_zero, List.set_cons_succ])
    refine wpAnyH_done (by kernel_rfl) ?_ _
    refine NoPanic.normal ?_
    clear bx cx
    generalize w6.drew = w24 at *
    go_upto_region 9 with (first
      | (go_at_call 12; refine (mUU _ _ _ ba ba).mono ?_; rintro e w31 ⟨s31, rfl, hn31, hb31⟩; (have b31 := hn31.bytes (by decide)); obtain ⟨g31, rfl, -⟩ := hn31; replace hw := below_next hw hb31; replace ba := ba.still hb31; replace bb := bb.still hb31; replace im := im.still hb31; clear hb31)
      | (go_at_call 14; refine (c1 _).mono ?_; clear c1; rintro e w32 ⟨s32, rfl, hn32, hb32⟩; (have b32 := hn32.bytes (by decide)); obtain ⟨g32, rfl, -⟩ := hn32; replace hw := below_next hw hb32; replace ba := ba.still hb32; replace bb := bb.still hb32; replace im := im.still hb32; replace b31 := b31.still hb32; clear hb32)
      | (go_at_call 6; refine (cR2 _ _ _ im b31 b32).mono ?_; clear cR2; rintro e w33 ⟨s33, rfl, hn33, hb33⟩; (have by33 := hn33.bytes (by decide)); obtain ⟨g33, rfl, -⟩ := hn33; replace hw := below_next hw hb33; replace ba := ba.still hb33; replace bb := bb.still hb33; clear hb33 b31 b32 im))
    (try simp only [Act.put, List.setIfInBounds_toArray, List.set_cons_zero, List.set_cons_succ])
    have hdrew : Below w33.heap.size w33 w33.drew := (Below.refl _ _).drew
    replace ba := ba.still hdrew
    replace bb := bb.still hdrew
    replace by33 := by33.still hdrew
    replace hw := below_next hw hdrew
    clear hdrew
    refine wp_region_noPanic ?_
    refine wp_region_held_drew (S := fun w' => Below w33.drew.heap.size w33.drew w') (by kernel_rfl) (Below.refl _ _) (fun hHeld => ?_)
    clear hHeld
    refine wpAnyH_take (i := 0) (oi := { dst := some 65, op := Op.move (Operand.tmp 10), type := 24, pos := "law.go:140", after := #[], guard := none }) (v := ?vtb0) rfl (by kernel_rfl) (by kernel_rfl) (by kernel_rfl) (fun _ _ _ h => h) (Or.inl ⟨by rfl, ?htb0⟩) (Below.refl _ _) ?rtb0
    case htb0 =>
      intro w hSw
      go_simp
      try with_reducible rfl
    (try simp only [Act.put, List.setIfInBounds_toArray, List.set_cons_zero, List.set_cons_succ])
    refine wpAnyH_ready (rs := [1]) (by kernel_rfl) (by simp) ?_
    refine AllReadyH.cons (o := { dst := some 66, op := Op.call { callee := Callee.value (Operand.func 8), args := #[Operand.tmp 65], argTypes := #[24] }, type := 3, pos := "law.go:140", after := #[{ on := 0, ground := Ground.data }], guard := none }) rfl (fun K hK => ?_) AllReadyH.nil
    go_simp
    (go_at_call 8; refine (num3_any _ _).mono ?_; rintro e wn ⟨rfl, hwn⟩; subst hwn)
    (try go_simp)
    refine hK.out _ _ (Below.refl _ _) (fun h => ?_)
    clear h hK K
    (try simp only [Act.put, List.setIfInBounds_toArray, List.set_cons_zero, List.set_cons_succ])
    refine wpAnyH_take (i := 2) (oi := { dst := some 67, op := Op.binOp BinOp.neq 3 (Operand.tmp 66) (Operand.const (Value.int IntKind.i64 0)) 3, type := 4, pos := "law.go:140", after := #[{ on := 1, ground := Ground.data }], guard := none }) (v := ?vtb2) rfl (by kernel_rfl) (by kernel_rfl) (by kernel_rfl) (fun _ _ _ h => h) (Or.inl ⟨by rfl, ?htb2⟩) (Below.refl _ _) ?rtb2
    case htb2 =>
      intro w hSw
      go_simp
      try with_reducible rfl
    (try simp only [Act.put, List.setIfInBounds_toArray, List.set_cons_zero, List.set_cons_succ])
    refine wpAnyH_take (i := 3) (oi := { dst := some 68, op := Op.move (Operand.tmp 67), type := 4, pos := "law.go:140", after := #[{ on := 2, ground := Ground.data }, { on := 1, ground := Ground.chain }], guard := none }) (v := ?vtb3) rfl (by kernel_rfl) (by kernel_rfl) (by kernel_rfl) (fun _ _ _ h => h) (Or.inl ⟨by rfl, ?htb3⟩) (Below.refl _ _) ?rtb3
    case htb3 =>
      intro w hSw
      go_simp
      try with_reducible rfl
    (try simp only [Act.put, List.setIfInBounds_toArray, List.set_cons_zero, List.set_cons_succ])
    refine wpAnyH_take (i := 4) (oi := { dst := some 69, op := Op.move (Operand.tmp 9), type := 4, pos := "law.go:140", after := #[{ on := 3, ground := Ground.guard }], guard := some (3, false) }) (v := ?vtb4) rfl (by kernel_rfl) (by kernel_rfl) (by kernel_rfl) (fun _ _ _ h => h) (Or.inl ⟨by rfl, ?htb4⟩) (Below.refl _ _) ?rtb4
    case htb4 =>
      intro w hSw
      go_simp
      try with_reducible rfl
    (try simp only [Act.put, List.setIfInBounds_toArray, List.set_cons_zero, List.set_cons_succ])
    refine wpAnyH_take (i := 5) (oi := { dst := some 70, op := Op.unOp UnOp.not 4 (Operand.tmp 69), type := 4, pos := "law.go:140", after := #[{ on := 4, ground := Ground.data }, { on := 3, ground := Ground.guard }], guard := some (3, false) }) (v := ?vtb5) rfl (by kernel_rfl) (by kernel_rfl) (by kernel_rfl) (fun _ _ _ h => h) (Or.inl ⟨by rfl, ?htb5⟩) (Below.refl _ _) ?rtb5
    case htb5 =>
      intro w hSw
      go_simp
      try with_reducible rfl
    (try simp only [Act.put, List.setIfInBounds_toArray, List.set_cons_zero, List.set_cons_succ])
    refine wpAnyH_take (i := 6) (oi := { dst := some 71, op := Op.pick (Operand.tmp 68) (Operand.const (Value.bool true)) (Operand.tmp 70), type := 4, pos := "law.go:140", after := #[{ on := 3, ground := Ground.data }, { on := 5, ground := Ground.data }], guard := none }) (v := ?vtb6) rfl (by kernel_rfl) (by kernel_rfl) (by kernel_rfl) (fun _ _ _ h => h) (Or.inl ⟨by rfl, ?htb6⟩) (Below.refl _ _) ?rtb6
    case htb6 =>
      intro w hSw
      go_simp
      try with_reducible rfl
    (try simp only [Act.put, List.setIfInBounds_toArray, List.set_cons_zero, List.set_cons_succ])
    refine wpAnyH_take (i := 7) (oi := { dst := some 72, op := Op.move (Operand.tmp 71), type := 4, pos := "law.go:140", after := #[{ on := 6, ground := Ground.data }, { on := 3, ground := Ground.chain }], guard := none }) (v := ?vtb7) rfl (by kernel_rfl) (by kernel_rfl) (by kernel_rfl) (fun _ _ _ h => h) (Or.inl ⟨by rfl, ?htb7⟩) (Below.refl _ _) ?rtb7
    case htb7 =>
      intro w hSw
      go_simp
      try with_reducible rfl
    (try simp only [Act.put, List.setIfInBounds_toArray, List.set_cons_zero, List.set_cons_succ])
    refine wpAnyH_take (i := 8) (oi := { dst := some 73, op := Op.move (Operand.tmp 8), type := 22, pos := "law.go:140", after := #[{ on := 7, ground := Ground.guard }], guard := some (7, false) }) (v := ?vtb8) rfl (by kernel_rfl) (by kernel_rfl) (by kernel_rfl) (fun _ _ _ h => h) (Or.inl ⟨by rfl, ?htb8⟩) (Below.refl _ _) ?rtb8
    case htb8 =>
      intro w hSw
      go_simp
      try with_reducible rfl
    (try simp only [Act.put, List.setIfInBounds_toArray, List.set_cons_zero, List.set_cons_succ])
    refine wpAnyH_take (i := 9) (oi := { dst := some 74, op := Op.move (Operand.tmp 8), type := 22, pos := "law.go:140", after := #[{ on := 7, ground := Ground.guard }], guard := some (7, false) }) (v := ?vtb9) rfl (by kernel_rfl) (by kernel_rfl) (by kernel_rfl) (fun _ _ _ h => h) (Or.inl ⟨by rfl, ?htb9⟩) (Below.refl _ _) ?rtb9
    case htb9 =>
      intro w hSw
      go_simp
      try with_reducible rfl
    (try simp only [Act.put, List.setIfInBounds_toArray, List.set_cons_zero, List.set_cons_succ])
    refine wpAnyH_take (i := 12) (oi := { dst := some 77, op := Op.move (Operand.tmp 0), type := 22, pos := "law.go:140", after := #[{ on := 7, ground := Ground.guard }], guard := some (7, false) }) (v := ?vtb12) rfl (by kernel_rfl) (by kernel_rfl) (by kernel_rfl) (fun _ _ _ h => h) (Or.inl ⟨by rfl, ?htb12⟩) (Below.refl _ _) ?rtb12
    case htb12 =>
      intro w hSw
      go_simp
      try with_reducible rfl
    (try simp only [Act.put, List.setIfInBounds_toArray, List.set_cons_zero, List.set_cons_succ])
    refine wpAnyH_take (i := 13) (oi := { dst := some 78, op := Op.move (Operand.tmp 0), type := 22, pos := "law.go:140", after := #[{ on := 7, ground := Ground.guard }], guard := some (7, false) }) (v := ?vtb13) rfl (by kernel_rfl) (by kernel_rfl) (by kernel_rfl) (fun _ _ _ h => h) (Or.inl ⟨by rfl, ?htb13⟩) (Below.refl _ _) ?rtb13
    case htb13 =>
      intro w hSw
      go_simp
      try with_reducible rfl
    (try simp only [Act.put, List.setIfInBounds_toArray, List.set_cons_zero, List.set_cons_succ])
    refine wpAnyH_ready (rs := [10]) (by kernel_rfl) (by simp) ?_
    refine AllReadyH.cons (o := { dst := some 75, op := Op.call { callee := Callee.value (Operand.func 12), args := #[Operand.tmp 73, Operand.tmp 74], argTypes := #[22, 22] }, type := 22, pos := "law.go:140", after := #[{ on := 8, ground := Ground.data }, { on := 9, ground := Ground.data }, { on := 7, ground := Ground.chain }, { on := 7, ground := Ground.guard }], guard := some (7, false) }) rfl (fun K hK => ?_) AllReadyH.nil
    go_simp
    (go_at_call 12; refine (mYY _ _ _ by33 by33).mono ?_; rintro e w41 ⟨s41, rfl, hn41, hb41⟩; (have t41 := hn41.str); obtain ⟨g41, rfl, -⟩ := hn41)
    (try go_simp)
    refine hK.out _ _ hb41 (fun h => ?_)
    clear h hK K
    refine wpAnyH_narrow (S' := fun w' => Below w41.heap.size w41 w') (fun _ h => below_next hb41 h) _ _ _ _ ?_
    clear by33
    replace ba := ba.still hb41
    replace bb := bb.still hb41
    replace hw := below_next hw hb41
    clear hb41
    (try simp only [Act.put, List.setIfInBounds_toArray, List.set_cons_zero, List.set_cons_succ])
    refine wpAnyH_take (i := 11) (oi := { dst := some 76, op := Op.convert 22 9 (Operand.tmp 75), type := 9, pos := "law.go:140", after := #[{ on := 10, ground := Ground.data }, { on := 7, ground := Ground.guard }], guard := some (7, false) }) (v := ?vtb11) rfl (by kernel_rfl) (by kernel_rfl) (by kernel_rfl) (fun _ _ _ h => h) (Or.inl ⟨by rfl, ?htb11⟩) (Below.refl _ _) ?rtb11
    case htb11 =>
      intro w hSw
      have q := t41.conv w hSw
      go_simp
      try with_reducible rfl
    (try simp only [Act.put, List.setIfInBounds_toArray, List.set_cons_zero, List.set_cons_succ])
    refine wpAnyH_ready (rs := [14]) (by kernel_rfl) (by simp) ?_
    refine AllReadyH.cons (o := { dst := some 79, op := Op.call { callee := Callee.value (Operand.func 12), args := #[Operand.tmp 77, Operand.tmp 78], argTypes := #[22, 22] }, type := 22, pos := "law.go:140", after := #[{ on := 12, ground := Ground.data }, { on := 13, ground := Ground.data }, { on := 10, ground := Ground.chain }, { on := 7, ground := Ground.guard }], guard := some (7, false) }) rfl (fun K hK => ?_) AllReadyH.nil
    go_simp
    (go_at_call 12; refine (mUU _ _ _ ba ba).mono ?_; rintro e w42 ⟨s42, rfl, hn42, hb42⟩; (have t42 := hn42.str); obtain ⟨g42, rfl, -⟩ := hn42)
    (try go_simp)
    refine hK.out _ _ hb42 (fun h => ?_)
    clear h hK K
    refine wpAnyH_narrow (S' := fun w' => Below w42.heap.size w42 w') (fun _ h => below_next hb42 h) _ _ _ _ ?_
    replace ba := ba.still hb42
    replace bb := bb.still hb42
    replace t41 := t41.still hb42
    replace hw := below_next hw hb42
    clear hb42
    (try simp only [Act.put, List.setIfInBounds_toArray, List.set_cons_zero, List.set_cons_succ])
    refine wpAnyH_take (i := 15) (oi := { dst := some 80, op := Op.convert 22 9 (Operand.tmp 79), type := 9, pos := "law.go:140", after := #[{ on := 14, ground := Ground.data }, { on := 7, ground := Ground.guard }], guard := some (7, false) }) (v := ?vtb15) rfl (by kernel_rfl) (by kernel_rfl) (by kernel_rfl) (fun _ _ _ h => h) (Or.inl ⟨by rfl, ?htb15⟩) (Below.refl _ _) ?rtb15
    case htb15 =>
      intro w hSw
      have q := t42.conv w hSw
      go_simp
      try with_reducible rfl
    (try simp only [Act.put, List.setIfInBounds_toArray, List.set_cons_zero, List.set_cons_succ])
    refine wpAnyH_take (i := 16) (oi := { dst := some 81, op := Op.binOp BinOp.neq 9 (Operand.tmp 76) (Operand.tmp 80) 9, type := 4, pos := "law.go:140", after := #[{ on := 11, ground := Ground.data }, { on := 15, ground := Ground.data }, { on := 7, ground := Ground.guard }], guard := some (7, false) }) (v := ?vtb16) rfl (by kernel_rfl) (by kernel_rfl) (by kernel_rfl) (fun _ _ _ h => h) (Or.inl ⟨by rfl, ?htb16⟩) (Below.refl _ _) ?rtb16
    case htb16 =>
      intro w hSw
      go_simp
      try with_reducible rfl
    (try simp only [Act.put, List.setIfInBounds_toArray, List.set_cons_zero, List.set_cons_succ])
    refine wpAnyH_take (i := 17) (oi := { dst := some 82, op := Op.pick (Operand.tmp 72) (Operand.const (Value.bool true)) (Operand.tmp 81), type := 4, pos := "law.go:140", after := #[{ on := 7, ground := Ground.data }, { on := 16, ground := Ground.data }], guard := none }) (v := ?vtb17) rfl (by kernel_rfl) (by kernel_rfl) (by kernel_rfl) (fun _ _ _ h => h) (Or.inl ⟨by rfl, ?htb17⟩) (Below.refl _ _) ?rtb17
    case htb17 =>
      intro w hSw
      go_simp
      try with_reducible rfl
    (try simp only [Act.put, List.setIfInBounds_toArray, List.set_cons_zero, List.set_cons_succ])
    refine wpAnyH_done (by kernel_rfl) ?_ _
    refine NoPanic.normal ?_
    clear t41 t42
    go_upto_region 11 with (fail)
    (try simp only [Act.put, List.setIfInBounds_toArray, List.set_cons_zero, List.set_cons_succ])
    have hdrew : Below w42.heap.size w42 w42.drew := (Below.refl _ _).drew
    replace ba := ba.still hdrew
    replace bb := bb.still hdrew
    replace hw := below_next hw hdrew
    clear hdrew
    refine wp_region_noPanic ?_
    refine wp_region_held_drew (S := fun w' => Below w42.drew.heap.size w42.drew w') (by kernel_rfl) (Below.refl _ _) (fun hHeld => ?_)
    clear hHeld
    refine wpAnyH_take (i := 0) (oi := { dst := some 83, op := Op.move (Operand.tmp 0), type := 22, pos := "law.go:143", after := #[], guard := none }) (v := ?vtc0) rfl (by kernel_rfl) (by kernel_rfl) (by kernel_rfl) (fun _ _ _ h => h) (Or.inl ⟨by rfl, ?htc0⟩) (Below.refl _ _) ?rtc0
    case htc0 =>
      intro w hSw
      go_simp
      try with_reducible rfl
    (try simp only [Act.put, List.setIfInBounds_toArray, List.set_cons_zero, List.set_cons_succ])
    refine wpAnyH_take (i := 1) (oi := { dst := some 84, op := Op.move (Operand.tmp 1), type := 22, pos := "law.go:143", after := #[], guard := none }) (v := ?vtc1) rfl (by kernel_rfl) (by kernel_rfl) (by kernel_rfl) (fun _ _ _ h => h) (Or.inl ⟨by rfl, ?htc1⟩) (Below.refl _ _) ?rtc1
    case htc1 =>
      intro w hSw
      go_simp
      try with_reducible rfl
    (try simp only [Act.put, List.setIfInBounds_toArray, List.set_cons_zero, List.set_cons_succ])
    refine wpAnyH_ready (rs := [2]) (by kernel_rfl) (by simp) ?_
    refine AllReadyH.cons (o := { dst := some 85, op := Op.call { callee := Callee.value (Operand.func 15), args := #[Operand.tmp 83, Operand.tmp 84], argTypes := #[22, 22] }, type := 22, pos := "law.go:143", after := #[{ on := 0, ground := Ground.data }, { on := 1, ground := Ground.data }], guard := none }) rfl (fun K hK => ?_) AllReadyH.nil
    go_simp
    (go_at_call 15; refine (sUV _ _ _ ba bb).mono ?_; rintro e w51 ⟨s51, rfl, hn51, hb51⟩; (have t51 := hn51.str); obtain ⟨g51, rfl, -⟩ := hn51)
    (try go_simp)
    refine hK.out _ _ hb51 (fun h => ?_)
    clear h hK K
    refine wpAnyH_narrow (S' := fun w' => Below w51.heap.size w51 w') (fun _ h => below_next hb51 h) _ _ _ _ ?_
    replace ba := ba.still hb51
    replace bb := bb.still hb51
    replace hw := below_next hw hb51
    clear hb51
    (try simp only [Act.put, List.setIfInBounds_toArray, List.set_cons_zero, List.set_cons_succ])
    refine wpAnyH_take (i := 3) (oi := { dst := some 86, op := Op.convert 22 9 (Operand.tmp 85), type := 9, pos := "law.go:143", after := #[{ on := 2, ground := Ground.data }], guard := none }) (v := ?vtc3) rfl (by kernel_rfl) (by kernel_rfl) (by kernel_rfl) (fun _ _ _ h => h) (Or.inl ⟨by rfl, ?htc3⟩) (Below.refl _ _) ?rtc3
    case htc3 =>
      intro w hSw
      have q := t51.conv w hSw
      go_simp
      try with_reducible rfl
    (try simp only [Act.put, List.setIfInBounds_toArray, List.set_cons_zero, List.set_cons_succ])
    refine wpAnyH_ready (rs := [4]) (by kernel_rfl) (by simp) ?_
    refine AllReadyH.cons (o := { dst := some 87, op := Op.call { callee := Callee.value (Operand.func 14), args := #[Operand.const (Value.int IntKind.u8 0)], argTypes := #[5] }, type := 22, pos := "law.go:143", after := #[{ on := 2, ground := Ground.chain }], guard := none }) rfl (fun K hK => ?_) AllReadyH.nil
    go_simp
    (go_at_call 14; refine (c0 _).mono ?_; rintro e w52 ⟨s52, rfl, hn52, hb52⟩; (have t52 := hn52.str); obtain ⟨g52, rfl, -⟩ := hn52)
    (try go_simp)
    refine hK.out _ _ hb52 (fun h => ?_)
    clear h hK K
    refine wpAnyH_narrow (S' := fun w' => Below w52.heap.size w52 w') (fun _ h => below_next hb52 h) _ _ _ _ ?_
    replace ba := ba.still hb52
    replace bb := bb.still hb52
    replace t51 := t51.still hb52
    replace hw := below_next hw hb52
    clear hb52
    (try simp only [Act.put, List.setIfInBounds_toArray, List.set_cons_zero, List.set_cons_succ])
    refine wpAnyH_take (i := 5) (oi := { dst := some 88, op := Op.convert 22 9 (Operand.tmp 87), type := 9, pos := "law.go:143", after := #[{ on := 4, ground := Ground.data }], guard := none }) (v := ?vtc5) rfl (by kernel_rfl) (by kernel_rfl) (by kernel_rfl) (fun _ _ _ h => h) (Or.inl ⟨by rfl, ?htc5⟩) (Below.refl _ _) ?rtc5
    case htc5 =>
      intro w hSw
      have q := t52.conv w hSw
      go_simp
      try with_reducible rfl
    (try simp only [Act.put, List.setIfInBounds_toArray, List.set_cons_zero, List.set_cons_succ])
    refine wpAnyH_take (i := 6) (oi := { dst := some 89, op := Op.binOp BinOp.eql 9 (Operand.tmp 86) (Operand.tmp 88) 9, type := 4, pos := "law.go:143", after := #[{ on := 3, ground := Ground.data }, { on := 5, ground := Ground.data }], guard := none }) (v := ?vtc6) rfl (by kernel_rfl) (by kernel_rfl) (by kernel_rfl) (fun _ _ _ h => h) (Or.inl ⟨by rfl, ?htc6⟩) (Below.refl _ _) ?rtc6
    case htc6 =>
      intro w hSw
      go_simp
      try with_reducible rfl
    (try simp only [Act.put, List.setIfInBounds_toArray, List.set_cons_zero, List.set_cons_succ])
    refine wpAnyH_take (i := 7) (oi := { dst := some 11, op := Op.assign (Operand.tmp 89), type := 4, pos := "law.go:143", after := #[{ on := 6, ground := Ground.data }, { on := 4, ground := Ground.chain }, { on := 0, ground := Ground.phase }, { on := 1, ground := Ground.phase }, { on := 2, ground := Ground.phase }, { on := 3, ground := Ground.phase }, { on := 4, ground := Ground.phase }, { on := 5, ground := Ground.phase }, { on := 6, ground := Ground.phase }], guard := none }) (v := ?vtc7) rfl (by kernel_rfl) (by kernel_rfl) (by kernel_rfl) (fun _ _ _ h => h) (Or.inl ⟨by rfl, ?htc7⟩) (Below.refl _ _) ?rtc7
    case htc7 =>
      intro w hSw
      go_simp
      try with_reducible rfl
    (try simp only [Act.put, List.setIfInBounds_toArray, List.set_cons_zero, List.set_cons_succ])
    refine wpAnyH_done (by kernel_rfl) ?_ _
    refine NoPanic.normal ?_
    clear t51 t52
    go_upto_region 12 with (fail)
    (try simp only [Act.put, List.setIfInBounds_toArray, List.set_cons_zero, List.set_cons_succ])
    have hdrew : Below w52.heap.size w52 w52.drew := (Below.refl _ _).drew
    replace ba := ba.still hdrew
    replace bb := bb.still hdrew
    replace hw := below_next hw hdrew
    clear hdrew
    refine wp_region_noPanic ?_
    refine wp_region_held_drew (S := fun w' => Below w52.drew.heap.size w52.drew w') (by kernel_rfl) (Below.refl _ _) (fun hHeld => ?_)
    clear hHeld
    refine wpAnyH_take (i := 0) (oi := { dst := some 90, op := Op.move (Operand.tmp 11), type := 4, pos := "law.go:144", after := #[], guard := none }) (v := ?vtd0) rfl (by kernel_rfl) (by kernel_rfl) (by kernel_rfl) (fun _ _ _ h => h) (Or.inl ⟨by rfl, ?htd0⟩) (Below.refl _ _) ?rtd0
    case htd0 =>
      intro w hSw
      go_simp
      try with_reducible rfl
    (try simp only [Act.put, List.setIfInBounds_toArray, List.set_cons_zero, List.set_cons_succ])
    refine wpAnyH_take (i := 1) (oi := { dst := some 91, op := Op.move (Operand.tmp 0), type := 22, pos := "law.go:144", after := #[], guard := none }) (v := ?vtd1) rfl (by kernel_rfl) (by kernel_rfl) (by kernel_rfl) (fun _ _ _ h => h) (Or.inl ⟨by rfl, ?htd1⟩) (Below.refl _ _) ?rtd1
    case htd1 =>
      intro w hSw
      go_simp
      try with_reducible rfl
    (try simp only [Act.put, List.setIfInBounds_toArray, List.set_cons_zero, List.set_cons_succ])
    refine wpAnyH_take (i := 5) (oi := { dst := some 95, op := Op.move (Operand.tmp 1), type := 22, pos := "law.go:144", after := #[], guard := none }) (v := ?vtd5) rfl (by kernel_rfl) (by kernel_rfl) (by kernel_rfl) (fun _ _ _ h => h) (Or.inl ⟨by rfl, ?htd5⟩) (Below.refl _ _) ?rtd5
    case htd5 =>
      intro w hSw
      go_simp
      try with_reducible rfl
    (try simp only [Act.put, List.setIfInBounds_toArray, List.set_cons_zero, List.set_cons_succ])
    refine wpAnyH_ready (rs := [2]) (by kernel_rfl) (by simp) ?_
    refine AllReadyH.cons (o := { dst := some 92, op := Op.call { callee := Callee.value (Operand.func 14), args := #[Operand.const (Value.int IntKind.u8 0)], argTypes := #[5] }, type := 22, pos := "law.go:144", after := #[], guard := none }) rfl (fun K hK => ?_) AllReadyH.nil
    go_simp
    (go_at_call 14; refine (c0 _).mono ?_; rintro e w61 ⟨s61, rfl, hn61, hb61⟩; (have b61 := hn61.bytes (by decide)); obtain ⟨g61, rfl, -⟩ := hn61)
    (try go_simp)
    refine hK.out _ _ hb61 (fun h => ?_)
    clear h hK K
    refine wpAnyH_narrow (S' := fun w' => Below w61.heap.size w61 w') (fun _ h => below_next hb61 h) _ _ _ _ ?_
    replace ba := ba.still hb61
    replace bb := bb.still hb61
    replace hw := below_next hw hb61
    clear hb61
    (try simp only [Act.put, List.setIfInBounds_toArray, List.set_cons_zero, List.set_cons_succ])
    refine wpAnyH_ready (rs := [3]) (by kernel_rfl) (by simp) ?_
    refine AllReadyH.cons (o := { dst := some 93, op := Op.call { callee := Callee.value (Operand.func 13), args := #[Operand.tmp 91, Operand.tmp 92], argTypes := #[22, 22] }, type := 22, pos := "law.go:144", after := #[{ on := 1, ground := Ground.data }, { on := 2, ground := Ground.data }, { on := 2, ground := Ground.chain }], guard := none }) rfl (fun K hK => ?_) AllReadyH.nil
    go_simp
    (go_at_call 13; refine (aU _ _ _ ba b61).mono ?_; rintro e w62 ⟨s62, rfl, hn62, hb62⟩; (have t62 := hn62.str); obtain ⟨g62, rfl, -⟩ := hn62)
    (try go_simp)
    refine hK.out _ _ hb62 (fun h => ?_)
    clear h hK K
    refine wpAnyH_narrow (S' := fun w' => Below w62.heap.size w62 w') (fun _ h => below_next hb62 h) _ _ _ _ ?_
    clear b61
    replace ba := ba.still hb62
    replace bb := bb.still hb62
    replace hw := below_next hw hb62
    clear hb62
    (try simp only [Act.put, List.setIfInBounds_toArray, List.set_cons_zero, List.set_cons_succ])
    refine wpAnyH_take (i := 4) (oi := { dst := some 94, op := Op.convert 22 9 (Operand.tmp 93), type := 9, pos := "law.go:144", after := #[{ on := 3, ground := Ground.data }], guard := none }) (v := ?vtd4) rfl (by kernel_rfl) (by kernel_rfl) (by kernel_rfl) (fun _ _ _ h => h) (Or.inl ⟨by rfl, ?htd4⟩) (Below.refl _ _) ?rtd4
    case htd4 =>
      intro w hSw
      have q := t62.conv w hSw
      go_simp
      try with_reducible rfl
    (try simp only [Act.put, List.setIfInBounds_toArray, List.set_cons_zero, List.set_cons_succ])
    refine wpAnyH_ready (rs := [6]) (by kernel_rfl) (by simp) ?_
    refine AllReadyH.cons (o := { dst := some 96, op := Op.call { callee := Callee.value (Operand.func 14), args := #[Operand.const (Value.int IntKind.u8 0)], argTypes := #[5] }, type := 22, pos := "law.go:144", after := #[{ on := 3, ground := Ground.chain }], guard := none }) rfl (fun K hK => ?_) AllReadyH.nil
    go_simp
    (go_at_call 14; refine (c0 _).mono ?_; rintro e w63 ⟨s63, rfl, hn63, hb63⟩; (have b63 := hn63.bytes (by decide)); obtain ⟨g63, rfl, -⟩ := hn63)
    (try go_simp)
    refine hK.out _ _ hb63 (fun h => ?_)
    clear h hK K
    refine wpAnyH_narrow (S' := fun w' => Below w63.heap.size w63 w') (fun _ h => below_next hb63 h) _ _ _ _ ?_
    replace ba := ba.still hb63
    replace bb := bb.still hb63
    replace t62 := t62.still hb63
    replace hw := below_next hw hb63
    clear hb63
    (try simp only [Act.put, List.setIfInBounds_toArray, List.set_cons_zero, List.set_cons_succ])
    refine wpAnyH_ready (rs := [7]) (by kernel_rfl) (by simp) ?_
    refine AllReadyH.cons (o := { dst := some 97, op := Op.call { callee := Callee.value (Operand.func 13), args := #[Operand.tmp 95, Operand.tmp 96], argTypes := #[22, 22] }, type := 22, pos := "law.go:144", after := #[{ on := 5, ground := Ground.data }, { on := 6, ground := Ground.data }, { on := 6, ground := Ground.chain }], guard := none }) rfl (fun K hK => ?_) AllReadyH.nil
    go_simp
    (go_at_call 13; refine (aV _ _ _ bb b63).mono ?_; rintro e w64 ⟨s64, rfl, hn64, hb64⟩; (have t64 := hn64.str); obtain ⟨g64, rfl, -⟩ := hn64)
    (try go_simp)
    refine hK.out _ _ hb64 (fun h => ?_)
    clear h hK K
    refine wpAnyH_narrow (S' := fun w' => Below w64.heap.size w64 w') (fun _ h => below_next hb64 h) _ _ _ _ ?_
    clear b63
    replace ba := ba.still hb64
    replace bb := bb.still hb64
    replace t62 := t62.still hb64
    replace hw := below_next hw hb64
    clear hb64
    (try simp only [Act.put, List.setIfInBounds_toArray, List.set_cons_zero, List.set_cons_succ])
    refine wpAnyH_take (i := 8) (oi := { dst := some 98, op := Op.convert 22 9 (Operand.tmp 97), type := 9, pos := "law.go:144", after := #[{ on := 7, ground := Ground.data }], guard := none }) (v := ?vtd8) rfl (by kernel_rfl) (by kernel_rfl) (by kernel_rfl) (fun _ _ _ h => h) (Or.inl ⟨by rfl, ?htd8⟩) (Below.refl _ _) ?rtd8
    case htd8 =>
      intro w hSw
      have q := t64.conv w hSw
      go_simp
      try with_reducible rfl
    (try simp only [Act.put, List.setIfInBounds_toArray, List.set_cons_zero, List.set_cons_succ])
    refine wpAnyH_take (i := 9) (oi := { dst := some 99, op := Op.binOp BinOp.eql 9 (Operand.tmp 94) (Operand.tmp 98) 9, type := 4, pos := "law.go:144", after := #[{ on := 4, ground := Ground.data }, { on := 8, ground := Ground.data }], guard := none }) (v := ?vtd9) rfl (by kernel_rfl) (by kernel_rfl) (by kernel_rfl) (fun _ _ _ h => h) (Or.inl ⟨by rfl, ?htd9⟩) (Below.refl _ _) ?rtd9
    case htd9 =>
      intro w hSw
      go_simp
      try with_reducible rfl
    (try simp only [Act.put, List.setIfInBounds_toArray, List.set_cons_zero, List.set_cons_succ])
    refine wpAnyH_take (i := 10) (oi := { dst := some 100, op := Op.binOp BinOp.eql 4 (Operand.tmp 90) (Operand.tmp 99) 4, type := 4, pos := "law.go:144", after := #[{ on := 0, ground := Ground.data }, { on := 9, ground := Ground.data }], guard := none }) (v := ?vtd10) rfl (by kernel_rfl) (by kernel_rfl) (by kernel_rfl) (fun _ _ _ h => h) (Or.inl ⟨by rfl, ?htd10⟩) (Below.refl _ _) ?rtd10
    case htd10 =>
      intro w hSw
      go_simp
      try with_reducible rfl
    (try simp only [Act.put, List.setIfInBounds_toArray, List.set_cons_zero, List.set_cons_succ])
    refine wpAnyH_take (i := 11) (oi := { dst := some 4, op := Op.assign (Operand.tmp 100), type := 4, pos := "law.go:144", after := #[{ on := 10, ground := Ground.data }, { on := 7, ground := Ground.chain }, { on := 0, ground := Ground.phase }, { on := 1, ground := Ground.phase }, { on := 2, ground := Ground.phase }, { on := 3, ground := Ground.phase }, { on := 4, ground := Ground.phase }, { on := 5, ground := Ground.phase }, { on := 6, ground := Ground.phase }, { on := 7, ground := Ground.phase }, { on := 8, ground := Ground.phase }, { on := 9, ground := Ground.phase }, { on := 10, ground := Ground.phase }], guard := none }) (v := ?vtd11) rfl (by kernel_rfl) (by kernel_rfl) (by kernel_rfl) (fun _ _ _ h => h) (Or.inl ⟨by rfl, ?htd11⟩) (Below.refl _ _) ?rtd11
    case htd11 =>
      intro w hSw
      go_simp
      try with_reducible rfl
    (try simp only [Act.put, List.setIfInBounds_toArray, List.set_cons_zero, List.set_cons_succ])
    refine wpAnyH_done (by kernel_rfl) ?_ _
    refine NoPanic.normal ?_
    go_wp2
    go_ret
    refine ⟨?_, hw⟩
    simp
end Go.Proofs.YtinigkpidhbgcaaDoor
