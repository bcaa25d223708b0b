/- The walk of the law FieldTwice in the model. -/
import Derived.Test.YtinigkpidhbgcaaInverts
import Derived.Test.YtinigkpidhbgcaaFit
import Derived.Test.YtinigkpidhbgcaaPrimeUse
import Derived.Test.YtinigkpidhbgcaaNarrow
import Derived.WideShapes
namespace Go.Proofs.Ytinigkpidhbgcaa
open Go.RowKit
set_option maxRecDepth 20000 in
set_option maxHeartbeats 4000000 in
theorem twice1 (a b : Value) (n m : Nat) (bs cs : Nat → Nat) (hbs : ∀ j, bs j < 256) (hcs : ∀ j, cs j < 256) (w : World) (ha : BytesIn w a n bs) (hb : BytesIn w b m cs) (hX : ofB (fitB n bs) 32 % pF = 0) :
    Calls Try.prog 9 #[a, b] w fun e w' => e = .returned (.bool true) ∧ Below w.heap.size w w' := by
  have cf1 := fit_any a n bs w ha
  have cf2 := fun W (h : Below w.heap.size w W) => fit_any b m cs W (hb.still h)
  have hXl : ofB (fitB n bs) 32 % pF < pF := Nat.mod_lt _ (by decide)
  have hYl : ofB (fitB m cs) 32 % pF < pF := Nat.mod_lt _ (by decide)
  have cc := fun W v hv => canon_good v (fitB n bs) (fitB_lt hbs) W hv
  have ci := fun W v hv => inv_good v (fitB n bs) (fitB_lt hbs) W hv
  have cs1 := fun W u v hu hv => sub3_any u v (byt 0) (fitB n bs) (byt_all 0) (fitB_lt hbs) W hu hv
  have cad := fun W u v hu hv => add3_any u v (fitB m cs) (byt 0) (fitB_lt hcs) (byt_all 0) W hu hv
  have cmu := fun W u v hu hv => mul3_any u v (fitB n bs) (fitB m cs) (fitB_lt hbs) (fitB_lt hcs) W hu hv
  have cz : ∀ W, Calls Try.prog 26 #[.int .u8 0] W fun e w' => ∃ s, e = .returned s ∧ NewB W w' s 32 (byt 0) ∧ Below W.heap.size W w' := fun W => small_any 0 (by decide) W
  have e0 : ofB (byt 0) 32 % pF = 0 := by kernel_rfl
  obtain ⟨X, hXe⟩ : ∃ X, X = ofB (fitB n bs) 32 % pF := ⟨_, rfl⟩
  obtain ⟨Y, hYe⟩ : ∃ Y, Y = ofB (fitB m cs) 32 % pF := ⟨_, rfl⟩
  rw [← hXe] at cc ci cs1 cmu hXl hX
  rw [← hYe] at cad cmu hYl
  rw [e0] at cs1 cad
  have hii := inv_inv hXl
  obtain ⟨I, hIe⟩ : ∃ I, I = X ^ (pF - 2) % pF := ⟨_, rfl⟩
  rw [← hIe] at ci hii
  have hIl : I < pF := by rw [hIe]; exact Nat.mod_lt _ (by decide)
  have hpb : ∀ x, x < pF → ofB (byt x) 32 % pF = x := fun x hx => by rw [ofB_byt32 x (by unfold pF at hx; omega), Nat.mod_eq_of_lt hx]
  have cj := fun W v hv => inv_good v (byt I) (byt_all I) W hv
  rw [hpb I hIl, hii] at cj
  obtain ⟨M, hMe⟩ : ∃ M, M = (0 + pF - X) % pF := ⟨_, rfl⟩
  have hMl : M < pF := by rw [hMe]; exact Nat.mod_lt _ (by decide)
  have hMM : (0 + pF - M) % pF = X := by rw [hMe]; unfold pF at hXl ⊢; omega
  rw [← hMe] at cs1
  have cs2 := fun W u v hu hv => sub3_any u v (byt 0) (byt M) (byt_all 0) (byt_all M) W hu hv
  rw [e0, hpb M hMl, hMM] at cs2
  have hadd : (Y + 0) % pF = Y := by rw [Nat.add_zero, Nat.mod_eq_of_lt hYl]
  rw [hadd] at cad
  rw [hX, Nat.zero_mul, Nat.zero_mod] at cmu
  rw [hX] at cc cj cs2
  have hne : ∀ x, x ≠ 0 → x < pF → ((strB 32 (byt x)).toList == (strB 32 (byt 0)).toList) = false := fun x h hx => by
    rw [ByteArray.toList_eq, ByteArray.toList_eq]
    refine beq_false_of_ne (fun e => h ?_)
    have := (strB_eq (byt_all x) (byt_all 0)).1 (WideShapes.bytes_inj e)
    exact byt_inj (by unfold pF at hx; omega) (by decide) this.2
  obtain ⟨S0, hS0⟩ : ∃ S, S = strB 32 (byt 0) := ⟨_, rfl⟩
  rw [← hS0] at hne
  have HS0 := Hid.mk' hS0
  clear hS0
  have hk := fun W => knows3_any W
  obtain ⟨xa, ka, rfl, -⟩ := ha.src
  obtain ⟨xb, kb, rfl, -⟩ := hb.src
  clear ha hb hXe hYe hIe hMe hpb hii hMM e0 hadd hne hIl hMl hXl hYl hX
  go_enter Try.func9, Try.ntmps9
  go_wp2_with (first
    | (go_at_call 25; refine cf1.mono ?_; clear cf1; rintro e w1 ⟨A, rfl, hA, hb1⟩; replace cf2 := cf2 w1 hb1; (have hA1 := hA.bytes (by decide)); obtain ⟨gA, rfl, -⟩ := hA)
    | (go_at_call 25; refine cf2.mono ?_; clear cf2; rintro e w2 ⟨B, rfl, hB, hb2⟩; (have hB2 := hB.bytes (by decide)); obtain ⟨gB, rfl, -⟩ := hB; (have hA2 := hA1.still hb2); (have hw2 := hb1.trans (hb2.mono hb1.size)); replace cc := cc w2 _ hA2)
    | (go_at_call 15; refine cc.mono ?_; clear cc; rintro e w3 ⟨x, rfl, hx, hb3⟩; (have sx3 := hx.str); obtain ⟨gx, rfl, -⟩ := hx; (have hw3 := hw2.trans (hb3.mono hw2.size)); (have hA3 := hA2.still hb3); (have hB3 := hB2.still hb3); replace ci := ci w3 _ hA3)
    | (go_at_call 22; refine ci.mono ?_; clear ci; rintro e w4 ⟨i, rfl, hi, hb4⟩; (have hI4 := hi.bytes (by decide)); obtain ⟨gi, rfl, -⟩ := hi; (have hw4 := hw3.trans (hb4.mono hw3.size)); (have hA4 := hA3.still hb4); (have hB4 := hB3.still hb4); (have sx4 := sx3.still hb4); replace cj := cj w4 _ hI4)
    | (go_at_call 22; refine cj.mono ?_; clear cj; rintro e w5 ⟨j, rfl, hj, hb5⟩; (have sj5 := hj.str); obtain ⟨gj, rfl, -⟩ := hj; (have hw5 := hw4.trans (hb5.mono hw4.size)); (have hA5 := hA4.still hb5); (have hB5 := hB4.still hb5); (have sx5 := sx4.still hb5))
    | (go_at_call 26; refine (cz _).mono ?_; clear cz; rintro e w6 ⟨z, rfl, hz, hb6⟩; (have sz6 := hz.str); (have hZ6 := hz.bytes (by decide)); obtain ⟨gz, rfl, -⟩ := hz; (have hw6 := hw5.trans (hb6.mono hw5.size)); (have hA6 := hA5.still hb6); (have hB6 := hB5.still hb6); (have sx6 := sx5.still hb6); (have sj6 := sj5.still hb6); replace cs1 := cs1 w6 _ _ hZ6 hA6)
    | (go_at_call 29; refine cs1.mono ?_; clear cs1; rintro e w7 ⟨s, rfl, hs, hb7⟩; (have hs7 := hs.bytes (by decide)); obtain ⟨gs, rfl, -⟩ := hs; (have hw7 := hw6.trans (hb7.mono hw6.size)); (have hA7 := hA6.still hb7); (have hB7 := hB6.still hb7); (have hZ7 := hZ6.still hb7); (have sx7 := sx6.still hb7); (have sj7 := sj6.still hb7); (have sz7 := sz6.still hb7); replace cs2 := cs2 w7 _ _ hZ7 hs7)
    | (go_at_call 29; refine cs2.mono ?_; clear cs2; rintro e w8 ⟨t, rfl, ht, hb8⟩; (have st8 := ht.str); obtain ⟨gt, rfl, -⟩ := ht; (have hw8 := hw7.trans (hb8.mono hw7.size)); (have hA8 := hA7.still hb8); (have hB8 := hB7.still hb8); (have hZ8 := hZ7.still hb8); (have sx8 := sx7.still hb8); (have sj8 := sj7.still hb8); (have sz8 := sz7.still hb8); clear sx3 sx4 sx5 sx6 sx7 sj5 sj6 sj7 sz6 sz7 hA1 hA2 hA3 hA4 hA5 hA6 hA7 hB2 hB3 hB4 hB5 hB6 hB7 hZ6 hZ7 hs7 hI4 hw2 hw3 hw4 hw5 hw6 hw7 hb1 hb2 hb3 hb4 hb5 hb6 hb7 hb8))
  rw [← HS0.out] at sx8 sj8 st8
  rw [← HS0.out] at sz8
  have hw0 : IntKind.i64.wrap 0 = 0 := by decide
  have hdrew : Below w8.heap.size w8 w8.drew := (Below.refl _ _).drew
  replace hA8 := hA8.still hdrew
  replace hB8 := hB8.still hdrew
  replace hZ8 := hZ8.still hdrew
  replace sx8 := sx8.still hdrew
  replace sj8 := sj8.still hdrew
  replace st8 := st8.still hdrew
  replace sz8 := sz8.still hdrew
  replace hw8 := below_next hw8 hdrew
  clear hdrew
  refine wp_region_noPanic ?_
  refine wp_region_held_drew (S := fun w' => Below w8.drew.heap.size w8.drew w') (by kernel_rfl) (Below.refl _ _) (fun hHeld => ?_)
  clear hHeld
  refine wpAnyH_take (i := 0) (oi := { dst := some 39, op := Op.move (Operand.tmp 5), type := 22, pos := "law.go:197", after := #[], guard := none }) (v := ?va0) rfl (by kernel_rfl) (by kernel_rfl) (by kernel_rfl) (fun _ _ _ h => h) (Or.inl ⟨by rfl, ?ha0⟩) (Below.refl _ _) ?ra0
  case ha0 =>
    intro w hSw
    go_simp
    try with_reducible rfl
  (try simp only [Act.put, List.setIfInBounds_toArray, List.set_cons_zero, List.set_cons_succ])
  refine wpAnyH_take (i := 1) (oi := { dst := some 40, op := Op.convert 22 9 (Operand.tmp 39), type := 9, pos := "law.go:197", after := #[{ on := 0, ground := Ground.data }], guard := none }) (v := ?va1) rfl (by kernel_rfl) (by kernel_rfl) (by kernel_rfl) (fun _ _ _ h => h) (Or.inl ⟨by rfl, ?ha1⟩) (Below.refl _ _) ?ra1
  case ha1 =>
    intro w hSw
    have q := sx8.conv w hSw
    go_simp
    try with_reducible rfl
  (try simp only [Act.put, List.setIfInBounds_toArray, List.set_cons_zero, List.set_cons_succ])
  refine wpAnyH_take (i := 2) (oi := { dst := some 41, op := Op.move (Operand.tmp 11), type := 22, pos := "law.go:197", after := #[], guard := none }) (v := ?va2) rfl (by kernel_rfl) (by kernel_rfl) (by kernel_rfl) (fun _ _ _ h => h) (Or.inl ⟨by rfl, ?ha2⟩) (Below.refl _ _) ?ra2
  case ha2 =>
    intro w hSw
    go_simp
    try with_reducible rfl
  (try simp only [Act.put, List.setIfInBounds_toArray, List.set_cons_zero, List.set_cons_succ])
  refine wpAnyH_take (i := 3) (oi := { dst := some 42, op := Op.convert 22 9 (Operand.tmp 41), type := 9, pos := "law.go:197", after := #[{ on := 2, ground := Ground.data }], guard := none }) (v := ?va3) rfl (by kernel_rfl) (by kernel_rfl) (by kernel_rfl) (fun _ _ _ h => h) (Or.inl ⟨by rfl, ?ha3⟩) (Below.refl _ _) ?ra3
  case ha3 =>
    intro w hSw
    have q := sz8.conv w hSw
    go_simp
    try with_reducible rfl
  (try simp only [Act.put, List.setIfInBounds_toArray, List.set_cons_zero, List.set_cons_succ])
  refine wpAnyH_take (i := 4) (oi := { dst := some 43, op := Op.binOp BinOp.eql 9 (Operand.tmp 40) (Operand.tmp 42) 9, type := 4, pos := "law.go:197", after := #[{ on := 1, ground := Ground.data }, { on := 3, ground := Ground.data }], guard := none }) (v := ?va4) rfl (by kernel_rfl) (by kernel_rfl) (by kernel_rfl) (fun _ _ _ h => h) (Or.inl ⟨by rfl, ?ha4⟩) (Below.refl _ _) ?ra4
  case ha4 =>
    intro w hSw
    go_simp
    try with_reducible rfl
  (try simp only [Act.put, List.setIfInBounds_toArray, List.set_cons_zero, List.set_cons_succ])
  refine wpAnyH_take (i := 5) (oi := { dst := some 44, op := Op.move (Operand.tmp 43), type := 4, pos := "law.go:197", after := #[{ on := 4, ground := Ground.data }], guard := none }) (v := ?va5) rfl (by kernel_rfl) (by kernel_rfl) (by kernel_rfl) (fun _ _ _ h => h) (Or.inl ⟨by rfl, ?ha5⟩) (Below.refl _ _) ?ra5
  case ha5 =>
    intro w hSw
    go_simp
    try with_reducible rfl
  (try simp only [Act.put, List.setIfInBounds_toArray, List.set_cons_zero, List.set_cons_succ])
  refine wpAnyH_take (i := 6) (oi := { dst := some 45, op := Op.move (Operand.tmp 1), type := 22, pos := "law.go:197", after := #[{ on := 5, ground := Ground.guard }], guard := some (5, false) }) (v := undef) rfl (by kernel_rfl) (by kernel_rfl) (by kernel_rfl) (fun _ _ _ h => h) (Or.inr ⟨by rfl, rfl⟩) (Below.refl _ _) ?_
  (try simp only [Act.put, List.setIfInBounds_toArray, List.set_cons_zero, List.set_cons_succ])
  refine wpAnyH_take (i := 7) (oi := { dst := some 46, op := Op.move (Operand.tmp 11), type := 22, pos := "law.go:197", after := #[{ on := 5, ground := Ground.guard }], guard := some (5, false) }) (v := undef) rfl (by kernel_rfl) (by kernel_rfl) (by kernel_rfl) (fun _ _ _ h => h) (Or.inr ⟨by rfl, rfl⟩) (Below.refl _ _) ?_
  (try simp only [Act.put, List.setIfInBounds_toArray, List.set_cons_zero, List.set_cons_succ])
  refine wpAnyH_take (i := 8) (oi := { dst := some 47, op := Op.call { callee := Callee.value (Operand.func 28), args := #[Operand.tmp 45, Operand.tmp 46], argTypes := #[22, 22] }, type := 22, pos := "law.go:197", after := #[{ on := 6, ground := Ground.data }, { on := 7, ground := Ground.data }, { on := 5, ground := Ground.chain }, { on := 5, ground := Ground.guard }], guard := some (5, false) }) (v := undef) rfl (by kernel_rfl) (by kernel_rfl) (by kernel_rfl) (fun _ _ _ h => h) (Or.inr ⟨by rfl, rfl⟩) (Below.refl _ _) ?_
  (try simp only [Act.put, List.setIfInBounds_toArray, List.set_cons_zero, List.set_cons_succ])
  refine wpAnyH_take (i := 9) (oi := { dst := some 48, op := Op.convert 22 9 (Operand.tmp 47), type := 9, pos := "law.go:197", after := #[{ on := 8, ground := Ground.data }, { on := 5, ground := Ground.guard }], guard := some (5, false) }) (v := undef) rfl (by kernel_rfl) (by kernel_rfl) (by kernel_rfl) (fun _ _ _ h => h) (Or.inr ⟨by rfl, rfl⟩) (Below.refl _ _) ?_
  (try simp only [Act.put, List.setIfInBounds_toArray, List.set_cons_zero, List.set_cons_succ])
  refine wpAnyH_take (i := 10) (oi := { dst := some 49, op := Op.move (Operand.tmp 11), type := 22, pos := "law.go:197", after := #[{ on := 5, ground := Ground.guard }], guard := some (5, false) }) (v := undef) rfl (by kernel_rfl) (by kernel_rfl) (by kernel_rfl) (fun _ _ _ h => h) (Or.inr ⟨by rfl, rfl⟩) (Below.refl _ _) ?_
  (try simp only [Act.put, List.setIfInBounds_toArray, List.set_cons_zero, List.set_cons_succ])
  refine wpAnyH_take (i := 11) (oi := { dst := some 50, op := Op.convert 22 9 (Operand.tmp 49), type := 9, pos := "law.go:197", after := #[{ on := 10, ground := Ground.data }, { on := 5, ground := Ground.guard }], guard := some (5, false) }) (v := undef) rfl (by kernel_rfl) (by kernel_rfl) (by kernel_rfl) (fun _ _ _ h => h) (Or.inr ⟨by rfl, rfl⟩) (Below.refl _ _) ?_
  (try simp only [Act.put, List.setIfInBounds_toArray, List.set_cons_zero, List.set_cons_succ])
  refine wpAnyH_take (i := 12) (oi := { dst := some 51, op := Op.binOp BinOp.eql 9 (Operand.tmp 48) (Operand.tmp 50) 9, type := 4, pos := "law.go:197", after := #[{ on := 9, ground := Ground.data }, { on := 11, ground := Ground.data }, { on := 5, ground := Ground.guard }], guard := some (5, false) }) (v := undef) rfl (by kernel_rfl) (by kernel_rfl) (by kernel_rfl) (fun _ _ _ h => h) (Or.inr ⟨by rfl, rfl⟩) (Below.refl _ _) ?_
  (try simp only [Act.put, List.setIfInBounds_toArray, List.set_cons_zero, List.set_cons_succ])
  refine wpAnyH_take (i := 13) (oi := { dst := some 52, op := Op.pick (Operand.tmp 44) (Operand.const (Value.bool true)) (Operand.tmp 51), type := 4, pos := "law.go:197", after := #[{ on := 5, ground := Ground.data }, { on := 12, ground := Ground.data }], guard := none }) (v := ?va13) rfl (by kernel_rfl) (by kernel_rfl) (by kernel_rfl) (fun _ _ _ h => h) (Or.inl ⟨by rfl, ?ha13⟩) (Below.refl _ _) ?ra13
  case ha13 =>
    intro w hSw
    go_simp
    try with_reducible rfl
  (try simp only [Act.put, List.setIfInBounds_toArray, List.set_cons_zero, List.set_cons_succ])
  refine wpAnyH_take (i := 14) (oi := { dst := some 13, op := Op.assign (Operand.tmp 52), type := 4, pos := "law.go:197", after := #[{ on := 13, ground := Ground.data }, { on := 8, ground := Ground.chain }, { on := 0, ground := Ground.phase }, { on := 1, ground := Ground.phase }, { on := 2, ground := Ground.phase }, { on := 3, ground := Ground.phase }, { on := 4, ground := Ground.phase }, { on := 5, ground := Ground.phase }, { on := 6, ground := Ground.phase }, { on := 7, ground := Ground.phase }, { on := 8, ground := Ground.phase }, { on := 9, ground := Ground.phase }, { on := 10, ground := Ground.phase }, { on := 11, ground := Ground.phase }, { on := 12, ground := Ground.phase }, { on := 13, ground := Ground.phase }], guard := none }) (v := ?va14) rfl (by kernel_rfl) (by kernel_rfl) (by kernel_rfl) (fun _ _ _ h => h) (Or.inl ⟨by rfl, ?ha14⟩) (Below.refl _ _) ?ra14
  case ha14 =>
    intro w hSw
    go_simp
    try with_reducible rfl
  (try simp only [Act.put, List.setIfInBounds_toArray, List.set_cons_zero, List.set_cons_succ])
  refine wpAnyH_done (by kernel_rfl) ?_ _
  refine NoPanic.normal ?_
  go_wp2
  have hdrew : Below w8.drew.heap.size w8.drew w8.drew.drew := (Below.refl _ _).drew
  replace hA8 := hA8.still hdrew
  replace hB8 := hB8.still hdrew
  replace hZ8 := hZ8.still hdrew
  replace sx8 := sx8.still hdrew
  replace sj8 := sj8.still hdrew
  replace st8 := st8.still hdrew
  replace sz8 := sz8.still hdrew
  replace hw8 := below_next hw8 hdrew
  clear hdrew
  refine wp_region_noPanic ?_
  refine wp_region_held_drew (S := fun w' => Below w8.drew.drew.heap.size w8.drew.drew w') (by kernel_rfl) (Below.refl _ _) (fun hHeld => ?_)
  clear hHeld
  refine wpAnyH_take (i := 0) (oi := { dst := some 53, op := Op.move (Operand.tmp 6), type := 24, pos := "law.go:198", after := #[], guard := none }) (v := ?vb0) rfl (by kernel_rfl) (by kernel_rfl) (by kernel_rfl) (fun _ _ _ h => h) (Or.inl ⟨by rfl, ?hb0⟩) (Below.refl _ _) ?rb0
  case hb0 =>
    intro w hSw
    go_simp
    try with_reducible rfl
  (try simp only [Act.put, List.setIfInBounds_toArray, List.set_cons_zero, List.set_cons_succ])
  refine wpAnyH_take (i := 2) (oi := { dst := some 55, op := Op.move (Operand.tmp 8), type := 24, pos := "law.go:198", after := #[], guard := none }) (v := ?vb2) rfl (by kernel_rfl) (by kernel_rfl) (by kernel_rfl) (fun _ _ _ h => h) (Or.inl ⟨by rfl, ?hb2⟩) (Below.refl _ _) ?rb2
  case hb2 =>
    intro w hSw
    go_simp
    try with_reducible rfl
  (try simp only [Act.put, List.setIfInBounds_toArray, List.set_cons_zero, List.set_cons_succ])
  refine wpAnyH_take (i := 5) (oi := { dst := some 58, op := Op.move (Operand.tmp 10), type := 24, pos := "law.go:198", after := #[], guard := none }) (v := ?vb5) rfl (by kernel_rfl) (by kernel_rfl) (by kernel_rfl) (fun _ _ _ h => h) (Or.inl ⟨by rfl, ?hb5⟩) (Below.refl _ _) ?rb5
  case hb5 =>
    intro w hSw
    go_simp
    try with_reducible rfl
  (try simp only [Act.put, List.setIfInBounds_toArray, List.set_cons_zero, List.set_cons_succ])
  refine wpAnyH_ready (rs := [1]) (by kernel_rfl) (by simp) ?_
  refine AllReadyH.cons (o := { dst := some 54, op := Op.call { callee := Callee.value (Operand.func 17), args := #[Operand.tmp 53], argTypes := #[24] }, type := 3, pos := "law.go:198", after := #[{ on := 0, ground := Ground.data }], guard := none }) rfl (fun K hK => ?_) AllReadyH.nil
  go_simp
  (go_at_call 17; refine (num3_any _ _).mono ?_; rintro e wn ⟨rfl, hwn⟩; subst hwn)
  (try go_simp)
  refine hK.out _ _ (Below.refl _ _) (fun h => ?_)
  clear h hK K
  (try simp only [Act.put, List.setIfInBounds_toArray, List.set_cons_zero, List.set_cons_succ])
  refine wpAnyH_ready (rs := [3]) (by kernel_rfl) (by simp) ?_
  refine AllReadyH.cons (o := { dst := some 56, op := Op.call { callee := Callee.value (Operand.func 17), args := #[Operand.tmp 55], argTypes := #[24] }, type := 3, pos := "law.go:198", after := #[{ on := 2, ground := Ground.data }, { on := 1, ground := Ground.chain }], guard := none }) rfl (fun K hK => ?_) AllReadyH.nil
  go_simp
  (go_at_call 17; refine (num3_any _ _).mono ?_; rintro e wn ⟨rfl, hwn⟩; subst hwn)
  (try go_simp)
  refine hK.out _ _ (Below.refl _ _) (fun h => ?_)
  clear h hK K
  (try simp only [Act.put, List.setIfInBounds_toArray, List.set_cons_zero, List.set_cons_succ])
  refine wpAnyH_take (i := 4) (oi := { dst := some 57, op := Op.binOp BinOp.add 3 (Operand.tmp 54) (Operand.tmp 56) 3, type := 3, pos := "law.go:198", after := #[{ on := 1, ground := Ground.data }, { on := 3, ground := Ground.data }], guard := none }) (v := ?vb4) rfl (by kernel_rfl) (by kernel_rfl) (by kernel_rfl) (fun _ _ _ h => h) (Or.inl ⟨by rfl, ?hb4⟩) (Below.refl _ _) ?rb4
  case hb4 =>
    intro w hSw
    go_simp
    try with_reducible rfl
  (try simp only [Act.put, List.setIfInBounds_toArray, List.set_cons_zero, List.set_cons_succ])
  refine wpAnyH_ready (rs := [6]) (by kernel_rfl) (by simp) ?_
  refine AllReadyH.cons (o := { dst := some 59, op := Op.call { callee := Callee.value (Operand.func 17), args := #[Operand.tmp 58], argTypes := #[24] }, type := 3, pos := "law.go:198", after := #[{ on := 5, ground := Ground.data }, { on := 3, ground := Ground.chain }], guard := none }) rfl (fun K hK => ?_) AllReadyH.nil
  go_simp
  (go_at_call 17; refine (num3_any _ _).mono ?_; rintro e wn ⟨rfl, hwn⟩; subst hwn)
  (try go_simp)
  refine hK.out _ _ (Below.refl _ _) (fun h => ?_)
  clear h hK K
  (try simp only [Act.put, List.setIfInBounds_toArray, List.set_cons_zero, List.set_cons_succ])
  refine wpAnyH_take (i := 7) (oi := { dst := some 60, op := Op.binOp BinOp.add 3 (Operand.tmp 57) (Operand.tmp 59) 3, type := 3, pos := "law.go:198", after := #[{ on := 4, ground := Ground.data }, { on := 6, ground := Ground.data }], guard := none }) (v := ?vb7) rfl (by kernel_rfl) (by kernel_rfl) (by kernel_rfl) (fun _ _ _ h => h) (Or.inl ⟨by rfl, ?hb7⟩) (Below.refl _ _) ?rb7
  case hb7 =>
    intro w hSw
    go_simp
    try with_reducible rfl
  (try simp only [Act.put, List.setIfInBounds_toArray, List.set_cons_zero, List.set_cons_succ])
  refine wpAnyH_take (i := 8) (oi := { dst := some 61, op := Op.binOp BinOp.eql 3 (Operand.tmp 60) (Operand.const (Value.int IntKind.i64 0)) 3, type := 4, pos := "law.go:198", after := #[{ on := 7, ground := Ground.data }], guard := none }) (v := ?vb8) rfl (by kernel_rfl) (by kernel_rfl) (by kernel_rfl) (fun _ _ _ h => h) (Or.inl ⟨by rfl, ?hb8⟩) (Below.refl _ _) ?rb8
  case hb8 =>
    intro w hSw
    go_simp
    try with_reducible rfl
  (try simp only [Act.put, List.setIfInBounds_toArray, List.set_cons_zero, List.set_cons_succ])
  refine wpAnyH_take (i := 9) (oi := { dst := some 62, op := Op.move (Operand.tmp 61), type := 4, pos := "law.go:198", after := #[{ on := 8, ground := Ground.data }, { on := 6, ground := Ground.chain }], guard := none }) (v := ?vb9) rfl (by kernel_rfl) (by kernel_rfl) (by kernel_rfl) (fun _ _ _ h => h) (Or.inl ⟨by rfl, ?hb9⟩) (Below.refl _ _) ?rb9
  case hb9 =>
    intro w hSw
    go_simp
    try with_reducible rfl
  (try simp only [Act.put, List.setIfInBounds_toArray, List.set_cons_zero, List.set_cons_succ])
  refine wpAnyH_take (i := 10) (oi := { dst := some 63, op := Op.move (Operand.tmp 9), type := 22, pos := "law.go:198", after := #[{ on := 9, ground := Ground.guard }], guard := some (9, true) }) (v := ?vb10) rfl (by kernel_rfl) (by kernel_rfl) (by kernel_rfl) (fun _ _ _ h => h) (Or.inl ⟨by rfl, ?hb10⟩) (Below.refl _ _) ?rb10
  case hb10 =>
    intro w hSw
    go_simp
    try with_reducible rfl
  (try simp only [Act.put, List.setIfInBounds_toArray, List.set_cons_zero, List.set_cons_succ])
  refine wpAnyH_take (i := 11) (oi := { dst := some 64, op := Op.convert 22 9 (Operand.tmp 63), type := 9, pos := "law.go:198", after := #[{ on := 10, ground := Ground.data }, { on := 9, ground := Ground.guard }], guard := some (9, true) }) (v := ?vb11) rfl (by kernel_rfl) (by kernel_rfl) (by kernel_rfl) (fun _ _ _ h => h) (Or.inl ⟨by rfl, ?hb11⟩) (Below.refl _ _) ?rb11
  case hb11 =>
    intro w hSw
    have q := sj8.conv w hSw
    go_simp
    try with_reducible rfl
  (try simp only [Act.put, List.setIfInBounds_toArray, List.set_cons_zero, List.set_cons_succ])
  refine wpAnyH_take (i := 12) (oi := { dst := some 65, op := Op.move (Operand.tmp 5), type := 22, pos := "law.go:198", after := #[{ on := 9, ground := Ground.guard }], guard := some (9, true) }) (v := ?vb12) rfl (by kernel_rfl) (by kernel_rfl) (by kernel_rfl) (fun _ _ _ h => h) (Or.inl ⟨by rfl, ?hb12⟩) (Below.refl _ _) ?rb12
  case hb12 =>
    intro w hSw
    go_simp
    try with_reducible rfl
  (try simp only [Act.put, List.setIfInBounds_toArray, List.set_cons_zero, List.set_cons_succ])
  refine wpAnyH_take (i := 13) (oi := { dst := some 66, op := Op.convert 22 9 (Operand.tmp 65), type := 9, pos := "law.go:198", after := #[{ on := 12, ground := Ground.data }, { on := 9, ground := Ground.guard }], guard := some (9, true) }) (v := ?vb13) rfl (by kernel_rfl) (by kernel_rfl) (by kernel_rfl) (fun _ _ _ h => h) (Or.inl ⟨by rfl, ?hb13⟩) (Below.refl _ _) ?rb13
  case hb13 =>
    intro w hSw
    have q := sx8.conv w hSw
    go_simp
    try with_reducible rfl
  (try simp only [Act.put, List.setIfInBounds_toArray, List.set_cons_zero, List.set_cons_succ])
  refine wpAnyH_take (i := 14) (oi := { dst := some 67, op := Op.binOp BinOp.eql 9 (Operand.tmp 64) (Operand.tmp 66) 9, type := 4, pos := "law.go:198", after := #[{ on := 11, ground := Ground.data }, { on := 13, ground := Ground.data }, { on := 9, ground := Ground.guard }], guard := some (9, true) }) (v := ?vb14) rfl (by kernel_rfl) (by kernel_rfl) (by kernel_rfl) (fun _ _ _ h => h) (Or.inl ⟨by rfl, ?hb14⟩) (Below.refl _ _) ?rb14
  case hb14 =>
    intro w hSw
    go_simp
    try with_reducible rfl
  (try simp only [Act.put, List.setIfInBounds_toArray, List.set_cons_zero, List.set_cons_succ])
  refine wpAnyH_take (i := 15) (oi := { dst := some 68, op := Op.pick (Operand.tmp 62) (Operand.tmp 67) (Operand.const (Value.bool false)), type := 4, pos := "law.go:198", after := #[{ on := 9, ground := Ground.data }, { on := 14, ground := Ground.data }], guard := none }) (v := ?vb15) rfl (by kernel_rfl) (by kernel_rfl) (by kernel_rfl) (fun _ _ _ h => h) (Or.inl ⟨by rfl, ?hb15⟩) (Below.refl _ _) ?rb15
  case hb15 =>
    intro w hSw
    go_simp
    try with_reducible rfl
  (try simp only [Act.put, List.setIfInBounds_toArray, List.set_cons_zero, List.set_cons_succ])
  refine wpAnyH_take (i := 16) (oi := { dst := some 69, op := Op.move (Operand.tmp 68), type := 4, pos := "law.go:198", after := #[{ on := 15, ground := Ground.data }, { on := 9, ground := Ground.chain }], guard := none }) (v := ?vb16) rfl (by kernel_rfl) (by kernel_rfl) (by kernel_rfl) (fun _ _ _ h => h) (Or.inl ⟨by rfl, ?hb16⟩) (Below.refl _ _) ?rb16
  case hb16 =>
    intro w hSw
    go_simp
    try with_reducible rfl
  (try simp only [Act.put, List.setIfInBounds_toArray, List.set_cons_zero, List.set_cons_succ])
  refine wpAnyH_take (i := 17) (oi := { dst := some 70, op := Op.move (Operand.tmp 12), type := 22, pos := "law.go:198", after := #[{ on := 16, ground := Ground.guard }], guard := some (16, true) }) (v := ?vb17) rfl (by kernel_rfl) (by kernel_rfl) (by kernel_rfl) (fun _ _ _ h => h) (Or.inl ⟨by rfl, ?hb17⟩) (Below.refl _ _) ?rb17
  case hb17 =>
    intro w hSw
    go_simp
    try with_reducible rfl
  (try simp only [Act.put, List.setIfInBounds_toArray, List.set_cons_zero, List.set_cons_succ])
  refine wpAnyH_take (i := 18) (oi := { dst := some 71, op := Op.convert 22 9 (Operand.tmp 70), type := 9, pos := "law.go:198", after := #[{ on := 17, ground := Ground.data }, { on := 16, ground := Ground.guard }], guard := some (16, true) }) (v := ?vb18) rfl (by kernel_rfl) (by kernel_rfl) (by kernel_rfl) (fun _ _ _ h => h) (Or.inl ⟨by rfl, ?hb18⟩) (Below.refl _ _) ?rb18
  case hb18 =>
    intro w hSw
    have q := st8.conv w hSw
    go_simp
    try with_reducible rfl
  (try simp only [Act.put, List.setIfInBounds_toArray, List.set_cons_zero, List.set_cons_succ])
  refine wpAnyH_take (i := 19) (oi := { dst := some 72, op := Op.move (Operand.tmp 5), type := 22, pos := "law.go:198", after := #[{ on := 16, ground := Ground.guard }], guard := some (16, true) }) (v := ?vb19) rfl (by kernel_rfl) (by kernel_rfl) (by kernel_rfl) (fun _ _ _ h => h) (Or.inl ⟨by rfl, ?hb19⟩) (Below.refl _ _) ?rb19
  case hb19 =>
    intro w hSw
    go_simp
    try with_reducible rfl
  (try simp only [Act.put, List.setIfInBounds_toArray, List.set_cons_zero, List.set_cons_succ])
  refine wpAnyH_take (i := 20) (oi := { dst := some 73, op := Op.convert 22 9 (Operand.tmp 72), type := 9, pos := "law.go:198", after := #[{ on := 19, ground := Ground.data }, { on := 16, ground := Ground.guard }], guard := some (16, true) }) (v := ?vb20) rfl (by kernel_rfl) (by kernel_rfl) (by kernel_rfl) (fun _ _ _ h => h) (Or.inl ⟨by rfl, ?hb20⟩) (Below.refl _ _) ?rb20
  case hb20 =>
    intro w hSw
    have q := sx8.conv w hSw
    go_simp
    try with_reducible rfl
  (try simp only [Act.put, List.setIfInBounds_toArray, List.set_cons_zero, List.set_cons_succ])
  refine wpAnyH_take (i := 21) (oi := { dst := some 74, op := Op.binOp BinOp.eql 9 (Operand.tmp 71) (Operand.tmp 73) 9, type := 4, pos := "law.go:198", after := #[{ on := 18, ground := Ground.data }, { on := 20, ground := Ground.data }, { on := 16, ground := Ground.guard }], guard := some (16, true) }) (v := ?vb21) rfl (by kernel_rfl) (by kernel_rfl) (by kernel_rfl) (fun _ _ _ h => h) (Or.inl ⟨by rfl, ?hb21⟩) (Below.refl _ _) ?rb21
  case hb21 =>
    intro w hSw
    go_simp
    try with_reducible rfl
  (try simp only [Act.put, List.setIfInBounds_toArray, List.set_cons_zero, List.set_cons_succ])
  refine wpAnyH_take (i := 22) (oi := { dst := some 75, op := Op.pick (Operand.tmp 69) (Operand.tmp 74) (Operand.const (Value.bool false)), type := 4, pos := "law.go:198", after := #[{ on := 16, ground := Ground.data }, { on := 21, ground := Ground.data }], guard := none }) (v := ?vb22) rfl (by kernel_rfl) (by kernel_rfl) (by kernel_rfl) (fun _ _ _ h => h) (Or.inl ⟨by rfl, ?hb22⟩) (Below.refl _ _) ?rb22
  case hb22 =>
    intro w hSw
    go_simp
    try with_reducible rfl
  (try simp only [Act.put, List.setIfInBounds_toArray, List.set_cons_zero, List.set_cons_succ])
  refine wpAnyH_take (i := 23) (oi := { dst := some 76, op := Op.move (Operand.tmp 75), type := 4, pos := "law.go:198", after := #[{ on := 22, ground := Ground.data }, { on := 16, ground := Ground.chain }], guard := none }) (v := ?vb23) rfl (by kernel_rfl) (by kernel_rfl) (by kernel_rfl) (fun _ _ _ h => h) (Or.inl ⟨by rfl, ?hb23⟩) (Below.refl _ _) ?rb23
  case hb23 =>
    intro w hSw
    go_simp
    try with_reducible rfl
  (try simp only [Act.put, List.setIfInBounds_toArray, List.set_cons_zero, List.set_cons_succ])
  refine wpAnyH_take (i := 24) (oi := { dst := some 77, op := Op.move (Operand.tmp 0), type := 22, pos := "law.go:198", after := #[{ on := 23, ground := Ground.guard }], guard := some (23, true) }) (v := ?vb24) rfl (by kernel_rfl) (by kernel_rfl) (by kernel_rfl) (fun _ _ _ h => h) (Or.inl ⟨by rfl, ?hb24⟩) (Below.refl _ _) ?rb24
  case hb24 =>
    intro w hSw
    go_simp
    try with_reducible rfl
  (try simp only [Act.put, List.setIfInBounds_toArray, List.set_cons_zero, List.set_cons_succ])
  refine wpAnyH_take (i := 25) (oi := { dst := some 78, op := Op.move (Operand.tmp 1), type := 22, pos := "law.go:198", after := #[{ on := 23, ground := Ground.guard }], guard := some (23, true) }) (v := ?vb25) rfl (by kernel_rfl) (by kernel_rfl) (by kernel_rfl) (fun _ _ _ h => h) (Or.inl ⟨by rfl, ?hb25⟩) (Below.refl _ _) ?rb25
  case hb25 =>
    intro w hSw
    go_simp
    try with_reducible rfl
  (try simp only [Act.put, List.setIfInBounds_toArray, List.set_cons_zero, List.set_cons_succ])
  refine wpAnyH_take (i := 28) (oi := { dst := some 81, op := Op.move (Operand.tmp 11), type := 22, pos := "law.go:198", after := #[{ on := 23, ground := Ground.guard }], guard := some (23, true) }) (v := ?vb28) rfl (by kernel_rfl) (by kernel_rfl) (by kernel_rfl) (fun _ _ _ h => h) (Or.inl ⟨by rfl, ?hb28⟩) (Below.refl _ _) ?rb28
  case hb28 =>
    intro w hSw
    go_simp
    try with_reducible rfl
  (try simp only [Act.put, List.setIfInBounds_toArray, List.set_cons_zero, List.set_cons_succ])
  refine wpAnyH_take (i := 29) (oi := { dst := some 82, op := Op.convert 22 9 (Operand.tmp 81), type := 9, pos := "law.go:198", after := #[{ on := 28, ground := Ground.data }, { on := 23, ground := Ground.guard }], guard := some (23, true) }) (v := ?vb29) rfl (by kernel_rfl) (by kernel_rfl) (by kernel_rfl) (fun _ _ _ h => h) (Or.inl ⟨by rfl, ?hb29⟩) (Below.refl _ _) ?rb29
  case hb29 =>
    intro w hSw
    have q := sz8.conv w hSw
    go_simp
    try with_reducible rfl
  (try simp only [Act.put, List.setIfInBounds_toArray, List.set_cons_zero, List.set_cons_succ])
  refine wpAnyH_take (i := 31) (oi := { dst := some 84, op := Op.move (Operand.tmp 13), type := 4, pos := "law.go:198", after := #[{ on := 23, ground := Ground.guard }], guard := some (23, true) }) (v := ?vb31) rfl (by kernel_rfl) (by kernel_rfl) (by kernel_rfl) (fun _ _ _ h => h) (Or.inl ⟨by rfl, ?hb31⟩) (Below.refl _ _) ?rb31
  case hb31 =>
    intro w hSw
    go_simp
    try with_reducible rfl
  (try simp only [Act.put, List.setIfInBounds_toArray, List.set_cons_zero, List.set_cons_succ])
  refine wpAnyH_ready (rs := [26]) (by kernel_rfl) (by simp) ?_
  refine AllReadyH.cons (o := { dst := some 79, op := Op.call { callee := Callee.value (Operand.func 27), args := #[Operand.tmp 77, Operand.tmp 78], argTypes := #[22, 22] }, type := 22, pos := "law.go:198", after := #[{ on := 24, ground := Ground.data }, { on := 25, ground := Ground.data }, { on := 23, ground := Ground.chain }, { on := 23, ground := Ground.guard }], guard := some (23, true) }) rfl (fun K hK => ?_) AllReadyH.nil
  go_simp
  (go_at_call 27; refine (cmu _ _ _ hA8 hB8).mono ?_; clear cmu; rintro e w31 ⟨s31, rfl, hn31, hb31⟩; (have t31 := hn31.str); rw [← HS0.out] at t31; obtain ⟨g31, rfl, -⟩ := hn31)
  (try go_simp)
  refine hK.out _ _ hb31 (fun h => ?_)
  clear h hK K
  refine wpAnyH_narrow (S' := fun w' => Below w31.heap.size w31 w') (fun _ h => below_next hb31 h) _ _ _ _ ?_
  clear hA8
  clear hB8
  replace hZ8 := hZ8.still hb31
  replace sx8 := sx8.still hb31
  replace sj8 := sj8.still hb31
  replace st8 := st8.still hb31
  replace sz8 := sz8.still hb31
  replace hw8 := below_next hw8 hb31
  clear hb31
  (try simp only [Act.put, List.setIfInBounds_toArray, List.set_cons_zero, List.set_cons_succ])
  refine wpAnyH_take (i := 27) (oi := { dst := some 80, op := Op.convert 22 9 (Operand.tmp 79), type := 9, pos := "law.go:198", after := #[{ on := 26, ground := Ground.data }, { on := 23, ground := Ground.guard }], guard := some (23, true) }) (v := ?vb27) rfl (by kernel_rfl) (by kernel_rfl) (by kernel_rfl) (fun _ _ _ h => h) (Or.inl ⟨by rfl, ?hb27⟩) (Below.refl _ _) ?rb27
  case hb27 =>
    intro w hSw
    have q := t31.conv w hSw
    go_simp
    try with_reducible rfl
  (try simp only [Act.put, List.setIfInBounds_toArray, List.set_cons_zero, List.set_cons_succ])
  refine wpAnyH_take (i := 30) (oi := { dst := some 83, op := Op.binOp BinOp.eql 9 (Operand.tmp 80) (Operand.tmp 82) 9, type := 4, pos := "law.go:198", after := #[{ on := 27, ground := Ground.data }, { on := 29, ground := Ground.data }, { on := 23, ground := Ground.guard }], guard := some (23, true) }) (v := ?vb30) rfl (by kernel_rfl) (by kernel_rfl) (by kernel_rfl) (fun _ _ _ h => h) (Or.inl ⟨by rfl, ?hb30⟩) (Below.refl _ _) ?rb30
  case hb30 =>
    intro w hSw
    go_simp
    try with_reducible rfl
  (try simp only [Act.put, List.setIfInBounds_toArray, List.set_cons_zero, List.set_cons_succ])
  refine wpAnyH_take (i := 32) (oi := { dst := some 85, op := Op.binOp BinOp.eql 4 (Operand.tmp 83) (Operand.tmp 84) 4, type := 4, pos := "law.go:198", after := #[{ on := 30, ground := Ground.data }, { on := 31, ground := Ground.data }, { on := 23, ground := Ground.guard }], guard := some (23, true) }) (v := ?vb32) rfl (by kernel_rfl) (by kernel_rfl) (by kernel_rfl) (fun _ _ _ h => h) (Or.inl ⟨by rfl, ?hb32⟩) (Below.refl _ _) ?rb32
  case hb32 =>
    intro w hSw
    go_simp
    try with_reducible rfl
  (try simp only [Act.put, List.setIfInBounds_toArray, List.set_cons_zero, List.set_cons_succ])
  refine wpAnyH_take (i := 33) (oi := { dst := some 86, op := Op.pick (Operand.tmp 76) (Operand.tmp 85) (Operand.const (Value.bool false)), type := 4, pos := "law.go:198", after := #[{ on := 23, ground := Ground.data }, { on := 32, ground := Ground.data }], guard := none }) (v := ?vb33) rfl (by kernel_rfl) (by kernel_rfl) (by kernel_rfl) (fun _ _ _ h => h) (Or.inl ⟨by rfl, ?hb33⟩) (Below.refl _ _) ?rb33
  case hb33 =>
    intro w hSw
    go_simp
    try with_reducible rfl
  (try simp only [Act.put, List.setIfInBounds_toArray, List.set_cons_zero, List.set_cons_succ])
  refine wpAnyH_take (i := 34) (oi := { dst := some 87, op := Op.move (Operand.tmp 86), type := 4, pos := "law.go:198", after := #[{ on := 33, ground := Ground.data }, { on := 26, ground := Ground.chain }], guard := none }) (v := ?vb34) rfl (by kernel_rfl) (by kernel_rfl) (by kernel_rfl) (fun _ _ _ h => h) (Or.inl ⟨by rfl, ?hb34⟩) (Below.refl _ _) ?rb34
  case hb34 =>
    intro w hSw
    go_simp
    try with_reducible rfl
  (try simp only [Act.put, List.setIfInBounds_toArray, List.set_cons_zero, List.set_cons_succ])
  refine wpAnyH_ready (rs := [35]) (by kernel_rfl) (by simp) ?_
  refine AllReadyH.cons (o := { dst := some 88, op := Op.call { callee := Callee.value (Operand.func 19), args := #[], argTypes := #[] }, type := 4, pos := "law.go:198", after := #[{ on := 34, ground := Ground.chain }, { on := 34, ground := Ground.guard }], guard := some (34, true) }) rfl (fun K hK => ?_) AllReadyH.nil
  go_simp
  (go_at_call 19; refine (hk _).mono ?_; clear hk; rintro e w32 ⟨rfl, hb32⟩)
  (try go_simp)
  refine hK.out _ _ hb32 (fun h => ?_)
  clear h hK K
  refine wpAnyH_narrow (S' := fun w' => Below w32.heap.size w32 w') (fun _ h => below_next hb32 h) _ _ _ _ ?_
  replace hZ8 := hZ8.still hb32
  replace sx8 := sx8.still hb32
  replace sj8 := sj8.still hb32
  replace st8 := st8.still hb32
  replace sz8 := sz8.still hb32
  replace t31 := t31.still hb32
  replace hw8 := below_next hw8 hb32
  clear hb32
  (try simp only [Act.put, List.setIfInBounds_toArray, List.set_cons_zero, List.set_cons_succ])
  refine wpAnyH_take (i := 36) (oi := { dst := some 89, op := Op.pick (Operand.tmp 87) (Operand.tmp 88) (Operand.const (Value.bool false)), type := 4, pos := "law.go:198", after := #[{ on := 34, ground := Ground.data }, { on := 35, ground := Ground.data }], guard := none }) (v := ?vb36) rfl (by kernel_rfl) (by kernel_rfl) (by kernel_rfl) (fun _ _ _ h => h) (Or.inl ⟨by rfl, ?hb36⟩) (Below.refl _ _) ?rb36
  case hb36 =>
    intro w hSw
    go_simp
    try with_reducible rfl
  (try simp only [Act.put, List.setIfInBounds_toArray, List.set_cons_zero, List.set_cons_succ])
  refine wpAnyH_take (i := 37) (oi := { dst := some 4, op := Op.assign (Operand.tmp 89), type := 4, pos := "law.go:198", after := #[{ on := 36, ground := Ground.data }, { on := 35, ground := Ground.chain }, { on := 0, ground := Ground.phase }, { on := 1, ground := Ground.phase }, { on := 2, ground := Ground.phase }, { on := 3, ground := Ground.phase }, { on := 4, ground := Ground.phase }, { on := 5, ground := Ground.phase }, { on := 6, ground := Ground.phase }, { on := 7, ground := Ground.phase }, { on := 8, ground := Ground.phase }, { on := 9, ground := Ground.phase }, { on := 10, ground := Ground.phase }, { on := 11, ground := Ground.phase }, { on := 12, ground := Ground.phase }, { on := 13, ground := Ground.phase }, { on := 14, ground := Ground.phase }, { on := 15, ground := Ground.phase }, { on := 16, ground := Ground.phase }, { on := 17, ground := Ground.phase }, { on := 18, ground := Ground.phase }, { on := 19, ground := Ground.phase }, { on := 20, ground := Ground.phase }, { on := 21, ground := Ground.phase }, { on := 22, ground := Ground.phase }, { on := 23, ground := Ground.phase }, { on := 24, ground := Ground.phase }, { on := 25, ground := Ground.phase }, { on := 26, ground := Ground.phase }, { on := 27, ground := Ground.phase }, { on := 28, ground := Ground.phase }, { on := 29, ground := Ground.phase }, { on := 30, ground := Ground.phase }, { on := 31, ground := Ground.phase }, { on := 32, ground := Ground.phase }, { on := 33, ground := Ground.phase }, { on := 34, ground := Ground.phase }, { on := 35, ground := Ground.phase }, { on := 36, ground := Ground.phase }], guard := none }) (v := ?vb37) rfl (by kernel_rfl) (by kernel_rfl) (by kernel_rfl) (fun _ _ _ h => h) (Or.inl ⟨by rfl, ?hb37⟩) (Below.refl _ _) ?rb37
  case hb37 =>
    intro w hSw
    go_simp
    try with_reducible rfl
  (try simp only [Act.put, List.setIfInBounds_toArray, List.set_cons_zero, List.set_cons_succ])
  refine wpAnyH_done (by kernel_rfl) ?_ _
  refine NoPanic.normal ?_
  go_wp2
  go_ret
  exact ⟨rfl, hw8⟩
set_option maxRecDepth 20000 in
set_option maxHeartbeats 4000000 in
theorem twice2 (a b : Value) (n m : Nat) (bs cs : Nat → Nat) (hbs : ∀ j, bs j < 256) (hcs : ∀ j, cs j < 256) (w : World) (ha : BytesIn w a n bs) (hb : BytesIn w b m cs) (hX : ofB (fitB n bs) 32 % pF ≠ 0) (hY : ofB (fitB m cs) 32 % pF = 0) :
    Calls Try.prog 9 #[a, b] w fun e w' => e = .returned (.bool true) ∧ Below w.heap.size w w' := by
  have cf1 := fit_any a n bs w ha
  have cf2 := fun W (h : Below w.heap.size w W) => fit_any b m cs W (hb.still h)
  have hXl : ofB (fitB n bs) 32 % pF < pF := Nat.mod_lt _ (by decide)
  have hYl : ofB (fitB m cs) 32 % pF < pF := Nat.mod_lt _ (by decide)
  have cc := fun W v hv => canon_good v (fitB n bs) (fitB_lt hbs) W hv
  have ci := fun W v hv => inv_good v (fitB n bs) (fitB_lt hbs) W hv
  have cs1 := fun W u v hu hv => sub3_any u v (byt 0) (fitB n bs) (byt_all 0) (fitB_lt hbs) W hu hv
  have cad := fun W u v hu hv => add3_any u v (fitB m cs) (byt 0) (fitB_lt hcs) (byt_all 0) W hu hv
  have cmu := fun W u v hu hv => mul3_any u v (fitB n bs) (fitB m cs) (fitB_lt hbs) (fitB_lt hcs) W hu hv
  have cz : ∀ W, Calls Try.prog 26 #[.int .u8 0] W fun e w' => ∃ s, e = .returned s ∧ NewB W w' s 32 (byt 0) ∧ Below W.heap.size W w' := fun W => small_any 0 (by decide) W
  have e0 : ofB (byt 0) 32 % pF = 0 := by kernel_rfl
  obtain ⟨X, hXe⟩ : ∃ X, X = ofB (fitB n bs) 32 % pF := ⟨_, rfl⟩
  obtain ⟨Y, hYe⟩ : ∃ Y, Y = ofB (fitB m cs) 32 % pF := ⟨_, rfl⟩
  rw [← hXe] at cc ci cs1 cmu hXl hX
  rw [← hYe] at cad cmu hYl hY
  rw [e0] at cs1 cad
  have hii := inv_inv hXl
  obtain ⟨I, hIe⟩ : ∃ I, I = X ^ (pF - 2) % pF := ⟨_, rfl⟩
  rw [← hIe] at ci hii
  have hIl : I < pF := by rw [hIe]; exact Nat.mod_lt _ (by decide)
  have hpb : ∀ x, x < pF → ofB (byt x) 32 % pF = x := fun x hx => by rw [ofB_byt32 x (by unfold pF at hx; omega), Nat.mod_eq_of_lt hx]
  have cj := fun W v hv => inv_good v (byt I) (byt_all I) W hv
  rw [hpb I hIl, hii] at cj
  obtain ⟨M, hMe⟩ : ∃ M, M = (0 + pF - X) % pF := ⟨_, rfl⟩
  have hMl : M < pF := by rw [hMe]; exact Nat.mod_lt _ (by decide)
  have hMM : (0 + pF - M) % pF = X := by rw [hMe]; unfold pF at hXl ⊢; omega
  rw [← hMe] at cs1
  have cs2 := fun W u v hu hv => sub3_any u v (byt 0) (byt M) (byt_all 0) (byt_all M) W hu hv
  rw [e0, hpb M hMl, hMM] at cs2
  have hadd : (Y + 0) % pF = Y := by rw [Nat.add_zero, Nat.mod_eq_of_lt hYl]
  rw [hadd] at cad
  rw [hY, Nat.mul_zero, Nat.zero_mod] at cmu
  rw [hY] at cad
  have hne : ∀ x, x ≠ 0 → x < pF → ((strB 32 (byt x)).toList == (strB 32 (byt 0)).toList) = false := fun x h hx => by
    rw [ByteArray.toList_eq, ByteArray.toList_eq]
    refine beq_false_of_ne (fun e => h ?_)
    have := (strB_eq (byt_all x) (byt_all 0)).1 (WideShapes.bytes_inj e)
    exact byt_inj (by unfold pF at hx; omega) (by decide) this.2
  obtain ⟨S0, hS0⟩ : ∃ S, S = strB 32 (byt 0) := ⟨_, rfl⟩
  rw [← hS0] at hne
  have hnX := hne X hX hXl
  obtain ⟨SX, hSX⟩ : ∃ S, S = strB 32 (byt X) := ⟨_, rfl⟩
  rw [← hSX] at hnX
  have HS0 := Hid.mk' hS0
  clear hS0
  have HSX := Hid.mk' hSX
  clear hSX
  have hk := fun W => knows3_any W
  obtain ⟨xa, ka, rfl, -⟩ := ha.src
  obtain ⟨xb, kb, rfl, -⟩ := hb.src
  clear ha hb hXe hYe hIe hMe hpb hii hMM e0 hadd hne hIl hMl hXl hYl hX hY
  go_enter Try.func9, Try.ntmps9
  go_wp2_with (first
    | (go_at_call 25; refine cf1.mono ?_; clear cf1; rintro e w1 ⟨A, rfl, hA, hb1⟩; replace cf2 := cf2 w1 hb1; (have hA1 := hA.bytes (by decide)); obtain ⟨gA, rfl, -⟩ := hA)
    | (go_at_call 25; refine cf2.mono ?_; clear cf2; rintro e w2 ⟨B, rfl, hB, hb2⟩; (have hB2 := hB.bytes (by decide)); obtain ⟨gB, rfl, -⟩ := hB; (have hA2 := hA1.still hb2); (have hw2 := hb1.trans (hb2.mono hb1.size)); replace cc := cc w2 _ hA2)
    | (go_at_call 15; refine cc.mono ?_; clear cc; rintro e w3 ⟨x, rfl, hx, hb3⟩; (have sx3 := hx.str); obtain ⟨gx, rfl, -⟩ := hx; (have hw3 := hw2.trans (hb3.mono hw2.size)); (have hA3 := hA2.still hb3); (have hB3 := hB2.still hb3); replace ci := ci w3 _ hA3)
    | (go_at_call 22; refine ci.mono ?_; clear ci; rintro e w4 ⟨i, rfl, hi, hb4⟩; (have hI4 := hi.bytes (by decide)); obtain ⟨gi, rfl, -⟩ := hi; (have hw4 := hw3.trans (hb4.mono hw3.size)); (have hA4 := hA3.still hb4); (have hB4 := hB3.still hb4); (have sx4 := sx3.still hb4); replace cj := cj w4 _ hI4)
    | (go_at_call 22; refine cj.mono ?_; clear cj; rintro e w5 ⟨j, rfl, hj, hb5⟩; (have sj5 := hj.str); obtain ⟨gj, rfl, -⟩ := hj; (have hw5 := hw4.trans (hb5.mono hw4.size)); (have hA5 := hA4.still hb5); (have hB5 := hB4.still hb5); (have sx5 := sx4.still hb5))
    | (go_at_call 26; refine (cz _).mono ?_; clear cz; rintro e w6 ⟨z, rfl, hz, hb6⟩; (have sz6 := hz.str); (have hZ6 := hz.bytes (by decide)); obtain ⟨gz, rfl, -⟩ := hz; (have hw6 := hw5.trans (hb6.mono hw5.size)); (have hA6 := hA5.still hb6); (have hB6 := hB5.still hb6); (have sx6 := sx5.still hb6); (have sj6 := sj5.still hb6); replace cs1 := cs1 w6 _ _ hZ6 hA6)
    | (go_at_call 29; refine cs1.mono ?_; clear cs1; rintro e w7 ⟨s, rfl, hs, hb7⟩; (have hs7 := hs.bytes (by decide)); obtain ⟨gs, rfl, -⟩ := hs; (have hw7 := hw6.trans (hb7.mono hw6.size)); (have hA7 := hA6.still hb7); (have hB7 := hB6.still hb7); (have hZ7 := hZ6.still hb7); (have sx7 := sx6.still hb7); (have sj7 := sj6.still hb7); (have sz7 := sz6.still hb7); replace cs2 := cs2 w7 _ _ hZ7 hs7)
    | (go_at_call 29; refine cs2.mono ?_; clear cs2; rintro e w8 ⟨t, rfl, ht, hb8⟩; (have st8 := ht.str); obtain ⟨gt, rfl, -⟩ := ht; (have hw8 := hw7.trans (hb8.mono hw7.size)); (have hA8 := hA7.still hb8); (have hB8 := hB7.still hb8); (have hZ8 := hZ7.still hb8); (have sx8 := sx7.still hb8); (have sj8 := sj7.still hb8); (have sz8 := sz7.still hb8); clear sx3 sx4 sx5 sx6 sx7 sj5 sj6 sj7 sz6 sz7 hA1 hA2 hA3 hA4 hA5 hA6 hA7 hB2 hB3 hB4 hB5 hB6 hB7 hZ6 hZ7 hs7 hI4 hw2 hw3 hw4 hw5 hw6 hw7 hb1 hb2 hb3 hb4 hb5 hb6 hb7 hb8))
  rw [← HSX.out] at sx8 sj8 st8
  rw [← HS0.out] at sz8
  have hw0 : IntKind.i64.wrap 0 = 0 := by decide
  have hdrew : Below w8.heap.size w8 w8.drew := (Below.refl _ _).drew
  replace hA8 := hA8.still hdrew
  replace hB8 := hB8.still hdrew
  replace hZ8 := hZ8.still hdrew
  replace sx8 := sx8.still hdrew
  replace sj8 := sj8.still hdrew
  replace st8 := st8.still hdrew
  replace sz8 := sz8.still hdrew
  replace hw8 := below_next hw8 hdrew
  clear hdrew
  refine wp_region_noPanic ?_
  refine wp_region_held_drew (S := fun w' => Below w8.drew.heap.size w8.drew w') (by kernel_rfl) (Below.refl _ _) (fun hHeld => ?_)
  clear hHeld
  refine wpAnyH_take (i := 0) (oi := { dst := some 39, op := Op.move (Operand.tmp 5), type := 22, pos := "law.go:197", after := #[], guard := none }) (v := ?va0) rfl (by kernel_rfl) (by kernel_rfl) (by kernel_rfl) (fun _ _ _ h => h) (Or.inl ⟨by rfl, ?ha0⟩) (Below.refl _ _) ?ra0
  case ha0 =>
    intro w hSw
    go_simp
    try with_reducible rfl
  (try simp only [Act.put, List.setIfInBounds_toArray, List.set_cons_zero, List.set_cons_succ])
  refine wpAnyH_take (i := 1) (oi := { dst := some 40, op := Op.convert 22 9 (Operand.tmp 39), type := 9, pos := "law.go:197", after := #[{ on := 0, ground := Ground.data }], guard := none }) (v := ?va1) rfl (by kernel_rfl) (by kernel_rfl) (by kernel_rfl) (fun _ _ _ h => h) (Or.inl ⟨by rfl, ?ha1⟩) (Below.refl _ _) ?ra1
  case ha1 =>
    intro w hSw
    have q := sx8.conv w hSw
    go_simp
    try with_reducible rfl
  (try simp only [Act.put, List.setIfInBounds_toArray, List.set_cons_zero, List.set_cons_succ])
  refine wpAnyH_take (i := 2) (oi := { dst := some 41, op := Op.move (Operand.tmp 11), type := 22, pos := "law.go:197", after := #[], guard := none }) (v := ?va2) rfl (by kernel_rfl) (by kernel_rfl) (by kernel_rfl) (fun _ _ _ h => h) (Or.inl ⟨by rfl, ?ha2⟩) (Below.refl _ _) ?ra2
  case ha2 =>
    intro w hSw
    go_simp
    try with_reducible rfl
  (try simp only [Act.put, List.setIfInBounds_toArray, List.set_cons_zero, List.set_cons_succ])
  refine wpAnyH_take (i := 3) (oi := { dst := some 42, op := Op.convert 22 9 (Operand.tmp 41), type := 9, pos := "law.go:197", after := #[{ on := 2, ground := Ground.data }], guard := none }) (v := ?va3) rfl (by kernel_rfl) (by kernel_rfl) (by kernel_rfl) (fun _ _ _ h => h) (Or.inl ⟨by rfl, ?ha3⟩) (Below.refl _ _) ?ra3
  case ha3 =>
    intro w hSw
    have q := sz8.conv w hSw
    go_simp
    try with_reducible rfl
  (try simp only [Act.put, List.setIfInBounds_toArray, List.set_cons_zero, List.set_cons_succ])
  refine wpAnyH_take (i := 4) (oi := { dst := some 43, op := Op.binOp BinOp.eql 9 (Operand.tmp 40) (Operand.tmp 42) 9, type := 4, pos := "law.go:197", after := #[{ on := 1, ground := Ground.data }, { on := 3, ground := Ground.data }], guard := none }) (v := ?va4) rfl (by kernel_rfl) (by kernel_rfl) (by kernel_rfl) (fun _ _ _ h => h) (Or.inl ⟨by rfl, ?ha4⟩) (Below.refl _ _) ?ra4
  case ha4 =>
    intro w hSw
    go_simp
    try with_reducible rfl
  (try simp only [Act.put, List.setIfInBounds_toArray, List.set_cons_zero, List.set_cons_succ])
  refine wpAnyH_take (i := 5) (oi := { dst := some 44, op := Op.move (Operand.tmp 43), type := 4, pos := "law.go:197", after := #[{ on := 4, ground := Ground.data }], guard := none }) (v := ?va5) rfl (by kernel_rfl) (by kernel_rfl) (by kernel_rfl) (fun _ _ _ h => h) (Or.inl ⟨by rfl, ?ha5⟩) (Below.refl _ _) ?ra5
  case ha5 =>
    intro w hSw
    go_simp
    try with_reducible rfl
  (try simp only [Act.put, List.setIfInBounds_toArray, List.set_cons_zero, List.set_cons_succ])
  refine wpAnyH_take (i := 6) (oi := { dst := some 45, op := Op.move (Operand.tmp 1), type := 22, pos := "law.go:197", after := #[{ on := 5, ground := Ground.guard }], guard := some (5, false) }) (v := ?va6) rfl (by kernel_rfl) (by kernel_rfl) (by kernel_rfl) (fun _ _ _ h => h) (Or.inl ⟨by rfl, ?ha6⟩) (Below.refl _ _) ?ra6
  case ha6 =>
    intro w hSw
    go_simp
    try with_reducible rfl
  (try simp only [Act.put, List.setIfInBounds_toArray, List.set_cons_zero, List.set_cons_succ])
  refine wpAnyH_take (i := 7) (oi := { dst := some 46, op := Op.move (Operand.tmp 11), type := 22, pos := "law.go:197", after := #[{ on := 5, ground := Ground.guard }], guard := some (5, false) }) (v := ?va7) rfl (by kernel_rfl) (by kernel_rfl) (by kernel_rfl) (fun _ _ _ h => h) (Or.inl ⟨by rfl, ?ha7⟩) (Below.refl _ _) ?ra7
  case ha7 =>
    intro w hSw
    go_simp
    try with_reducible rfl
  (try simp only [Act.put, List.setIfInBounds_toArray, List.set_cons_zero, List.set_cons_succ])
  refine wpAnyH_take (i := 10) (oi := { dst := some 49, op := Op.move (Operand.tmp 11), type := 22, pos := "law.go:197", after := #[{ on := 5, ground := Ground.guard }], guard := some (5, false) }) (v := ?va10) rfl (by kernel_rfl) (by kernel_rfl) (by kernel_rfl) (fun _ _ _ h => h) (Or.inl ⟨by rfl, ?ha10⟩) (Below.refl _ _) ?ra10
  case ha10 =>
    intro w hSw
    go_simp
    try with_reducible rfl
  (try simp only [Act.put, List.setIfInBounds_toArray, List.set_cons_zero, List.set_cons_succ])
  refine wpAnyH_take (i := 11) (oi := { dst := some 50, op := Op.convert 22 9 (Operand.tmp 49), type := 9, pos := "law.go:197", after := #[{ on := 10, ground := Ground.data }, { on := 5, ground := Ground.guard }], guard := some (5, false) }) (v := ?va11) rfl (by kernel_rfl) (by kernel_rfl) (by kernel_rfl) (fun _ _ _ h => h) (Or.inl ⟨by rfl, ?ha11⟩) (Below.refl _ _) ?ra11
  case ha11 =>
    intro w hSw
    have q := sz8.conv w hSw
    go_simp
    try with_reducible rfl
  (try simp only [Act.put, List.setIfInBounds_toArray, List.set_cons_zero, List.set_cons_succ])
  refine wpAnyH_ready (rs := [8]) (by kernel_rfl) (by simp) ?_
  refine AllReadyH.cons (o := { dst := some 47, op := Op.call { callee := Callee.value (Operand.func 28), args := #[Operand.tmp 45, Operand.tmp 46], argTypes := #[22, 22] }, type := 22, pos := "law.go:197", after := #[{ on := 6, ground := Ground.data }, { on := 7, ground := Ground.data }, { on := 5, ground := Ground.chain }, { on := 5, ground := Ground.guard }], guard := some (5, false) }) rfl (fun K hK => ?_) AllReadyH.nil
  go_simp
  (go_at_call 28; refine (cad _ _ _ hB8 hZ8).mono ?_; clear cad; rintro e w30 ⟨s30, rfl, hn30, hb30⟩; (have t30 := hn30.str); rw [← HS0.out] at t30; obtain ⟨g30, rfl, -⟩ := hn30)
  (try go_simp)
  refine hK.out _ _ hb30 (fun h => ?_)
  clear h hK K
  refine wpAnyH_narrow (S' := fun w' => Below w30.heap.size w30 w') (fun _ h => below_next hb30 h) _ _ _ _ ?_
  clear hZ8
  replace hA8 := hA8.still hb30
  replace hB8 := hB8.still hb30
  replace sx8 := sx8.still hb30
  replace sj8 := sj8.still hb30
  replace st8 := st8.still hb30
  replace sz8 := sz8.still hb30
  replace hw8 := below_next hw8 hb30
  clear hb30
  (try simp only [Act.put, List.setIfInBounds_toArray, List.set_cons_zero, List.set_cons_succ])
  refine wpAnyH_take (i := 9) (oi := { dst := some 48, op := Op.convert 22 9 (Operand.tmp 47), type := 9, pos := "law.go:197", after := #[{ on := 8, ground := Ground.data }, { on := 5, ground := Ground.guard }], guard := some (5, false) }) (v := ?va9) rfl (by kernel_rfl) (by kernel_rfl) (by kernel_rfl) (fun _ _ _ h => h) (Or.inl ⟨by rfl, ?ha9⟩) (Below.refl _ _) ?ra9
  case ha9 =>
    intro w hSw
    have q := t30.conv w hSw
    go_simp
    try with_reducible rfl
  (try simp only [Act.put, List.setIfInBounds_toArray, List.set_cons_zero, List.set_cons_succ])
  refine wpAnyH_take (i := 12) (oi := { dst := some 51, op := Op.binOp BinOp.eql 9 (Operand.tmp 48) (Operand.tmp 50) 9, type := 4, pos := "law.go:197", after := #[{ on := 9, ground := Ground.data }, { on := 11, ground := Ground.data }, { on := 5, ground := Ground.guard }], guard := some (5, false) }) (v := ?va12) rfl (by kernel_rfl) (by kernel_rfl) (by kernel_rfl) (fun _ _ _ h => h) (Or.inl ⟨by rfl, ?ha12⟩) (Below.refl _ _) ?ra12
  case ha12 =>
    intro w hSw
    go_simp
    try with_reducible rfl
  (try simp only [Act.put, List.setIfInBounds_toArray, List.set_cons_zero, List.set_cons_succ])
  refine wpAnyH_take (i := 13) (oi := { dst := some 52, op := Op.pick (Operand.tmp 44) (Operand.const (Value.bool true)) (Operand.tmp 51), type := 4, pos := "law.go:197", after := #[{ on := 5, ground := Ground.data }, { on := 12, ground := Ground.data }], guard := none }) (v := ?va13) rfl (by kernel_rfl) (by kernel_rfl) (by kernel_rfl) (fun _ _ _ h => h) (Or.inl ⟨by rfl, ?ha13⟩) (Below.refl _ _) ?ra13
  case ha13 =>
    intro w hSw
    go_simp
    try with_reducible rfl
  (try simp only [Act.put, List.setIfInBounds_toArray, List.set_cons_zero, List.set_cons_succ])
  refine wpAnyH_take (i := 14) (oi := { dst := some 13, op := Op.assign (Operand.tmp 52), type := 4, pos := "law.go:197", after := #[{ on := 13, ground := Ground.data }, { on := 8, ground := Ground.chain }, { on := 0, ground := Ground.phase }, { on := 1, ground := Ground.phase }, { on := 2, ground := Ground.phase }, { on := 3, ground := Ground.phase }, { on := 4, ground := Ground.phase }, { on := 5, ground := Ground.phase }, { on := 6, ground := Ground.phase }, { on := 7, ground := Ground.phase }, { on := 8, ground := Ground.phase }, { on := 9, ground := Ground.phase }, { on := 10, ground := Ground.phase }, { on := 11, ground := Ground.phase }, { on := 12, ground := Ground.phase }, { on := 13, ground := Ground.phase }], guard := none }) (v := ?va14) rfl (by kernel_rfl) (by kernel_rfl) (by kernel_rfl) (fun _ _ _ h => h) (Or.inl ⟨by rfl, ?ha14⟩) (Below.refl _ _) ?ra14
  case ha14 =>
    intro w hSw
    go_simp
    try with_reducible rfl
  (try simp only [Act.put, List.setIfInBounds_toArray, List.set_cons_zero, List.set_cons_succ])
  refine wpAnyH_done (by kernel_rfl) ?_ _
  refine NoPanic.normal ?_
  clear t30
  go_wp2
  have hdrew : Below w30.heap.size w30 w30.drew := (Below.refl _ _).drew
  replace hA8 := hA8.still hdrew
  replace hB8 := hB8.still hdrew
  replace sx8 := sx8.still hdrew
  replace sj8 := sj8.still hdrew
  replace st8 := st8.still hdrew
  replace sz8 := sz8.still hdrew
  replace hw8 := below_next hw8 hdrew
  clear hdrew
  refine wp_region_noPanic ?_
  refine wp_region_held_drew (S := fun w' => Below w30.drew.heap.size w30.drew w') (by kernel_rfl) (Below.refl _ _) (fun hHeld => ?_)
  clear hHeld
  refine wpAnyH_take (i := 0) (oi := { dst := some 53, op := Op.move (Operand.tmp 6), type := 24, pos := "law.go:198", after := #[], guard := none }) (v := ?vb0) rfl (by kernel_rfl) (by kernel_rfl) (by kernel_rfl) (fun _ _ _ h => h) (Or.inl ⟨by rfl, ?hb0⟩) (Below.refl _ _) ?rb0
  case hb0 =>
    intro w hSw
    go_simp
    try with_reducible rfl
  (try simp only [Act.put, List.setIfInBounds_toArray, List.set_cons_zero, List.set_cons_succ])
  refine wpAnyH_take (i := 2) (oi := { dst := some 55, op := Op.move (Operand.tmp 8), type := 24, pos := "law.go:198", after := #[], guard := none }) (v := ?vb2) rfl (by kernel_rfl) (by kernel_rfl) (by kernel_rfl) (fun _ _ _ h => h) (Or.inl ⟨by rfl, ?hb2⟩) (Below.refl _ _) ?rb2
  case hb2 =>
    intro w hSw
    go_simp
    try with_reducible rfl
  (try simp only [Act.put, List.setIfInBounds_toArray, List.set_cons_zero, List.set_cons_succ])
  refine wpAnyH_take (i := 5) (oi := { dst := some 58, op := Op.move (Operand.tmp 10), type := 24, pos := "law.go:198", after := #[], guard := none }) (v := ?vb5) rfl (by kernel_rfl) (by kernel_rfl) (by kernel_rfl) (fun _ _ _ h => h) (Or.inl ⟨by rfl, ?hb5⟩) (Below.refl _ _) ?rb5
  case hb5 =>
    intro w hSw
    go_simp
    try with_reducible rfl
  (try simp only [Act.put, List.setIfInBounds_toArray, List.set_cons_zero, List.set_cons_succ])
  refine wpAnyH_ready (rs := [1]) (by kernel_rfl) (by simp) ?_
  refine AllReadyH.cons (o := { dst := some 54, op := Op.call { callee := Callee.value (Operand.func 17), args := #[Operand.tmp 53], argTypes := #[24] }, type := 3, pos := "law.go:198", after := #[{ on := 0, ground := Ground.data }], guard := none }) rfl (fun K hK => ?_) AllReadyH.nil
  go_simp
  (go_at_call 17; refine (num3_any _ _).mono ?_; rintro e wn ⟨rfl, hwn⟩; subst hwn)
  (try go_simp)
  refine hK.out _ _ (Below.refl _ _) (fun h => ?_)
  clear h hK K
  (try simp only [Act.put, List.setIfInBounds_toArray, List.set_cons_zero, List.set_cons_succ])
  refine wpAnyH_ready (rs := [3]) (by kernel_rfl) (by simp) ?_
  refine AllReadyH.cons (o := { dst := some 56, op := Op.call { callee := Callee.value (Operand.func 17), args := #[Operand.tmp 55], argTypes := #[24] }, type := 3, pos := "law.go:198", after := #[{ on := 2, ground := Ground.data }, { on := 1, ground := Ground.chain }], guard := none }) rfl (fun K hK => ?_) AllReadyH.nil
  go_simp
  (go_at_call 17; refine (num3_any _ _).mono ?_; rintro e wn ⟨rfl, hwn⟩; subst hwn)
  (try go_simp)
  refine hK.out _ _ (Below.refl _ _) (fun h => ?_)
  clear h hK K
  (try simp only [Act.put, List.setIfInBounds_toArray, List.set_cons_zero, List.set_cons_succ])
  refine wpAnyH_take (i := 4) (oi := { dst := some 57, op := Op.binOp BinOp.add 3 (Operand.tmp 54) (Operand.tmp 56) 3, type := 3, pos := "law.go:198", after := #[{ on := 1, ground := Ground.data }, { on := 3, ground := Ground.data }], guard := none }) (v := ?vb4) rfl (by kernel_rfl) (by kernel_rfl) (by kernel_rfl) (fun _ _ _ h => h) (Or.inl ⟨by rfl, ?hb4⟩) (Below.refl _ _) ?rb4
  case hb4 =>
    intro w hSw
    go_simp
    try with_reducible rfl
  (try simp only [Act.put, List.setIfInBounds_toArray, List.set_cons_zero, List.set_cons_succ])
  refine wpAnyH_ready (rs := [6]) (by kernel_rfl) (by simp) ?_
  refine AllReadyH.cons (o := { dst := some 59, op := Op.call { callee := Callee.value (Operand.func 17), args := #[Operand.tmp 58], argTypes := #[24] }, type := 3, pos := "law.go:198", after := #[{ on := 5, ground := Ground.data }, { on := 3, ground := Ground.chain }], guard := none }) rfl (fun K hK => ?_) AllReadyH.nil
  go_simp
  (go_at_call 17; refine (num3_any _ _).mono ?_; rintro e wn ⟨rfl, hwn⟩; subst hwn)
  (try go_simp)
  refine hK.out _ _ (Below.refl _ _) (fun h => ?_)
  clear h hK K
  (try simp only [Act.put, List.setIfInBounds_toArray, List.set_cons_zero, List.set_cons_succ])
  refine wpAnyH_take (i := 7) (oi := { dst := some 60, op := Op.binOp BinOp.add 3 (Operand.tmp 57) (Operand.tmp 59) 3, type := 3, pos := "law.go:198", after := #[{ on := 4, ground := Ground.data }, { on := 6, ground := Ground.data }], guard := none }) (v := ?vb7) rfl (by kernel_rfl) (by kernel_rfl) (by kernel_rfl) (fun _ _ _ h => h) (Or.inl ⟨by rfl, ?hb7⟩) (Below.refl _ _) ?rb7
  case hb7 =>
    intro w hSw
    go_simp
    try with_reducible rfl
  (try simp only [Act.put, List.setIfInBounds_toArray, List.set_cons_zero, List.set_cons_succ])
  refine wpAnyH_take (i := 8) (oi := { dst := some 61, op := Op.binOp BinOp.eql 3 (Operand.tmp 60) (Operand.const (Value.int IntKind.i64 0)) 3, type := 4, pos := "law.go:198", after := #[{ on := 7, ground := Ground.data }], guard := none }) (v := ?vb8) rfl (by kernel_rfl) (by kernel_rfl) (by kernel_rfl) (fun _ _ _ h => h) (Or.inl ⟨by rfl, ?hb8⟩) (Below.refl _ _) ?rb8
  case hb8 =>
    intro w hSw
    go_simp
    try with_reducible rfl
  (try simp only [Act.put, List.setIfInBounds_toArray, List.set_cons_zero, List.set_cons_succ])
  refine wpAnyH_take (i := 9) (oi := { dst := some 62, op := Op.move (Operand.tmp 61), type := 4, pos := "law.go:198", after := #[{ on := 8, ground := Ground.data }, { on := 6, ground := Ground.chain }], guard := none }) (v := ?vb9) rfl (by kernel_rfl) (by kernel_rfl) (by kernel_rfl) (fun _ _ _ h => h) (Or.inl ⟨by rfl, ?hb9⟩) (Below.refl _ _) ?rb9
  case hb9 =>
    intro w hSw
    go_simp
    try with_reducible rfl
  (try simp only [Act.put, List.setIfInBounds_toArray, List.set_cons_zero, List.set_cons_succ])
  refine wpAnyH_take (i := 10) (oi := { dst := some 63, op := Op.move (Operand.tmp 9), type := 22, pos := "law.go:198", after := #[{ on := 9, ground := Ground.guard }], guard := some (9, true) }) (v := ?vb10) rfl (by kernel_rfl) (by kernel_rfl) (by kernel_rfl) (fun _ _ _ h => h) (Or.inl ⟨by rfl, ?hb10⟩) (Below.refl _ _) ?rb10
  case hb10 =>
    intro w hSw
    go_simp
    try with_reducible rfl
  (try simp only [Act.put, List.setIfInBounds_toArray, List.set_cons_zero, List.set_cons_succ])
  refine wpAnyH_take (i := 11) (oi := { dst := some 64, op := Op.convert 22 9 (Operand.tmp 63), type := 9, pos := "law.go:198", after := #[{ on := 10, ground := Ground.data }, { on := 9, ground := Ground.guard }], guard := some (9, true) }) (v := ?vb11) rfl (by kernel_rfl) (by kernel_rfl) (by kernel_rfl) (fun _ _ _ h => h) (Or.inl ⟨by rfl, ?hb11⟩) (Below.refl _ _) ?rb11
  case hb11 =>
    intro w hSw
    have q := sj8.conv w hSw
    go_simp
    try with_reducible rfl
  (try simp only [Act.put, List.setIfInBounds_toArray, List.set_cons_zero, List.set_cons_succ])
  refine wpAnyH_take (i := 12) (oi := { dst := some 65, op := Op.move (Operand.tmp 5), type := 22, pos := "law.go:198", after := #[{ on := 9, ground := Ground.guard }], guard := some (9, true) }) (v := ?vb12) rfl (by kernel_rfl) (by kernel_rfl) (by kernel_rfl) (fun _ _ _ h => h) (Or.inl ⟨by rfl, ?hb12⟩) (Below.refl _ _) ?rb12
  case hb12 =>
    intro w hSw
    go_simp
    try with_reducible rfl
  (try simp only [Act.put, List.setIfInBounds_toArray, List.set_cons_zero, List.set_cons_succ])
  refine wpAnyH_take (i := 13) (oi := { dst := some 66, op := Op.convert 22 9 (Operand.tmp 65), type := 9, pos := "law.go:198", after := #[{ on := 12, ground := Ground.data }, { on := 9, ground := Ground.guard }], guard := some (9, true) }) (v := ?vb13) rfl (by kernel_rfl) (by kernel_rfl) (by kernel_rfl) (fun _ _ _ h => h) (Or.inl ⟨by rfl, ?hb13⟩) (Below.refl _ _) ?rb13
  case hb13 =>
    intro w hSw
    have q := sx8.conv w hSw
    go_simp
    try with_reducible rfl
  (try simp only [Act.put, List.setIfInBounds_toArray, List.set_cons_zero, List.set_cons_succ])
  refine wpAnyH_take (i := 14) (oi := { dst := some 67, op := Op.binOp BinOp.eql 9 (Operand.tmp 64) (Operand.tmp 66) 9, type := 4, pos := "law.go:198", after := #[{ on := 11, ground := Ground.data }, { on := 13, ground := Ground.data }, { on := 9, ground := Ground.guard }], guard := some (9, true) }) (v := ?vb14) rfl (by kernel_rfl) (by kernel_rfl) (by kernel_rfl) (fun _ _ _ h => h) (Or.inl ⟨by rfl, ?hb14⟩) (Below.refl _ _) ?rb14
  case hb14 =>
    intro w hSw
    go_simp
    try with_reducible rfl
  (try simp only [Act.put, List.setIfInBounds_toArray, List.set_cons_zero, List.set_cons_succ])
  refine wpAnyH_take (i := 15) (oi := { dst := some 68, op := Op.pick (Operand.tmp 62) (Operand.tmp 67) (Operand.const (Value.bool false)), type := 4, pos := "law.go:198", after := #[{ on := 9, ground := Ground.data }, { on := 14, ground := Ground.data }], guard := none }) (v := ?vb15) rfl (by kernel_rfl) (by kernel_rfl) (by kernel_rfl) (fun _ _ _ h => h) (Or.inl ⟨by rfl, ?hb15⟩) (Below.refl _ _) ?rb15
  case hb15 =>
    intro w hSw
    go_simp
    try with_reducible rfl
  (try simp only [Act.put, List.setIfInBounds_toArray, List.set_cons_zero, List.set_cons_succ])
  refine wpAnyH_take (i := 16) (oi := { dst := some 69, op := Op.move (Operand.tmp 68), type := 4, pos := "law.go:198", after := #[{ on := 15, ground := Ground.data }, { on := 9, ground := Ground.chain }], guard := none }) (v := ?vb16) rfl (by kernel_rfl) (by kernel_rfl) (by kernel_rfl) (fun _ _ _ h => h) (Or.inl ⟨by rfl, ?hb16⟩) (Below.refl _ _) ?rb16
  case hb16 =>
    intro w hSw
    go_simp
    try with_reducible rfl
  (try simp only [Act.put, List.setIfInBounds_toArray, List.set_cons_zero, List.set_cons_succ])
  refine wpAnyH_take (i := 17) (oi := { dst := some 70, op := Op.move (Operand.tmp 12), type := 22, pos := "law.go:198", after := #[{ on := 16, ground := Ground.guard }], guard := some (16, true) }) (v := ?vb17) rfl (by kernel_rfl) (by kernel_rfl) (by kernel_rfl) (fun _ _ _ h => h) (Or.inl ⟨by rfl, ?hb17⟩) (Below.refl _ _) ?rb17
  case hb17 =>
    intro w hSw
    go_simp
    try with_reducible rfl
  (try simp only [Act.put, List.setIfInBounds_toArray, List.set_cons_zero, List.set_cons_succ])
  refine wpAnyH_take (i := 18) (oi := { dst := some 71, op := Op.convert 22 9 (Operand.tmp 70), type := 9, pos := "law.go:198", after := #[{ on := 17, ground := Ground.data }, { on := 16, ground := Ground.guard }], guard := some (16, true) }) (v := ?vb18) rfl (by kernel_rfl) (by kernel_rfl) (by kernel_rfl) (fun _ _ _ h => h) (Or.inl ⟨by rfl, ?hb18⟩) (Below.refl _ _) ?rb18
  case hb18 =>
    intro w hSw
    have q := st8.conv w hSw
    go_simp
    try with_reducible rfl
  (try simp only [Act.put, List.setIfInBounds_toArray, List.set_cons_zero, List.set_cons_succ])
  refine wpAnyH_take (i := 19) (oi := { dst := some 72, op := Op.move (Operand.tmp 5), type := 22, pos := "law.go:198", after := #[{ on := 16, ground := Ground.guard }], guard := some (16, true) }) (v := ?vb19) rfl (by kernel_rfl) (by kernel_rfl) (by kernel_rfl) (fun _ _ _ h => h) (Or.inl ⟨by rfl, ?hb19⟩) (Below.refl _ _) ?rb19
  case hb19 =>
    intro w hSw
    go_simp
    try with_reducible rfl
  (try simp only [Act.put, List.setIfInBounds_toArray, List.set_cons_zero, List.set_cons_succ])
  refine wpAnyH_take (i := 20) (oi := { dst := some 73, op := Op.convert 22 9 (Operand.tmp 72), type := 9, pos := "law.go:198", after := #[{ on := 19, ground := Ground.data }, { on := 16, ground := Ground.guard }], guard := some (16, true) }) (v := ?vb20) rfl (by kernel_rfl) (by kernel_rfl) (by kernel_rfl) (fun _ _ _ h => h) (Or.inl ⟨by rfl, ?hb20⟩) (Below.refl _ _) ?rb20
  case hb20 =>
    intro w hSw
    have q := sx8.conv w hSw
    go_simp
    try with_reducible rfl
  (try simp only [Act.put, List.setIfInBounds_toArray, List.set_cons_zero, List.set_cons_succ])
  refine wpAnyH_take (i := 21) (oi := { dst := some 74, op := Op.binOp BinOp.eql 9 (Operand.tmp 71) (Operand.tmp 73) 9, type := 4, pos := "law.go:198", after := #[{ on := 18, ground := Ground.data }, { on := 20, ground := Ground.data }, { on := 16, ground := Ground.guard }], guard := some (16, true) }) (v := ?vb21) rfl (by kernel_rfl) (by kernel_rfl) (by kernel_rfl) (fun _ _ _ h => h) (Or.inl ⟨by rfl, ?hb21⟩) (Below.refl _ _) ?rb21
  case hb21 =>
    intro w hSw
    go_simp
    try with_reducible rfl
  (try simp only [Act.put, List.setIfInBounds_toArray, List.set_cons_zero, List.set_cons_succ])
  refine wpAnyH_take (i := 22) (oi := { dst := some 75, op := Op.pick (Operand.tmp 69) (Operand.tmp 74) (Operand.const (Value.bool false)), type := 4, pos := "law.go:198", after := #[{ on := 16, ground := Ground.data }, { on := 21, ground := Ground.data }], guard := none }) (v := ?vb22) rfl (by kernel_rfl) (by kernel_rfl) (by kernel_rfl) (fun _ _ _ h => h) (Or.inl ⟨by rfl, ?hb22⟩) (Below.refl _ _) ?rb22
  case hb22 =>
    intro w hSw
    go_simp
    try with_reducible rfl
  (try simp only [Act.put, List.setIfInBounds_toArray, List.set_cons_zero, List.set_cons_succ])
  refine wpAnyH_take (i := 23) (oi := { dst := some 76, op := Op.move (Operand.tmp 75), type := 4, pos := "law.go:198", after := #[{ on := 22, ground := Ground.data }, { on := 16, ground := Ground.chain }], guard := none }) (v := ?vb23) rfl (by kernel_rfl) (by kernel_rfl) (by kernel_rfl) (fun _ _ _ h => h) (Or.inl ⟨by rfl, ?hb23⟩) (Below.refl _ _) ?rb23
  case hb23 =>
    intro w hSw
    go_simp
    try with_reducible rfl
  (try simp only [Act.put, List.setIfInBounds_toArray, List.set_cons_zero, List.set_cons_succ])
  refine wpAnyH_take (i := 24) (oi := { dst := some 77, op := Op.move (Operand.tmp 0), type := 22, pos := "law.go:198", after := #[{ on := 23, ground := Ground.guard }], guard := some (23, true) }) (v := ?vb24) rfl (by kernel_rfl) (by kernel_rfl) (by kernel_rfl) (fun _ _ _ h => h) (Or.inl ⟨by rfl, ?hb24⟩) (Below.refl _ _) ?rb24
  case hb24 =>
    intro w hSw
    go_simp
    try with_reducible rfl
  (try simp only [Act.put, List.setIfInBounds_toArray, List.set_cons_zero, List.set_cons_succ])
  refine wpAnyH_take (i := 25) (oi := { dst := some 78, op := Op.move (Operand.tmp 1), type := 22, pos := "law.go:198", after := #[{ on := 23, ground := Ground.guard }], guard := some (23, true) }) (v := ?vb25) rfl (by kernel_rfl) (by kernel_rfl) (by kernel_rfl) (fun _ _ _ h => h) (Or.inl ⟨by rfl, ?hb25⟩) (Below.refl _ _) ?rb25
  case hb25 =>
    intro w hSw
    go_simp
    try with_reducible rfl
  (try simp only [Act.put, List.setIfInBounds_toArray, List.set_cons_zero, List.set_cons_succ])
  refine wpAnyH_take (i := 28) (oi := { dst := some 81, op := Op.move (Operand.tmp 11), type := 22, pos := "law.go:198", after := #[{ on := 23, ground := Ground.guard }], guard := some (23, true) }) (v := ?vb28) rfl (by kernel_rfl) (by kernel_rfl) (by kernel_rfl) (fun _ _ _ h => h) (Or.inl ⟨by rfl, ?hb28⟩) (Below.refl _ _) ?rb28
  case hb28 =>
    intro w hSw
    go_simp
    try with_reducible rfl
  (try simp only [Act.put, List.setIfInBounds_toArray, List.set_cons_zero, List.set_cons_succ])
  refine wpAnyH_take (i := 29) (oi := { dst := some 82, op := Op.convert 22 9 (Operand.tmp 81), type := 9, pos := "law.go:198", after := #[{ on := 28, ground := Ground.data }, { on := 23, ground := Ground.guard }], guard := some (23, true) }) (v := ?vb29) rfl (by kernel_rfl) (by kernel_rfl) (by kernel_rfl) (fun _ _ _ h => h) (Or.inl ⟨by rfl, ?hb29⟩) (Below.refl _ _) ?rb29
  case hb29 =>
    intro w hSw
    have q := sz8.conv w hSw
    go_simp
    try with_reducible rfl
  (try simp only [Act.put, List.setIfInBounds_toArray, List.set_cons_zero, List.set_cons_succ])
  refine wpAnyH_take (i := 31) (oi := { dst := some 84, op := Op.move (Operand.tmp 13), type := 4, pos := "law.go:198", after := #[{ on := 23, ground := Ground.guard }], guard := some (23, true) }) (v := ?vb31) rfl (by kernel_rfl) (by kernel_rfl) (by kernel_rfl) (fun _ _ _ h => h) (Or.inl ⟨by rfl, ?hb31⟩) (Below.refl _ _) ?rb31
  case hb31 =>
    intro w hSw
    go_simp
    try with_reducible rfl
  (try simp only [Act.put, List.setIfInBounds_toArray, List.set_cons_zero, List.set_cons_succ])
  refine wpAnyH_ready (rs := [26]) (by kernel_rfl) (by simp) ?_
  refine AllReadyH.cons (o := { dst := some 79, op := Op.call { callee := Callee.value (Operand.func 27), args := #[Operand.tmp 77, Operand.tmp 78], argTypes := #[22, 22] }, type := 22, pos := "law.go:198", after := #[{ on := 24, ground := Ground.data }, { on := 25, ground := Ground.data }, { on := 23, ground := Ground.chain }, { on := 23, ground := Ground.guard }], guard := some (23, true) }) rfl (fun K hK => ?_) AllReadyH.nil
  go_simp
  (go_at_call 27; refine (cmu _ _ _ hA8 hB8).mono ?_; clear cmu; rintro e w31 ⟨s31, rfl, hn31, hb31⟩; (have t31 := hn31.str); rw [← HS0.out] at t31; obtain ⟨g31, rfl, -⟩ := hn31)
  (try go_simp)
  refine hK.out _ _ hb31 (fun h => ?_)
  clear h hK K
  refine wpAnyH_narrow (S' := fun w' => Below w31.heap.size w31 w') (fun _ h => below_next hb31 h) _ _ _ _ ?_
  clear hA8
  clear hB8
  replace sx8 := sx8.still hb31
  replace sj8 := sj8.still hb31
  replace st8 := st8.still hb31
  replace sz8 := sz8.still hb31
  replace hw8 := below_next hw8 hb31
  clear hb31
  (try simp only [Act.put, List.setIfInBounds_toArray, List.set_cons_zero, List.set_cons_succ])
  refine wpAnyH_take (i := 27) (oi := { dst := some 80, op := Op.convert 22 9 (Operand.tmp 79), type := 9, pos := "law.go:198", after := #[{ on := 26, ground := Ground.data }, { on := 23, ground := Ground.guard }], guard := some (23, true) }) (v := ?vb27) rfl (by kernel_rfl) (by kernel_rfl) (by kernel_rfl) (fun _ _ _ h => h) (Or.inl ⟨by rfl, ?hb27⟩) (Below.refl _ _) ?rb27
  case hb27 =>
    intro w hSw
    have q := t31.conv w hSw
    go_simp
    try with_reducible rfl
  (try simp only [Act.put, List.setIfInBounds_toArray, List.set_cons_zero, List.set_cons_succ])
  refine wpAnyH_take (i := 30) (oi := { dst := some 83, op := Op.binOp BinOp.eql 9 (Operand.tmp 80) (Operand.tmp 82) 9, type := 4, pos := "law.go:198", after := #[{ on := 27, ground := Ground.data }, { on := 29, ground := Ground.data }, { on := 23, ground := Ground.guard }], guard := some (23, true) }) (v := ?vb30) rfl (by kernel_rfl) (by kernel_rfl) (by kernel_rfl) (fun _ _ _ h => h) (Or.inl ⟨by rfl, ?hb30⟩) (Below.refl _ _) ?rb30
  case hb30 =>
    intro w hSw
    go_simp
    try with_reducible rfl
  (try simp only [Act.put, List.setIfInBounds_toArray, List.set_cons_zero, List.set_cons_succ])
  refine wpAnyH_take (i := 32) (oi := { dst := some 85, op := Op.binOp BinOp.eql 4 (Operand.tmp 83) (Operand.tmp 84) 4, type := 4, pos := "law.go:198", after := #[{ on := 30, ground := Ground.data }, { on := 31, ground := Ground.data }, { on := 23, ground := Ground.guard }], guard := some (23, true) }) (v := ?vb32) rfl (by kernel_rfl) (by kernel_rfl) (by kernel_rfl) (fun _ _ _ h => h) (Or.inl ⟨by rfl, ?hb32⟩) (Below.refl _ _) ?rb32
  case hb32 =>
    intro w hSw
    go_simp
    try with_reducible rfl
  (try simp only [Act.put, List.setIfInBounds_toArray, List.set_cons_zero, List.set_cons_succ])
  refine wpAnyH_take (i := 33) (oi := { dst := some 86, op := Op.pick (Operand.tmp 76) (Operand.tmp 85) (Operand.const (Value.bool false)), type := 4, pos := "law.go:198", after := #[{ on := 23, ground := Ground.data }, { on := 32, ground := Ground.data }], guard := none }) (v := ?vb33) rfl (by kernel_rfl) (by kernel_rfl) (by kernel_rfl) (fun _ _ _ h => h) (Or.inl ⟨by rfl, ?hb33⟩) (Below.refl _ _) ?rb33
  case hb33 =>
    intro w hSw
    go_simp
    try with_reducible rfl
  (try simp only [Act.put, List.setIfInBounds_toArray, List.set_cons_zero, List.set_cons_succ])
  refine wpAnyH_take (i := 34) (oi := { dst := some 87, op := Op.move (Operand.tmp 86), type := 4, pos := "law.go:198", after := #[{ on := 33, ground := Ground.data }, { on := 26, ground := Ground.chain }], guard := none }) (v := ?vb34) rfl (by kernel_rfl) (by kernel_rfl) (by kernel_rfl) (fun _ _ _ h => h) (Or.inl ⟨by rfl, ?hb34⟩) (Below.refl _ _) ?rb34
  case hb34 =>
    intro w hSw
    go_simp
    try with_reducible rfl
  (try simp only [Act.put, List.setIfInBounds_toArray, List.set_cons_zero, List.set_cons_succ])
  refine wpAnyH_ready (rs := [35]) (by kernel_rfl) (by simp) ?_
  refine AllReadyH.cons (o := { dst := some 88, op := Op.call { callee := Callee.value (Operand.func 19), args := #[], argTypes := #[] }, type := 4, pos := "law.go:198", after := #[{ on := 34, ground := Ground.chain }, { on := 34, ground := Ground.guard }], guard := some (34, true) }) rfl (fun K hK => ?_) AllReadyH.nil
  go_simp
  (go_at_call 19; refine (hk _).mono ?_; clear hk; rintro e w32 ⟨rfl, hb32⟩)
  (try go_simp)
  refine hK.out _ _ hb32 (fun h => ?_)
  clear h hK K
  refine wpAnyH_narrow (S' := fun w' => Below w32.heap.size w32 w') (fun _ h => below_next hb32 h) _ _ _ _ ?_
  replace sx8 := sx8.still hb32
  replace sj8 := sj8.still hb32
  replace st8 := st8.still hb32
  replace sz8 := sz8.still hb32
  replace t31 := t31.still hb32
  replace hw8 := below_next hw8 hb32
  clear hb32
  (try simp only [Act.put, List.setIfInBounds_toArray, List.set_cons_zero, List.set_cons_succ])
  refine wpAnyH_take (i := 36) (oi := { dst := some 89, op := Op.pick (Operand.tmp 87) (Operand.tmp 88) (Operand.const (Value.bool false)), type := 4, pos := "law.go:198", after := #[{ on := 34, ground := Ground.data }, { on := 35, ground := Ground.data }], guard := none }) (v := ?vb36) rfl (by kernel_rfl) (by kernel_rfl) (by kernel_rfl) (fun _ _ _ h => h) (Or.inl ⟨by rfl, ?hb36⟩) (Below.refl _ _) ?rb36
  case hb36 =>
    intro w hSw
    go_simp
    try with_reducible rfl
  (try simp only [Act.put, List.setIfInBounds_toArray, List.set_cons_zero, List.set_cons_succ])
  refine wpAnyH_take (i := 37) (oi := { dst := some 4, op := Op.assign (Operand.tmp 89), type := 4, pos := "law.go:198", after := #[{ on := 36, ground := Ground.data }, { on := 35, ground := Ground.chain }, { on := 0, ground := Ground.phase }, { on := 1, ground := Ground.phase }, { on := 2, ground := Ground.phase }, { on := 3, ground := Ground.phase }, { on := 4, ground := Ground.phase }, { on := 5, ground := Ground.phase }, { on := 6, ground := Ground.phase }, { on := 7, ground := Ground.phase }, { on := 8, ground := Ground.phase }, { on := 9, ground := Ground.phase }, { on := 10, ground := Ground.phase }, { on := 11, ground := Ground.phase }, { on := 12, ground := Ground.phase }, { on := 13, ground := Ground.phase }, { on := 14, ground := Ground.phase }, { on := 15, ground := Ground.phase }, { on := 16, ground := Ground.phase }, { on := 17, ground := Ground.phase }, { on := 18, ground := Ground.phase }, { on := 19, ground := Ground.phase }, { on := 20, ground := Ground.phase }, { on := 21, ground := Ground.phase }, { on := 22, ground := Ground.phase }, { on := 23, ground := Ground.phase }, { on := 24, ground := Ground.phase }, { on := 25, ground := Ground.phase }, { on := 26, ground := Ground.phase }, { on := 27, ground := Ground.phase }, { on := 28, ground := Ground.phase }, { on := 29, ground := Ground.phase }, { on := 30, ground := Ground.phase }, { on := 31, ground := Ground.phase }, { on := 32, ground := Ground.phase }, { on := 33, ground := Ground.phase }, { on := 34, ground := Ground.phase }, { on := 35, ground := Ground.phase }, { on := 36, ground := Ground.phase }], guard := none }) (v := ?vb37) rfl (by kernel_rfl) (by kernel_rfl) (by kernel_rfl) (fun _ _ _ h => h) (Or.inl ⟨by rfl, ?hb37⟩) (Below.refl _ _) ?rb37
  case hb37 =>
    intro w hSw
    go_simp
    try with_reducible rfl
  (try simp only [Act.put, List.setIfInBounds_toArray, List.set_cons_zero, List.set_cons_succ])
  refine wpAnyH_done (by kernel_rfl) ?_ _
  refine NoPanic.normal ?_
  go_wp2
  go_ret
  exact ⟨rfl, hw8⟩
set_option maxRecDepth 20000 in
set_option maxHeartbeats 4000000 in
theorem twice3 (a b : Value) (n m : Nat) (bs cs : Nat → Nat) (hbs : ∀ j, bs j < 256) (hcs : ∀ j, cs j < 256) (w : World) (ha : BytesIn w a n bs) (hb : BytesIn w b m cs) (hX : ofB (fitB n bs) 32 % pF ≠ 0) (hY : ofB (fitB m cs) 32 % pF ≠ 0) :
    Calls Try.prog 9 #[a, b] w fun e w' => e = .returned (.bool true) ∧ Below w.heap.size w w' := by
  have cf1 := fit_any a n bs w ha
  have cf2 := fun W (h : Below w.heap.size w W) => fit_any b m cs W (hb.still h)
  have hXl : ofB (fitB n bs) 32 % pF < pF := Nat.mod_lt _ (by decide)
  have hYl : ofB (fitB m cs) 32 % pF < pF := Nat.mod_lt _ (by decide)
  have cc := fun W v hv => canon_good v (fitB n bs) (fitB_lt hbs) W hv
  have ci := fun W v hv => inv_good v (fitB n bs) (fitB_lt hbs) W hv
  have cs1 := fun W u v hu hv => sub3_any u v (byt 0) (fitB n bs) (byt_all 0) (fitB_lt hbs) W hu hv
  have cad := fun W u v hu hv => add3_any u v (fitB m cs) (byt 0) (fitB_lt hcs) (byt_all 0) W hu hv
  have cmu := fun W u v hu hv => mul3_any u v (fitB n bs) (fitB m cs) (fitB_lt hbs) (fitB_lt hcs) W hu hv
  have cz : ∀ W, Calls Try.prog 26 #[.int .u8 0] W fun e w' => ∃ s, e = .returned s ∧ NewB W w' s 32 (byt 0) ∧ Below W.heap.size W w' := fun W => small_any 0 (by decide) W
  have e0 : ofB (byt 0) 32 % pF = 0 := by kernel_rfl
  obtain ⟨X, hXe⟩ : ∃ X, X = ofB (fitB n bs) 32 % pF := ⟨_, rfl⟩
  obtain ⟨Y, hYe⟩ : ∃ Y, Y = ofB (fitB m cs) 32 % pF := ⟨_, rfl⟩
  rw [← hXe] at cc ci cs1 cmu hXl hX
  rw [← hYe] at cad cmu hYl hY
  rw [e0] at cs1 cad
  have hii := inv_inv hXl
  obtain ⟨I, hIe⟩ : ∃ I, I = X ^ (pF - 2) % pF := ⟨_, rfl⟩
  rw [← hIe] at ci hii
  have hIl : I < pF := by rw [hIe]; exact Nat.mod_lt _ (by decide)
  have hpb : ∀ x, x < pF → ofB (byt x) 32 % pF = x := fun x hx => by rw [ofB_byt32 x (by unfold pF at hx; omega), Nat.mod_eq_of_lt hx]
  have cj := fun W v hv => inv_good v (byt I) (byt_all I) W hv
  rw [hpb I hIl, hii] at cj
  obtain ⟨M, hMe⟩ : ∃ M, M = (0 + pF - X) % pF := ⟨_, rfl⟩
  have hMl : M < pF := by rw [hMe]; exact Nat.mod_lt _ (by decide)
  have hMM : (0 + pF - M) % pF = X := by rw [hMe]; unfold pF at hXl ⊢; omega
  rw [← hMe] at cs1
  have cs2 := fun W u v hu hv => sub3_any u v (byt 0) (byt M) (byt_all 0) (byt_all M) W hu hv
  rw [e0, hpb M hMl, hMM] at cs2
  have hadd : (Y + 0) % pF = Y := by rw [Nat.add_zero, Nat.mod_eq_of_lt hYl]
  rw [hadd] at cad
  have hZ : X * Y % pF ≠ 0 := fun h => ((mul_zero_iff hXl hYl).1 h).elim hX hY
  have hZl : X * Y % pF < pF := Nat.mod_lt _ (by decide)
  obtain ⟨Z, hZe⟩ : ∃ Z, Z = X * Y % pF := ⟨_, rfl⟩
  rw [← hZe] at cmu hZ hZl
  have hne : ∀ x, x ≠ 0 → x < pF → ((strB 32 (byt x)).toList == (strB 32 (byt 0)).toList) = false := fun x h hx => by
    rw [ByteArray.toList_eq, ByteArray.toList_eq]
    refine beq_false_of_ne (fun e => h ?_)
    have := (strB_eq (byt_all x) (byt_all 0)).1 (WideShapes.bytes_inj e)
    exact byt_inj (by unfold pF at hx; omega) (by decide) this.2
  obtain ⟨S0, hS0⟩ : ∃ S, S = strB 32 (byt 0) := ⟨_, rfl⟩
  rw [← hS0] at hne
  have hnX := hne X hX hXl
  obtain ⟨SX, hSX⟩ : ∃ S, S = strB 32 (byt X) := ⟨_, rfl⟩
  rw [← hSX] at hnX
  have hnY := hne Y hY hYl
  obtain ⟨SY, hSY⟩ : ∃ S, S = strB 32 (byt Y) := ⟨_, rfl⟩
  rw [← hSY] at hnY
  have hnZ := hne Z hZ hZl
  obtain ⟨SZ, hSZ⟩ : ∃ S, S = strB 32 (byt Z) := ⟨_, rfl⟩
  rw [← hSZ] at hnZ
  have HS0 := Hid.mk' hS0
  clear hS0
  have HSX := Hid.mk' hSX
  clear hSX
  have HSY := Hid.mk' hSY
  clear hSY
  have HSZ := Hid.mk' hSZ
  clear hSZ
  have hk := fun W => knows3_any W
  obtain ⟨xa, ka, rfl, -⟩ := ha.src
  obtain ⟨xb, kb, rfl, -⟩ := hb.src
  clear ha hb hXe hYe hIe hMe hpb hii hMM e0 hadd hne hIl hMl hXl hYl hX hY hZ hZl hZe
  go_enter Try.func9, Try.ntmps9
  go_wp2_with (first
    | (go_at_call 25; refine cf1.mono ?_; clear cf1; rintro e w1 ⟨A, rfl, hA, hb1⟩; replace cf2 := cf2 w1 hb1; (have hA1 := hA.bytes (by decide)); obtain ⟨gA, rfl, -⟩ := hA)
    | (go_at_call 25; refine cf2.mono ?_; clear cf2; rintro e w2 ⟨B, rfl, hB, hb2⟩; (have hB2 := hB.bytes (by decide)); obtain ⟨gB, rfl, -⟩ := hB; (have hA2 := hA1.still hb2); (have hw2 := hb1.trans (hb2.mono hb1.size)); replace cc := cc w2 _ hA2)
    | (go_at_call 15; refine cc.mono ?_; clear cc; rintro e w3 ⟨x, rfl, hx, hb3⟩; (have sx3 := hx.str); obtain ⟨gx, rfl, -⟩ := hx; (have hw3 := hw2.trans (hb3.mono hw2.size)); (have hA3 := hA2.still hb3); (have hB3 := hB2.still hb3); replace ci := ci w3 _ hA3)
    | (go_at_call 22; refine ci.mono ?_; clear ci; rintro e w4 ⟨i, rfl, hi, hb4⟩; (have hI4 := hi.bytes (by decide)); obtain ⟨gi, rfl, -⟩ := hi; (have hw4 := hw3.trans (hb4.mono hw3.size)); (have hA4 := hA3.still hb4); (have hB4 := hB3.still hb4); (have sx4 := sx3.still hb4); replace cj := cj w4 _ hI4)
    | (go_at_call 22; refine cj.mono ?_; clear cj; rintro e w5 ⟨j, rfl, hj, hb5⟩; (have sj5 := hj.str); obtain ⟨gj, rfl, -⟩ := hj; (have hw5 := hw4.trans (hb5.mono hw4.size)); (have hA5 := hA4.still hb5); (have hB5 := hB4.still hb5); (have sx5 := sx4.still hb5))
    | (go_at_call 26; refine (cz _).mono ?_; clear cz; rintro e w6 ⟨z, rfl, hz, hb6⟩; (have sz6 := hz.str); (have hZ6 := hz.bytes (by decide)); obtain ⟨gz, rfl, -⟩ := hz; (have hw6 := hw5.trans (hb6.mono hw5.size)); (have hA6 := hA5.still hb6); (have hB6 := hB5.still hb6); (have sx6 := sx5.still hb6); (have sj6 := sj5.still hb6); replace cs1 := cs1 w6 _ _ hZ6 hA6)
    | (go_at_call 29; refine cs1.mono ?_; clear cs1; rintro e w7 ⟨s, rfl, hs, hb7⟩; (have hs7 := hs.bytes (by decide)); obtain ⟨gs, rfl, -⟩ := hs; (have hw7 := hw6.trans (hb7.mono hw6.size)); (have hA7 := hA6.still hb7); (have hB7 := hB6.still hb7); (have hZ7 := hZ6.still hb7); (have sx7 := sx6.still hb7); (have sj7 := sj6.still hb7); (have sz7 := sz6.still hb7); replace cs2 := cs2 w7 _ _ hZ7 hs7)
    | (go_at_call 29; refine cs2.mono ?_; clear cs2; rintro e w8 ⟨t, rfl, ht, hb8⟩; (have st8 := ht.str); obtain ⟨gt, rfl, -⟩ := ht; (have hw8 := hw7.trans (hb8.mono hw7.size)); (have hA8 := hA7.still hb8); (have hB8 := hB7.still hb8); (have hZ8 := hZ7.still hb8); (have sx8 := sx7.still hb8); (have sj8 := sj7.still hb8); (have sz8 := sz7.still hb8); clear sx3 sx4 sx5 sx6 sx7 sj5 sj6 sj7 sz6 sz7 hA1 hA2 hA3 hA4 hA5 hA6 hA7 hB2 hB3 hB4 hB5 hB6 hB7 hZ6 hZ7 hs7 hI4 hw2 hw3 hw4 hw5 hw6 hw7 hb1 hb2 hb3 hb4 hb5 hb6 hb7 hb8))
  rw [← HSX.out] at sx8 sj8 st8
  rw [← HS0.out] at sz8
  have hw0 : IntKind.i64.wrap 0 = 0 := by decide
  have hdrew : Below w8.heap.size w8 w8.drew := (Below.refl _ _).drew
  replace hA8 := hA8.still hdrew
  replace hB8 := hB8.still hdrew
  replace hZ8 := hZ8.still hdrew
  replace sx8 := sx8.still hdrew
  replace sj8 := sj8.still hdrew
  replace st8 := st8.still hdrew
  replace sz8 := sz8.still hdrew
  replace hw8 := below_next hw8 hdrew
  clear hdrew
  refine wp_region_noPanic ?_
  refine wp_region_held_drew (S := fun w' => Below w8.drew.heap.size w8.drew w') (by kernel_rfl) (Below.refl _ _) (fun hHeld => ?_)
  clear hHeld
  refine wpAnyH_take (i := 0) (oi := { dst := some 39, op := Op.move (Operand.tmp 5), type := 22, pos := "law.go:197", after := #[], guard := none }) (v := ?va0) rfl (by kernel_rfl) (by kernel_rfl) (by kernel_rfl) (fun _ _ _ h => h) (Or.inl ⟨by rfl, ?ha0⟩) (Below.refl _ _) ?ra0
  case ha0 =>
    intro w hSw
    go_simp
    try with_reducible rfl
  (try simp only [Act.put, List.setIfInBounds_toArray, List.set_cons_zero, List.set_cons_succ])
  refine wpAnyH_take (i := 1) (oi := { dst := some 40, op := Op.convert 22 9 (Operand.tmp 39), type := 9, pos := "law.go:197", after := #[{ on := 0, ground := Ground.data }], guard := none }) (v := ?va1) rfl (by kernel_rfl) (by kernel_rfl) (by kernel_rfl) (fun _ _ _ h => h) (Or.inl ⟨by rfl, ?ha1⟩) (Below.refl _ _) ?ra1
  case ha1 =>
    intro w hSw
    have q := sx8.conv w hSw
    go_simp
    try with_reducible rfl
  (try simp only [Act.put, List.setIfInBounds_toArray, List.set_cons_zero, List.set_cons_succ])
  refine wpAnyH_take (i := 2) (oi := { dst := some 41, op := Op.move (Operand.tmp 11), type := 22, pos := "law.go:197", after := #[], guard := none }) (v := ?va2) rfl (by kernel_rfl) (by kernel_rfl) (by kernel_rfl) (fun _ _ _ h => h) (Or.inl ⟨by rfl, ?ha2⟩) (Below.refl _ _) ?ra2
  case ha2 =>
    intro w hSw
    go_simp
    try with_reducible rfl
  (try simp only [Act.put, List.setIfInBounds_toArray, List.set_cons_zero, List.set_cons_succ])
  refine wpAnyH_take (i := 3) (oi := { dst := some 42, op := Op.convert 22 9 (Operand.tmp 41), type := 9, pos := "law.go:197", after := #[{ on := 2, ground := Ground.data }], guard := none }) (v := ?va3) rfl (by kernel_rfl) (by kernel_rfl) (by kernel_rfl) (fun _ _ _ h => h) (Or.inl ⟨by rfl, ?ha3⟩) (Below.refl _ _) ?ra3
  case ha3 =>
    intro w hSw
    have q := sz8.conv w hSw
    go_simp
    try with_reducible rfl
  (try simp only [Act.put, List.setIfInBounds_toArray, List.set_cons_zero, List.set_cons_succ])
  refine wpAnyH_take (i := 4) (oi := { dst := some 43, op := Op.binOp BinOp.eql 9 (Operand.tmp 40) (Operand.tmp 42) 9, type := 4, pos := "law.go:197", after := #[{ on := 1, ground := Ground.data }, { on := 3, ground := Ground.data }], guard := none }) (v := ?va4) rfl (by kernel_rfl) (by kernel_rfl) (by kernel_rfl) (fun _ _ _ h => h) (Or.inl ⟨by rfl, ?ha4⟩) (Below.refl _ _) ?ra4
  case ha4 =>
    intro w hSw
    go_simp
    try with_reducible rfl
  (try simp only [Act.put, List.setIfInBounds_toArray, List.set_cons_zero, List.set_cons_succ])
  refine wpAnyH_take (i := 5) (oi := { dst := some 44, op := Op.move (Operand.tmp 43), type := 4, pos := "law.go:197", after := #[{ on := 4, ground := Ground.data }], guard := none }) (v := ?va5) rfl (by kernel_rfl) (by kernel_rfl) (by kernel_rfl) (fun _ _ _ h => h) (Or.inl ⟨by rfl, ?ha5⟩) (Below.refl _ _) ?ra5
  case ha5 =>
    intro w hSw
    go_simp
    try with_reducible rfl
  (try simp only [Act.put, List.setIfInBounds_toArray, List.set_cons_zero, List.set_cons_succ])
  refine wpAnyH_take (i := 6) (oi := { dst := some 45, op := Op.move (Operand.tmp 1), type := 22, pos := "law.go:197", after := #[{ on := 5, ground := Ground.guard }], guard := some (5, false) }) (v := ?va6) rfl (by kernel_rfl) (by kernel_rfl) (by kernel_rfl) (fun _ _ _ h => h) (Or.inl ⟨by rfl, ?ha6⟩) (Below.refl _ _) ?ra6
  case ha6 =>
    intro w hSw
    go_simp
    try with_reducible rfl
  (try simp only [Act.put, List.setIfInBounds_toArray, List.set_cons_zero, List.set_cons_succ])
  refine wpAnyH_take (i := 7) (oi := { dst := some 46, op := Op.move (Operand.tmp 11), type := 22, pos := "law.go:197", after := #[{ on := 5, ground := Ground.guard }], guard := some (5, false) }) (v := ?va7) rfl (by kernel_rfl) (by kernel_rfl) (by kernel_rfl) (fun _ _ _ h => h) (Or.inl ⟨by rfl, ?ha7⟩) (Below.refl _ _) ?ra7
  case ha7 =>
    intro w hSw
    go_simp
    try with_reducible rfl
  (try simp only [Act.put, List.setIfInBounds_toArray, List.set_cons_zero, List.set_cons_succ])
  refine wpAnyH_take (i := 10) (oi := { dst := some 49, op := Op.move (Operand.tmp 11), type := 22, pos := "law.go:197", after := #[{ on := 5, ground := Ground.guard }], guard := some (5, false) }) (v := ?va10) rfl (by kernel_rfl) (by kernel_rfl) (by kernel_rfl) (fun _ _ _ h => h) (Or.inl ⟨by rfl, ?ha10⟩) (Below.refl _ _) ?ra10
  case ha10 =>
    intro w hSw
    go_simp
    try with_reducible rfl
  (try simp only [Act.put, List.setIfInBounds_toArray, List.set_cons_zero, List.set_cons_succ])
  refine wpAnyH_take (i := 11) (oi := { dst := some 50, op := Op.convert 22 9 (Operand.tmp 49), type := 9, pos := "law.go:197", after := #[{ on := 10, ground := Ground.data }, { on := 5, ground := Ground.guard }], guard := some (5, false) }) (v := ?va11) rfl (by kernel_rfl) (by kernel_rfl) (by kernel_rfl) (fun _ _ _ h => h) (Or.inl ⟨by rfl, ?ha11⟩) (Below.refl _ _) ?ra11
  case ha11 =>
    intro w hSw
    have q := sz8.conv w hSw
    go_simp
    try with_reducible rfl
  (try simp only [Act.put, List.setIfInBounds_toArray, List.set_cons_zero, List.set_cons_succ])
  refine wpAnyH_ready (rs := [8]) (by kernel_rfl) (by simp) ?_
  refine AllReadyH.cons (o := { dst := some 47, op := Op.call { callee := Callee.value (Operand.func 28), args := #[Operand.tmp 45, Operand.tmp 46], argTypes := #[22, 22] }, type := 22, pos := "law.go:197", after := #[{ on := 6, ground := Ground.data }, { on := 7, ground := Ground.data }, { on := 5, ground := Ground.chain }, { on := 5, ground := Ground.guard }], guard := some (5, false) }) rfl (fun K hK => ?_) AllReadyH.nil
  go_simp
  (go_at_call 28; refine (cad _ _ _ hB8 hZ8).mono ?_; clear cad; rintro e w30 ⟨s30, rfl, hn30, hb30⟩; (have t30 := hn30.str); rw [← HSY.out] at t30; obtain ⟨g30, rfl, -⟩ := hn30)
  (try go_simp)
  refine hK.out _ _ hb30 (fun h => ?_)
  clear h hK K
  refine wpAnyH_narrow (S' := fun w' => Below w30.heap.size w30 w') (fun _ h => below_next hb30 h) _ _ _ _ ?_
  clear hZ8
  replace hA8 := hA8.still hb30
  replace hB8 := hB8.still hb30
  replace sx8 := sx8.still hb30
  replace sj8 := sj8.still hb30
  replace st8 := st8.still hb30
  replace sz8 := sz8.still hb30
  replace hw8 := below_next hw8 hb30
  clear hb30
  (try simp only [Act.put, List.setIfInBounds_toArray, List.set_cons_zero, List.set_cons_succ])
  refine wpAnyH_take (i := 9) (oi := { dst := some 48, op := Op.convert 22 9 (Operand.tmp 47), type := 9, pos := "law.go:197", after := #[{ on := 8, ground := Ground.data }, { on := 5, ground := Ground.guard }], guard := some (5, false) }) (v := ?va9) rfl (by kernel_rfl) (by kernel_rfl) (by kernel_rfl) (fun _ _ _ h => h) (Or.inl ⟨by rfl, ?ha9⟩) (Below.refl _ _) ?ra9
  case ha9 =>
    intro w hSw
    have q := t30.conv w hSw
    go_simp
    try with_reducible rfl
  (try simp only [Act.put, List.setIfInBounds_toArray, List.set_cons_zero, List.set_cons_succ])
  refine wpAnyH_take (i := 12) (oi := { dst := some 51, op := Op.binOp BinOp.eql 9 (Operand.tmp 48) (Operand.tmp 50) 9, type := 4, pos := "law.go:197", after := #[{ on := 9, ground := Ground.data }, { on := 11, ground := Ground.data }, { on := 5, ground := Ground.guard }], guard := some (5, false) }) (v := ?va12) rfl (by kernel_rfl) (by kernel_rfl) (by kernel_rfl) (fun _ _ _ h => h) (Or.inl ⟨by rfl, ?ha12⟩) (Below.refl _ _) ?ra12
  case ha12 =>
    intro w hSw
    go_simp
    try with_reducible rfl
  (try simp only [Act.put, List.setIfInBounds_toArray, List.set_cons_zero, List.set_cons_succ])
  refine wpAnyH_take (i := 13) (oi := { dst := some 52, op := Op.pick (Operand.tmp 44) (Operand.const (Value.bool true)) (Operand.tmp 51), type := 4, pos := "law.go:197", after := #[{ on := 5, ground := Ground.data }, { on := 12, ground := Ground.data }], guard := none }) (v := ?va13) rfl (by kernel_rfl) (by kernel_rfl) (by kernel_rfl) (fun _ _ _ h => h) (Or.inl ⟨by rfl, ?ha13⟩) (Below.refl _ _) ?ra13
  case ha13 =>
    intro w hSw
    go_simp
    try with_reducible rfl
  (try simp only [Act.put, List.setIfInBounds_toArray, List.set_cons_zero, List.set_cons_succ])
  refine wpAnyH_take (i := 14) (oi := { dst := some 13, op := Op.assign (Operand.tmp 52), type := 4, pos := "law.go:197", after := #[{ on := 13, ground := Ground.data }, { on := 8, ground := Ground.chain }, { on := 0, ground := Ground.phase }, { on := 1, ground := Ground.phase }, { on := 2, ground := Ground.phase }, { on := 3, ground := Ground.phase }, { on := 4, ground := Ground.phase }, { on := 5, ground := Ground.phase }, { on := 6, ground := Ground.phase }, { on := 7, ground := Ground.phase }, { on := 8, ground := Ground.phase }, { on := 9, ground := Ground.phase }, { on := 10, ground := Ground.phase }, { on := 11, ground := Ground.phase }, { on := 12, ground := Ground.phase }, { on := 13, ground := Ground.phase }], guard := none }) (v := ?va14) rfl (by kernel_rfl) (by kernel_rfl) (by kernel_rfl) (fun _ _ _ h => h) (Or.inl ⟨by rfl, ?ha14⟩) (Below.refl _ _) ?ra14
  case ha14 =>
    intro w hSw
    go_simp
    try with_reducible rfl
  (try simp only [Act.put, List.setIfInBounds_toArray, List.set_cons_zero, List.set_cons_succ])
  refine wpAnyH_done (by kernel_rfl) ?_ _
  refine NoPanic.normal ?_
  clear t30
  go_wp2
  have hdrew : Below w30.heap.size w30 w30.drew := (Below.refl _ _).drew
  replace hA8 := hA8.still hdrew
  replace hB8 := hB8.still hdrew
  replace sx8 := sx8.still hdrew
  replace sj8 := sj8.still hdrew
  replace st8 := st8.still hdrew
  replace sz8 := sz8.still hdrew
  replace hw8 := below_next hw8 hdrew
  clear hdrew
  refine wp_region_noPanic ?_
  refine wp_region_held_drew (S := fun w' => Below w30.drew.heap.size w30.drew w') (by kernel_rfl) (Below.refl _ _) (fun hHeld => ?_)
  clear hHeld
  refine wpAnyH_take (i := 0) (oi := { dst := some 53, op := Op.move (Operand.tmp 6), type := 24, pos := "law.go:198", after := #[], guard := none }) (v := ?vb0) rfl (by kernel_rfl) (by kernel_rfl) (by kernel_rfl) (fun _ _ _ h => h) (Or.inl ⟨by rfl, ?hb0⟩) (Below.refl _ _) ?rb0
  case hb0 =>
    intro w hSw
    go_simp
    try with_reducible rfl
  (try simp only [Act.put, List.setIfInBounds_toArray, List.set_cons_zero, List.set_cons_succ])
  refine wpAnyH_take (i := 2) (oi := { dst := some 55, op := Op.move (Operand.tmp 8), type := 24, pos := "law.go:198", after := #[], guard := none }) (v := ?vb2) rfl (by kernel_rfl) (by kernel_rfl) (by kernel_rfl) (fun _ _ _ h => h) (Or.inl ⟨by rfl, ?hb2⟩) (Below.refl _ _) ?rb2
  case hb2 =>
    intro w hSw
    go_simp
    try with_reducible rfl
  (try simp only [Act.put, List.setIfInBounds_toArray, List.set_cons_zero, List.set_cons_succ])
  refine wpAnyH_take (i := 5) (oi := { dst := some 58, op := Op.move (Operand.tmp 10), type := 24, pos := "law.go:198", after := #[], guard := none }) (v := ?vb5) rfl (by kernel_rfl) (by kernel_rfl) (by kernel_rfl) (fun _ _ _ h => h) (Or.inl ⟨by rfl, ?hb5⟩) (Below.refl _ _) ?rb5
  case hb5 =>
    intro w hSw
    go_simp
    try with_reducible rfl
  (try simp only [Act.put, List.setIfInBounds_toArray, List.set_cons_zero, List.set_cons_succ])
  refine wpAnyH_ready (rs := [1]) (by kernel_rfl) (by simp) ?_
  refine AllReadyH.cons (o := { dst := some 54, op := Op.call { callee := Callee.value (Operand.func 17), args := #[Operand.tmp 53], argTypes := #[24] }, type := 3, pos := "law.go:198", after := #[{ on := 0, ground := Ground.data }], guard := none }) rfl (fun K hK => ?_) AllReadyH.nil
  go_simp
  (go_at_call 17; refine (num3_any _ _).mono ?_; rintro e wn ⟨rfl, hwn⟩; subst hwn)
  (try go_simp)
  refine hK.out _ _ (Below.refl _ _) (fun h => ?_)
  clear h hK K
  (try simp only [Act.put, List.setIfInBounds_toArray, List.set_cons_zero, List.set_cons_succ])
  refine wpAnyH_ready (rs := [3]) (by kernel_rfl) (by simp) ?_
  refine AllReadyH.cons (o := { dst := some 56, op := Op.call { callee := Callee.value (Operand.func 17), args := #[Operand.tmp 55], argTypes := #[24] }, type := 3, pos := "law.go:198", after := #[{ on := 2, ground := Ground.data }, { on := 1, ground := Ground.chain }], guard := none }) rfl (fun K hK => ?_) AllReadyH.nil
  go_simp
  (go_at_call 17; refine (num3_any _ _).mono ?_; rintro e wn ⟨rfl, hwn⟩; subst hwn)
  (try go_simp)
  refine hK.out _ _ (Below.refl _ _) (fun h => ?_)
  clear h hK K
  (try simp only [Act.put, List.setIfInBounds_toArray, List.set_cons_zero, List.set_cons_succ])
  refine wpAnyH_take (i := 4) (oi := { dst := some 57, op := Op.binOp BinOp.add 3 (Operand.tmp 54) (Operand.tmp 56) 3, type := 3, pos := "law.go:198", after := #[{ on := 1, ground := Ground.data }, { on := 3, ground := Ground.data }], guard := none }) (v := ?vb4) rfl (by kernel_rfl) (by kernel_rfl) (by kernel_rfl) (fun _ _ _ h => h) (Or.inl ⟨by rfl, ?hb4⟩) (Below.refl _ _) ?rb4
  case hb4 =>
    intro w hSw
    go_simp
    try with_reducible rfl
  (try simp only [Act.put, List.setIfInBounds_toArray, List.set_cons_zero, List.set_cons_succ])
  refine wpAnyH_ready (rs := [6]) (by kernel_rfl) (by simp) ?_
  refine AllReadyH.cons (o := { dst := some 59, op := Op.call { callee := Callee.value (Operand.func 17), args := #[Operand.tmp 58], argTypes := #[24] }, type := 3, pos := "law.go:198", after := #[{ on := 5, ground := Ground.data }, { on := 3, ground := Ground.chain }], guard := none }) rfl (fun K hK => ?_) AllReadyH.nil
  go_simp
  (go_at_call 17; refine (num3_any _ _).mono ?_; rintro e wn ⟨rfl, hwn⟩; subst hwn)
  (try go_simp)
  refine hK.out _ _ (Below.refl _ _) (fun h => ?_)
  clear h hK K
  (try simp only [Act.put, List.setIfInBounds_toArray, List.set_cons_zero, List.set_cons_succ])
  refine wpAnyH_take (i := 7) (oi := { dst := some 60, op := Op.binOp BinOp.add 3 (Operand.tmp 57) (Operand.tmp 59) 3, type := 3, pos := "law.go:198", after := #[{ on := 4, ground := Ground.data }, { on := 6, ground := Ground.data }], guard := none }) (v := ?vb7) rfl (by kernel_rfl) (by kernel_rfl) (by kernel_rfl) (fun _ _ _ h => h) (Or.inl ⟨by rfl, ?hb7⟩) (Below.refl _ _) ?rb7
  case hb7 =>
    intro w hSw
    go_simp
    try with_reducible rfl
  (try simp only [Act.put, List.setIfInBounds_toArray, List.set_cons_zero, List.set_cons_succ])
  refine wpAnyH_take (i := 8) (oi := { dst := some 61, op := Op.binOp BinOp.eql 3 (Operand.tmp 60) (Operand.const (Value.int IntKind.i64 0)) 3, type := 4, pos := "law.go:198", after := #[{ on := 7, ground := Ground.data }], guard := none }) (v := ?vb8) rfl (by kernel_rfl) (by kernel_rfl) (by kernel_rfl) (fun _ _ _ h => h) (Or.inl ⟨by rfl, ?hb8⟩) (Below.refl _ _) ?rb8
  case hb8 =>
    intro w hSw
    go_simp
    try with_reducible rfl
  (try simp only [Act.put, List.setIfInBounds_toArray, List.set_cons_zero, List.set_cons_succ])
  refine wpAnyH_take (i := 9) (oi := { dst := some 62, op := Op.move (Operand.tmp 61), type := 4, pos := "law.go:198", after := #[{ on := 8, ground := Ground.data }, { on := 6, ground := Ground.chain }], guard := none }) (v := ?vb9) rfl (by kernel_rfl) (by kernel_rfl) (by kernel_rfl) (fun _ _ _ h => h) (Or.inl ⟨by rfl, ?hb9⟩) (Below.refl _ _) ?rb9
  case hb9 =>
    intro w hSw
    go_simp
    try with_reducible rfl
  (try simp only [Act.put, List.setIfInBounds_toArray, List.set_cons_zero, List.set_cons_succ])
  refine wpAnyH_take (i := 10) (oi := { dst := some 63, op := Op.move (Operand.tmp 9), type := 22, pos := "law.go:198", after := #[{ on := 9, ground := Ground.guard }], guard := some (9, true) }) (v := ?vb10) rfl (by kernel_rfl) (by kernel_rfl) (by kernel_rfl) (fun _ _ _ h => h) (Or.inl ⟨by rfl, ?hb10⟩) (Below.refl _ _) ?rb10
  case hb10 =>
    intro w hSw
    go_simp
    try with_reducible rfl
  (try simp only [Act.put, List.setIfInBounds_toArray, List.set_cons_zero, List.set_cons_succ])
  refine wpAnyH_take (i := 11) (oi := { dst := some 64, op := Op.convert 22 9 (Operand.tmp 63), type := 9, pos := "law.go:198", after := #[{ on := 10, ground := Ground.data }, { on := 9, ground := Ground.guard }], guard := some (9, true) }) (v := ?vb11) rfl (by kernel_rfl) (by kernel_rfl) (by kernel_rfl) (fun _ _ _ h => h) (Or.inl ⟨by rfl, ?hb11⟩) (Below.refl _ _) ?rb11
  case hb11 =>
    intro w hSw
    have q := sj8.conv w hSw
    go_simp
    try with_reducible rfl
  (try simp only [Act.put, List.setIfInBounds_toArray, List.set_cons_zero, List.set_cons_succ])
  refine wpAnyH_take (i := 12) (oi := { dst := some 65, op := Op.move (Operand.tmp 5), type := 22, pos := "law.go:198", after := #[{ on := 9, ground := Ground.guard }], guard := some (9, true) }) (v := ?vb12) rfl (by kernel_rfl) (by kernel_rfl) (by kernel_rfl) (fun _ _ _ h => h) (Or.inl ⟨by rfl, ?hb12⟩) (Below.refl _ _) ?rb12
  case hb12 =>
    intro w hSw
    go_simp
    try with_reducible rfl
  (try simp only [Act.put, List.setIfInBounds_toArray, List.set_cons_zero, List.set_cons_succ])
  refine wpAnyH_take (i := 13) (oi := { dst := some 66, op := Op.convert 22 9 (Operand.tmp 65), type := 9, pos := "law.go:198", after := #[{ on := 12, ground := Ground.data }, { on := 9, ground := Ground.guard }], guard := some (9, true) }) (v := ?vb13) rfl (by kernel_rfl) (by kernel_rfl) (by kernel_rfl) (fun _ _ _ h => h) (Or.inl ⟨by rfl, ?hb13⟩) (Below.refl _ _) ?rb13
  case hb13 =>
    intro w hSw
    have q := sx8.conv w hSw
    go_simp
    try with_reducible rfl
  (try simp only [Act.put, List.setIfInBounds_toArray, List.set_cons_zero, List.set_cons_succ])
  refine wpAnyH_take (i := 14) (oi := { dst := some 67, op := Op.binOp BinOp.eql 9 (Operand.tmp 64) (Operand.tmp 66) 9, type := 4, pos := "law.go:198", after := #[{ on := 11, ground := Ground.data }, { on := 13, ground := Ground.data }, { on := 9, ground := Ground.guard }], guard := some (9, true) }) (v := ?vb14) rfl (by kernel_rfl) (by kernel_rfl) (by kernel_rfl) (fun _ _ _ h => h) (Or.inl ⟨by rfl, ?hb14⟩) (Below.refl _ _) ?rb14
  case hb14 =>
    intro w hSw
    go_simp
    try with_reducible rfl
  (try simp only [Act.put, List.setIfInBounds_toArray, List.set_cons_zero, List.set_cons_succ])
  refine wpAnyH_take (i := 15) (oi := { dst := some 68, op := Op.pick (Operand.tmp 62) (Operand.tmp 67) (Operand.const (Value.bool false)), type := 4, pos := "law.go:198", after := #[{ on := 9, ground := Ground.data }, { on := 14, ground := Ground.data }], guard := none }) (v := ?vb15) rfl (by kernel_rfl) (by kernel_rfl) (by kernel_rfl) (fun _ _ _ h => h) (Or.inl ⟨by rfl, ?hb15⟩) (Below.refl _ _) ?rb15
  case hb15 =>
    intro w hSw
    go_simp
    try with_reducible rfl
  (try simp only [Act.put, List.setIfInBounds_toArray, List.set_cons_zero, List.set_cons_succ])
  refine wpAnyH_take (i := 16) (oi := { dst := some 69, op := Op.move (Operand.tmp 68), type := 4, pos := "law.go:198", after := #[{ on := 15, ground := Ground.data }, { on := 9, ground := Ground.chain }], guard := none }) (v := ?vb16) rfl (by kernel_rfl) (by kernel_rfl) (by kernel_rfl) (fun _ _ _ h => h) (Or.inl ⟨by rfl, ?hb16⟩) (Below.refl _ _) ?rb16
  case hb16 =>
    intro w hSw
    go_simp
    try with_reducible rfl
  (try simp only [Act.put, List.setIfInBounds_toArray, List.set_cons_zero, List.set_cons_succ])
  refine wpAnyH_take (i := 17) (oi := { dst := some 70, op := Op.move (Operand.tmp 12), type := 22, pos := "law.go:198", after := #[{ on := 16, ground := Ground.guard }], guard := some (16, true) }) (v := ?vb17) rfl (by kernel_rfl) (by kernel_rfl) (by kernel_rfl) (fun _ _ _ h => h) (Or.inl ⟨by rfl, ?hb17⟩) (Below.refl _ _) ?rb17
  case hb17 =>
    intro w hSw
    go_simp
    try with_reducible rfl
  (try simp only [Act.put, List.setIfInBounds_toArray, List.set_cons_zero, List.set_cons_succ])
  refine wpAnyH_take (i := 18) (oi := { dst := some 71, op := Op.convert 22 9 (Operand.tmp 70), type := 9, pos := "law.go:198", after := #[{ on := 17, ground := Ground.data }, { on := 16, ground := Ground.guard }], guard := some (16, true) }) (v := ?vb18) rfl (by kernel_rfl) (by kernel_rfl) (by kernel_rfl) (fun _ _ _ h => h) (Or.inl ⟨by rfl, ?hb18⟩) (Below.refl _ _) ?rb18
  case hb18 =>
    intro w hSw
    have q := st8.conv w hSw
    go_simp
    try with_reducible rfl
  (try simp only [Act.put, List.setIfInBounds_toArray, List.set_cons_zero, List.set_cons_succ])
  refine wpAnyH_take (i := 19) (oi := { dst := some 72, op := Op.move (Operand.tmp 5), type := 22, pos := "law.go:198", after := #[{ on := 16, ground := Ground.guard }], guard := some (16, true) }) (v := ?vb19) rfl (by kernel_rfl) (by kernel_rfl) (by kernel_rfl) (fun _ _ _ h => h) (Or.inl ⟨by rfl, ?hb19⟩) (Below.refl _ _) ?rb19
  case hb19 =>
    intro w hSw
    go_simp
    try with_reducible rfl
  (try simp only [Act.put, List.setIfInBounds_toArray, List.set_cons_zero, List.set_cons_succ])
  refine wpAnyH_take (i := 20) (oi := { dst := some 73, op := Op.convert 22 9 (Operand.tmp 72), type := 9, pos := "law.go:198", after := #[{ on := 19, ground := Ground.data }, { on := 16, ground := Ground.guard }], guard := some (16, true) }) (v := ?vb20) rfl (by kernel_rfl) (by kernel_rfl) (by kernel_rfl) (fun _ _ _ h => h) (Or.inl ⟨by rfl, ?hb20⟩) (Below.refl _ _) ?rb20
  case hb20 =>
    intro w hSw
    have q := sx8.conv w hSw
    go_simp
    try with_reducible rfl
  (try simp only [Act.put, List.setIfInBounds_toArray, List.set_cons_zero, List.set_cons_succ])
  refine wpAnyH_take (i := 21) (oi := { dst := some 74, op := Op.binOp BinOp.eql 9 (Operand.tmp 71) (Operand.tmp 73) 9, type := 4, pos := "law.go:198", after := #[{ on := 18, ground := Ground.data }, { on := 20, ground := Ground.data }, { on := 16, ground := Ground.guard }], guard := some (16, true) }) (v := ?vb21) rfl (by kernel_rfl) (by kernel_rfl) (by kernel_rfl) (fun _ _ _ h => h) (Or.inl ⟨by rfl, ?hb21⟩) (Below.refl _ _) ?rb21
  case hb21 =>
    intro w hSw
    go_simp
    try with_reducible rfl
  (try simp only [Act.put, List.setIfInBounds_toArray, List.set_cons_zero, List.set_cons_succ])
  refine wpAnyH_take (i := 22) (oi := { dst := some 75, op := Op.pick (Operand.tmp 69) (Operand.tmp 74) (Operand.const (Value.bool false)), type := 4, pos := "law.go:198", after := #[{ on := 16, ground := Ground.data }, { on := 21, ground := Ground.data }], guard := none }) (v := ?vb22) rfl (by kernel_rfl) (by kernel_rfl) (by kernel_rfl) (fun _ _ _ h => h) (Or.inl ⟨by rfl, ?hb22⟩) (Below.refl _ _) ?rb22
  case hb22 =>
    intro w hSw
    go_simp
    try with_reducible rfl
  (try simp only [Act.put, List.setIfInBounds_toArray, List.set_cons_zero, List.set_cons_succ])
  refine wpAnyH_take (i := 23) (oi := { dst := some 76, op := Op.move (Operand.tmp 75), type := 4, pos := "law.go:198", after := #[{ on := 22, ground := Ground.data }, { on := 16, ground := Ground.chain }], guard := none }) (v := ?vb23) rfl (by kernel_rfl) (by kernel_rfl) (by kernel_rfl) (fun _ _ _ h => h) (Or.inl ⟨by rfl, ?hb23⟩) (Below.refl _ _) ?rb23
  case hb23 =>
    intro w hSw
    go_simp
    try with_reducible rfl
  (try simp only [Act.put, List.setIfInBounds_toArray, List.set_cons_zero, List.set_cons_succ])
  refine wpAnyH_take (i := 24) (oi := { dst := some 77, op := Op.move (Operand.tmp 0), type := 22, pos := "law.go:198", after := #[{ on := 23, ground := Ground.guard }], guard := some (23, true) }) (v := ?vb24) rfl (by kernel_rfl) (by kernel_rfl) (by kernel_rfl) (fun _ _ _ h => h) (Or.inl ⟨by rfl, ?hb24⟩) (Below.refl _ _) ?rb24
  case hb24 =>
    intro w hSw
    go_simp
    try with_reducible rfl
  (try simp only [Act.put, List.setIfInBounds_toArray, List.set_cons_zero, List.set_cons_succ])
  refine wpAnyH_take (i := 25) (oi := { dst := some 78, op := Op.move (Operand.tmp 1), type := 22, pos := "law.go:198", after := #[{ on := 23, ground := Ground.guard }], guard := some (23, true) }) (v := ?vb25) rfl (by kernel_rfl) (by kernel_rfl) (by kernel_rfl) (fun _ _ _ h => h) (Or.inl ⟨by rfl, ?hb25⟩) (Below.refl _ _) ?rb25
  case hb25 =>
    intro w hSw
    go_simp
    try with_reducible rfl
  (try simp only [Act.put, List.setIfInBounds_toArray, List.set_cons_zero, List.set_cons_succ])
  refine wpAnyH_take (i := 28) (oi := { dst := some 81, op := Op.move (Operand.tmp 11), type := 22, pos := "law.go:198", after := #[{ on := 23, ground := Ground.guard }], guard := some (23, true) }) (v := ?vb28) rfl (by kernel_rfl) (by kernel_rfl) (by kernel_rfl) (fun _ _ _ h => h) (Or.inl ⟨by rfl, ?hb28⟩) (Below.refl _ _) ?rb28
  case hb28 =>
    intro w hSw
    go_simp
    try with_reducible rfl
  (try simp only [Act.put, List.setIfInBounds_toArray, List.set_cons_zero, List.set_cons_succ])
  refine wpAnyH_take (i := 29) (oi := { dst := some 82, op := Op.convert 22 9 (Operand.tmp 81), type := 9, pos := "law.go:198", after := #[{ on := 28, ground := Ground.data }, { on := 23, ground := Ground.guard }], guard := some (23, true) }) (v := ?vb29) rfl (by kernel_rfl) (by kernel_rfl) (by kernel_rfl) (fun _ _ _ h => h) (Or.inl ⟨by rfl, ?hb29⟩) (Below.refl _ _) ?rb29
  case hb29 =>
    intro w hSw
    have q := sz8.conv w hSw
    go_simp
    try with_reducible rfl
  (try simp only [Act.put, List.setIfInBounds_toArray, List.set_cons_zero, List.set_cons_succ])
  refine wpAnyH_take (i := 31) (oi := { dst := some 84, op := Op.move (Operand.tmp 13), type := 4, pos := "law.go:198", after := #[{ on := 23, ground := Ground.guard }], guard := some (23, true) }) (v := ?vb31) rfl (by kernel_rfl) (by kernel_rfl) (by kernel_rfl) (fun _ _ _ h => h) (Or.inl ⟨by rfl, ?hb31⟩) (Below.refl _ _) ?rb31
  case hb31 =>
    intro w hSw
    go_simp
    try with_reducible rfl
  (try simp only [Act.put, List.setIfInBounds_toArray, List.set_cons_zero, List.set_cons_succ])
  refine wpAnyH_ready (rs := [26]) (by kernel_rfl) (by simp) ?_
  refine AllReadyH.cons (o := { dst := some 79, op := Op.call { callee := Callee.value (Operand.func 27), args := #[Operand.tmp 77, Operand.tmp 78], argTypes := #[22, 22] }, type := 22, pos := "law.go:198", after := #[{ on := 24, ground := Ground.data }, { on := 25, ground := Ground.data }, { on := 23, ground := Ground.chain }, { on := 23, ground := Ground.guard }], guard := some (23, true) }) rfl (fun K hK => ?_) AllReadyH.nil
  go_simp
  (go_at_call 27; refine (cmu _ _ _ hA8 hB8).mono ?_; clear cmu; rintro e w31 ⟨s31, rfl, hn31, hb31⟩; (have t31 := hn31.str); rw [← HSZ.out] at t31; obtain ⟨g31, rfl, -⟩ := hn31)
  (try go_simp)
  refine hK.out _ _ hb31 (fun h => ?_)
  clear h hK K
  refine wpAnyH_narrow (S' := fun w' => Below w31.heap.size w31 w') (fun _ h => below_next hb31 h) _ _ _ _ ?_
  clear hA8
  clear hB8
  replace sx8 := sx8.still hb31
  replace sj8 := sj8.still hb31
  replace st8 := st8.still hb31
  replace sz8 := sz8.still hb31
  replace hw8 := below_next hw8 hb31
  clear hb31
  (try simp only [Act.put, List.setIfInBounds_toArray, List.set_cons_zero, List.set_cons_succ])
  refine wpAnyH_take (i := 27) (oi := { dst := some 80, op := Op.convert 22 9 (Operand.tmp 79), type := 9, pos := "law.go:198", after := #[{ on := 26, ground := Ground.data }, { on := 23, ground := Ground.guard }], guard := some (23, true) }) (v := ?vb27) rfl (by kernel_rfl) (by kernel_rfl) (by kernel_rfl) (fun _ _ _ h => h) (Or.inl ⟨by rfl, ?hb27⟩) (Below.refl _ _) ?rb27
  case hb27 =>
    intro w hSw
    have q := t31.conv w hSw
    go_simp
    try with_reducible rfl
  (try simp only [Act.put, List.setIfInBounds_toArray, List.set_cons_zero, List.set_cons_succ])
  refine wpAnyH_take (i := 30) (oi := { dst := some 83, op := Op.binOp BinOp.eql 9 (Operand.tmp 80) (Operand.tmp 82) 9, type := 4, pos := "law.go:198", after := #[{ on := 27, ground := Ground.data }, { on := 29, ground := Ground.data }, { on := 23, ground := Ground.guard }], guard := some (23, true) }) (v := ?vb30) rfl (by kernel_rfl) (by kernel_rfl) (by kernel_rfl) (fun _ _ _ h => h) (Or.inl ⟨by rfl, ?hb30⟩) (Below.refl _ _) ?rb30
  case hb30 =>
    intro w hSw
    go_simp
    try with_reducible rfl
  (try simp only [Act.put, List.setIfInBounds_toArray, List.set_cons_zero, List.set_cons_succ])
  refine wpAnyH_take (i := 32) (oi := { dst := some 85, op := Op.binOp BinOp.eql 4 (Operand.tmp 83) (Operand.tmp 84) 4, type := 4, pos := "law.go:198", after := #[{ on := 30, ground := Ground.data }, { on := 31, ground := Ground.data }, { on := 23, ground := Ground.guard }], guard := some (23, true) }) (v := ?vb32) rfl (by kernel_rfl) (by kernel_rfl) (by kernel_rfl) (fun _ _ _ h => h) (Or.inl ⟨by rfl, ?hb32⟩) (Below.refl _ _) ?rb32
  case hb32 =>
    intro w hSw
    go_simp
    try with_reducible rfl
  (try simp only [Act.put, List.setIfInBounds_toArray, List.set_cons_zero, List.set_cons_succ])
  refine wpAnyH_take (i := 33) (oi := { dst := some 86, op := Op.pick (Operand.tmp 76) (Operand.tmp 85) (Operand.const (Value.bool false)), type := 4, pos := "law.go:198", after := #[{ on := 23, ground := Ground.data }, { on := 32, ground := Ground.data }], guard := none }) (v := ?vb33) rfl (by kernel_rfl) (by kernel_rfl) (by kernel_rfl) (fun _ _ _ h => h) (Or.inl ⟨by rfl, ?hb33⟩) (Below.refl _ _) ?rb33
  case hb33 =>
    intro w hSw
    go_simp
    try with_reducible rfl
  (try simp only [Act.put, List.setIfInBounds_toArray, List.set_cons_zero, List.set_cons_succ])
  refine wpAnyH_take (i := 34) (oi := { dst := some 87, op := Op.move (Operand.tmp 86), type := 4, pos := "law.go:198", after := #[{ on := 33, ground := Ground.data }, { on := 26, ground := Ground.chain }], guard := none }) (v := ?vb34) rfl (by kernel_rfl) (by kernel_rfl) (by kernel_rfl) (fun _ _ _ h => h) (Or.inl ⟨by rfl, ?hb34⟩) (Below.refl _ _) ?rb34
  case hb34 =>
    intro w hSw
    go_simp
    try with_reducible rfl
  (try simp only [Act.put, List.setIfInBounds_toArray, List.set_cons_zero, List.set_cons_succ])
  refine wpAnyH_ready (rs := [35]) (by kernel_rfl) (by simp) ?_
  refine AllReadyH.cons (o := { dst := some 88, op := Op.call { callee := Callee.value (Operand.func 19), args := #[], argTypes := #[] }, type := 4, pos := "law.go:198", after := #[{ on := 34, ground := Ground.chain }, { on := 34, ground := Ground.guard }], guard := some (34, true) }) rfl (fun K hK => ?_) AllReadyH.nil
  go_simp
  (go_at_call 19; refine (hk _).mono ?_; clear hk; rintro e w32 ⟨rfl, hb32⟩)
  (try go_simp)
  refine hK.out _ _ hb32 (fun h => ?_)
  clear h hK K
  refine wpAnyH_narrow (S' := fun w' => Below w32.heap.size w32 w') (fun _ h => below_next hb32 h) _ _ _ _ ?_
  replace sx8 := sx8.still hb32
  replace sj8 := sj8.still hb32
  replace st8 := st8.still hb32
  replace sz8 := sz8.still hb32
  replace t31 := t31.still hb32
  replace hw8 := below_next hw8 hb32
  clear hb32
  (try simp only [Act.put, List.setIfInBounds_toArray, List.set_cons_zero, List.set_cons_succ])
  refine wpAnyH_take (i := 36) (oi := { dst := some 89, op := Op.pick (Operand.tmp 87) (Operand.tmp 88) (Operand.const (Value.bool false)), type := 4, pos := "law.go:198", after := #[{ on := 34, ground := Ground.data }, { on := 35, ground := Ground.data }], guard := none }) (v := ?vb36) rfl (by kernel_rfl) (by kernel_rfl) (by kernel_rfl) (fun _ _ _ h => h) (Or.inl ⟨by rfl, ?hb36⟩) (Below.refl _ _) ?rb36
  case hb36 =>
    intro w hSw
    go_simp
    try with_reducible rfl
  (try simp only [Act.put, List.setIfInBounds_toArray, List.set_cons_zero, List.set_cons_succ])
  refine wpAnyH_take (i := 37) (oi := { dst := some 4, op := Op.assign (Operand.tmp 89), type := 4, pos := "law.go:198", after := #[{ on := 36, ground := Ground.data }, { on := 35, ground := Ground.chain }, { on := 0, ground := Ground.phase }, { on := 1, ground := Ground.phase }, { on := 2, ground := Ground.phase }, { on := 3, ground := Ground.phase }, { on := 4, ground := Ground.phase }, { on := 5, ground := Ground.phase }, { on := 6, ground := Ground.phase }, { on := 7, ground := Ground.phase }, { on := 8, ground := Ground.phase }, { on := 9, ground := Ground.phase }, { on := 10, ground := Ground.phase }, { on := 11, ground := Ground.phase }, { on := 12, ground := Ground.phase }, { on := 13, ground := Ground.phase }, { on := 14, ground := Ground.phase }, { on := 15, ground := Ground.phase }, { on := 16, ground := Ground.phase }, { on := 17, ground := Ground.phase }, { on := 18, ground := Ground.phase }, { on := 19, ground := Ground.phase }, { on := 20, ground := Ground.phase }, { on := 21, ground := Ground.phase }, { on := 22, ground := Ground.phase }, { on := 23, ground := Ground.phase }, { on := 24, ground := Ground.phase }, { on := 25, ground := Ground.phase }, { on := 26, ground := Ground.phase }, { on := 27, ground := Ground.phase }, { on := 28, ground := Ground.phase }, { on := 29, ground := Ground.phase }, { on := 30, ground := Ground.phase }, { on := 31, ground := Ground.phase }, { on := 32, ground := Ground.phase }, { on := 33, ground := Ground.phase }, { on := 34, ground := Ground.phase }, { on := 35, ground := Ground.phase }, { on := 36, ground := Ground.phase }], guard := none }) (v := ?vb37) rfl (by kernel_rfl) (by kernel_rfl) (by kernel_rfl) (fun _ _ _ h => h) (Or.inl ⟨by rfl, ?hb37⟩) (Below.refl _ _) ?rb37
  case hb37 =>
    intro w hSw
    go_simp
    try with_reducible rfl
  (try simp only [Act.put, List.setIfInBounds_toArray, List.set_cons_zero, List.set_cons_succ])
  refine wpAnyH_done (by kernel_rfl) ?_ _
  refine NoPanic.normal ?_
  go_wp2
  go_ret
  exact ⟨rfl, hw8⟩
theorem fieldTwice_any (a b : Value) (n m : Nat) (bs cs : Nat → Nat) (hbs : ∀ j, bs j < 256) (hcs : ∀ j, cs j < 256) (w : World) (ha : BytesIn w a n bs) (hb : BytesIn w b m cs) :
    Calls Try.prog 9 #[a, b] w fun e w' => e = .returned (.bool true) ∧ Below w.heap.size w w' := by
  by_cases hX : ofB (fitB n bs) 32 % pF = 0
  · exact twice1 a b n m bs cs hbs hcs w ha hb hX
  · by_cases hY : ofB (fitB m cs) 32 % pF = 0
    · exact twice2 a b n m bs cs hbs hcs w ha hb hX hY
    · exact twice3 a b n m bs cs hbs hcs w ha hb hX hY
end Go.Proofs.Ytinigkpidhbgcaa
