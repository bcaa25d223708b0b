/- The law FieldNumbers, of whatever arguments. -/
import Derived.Test.YtinigkpidhbgcaaNWalk
namespace Go.Proofs.Ytinigkpidhbgcaa
open Go.RowKit
set_option maxRecDepth 20000 in
set_option maxHeartbeats 4000000 in
theorem fieldNumbers_bad (v : Value) (n : Nat) (bs : Nat → Nat) (hbs : ∀ j, bs j < 256) (xo : Option Addr) (cnt cap : Nat) (w : World) (hv : BytesIn w v n bs) (hn : n < 140737488355000) (hne : n ≠ 32) :
    Calls Try.prog 8 #[v, .slice xo cnt cap] w fun e w' => e = .returned (.bool true) ∧ Below w.heap.size w w' := by
  have cl := lent_any v n bs w hv hn
  have cF : ∀ x W, BytesIn W x n bs → Calls Try.prog 30 #[x] W fun e w' => e = .returned (.tuple #[.agg (c4 0).toArray, .int .i64 1]) ∧ Below W.heap.size W w' := fun x W h => by
    have h := from_any x n bs hbs W h
    unfold fromN fromE at h
    rw [if_neg hne, if_neg hne] at h
    exact h
  have hkn := fun W => knows3_any W
  have cb31 := fun W => bytes_any 0 W
  have c0 : ∀ W, Calls Try.prog 26 #[.int .u8 0] W fun e w' => ∃ s, e = .returned s ∧ NewB W w' s 32 (byt 0) ∧ Below W.heap.size W w' := fun W => small_any 0 (by decide) W
  have hne' : ¬((n : Int) = 32) := by omega
  obtain ⟨xv, kv, rfl, -⟩ := hv.src
  clear hv hbs hne
  go_enter Try.func8, Try.ntmps8
  go_upto_region 4 with (first
    | (go_at_call 10; refine cl.mono ?_; clear cl; rintro e w1 ⟨g, gc, rfl, hgc, hg, row1, hb1⟩)
    | (go_at_call 30; refine (cF _ _ (lent_bytes row1 hgc)).mono ?_; clear cF row1; rintro e w2 ⟨rfl, hb2⟩; (have hw2 := below_next hb1 hb2); clear hb1 hb2; (have z2 := fresh4' w2); (have t2 := fresh4t w2 0); (obtain ⟨V2, hV2⟩ : ∃ V, V = (w2.alloc (.cells #[.int .u64 0, .int .u64 0, .int .u64 0, .int .u64 0] 46)).setCells w2.heap.size 0 (c4 0) := ⟨_, rfl⟩); (have kn : RW V2 w2.heap.size 0 (c4 0) := by rw [hV2]; exact z2.stored (c4 0) rfl); (have bV2 : Below w2.heap.size w2 V2 := by rw [hV2]; exact below_setCells (Nat.le_refl _) _ _ _ ((Below.refl _ _).alloc (Nat.le_refl _) _)); (have HV2 := Hid.mk' hV2); clear hV2 z2; (obtain ⟨wr, hwr⟩ : ∃ V, V = V2.alloc (.cells #[.int .u64 0, .int .u64 0, .int .u64 0, .int .u64 0] 46) := ⟨_, rfl⟩); (have b7 : Below V2.heap.size V2 wr := by rw [hwr]; exact (Below.refl _ _).alloc (Nat.le_refl _) _); (have H7 := Hid.mk' hwr); (replace kn := kn.still b7); (have kb := below_next (below_next hw2 bV2) b7); clear hwr b7 bV2 hw2)
    | (with_reducible (refine id (?_ : wpList _ _ _ _ _ _)); refine wpList_store_mid rfl 46 _ _ rfl w2.heap.size 0 (c4 0).toArray rfl rfl t2 (info4a 0) (one4 0) ?_; rw [List.toList_toArray, ← HV2.out]; clear t2 HV2))
  rw [← H7.out]
  (try simp only [Act.put, List.setIfInBounds_toArray, List.set_cons_zero, List.set_cons_succ])
  clear H7
  generalize w2.heap.size = g5 at *
  have hdrew : Below wr.heap.size wr wr.drew := (Below.refl _ _).drew
  replace kn := kn.still hdrew
  replace kb := below_next kb hdrew
  clear hdrew
  refine wp_region_noPanic ?_
  refine wp_region_held_drew (S := fun w' => Below wr.drew.heap.size wr.drew w') (by kernel_rfl) (Below.refl _ _) (fun hHeld => ?_)
  clear hHeld
  refine wpAnyH_take (i := 0) (oi := { dst := some 22, op := Op.move (Operand.tmp 6), type := 24, pos := "law.go:159", after := #[], guard := none }) (v := ?veb0) rfl (by kernel_rfl) (by kernel_rfl) (by kernel_rfl) (fun _ _ _ h => h) (Or.inl ⟨by rfl, ?heb0⟩) (Below.refl _ _) ?reb0
  case heb0 =>
    intro w hSw
    go_simp
    try with_reducible rfl
  (try simp only [Act.put, List.setIfInBounds_toArray, List.set_cons_zero, List.set_cons_succ])
  refine wpAnyH_ready (rs := [1]) (by kernel_rfl) (by simp) ?_
  refine AllReadyH.cons (o := { dst := some 23, op := Op.call { callee := Callee.value (Operand.func 17), args := #[Operand.tmp 22], argTypes := #[24] }, type := 3, pos := "law.go:159", after := #[{ on := 0, ground := Ground.data }], guard := none }) rfl (fun K hK => ?_) AllReadyH.nil
  go_simp
  (go_at_call 17; refine (num3_any _ _).mono ?_; rintro e wn ⟨rfl, hwn⟩; subst hwn)
  (try go_simp)
  refine hK.out _ _ (Below.refl _ _) (fun h => ?_)
  clear h hK K
  (try simp only [Act.put, List.setIfInBounds_toArray, List.set_cons_zero, List.set_cons_succ])
  refine wpAnyH_take (i := 2) (oi := { dst := some 24, op := Op.binOp BinOp.eql 3 (Operand.tmp 23) (Operand.const (Value.int IntKind.i64 1)) 3, type := 4, pos := "law.go:159", after := #[{ on := 1, ground := Ground.data }], guard := none }) (v := ?veb2) rfl (by kernel_rfl) (by kernel_rfl) (by kernel_rfl) (fun _ _ _ h => h) (Or.inl ⟨by rfl, ?heb2⟩) (Below.refl _ _) ?reb2
  case heb2 =>
    intro w hSw
    go_simp
    try with_reducible rfl
  (try simp only [Act.put, List.setIfInBounds_toArray, List.set_cons_zero, List.set_cons_succ])
  refine wpAnyH_take (i := 3) (oi := { dst := some 25, op := Op.move (Operand.tmp 24), type := 4, pos := "law.go:159", after := #[{ on := 2, ground := Ground.data }, { on := 1, ground := Ground.chain }], guard := none }) (v := ?veb3) rfl (by kernel_rfl) (by kernel_rfl) (by kernel_rfl) (fun _ _ _ h => h) (Or.inl ⟨by rfl, ?heb3⟩) (Below.refl _ _) ?reb3
  case heb3 =>
    intro w hSw
    go_simp
    try with_reducible rfl
  (try simp only [Act.put, List.setIfInBounds_toArray, List.set_cons_zero, List.set_cons_succ])
  refine wpAnyH_take (i := 4) (oi := { dst := some 26, op := Op.load 46 (Operand.tmp 5), type := 46, pos := "law.go:159", after := #[{ on := 3, ground := Ground.guard }], guard := some (3, true) }) (v := numV 0) rfl (by kernel_rfl) (by kernel_rfl) (by kernel_rfl) (fun _ _ _ h => h) (yieldsIf_load_mid (by rfl) 46 _ rfl g5 0 rfl (c4 0) _ (fun _ h => (kn.still h).range) Try.underlying46 rfl info4) (Below.refl _ _) ?_
  (try simp only [Act.put, List.setIfInBounds_toArray, List.set_cons_zero, List.set_cons_succ])
  refine wpAnyH_ready (rs := [5]) (by kernel_rfl) (by simp) ?_
  refine AllReadyH.cons (o := { dst := some 27, op := Op.call { callee := Callee.value (Operand.func 31), args := #[Operand.tmp 26], argTypes := #[46] }, type := 22, pos := "law.go:159", after := #[{ on := 4, ground := Ground.data }, { on := 3, ground := Ground.chain }, { on := 3, ground := Ground.guard }], guard := some (3, true) }) rfl (fun K hK => ?_) AllReadyH.nil
  go_simp
  (go_at_call 31; refine (cb31 _).mono ?_; clear cb31; rintro e w31 ⟨g31, rfl, hg31, hr31, hb31⟩; (have t31 := (Str.of (n := 32) (X := byt 0) (.inr ⟨g31, 0, 32, rfl, block_lt_of_cell (hr31 0 (by decide)).1, Nat.le_refl _, fun j hj => (hr31 j hj).1⟩) (byt_all 0))); clear hg31 hr31)
  (try go_simp)
  refine hK.out _ _ hb31 (fun h => ?_)
  clear h hK K
  refine wpAnyH_narrow (S' := fun w' => Below w31.heap.size w31 w') (fun _ h => below_next hb31 h) _ _ _ _ ?_
  clear kn
  replace kb := below_next kb hb31
  clear hb31
  (try simp only [Act.put, List.setIfInBounds_toArray, List.set_cons_zero, List.set_cons_succ])
  refine wpAnyH_take (i := 6) (oi := { dst := some 28, op := Op.convert 22 9 (Operand.tmp 27), type := 9, pos := "law.go:159", after := #[{ on := 5, ground := Ground.data }, { on := 3, ground := Ground.guard }], guard := some (3, true) }) (v := ?veb6) rfl (by kernel_rfl) (by kernel_rfl) (by kernel_rfl) (fun _ _ _ h => h) (Or.inl ⟨by rfl, ?heb6⟩) (Below.refl _ _) ?reb6
  case heb6 =>
    intro w hSw
    have q := t31.conv w hSw
    go_simp
    try with_reducible rfl
  (try simp only [Act.put, List.setIfInBounds_toArray, List.set_cons_zero, List.set_cons_succ])
  refine wpAnyH_ready (rs := [7]) (by kernel_rfl) (by simp) ?_
  refine AllReadyH.cons (o := { dst := some 29, op := Op.call { callee := Callee.value (Operand.func 26), args := #[Operand.const (Value.int IntKind.u8 0)], argTypes := #[5] }, type := 22, pos := "law.go:159", after := #[{ on := 5, ground := Ground.chain }, { on := 3, ground := Ground.guard }], guard := some (3, true) }) rfl (fun K hK => ?_) AllReadyH.nil
  go_simp
  (go_at_call 26; refine (c0 _).mono ?_; clear c0; rintro e w34 ⟨s34, rfl, hn34, hb34⟩; (have t34 := hn34.str); obtain ⟨g34, rfl, -⟩ := hn34)
  (try go_simp)
  refine hK.out _ _ hb34 (fun h => ?_)
  clear h hK K
  refine wpAnyH_narrow (S' := fun w' => Below w34.heap.size w34 w') (fun _ h => below_next hb34 h) _ _ _ _ ?_
  replace t31 := t31.still hb34
  replace kb := below_next kb hb34
  clear hb34
  (try simp only [Act.put, List.setIfInBounds_toArray, List.set_cons_zero, List.set_cons_succ])
  refine wpAnyH_take (i := 8) (oi := { dst := some 30, op := Op.convert 22 9 (Operand.tmp 29), type := 9, pos := "law.go:159", after := #[{ on := 7, ground := Ground.data }, { on := 3, ground := Ground.guard }], guard := some (3, true) }) (v := ?veb8) rfl (by kernel_rfl) (by kernel_rfl) (by kernel_rfl) (fun _ _ _ h => h) (Or.inl ⟨by rfl, ?heb8⟩) (Below.refl _ _) ?reb8
  case heb8 =>
    intro w hSw
    have q := t34.conv w hSw
    go_simp
    try with_reducible rfl
  (try simp only [Act.put, List.setIfInBounds_toArray, List.set_cons_zero, List.set_cons_succ])
  refine wpAnyH_take (i := 9) (oi := { dst := some 31, op := Op.binOp BinOp.eql 9 (Operand.tmp 28) (Operand.tmp 30) 9, type := 4, pos := "law.go:159", after := #[{ on := 6, ground := Ground.data }, { on := 8, ground := Ground.data }, { on := 3, ground := Ground.guard }], guard := some (3, true) }) (v := ?veb9) rfl (by kernel_rfl) (by kernel_rfl) (by kernel_rfl) (fun _ _ _ h => h) (Or.inl ⟨by rfl, ?heb9⟩) (Below.refl _ _) ?reb9
  case heb9 =>
    intro w hSw
    go_simp
    try with_reducible rfl
  (try simp only [Act.put, List.setIfInBounds_toArray, List.set_cons_zero, List.set_cons_succ])
  refine wpAnyH_take (i := 10) (oi := { dst := some 32, op := Op.pick (Operand.tmp 25) (Operand.tmp 31) (Operand.const (Value.bool false)), type := 4, pos := "law.go:159", after := #[{ on := 3, ground := Ground.data }, { on := 9, ground := Ground.data }], guard := none }) (v := ?veb10) rfl (by kernel_rfl) (by kernel_rfl) (by kernel_rfl) (fun _ _ _ h => h) (Or.inl ⟨by rfl, ?heb10⟩) (Below.refl _ _) ?reb10
  case heb10 =>
    intro w hSw
    go_simp
    try with_reducible rfl
  (try simp only [Act.put, List.setIfInBounds_toArray, List.set_cons_zero, List.set_cons_succ])
  refine wpAnyH_take (i := 11) (oi := { dst := some 33, op := Op.move (Operand.tmp 32), type := 4, pos := "law.go:159", after := #[{ on := 10, ground := Ground.data }, { on := 7, ground := Ground.chain }], guard := none }) (v := ?veb11) rfl (by kernel_rfl) (by kernel_rfl) (by kernel_rfl) (fun _ _ _ h => h) (Or.inl ⟨by rfl, ?heb11⟩) (Below.refl _ _) ?reb11
  case heb11 =>
    intro w hSw
    go_simp
    try with_reducible rfl
  (try simp only [Act.put, List.setIfInBounds_toArray, List.set_cons_zero, List.set_cons_succ])
  refine wpAnyH_ready (rs := [12]) (by kernel_rfl) (by simp) ?_
  refine AllReadyH.cons (o := { dst := some 34, op := Op.call { callee := Callee.value (Operand.func 19), args := #[], argTypes := #[] }, type := 4, pos := "law.go:159", after := #[{ on := 11, ground := Ground.chain }, { on := 11, ground := Ground.guard }], guard := some (11, true) }) rfl (fun K hK => ?_) AllReadyH.nil
  go_simp
  (go_at_call 19; refine (hkn _).mono ?_; clear hkn; rintro e w35 ⟨rfl, hb35⟩)
  (try go_simp)
  refine hK.out _ _ hb35 (fun h => ?_)
  clear h hK K
  refine wpAnyH_narrow (S' := fun w' => Below w35.heap.size w35 w') (fun _ h => below_next hb35 h) _ _ _ _ ?_
  replace t31 := t31.still hb35
  replace t34 := t34.still hb35
  replace kb := below_next kb hb35
  clear hb35
  (try simp only [Act.put, List.setIfInBounds_toArray, List.set_cons_zero, List.set_cons_succ])
  refine wpAnyH_take (i := 13) (oi := { dst := some 35, op := Op.pick (Operand.tmp 33) (Operand.tmp 34) (Operand.const (Value.bool false)), type := 4, pos := "law.go:159", after := #[{ on := 11, ground := Ground.data }, { on := 12, ground := Ground.data }], guard := none }) (v := ?veb13) rfl (by kernel_rfl) (by kernel_rfl) (by kernel_rfl) (fun _ _ _ h => h) (Or.inl ⟨by rfl, ?heb13⟩) (Below.refl _ _) ?reb13
  case heb13 =>
    intro w hSw
    go_simp
    try with_reducible rfl
  (try simp only [Act.put, List.setIfInBounds_toArray, List.set_cons_zero, List.set_cons_succ])
  refine wpAnyH_take (i := 14) (oi := { dst := some 4, op := Op.assign (Operand.tmp 35), type := 4, pos := "law.go:159", after := #[{ on := 13, ground := Ground.data }, { on := 12, ground := Ground.chain }, { on := 0, ground := Ground.phase }, { on := 1, ground := Ground.phase }, { on := 2, ground := Ground.phase }, { on := 3, ground := Ground.phase }, { on := 4, ground := Ground.phase }, { on := 5, ground := Ground.phase }, { on := 6, ground := Ground.phase }, { on := 7, ground := Ground.phase }, { on := 8, ground := Ground.phase }, { on := 9, ground := Ground.phase }, { on := 10, ground := Ground.phase }, { on := 11, ground := Ground.phase }, { on := 12, ground := Ground.phase }, { on := 13, ground := Ground.phase }], guard := none }) (v := ?veb14) rfl (by kernel_rfl) (by kernel_rfl) (by kernel_rfl) (fun _ _ _ h => h) (Or.inl ⟨by rfl, ?heb14⟩) (Below.refl _ _) ?reb14
  case heb14 =>
    intro w hSw
    go_simp
    try with_reducible rfl
  (try simp only [Act.put, List.setIfInBounds_toArray, List.set_cons_zero, List.set_cons_succ])
  refine wpAnyH_done (by kernel_rfl) ?_ _
  refine NoPanic.normal ?_
  go_wp2
  go_ret
  exact ⟨by simp, kb⟩
theorem fieldNumbers_any (v : Value) (n : Nat) (bs : Nat → Nat) (hbs : ∀ j, bs j < 256) (xo : Option Addr) (cnt cap : Nat) (kd nn : Nat → Int) (sv : Nat → Value) (sn : Nat → Nat) (sb : Nat → Nat → Nat) (w : World) (hv : BytesIn w v n bs) (hn : n < 140737488355000) (ho : OpsIn w xo cnt kd nn sv sn sb) :
    Calls Try.prog 8 #[v, .slice xo cnt cap] w fun e w' => e = .returned (.bool true) ∧ Below w.heap.size w w' := by
  by_cases h : n = 32
  · subst h
    exact fieldNumbers_good v bs hbs xo cnt cap kd nn sv sn sb w hv ho
  · exact fieldNumbers_bad v n bs hbs xo cnt cap w hv hn h
end Go.Proofs.Ytinigkpidhbgcaa
