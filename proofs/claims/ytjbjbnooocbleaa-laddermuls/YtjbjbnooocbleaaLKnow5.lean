/- What knows of the laws answers in the model: true. -/
import Derived.Test.YtjbjbnooocbleaaLShare
namespace Go.Proofs.Ytjbjbnooocbleaa
open Go.RowKit
theorem onesB_lt : ∀ j, onesB j < 256 := fun _ => (by decide : 1 < 256)
theorem mulL_lt (ks : Nat → Nat) (u : Nat) : mulL ks u < pF := fmul_lt _ _
theorem four_str : strB 4 (byt keyN) = { data := #[164, 224, 146, 146] } := by
  obtain ⟨h0, h1, h2, h3⟩ := keyN_first
  unfold strB
  simp only [show List.range 4 = [0, 1, 2, 3] from rfl, List.map_cons, List.map_nil, h0, h1, h2, h3]
  rfl
set_option maxRecDepth 20000 in
set_option maxHeartbeats 4000000 in
theorem knows_any (w : World) : Calls Try.prog 13 #[] w fun e w' => e = .returned (.bool true) ∧ Below w.heap.size w w' := by
  have hO := fun W => ones_any W
  have hP : ∀ v W, BytesIn W v 32 onesB → Calls Try.prog 16 #[v] W fun e w' => ∃ s, e = .returned (.tuple #[s, .int .i64 0]) ∧ NewB W w' s 32 (byt keyN) ∧ Below W.heap.size W w' := fun v W h => by
    have := public_good v onesB onesB_lt W h
    rwa [known_mul] at this
  have hS : ∀ v u W, BytesIn W v 32 onesB → BytesIn W u 32 (fun _ => 0) → Calls Try.prog 18 #[v, u] W fun e w' => e = .returned (.tuple #[.slice none 0 0, .int .i64 30]) ∧ Below W.heap.size W w' := fun v u W h k =>
    shared_none v u _ (by rw [zero_of]; exact mulL_zero _) W (lmul_good v u onesB (fun _ => 0) onesB_lt (fun _ => by decide) W h k)
  have hmk := fun W => make_bytes W 32 32 rfl (by decide)
  go_enter Try.func13, Try.ntmps13
  go_wp2_with (first
    | (go_at_call 22; refine (hO _).mono ?_; rintro e w1 ⟨s1, rfl, h1, hb1⟩)
    | (go_at_call 16; refine (hP s1 _ (h1.bytes (by decide))).mono ?_; clear hP; rintro e w2 ⟨s2, rfl, ⟨g2, rfl, hg2, hr2⟩, hb2⟩))
  have s1 := hb1.size
  have s2 := hb2.size
  clear h1
  go_cut [3, 4] from 5 (fun s3 s4 wc => s4 = .int .i64 30 ∧ Below w2.heap.size w2 wc)
  case first =>
    have hz : ∀ W : World, ∃ W', W.alloc (.cells (zb 32) 5) = W' ∧ Below W.heap.size W W' ∧ RowAt .u8 W' W.heap.size 0 32 (fun _ => 0) := fun W => ⟨_, rfl, (Below.refl _ _).alloc (Nat.le_refl _) _, RowAt.fresh (fun j hj => zb_at 32 j hj)⟩
    have hdrew : Below w2.heap.size w2 w2.drew := (Below.refl _ _).drew
    refine wp_region_noPanic ?_
    refine wp_region_held_drew (S := fun _ => True) (by kernel_rfl) trivial (fun _ => ?_)
    generalize w2.drew = Vk at *
    refine wpAnyH_ready (rs := [0, 1]) (by kernel_rfl) (by simp) ?_
    refine AllReadyH.cons (o := { dst := some 11, op := Op.call { callee := Callee.value (Operand.func 22), args := #[], argTypes := #[] }, type := 22, pos := "law.go:27", after := #[], guard := none }) rfl (fun K hK => ?_) (AllReadyH.cons (o := { dst := some 12, op := Op.makeSlice 22 (Operand.const (Value.int IntKind.i64 32)) (Operand.const (Value.int IntKind.i64 32)), type := 22, pos := "law.go:27", after := #[], guard := none }) rfl (fun K hK => ?_) (AllReadyH.nil))
    · go_simp
      (go_at_call 22; refine (hO _).mono ?_; rintro e wk1 ⟨s3, rfl, h3, hb3⟩; obtain ⟨g3, rfl, hg3, hr3⟩ := h3)
      (try go_simp)
      refine hK.out _ _ trivial (fun h => ?_)
      clear h hK K
      (try simp only [Act.put, List.setIfInBounds_toArray, List.set_cons_zero, List.set_cons_succ])
      refine wpAnyH_ready (rs := [1]) (by kernel_rfl) (by simp) ?_
      refine AllReadyH.cons (o := { dst := some 12, op := Op.makeSlice 22 (Operand.const (Value.int IntKind.i64 32)) (Operand.const (Value.int IntKind.i64 32)), type := 22, pos := "law.go:27", after := #[], guard := none }) rfl (fun K hK => ?_) (AllReadyH.nil)
      go_simp
      (obtain ⟨wk2, hW4, hb4, hr4⟩ := hz wk1; rw [hW4]; clear hW4)
      (try go_simp)
      refine hK.out _ _ trivial (fun h => ?_)
      clear h hK K
      (try simp only [Act.put, List.setIfInBounds_toArray, List.set_cons_zero, List.set_cons_succ])
      refine wpAnyH_ready (rs := [2]) (by kernel_rfl) (by simp) ?_
      refine AllReadyH.cons (o := { dst := some 13, op := Op.call { callee := Callee.value (Operand.func 18), args := #[Operand.tmp 11, Operand.tmp 12], argTypes := #[22, 22] }, type := 25, pos := "law.go:27", after := #[{ on := 0, ground := Ground.data }, { on := 1, ground := Ground.data }, { on := 0, ground := Ground.chain }], guard := none }) rfl (fun K hK => ?_) (AllReadyH.nil)
      go_simp
      (have hbb := below_next hdrew (by first | exact below_next hb3 hb4 | exact below_next hb4 hb3); go_at_call 18; refine (hS _ _ _ (.inr ⟨g3, 0, 32, rfl, block_lt_of_cell ((by first | exact hr3 | exact hr3.below hb4 (block_lt_of_cell (hr3 0 (by decide)).1) : RowAt .u8 _ g3 0 32 onesB) 0 (by decide)).1, Nat.le_refl _, fun j hj => ((by first | exact hr3 | exact hr3.below hb4 (block_lt_of_cell (hr3 0 (by decide)).1) : RowAt .u8 _ g3 0 32 onesB) j hj).1⟩) (.inr ⟨_, 0, 32, rfl, block_lt_of_cell ((by first | exact hr4 | exact hr4.below hb3 (block_lt_of_cell (hr4 0 (by decide)).1) : RowAt .u8 _ _ 0 32 (fun _ => 0)) 0 (by decide)).1, Nat.le_refl _, fun j hj => ((by first | exact hr4 | exact hr4.below hb3 (block_lt_of_cell (hr4 0 (by decide)).1) : RowAt .u8 _ _ 0 32 (fun _ => 0)) j hj).1⟩)).mono ?_; rintro e wk3 ⟨rfl, hb5⟩)
      (try go_simp)
      refine hK.out _ _ trivial (fun h => ?_)
      clear h hK K
      (try simp only [Act.put, List.setIfInBounds_toArray, List.set_cons_zero, List.set_cons_succ])
      refine wpAnyH_take (i := 3) (oi := { dst := some 10, op := Op.move (Operand.tmp 13), type := 25, pos := "law.go:27", after := #[{ on := 2, ground := Ground.data }], guard := none }) (v := ?vk4) rfl (by kernel_rfl) (by kernel_rfl) (by kernel_rfl) (fun _ _ _ h => h) (Or.inl ⟨by rfl, ?hk4⟩) trivial ?rk4
      case hk4 =>
        intro w hSw
        go_simp
        try with_reducible rfl
      (try simp only [Act.put, List.setIfInBounds_toArray, List.set_cons_zero, List.set_cons_succ])
      refine wpAnyH_take (i := 4) (oi := { dst := some 14, op := Op.extract (Operand.tmp 10) 0, type := 22, pos := "law.go:27", after := #[{ on := 3, ground := Ground.data }], guard := none }) (v := ?vk5) rfl (by kernel_rfl) (by kernel_rfl) (by kernel_rfl) (fun _ _ _ h => h) (Or.inl ⟨by rfl, ?hk5⟩) trivial ?rk5
      case hk5 =>
        intro w hSw
        go_simp
        try with_reducible rfl
      (try simp only [Act.put, List.setIfInBounds_toArray, List.set_cons_zero, List.set_cons_succ])
      refine wpAnyH_take (i := 5) (oi := { dst := some 15, op := Op.extract (Operand.tmp 10) 1, type := 24, pos := "law.go:27", after := #[{ on := 3, ground := Ground.data }, { on := 6, ground := Ground.gcOnly Departure.lateStores }], guard := none }) (v := ?vk6) rfl (by kernel_rfl) (by kernel_rfl) (by kernel_rfl) (fun _ _ _ h => h) (Or.inl ⟨by rfl, ?hk6⟩) trivial ?rk6
      case hk6 =>
        intro w hSw
        go_simp
        try with_reducible rfl
      (try simp only [Act.put, List.setIfInBounds_toArray, List.set_cons_zero, List.set_cons_succ])
      refine wpAnyH_take (i := 6) (oi := { dst := some 3, op := Op.assign (Operand.tmp 14), type := 22, pos := "law.go:27", after := #[{ on := 4, ground := Ground.data }, { on := 2, ground := Ground.chain }, { on := 0, ground := Ground.phase }, { on := 1, ground := Ground.phase }, { on := 2, ground := Ground.phase }, { on := 3, ground := Ground.phase }, { on := 4, ground := Ground.phase }, { on := 5, ground := Ground.textOnly Departure.lateStores }], guard := none }) (v := ?vk7) rfl (by kernel_rfl) (by kernel_rfl) (by kernel_rfl) (fun _ _ _ h => h) (Or.inl ⟨by rfl, ?hk7⟩) trivial ?rk7
      case hk7 =>
        intro w hSw
        go_simp
        try with_reducible rfl
      (try simp only [Act.put, List.setIfInBounds_toArray, List.set_cons_zero, List.set_cons_succ])
      refine wpAnyH_take (i := 7) (oi := { dst := some 4, op := Op.assign (Operand.tmp 15), type := 24, pos := "law.go:27", after := #[{ on := 5, ground := Ground.data }, { on := 6, ground := Ground.chain }, { on := 0, ground := Ground.phase }, { on := 1, ground := Ground.phase }, { on := 2, ground := Ground.phase }, { on := 3, ground := Ground.phase }, { on := 4, ground := Ground.phase }, { on := 5, ground := Ground.phase }, { on := 6, ground := Ground.phase }], guard := none }) (v := ?vk8) rfl (by kernel_rfl) (by kernel_rfl) (by kernel_rfl) (fun _ _ _ h => h) (Or.inl ⟨by rfl, ?hk8⟩) trivial ?rk8
      case hk8 =>
        intro w hSw
        go_simp
        try with_reducible rfl
      (try simp only [Act.put, List.setIfInBounds_toArray, List.set_cons_zero, List.set_cons_succ])
      refine wpAnyH_done (by kernel_rfl) ?_ _
      refine NoPanic.normal ?_
      go_wp2
      go_meet
      case rel => exact ⟨rfl, below_next hbb hb5⟩
    · go_simp
      (obtain ⟨wk9, hW4, hb4, hr4⟩ := hz Vk; rw [hW4]; clear hW4)
      (try go_simp)
      refine hK.out _ _ trivial (fun h => ?_)
      clear h hK K
      (try simp only [Act.put, List.setIfInBounds_toArray, List.set_cons_zero, List.set_cons_succ])
      refine wpAnyH_ready (rs := [0]) (by kernel_rfl) (by simp) ?_
      refine AllReadyH.cons (o := { dst := some 11, op := Op.call { callee := Callee.value (Operand.func 22), args := #[], argTypes := #[] }, type := 22, pos := "law.go:27", after := #[], guard := none }) rfl (fun K hK => ?_) (AllReadyH.nil)
      go_simp
      (go_at_call 22; refine (hO _).mono ?_; rintro e wk10 ⟨s3, rfl, h3, hb3⟩; obtain ⟨g3, rfl, hg3, hr3⟩ := h3)
      (try go_simp)
      refine hK.out _ _ trivial (fun h => ?_)
      clear h hK K
      (try simp only [Act.put, List.setIfInBounds_toArray, List.set_cons_zero, List.set_cons_succ])
      refine wpAnyH_ready (rs := [2]) (by kernel_rfl) (by simp) ?_
      refine AllReadyH.cons (o := { dst := some 13, op := Op.call { callee := Callee.value (Operand.func 18), args := #[Operand.tmp 11, Operand.tmp 12], argTypes := #[22, 22] }, type := 25, pos := "law.go:27", after := #[{ on := 0, ground := Ground.data }, { on := 1, ground := Ground.data }, { on := 0, ground := Ground.chain }], guard := none }) rfl (fun K hK => ?_) (AllReadyH.nil)
      go_simp
      (have hbb := below_next hdrew (by first | exact below_next hb3 hb4 | exact below_next hb4 hb3); go_at_call 18; refine (hS _ _ _ (.inr ⟨g3, 0, 32, rfl, block_lt_of_cell ((by first | exact hr3 | exact hr3.below hb4 (block_lt_of_cell (hr3 0 (by decide)).1) : RowAt .u8 _ g3 0 32 onesB) 0 (by decide)).1, Nat.le_refl _, fun j hj => ((by first | exact hr3 | exact hr3.below hb4 (block_lt_of_cell (hr3 0 (by decide)).1) : RowAt .u8 _ g3 0 32 onesB) j hj).1⟩) (.inr ⟨_, 0, 32, rfl, block_lt_of_cell ((by first | exact hr4 | exact hr4.below hb3 (block_lt_of_cell (hr4 0 (by decide)).1) : RowAt .u8 _ _ 0 32 (fun _ => 0)) 0 (by decide)).1, Nat.le_refl _, fun j hj => ((by first | exact hr4 | exact hr4.below hb3 (block_lt_of_cell (hr4 0 (by decide)).1) : RowAt .u8 _ _ 0 32 (fun _ => 0)) j hj).1⟩)).mono ?_; rintro e wk11 ⟨rfl, hb5⟩)
      (try go_simp)
      refine hK.out _ _ trivial (fun h => ?_)
      clear h hK K
      (try simp only [Act.put, List.setIfInBounds_toArray, List.set_cons_zero, List.set_cons_succ])
      refine wpAnyH_take (i := 3) (oi := { dst := some 10, op := Op.move (Operand.tmp 13), type := 25, pos := "law.go:27", after := #[{ on := 2, ground := Ground.data }], guard := none }) (v := ?vk12) rfl (by kernel_rfl) (by kernel_rfl) (by kernel_rfl) (fun _ _ _ h => h) (Or.inl ⟨by rfl, ?hk12⟩) trivial ?rk12
      case hk12 =>
        intro w hSw
        go_simp
        try with_reducible rfl
      (try simp only [Act.put, List.setIfInBounds_toArray, List.set_cons_zero, List.set_cons_succ])
      refine wpAnyH_take (i := 4) (oi := { dst := some 14, op := Op.extract (Operand.tmp 10) 0, type := 22, pos := "law.go:27", after := #[{ on := 3, ground := Ground.data }], guard := none }) (v := ?vk13) rfl (by kernel_rfl) (by kernel_rfl) (by kernel_rfl) (fun _ _ _ h => h) (Or.inl ⟨by rfl, ?hk13⟩) trivial ?rk13
      case hk13 =>
        intro w hSw
        go_simp
        try with_reducible rfl
      (try simp only [Act.put, List.setIfInBounds_toArray, List.set_cons_zero, List.set_cons_succ])
      refine wpAnyH_take (i := 5) (oi := { dst := some 15, op := Op.extract (Operand.tmp 10) 1, type := 24, pos := "law.go:27", after := #[{ on := 3, ground := Ground.data }, { on := 6, ground := Ground.gcOnly Departure.lateStores }], guard := none }) (v := ?vk14) rfl (by kernel_rfl) (by kernel_rfl) (by kernel_rfl) (fun _ _ _ h => h) (Or.inl ⟨by rfl, ?hk14⟩) trivial ?rk14
      case hk14 =>
        intro w hSw
        go_simp
        try with_reducible rfl
      (try simp only [Act.put, List.setIfInBounds_toArray, List.set_cons_zero, List.set_cons_succ])
      refine wpAnyH_take (i := 6) (oi := { dst := some 3, op := Op.assign (Operand.tmp 14), type := 22, pos := "law.go:27", after := #[{ on := 4, ground := Ground.data }, { on := 2, ground := Ground.chain }, { on := 0, ground := Ground.phase }, { on := 1, ground := Ground.phase }, { on := 2, ground := Ground.phase }, { on := 3, ground := Ground.phase }, { on := 4, ground := Ground.phase }, { on := 5, ground := Ground.textOnly Departure.lateStores }], guard := none }) (v := ?vk15) rfl (by kernel_rfl) (by kernel_rfl) (by kernel_rfl) (fun _ _ _ h => h) (Or.inl ⟨by rfl, ?hk15⟩) trivial ?rk15
      case hk15 =>
        intro w hSw
        go_simp
        try with_reducible rfl
      (try simp only [Act.put, List.setIfInBounds_toArray, List.set_cons_zero, List.set_cons_succ])
      refine wpAnyH_take (i := 7) (oi := { dst := some 4, op := Op.assign (Operand.tmp 15), type := 24, pos := "law.go:27", after := #[{ on := 5, ground := Ground.data }, { on := 6, ground := Ground.chain }, { on := 0, ground := Ground.phase }, { on := 1, ground := Ground.phase }, { on := 2, ground := Ground.phase }, { on := 3, ground := Ground.phase }, { on := 4, ground := Ground.phase }, { on := 5, ground := Ground.phase }, { on := 6, ground := Ground.phase }], guard := none }) (v := ?vk16) rfl (by kernel_rfl) (by kernel_rfl) (by kernel_rfl) (fun _ _ _ h => h) (Or.inl ⟨by rfl, ?hk16⟩) trivial ?rk16
      case hk16 =>
        intro w hSw
        go_simp
        try with_reducible rfl
      (try simp only [Act.put, List.setIfInBounds_toArray, List.set_cons_zero, List.set_cons_succ])
      refine wpAnyH_done (by kernel_rfl) ?_ _
      refine NoPanic.normal ?_
      go_wp2
      go_meet
      case rel => exact ⟨rfl, below_next hbb hb5⟩
  case rest =>
  obtain ⟨rfl, hbc⟩ := hcut
  have hr2c := hr2.below hbc (block_lt_of_cell (hr2 0 (by decide)).1)
  have h4 : BytesIn wc (.slice (some ⟨g2, 0, none⟩) 4 32) 4 (byt keyN) := .inr ⟨g2, 0, 32, rfl, block_lt_of_cell (hr2c 0 (by decide)).1, by decide, fun j hj => (hr2c j (by omega)).1⟩
  have hcv := fun W h => h4.conv (byt_all keyN) W h
  rw [four_str] at hcv
  have hcv0 := hcv wc (Below.refl _ _)
  clear hcv h4 hO hS hmk
  have hfin : Below w.heap.size w wc := below_next (below_next hb1 hb2) hbc
  go_wp2_with (go_at_call 11; refine (num5_any _ _).mono ?_; rintro e wn ⟨rfl, hwn⟩; subst hwn)
  go_ret
  exact ⟨rfl, hfin⟩
end Go.Proofs.Ytjbjbnooocbleaa
