/- What swap, rung, begin and value do in the model. -/
import Derived.Test.YtjbjbnooocbleaaLStep
namespace Go.Proofs.Ytjbjbnooocbleaa
open Go.RowKit
set_option maxRecDepth 20000 in
set_option maxHeartbeats 4000000 in
theorem swap_any (xl zl xh zh g : Nat) (w : World) (hp : RW w g 0 (c8 xl zl)) (hq : RW w g 8 (c8 xh zh)) :
    Calls Try.prog 47 #[.pointer (some ⟨g, 0, none⟩)] w fun e w' => e = .returned (.tuple #[]) ∧ Out g 0 16 w w' ∧ RW w' g 0 (c8 xh zh) ∧ RW w' g 8 (c8 xl zl) := by
  have hgl := hp.lt
  go_enter Try.func47, Try.ntmps47
  go_wp2
  have hdrew : Below w.heap.size w w.drew := (Below.refl _ _).drew
  replace hp := hp.still hdrew
  replace hq := hq.still hdrew
  refine wp_region_noPanic ?_
  refine wp_region_held_drew (S := fun _ => True) (by kernel_rfl) trivial (fun _ => ?_)
  generalize w.drew = Vs at *
  refine wpAnyH_take (i := 0) (oi := { dst := some 2, op := Op.move (Operand.tmp 0), type := 83, pos := "climb.go:30", after := #[], guard := none }) (v := ?vs1) rfl (by kernel_rfl) (by kernel_rfl) (by kernel_rfl) (fun _ _ _ h => h) (Or.inl ⟨by rfl, ?hs1⟩) trivial ?rs1
  case hs1 =>
    intro w hSw
    go_simp
    try with_reducible rfl
  (try simp only [Act.put, List.setIfInBounds_toArray, List.set_cons_zero, List.set_cons_succ])
  refine wpAnyH_take (i := 1) (oi := { dst := some 3, op := Op.move (Operand.tmp 0), type := 83, pos := "climb.go:30", after := #[{ on := 12, ground := Ground.gcOnly Departure.lateStores }], guard := none }) (v := ?vs2) rfl (by kernel_rfl) (by kernel_rfl) (by kernel_rfl) (fun _ _ _ h => h) (Or.inl ⟨by rfl, ?hs2⟩) trivial ?rs2
  case hs2 =>
    intro w hSw
    go_simp
    try with_reducible rfl
  (try simp only [Act.put, List.setIfInBounds_toArray, List.set_cons_zero, List.set_cons_succ])
  refine wpAnyH_take (i := 2) (oi := { dst := some 4, op := Op.move (Operand.tmp 0), type := 83, pos := "climb.go:30", after := #[], guard := none }) (v := ?vs3) rfl (by kernel_rfl) (by kernel_rfl) (by kernel_rfl) (fun _ _ _ h => h) (Or.inl ⟨by rfl, ?hs3⟩) trivial ?rs3
  case hs3 =>
    intro w hSw
    go_simp
    try with_reducible rfl
  (try simp only [Act.put, List.setIfInBounds_toArray, List.set_cons_zero, List.set_cons_succ])
  refine wpAnyH_take (i := 3) (oi := { dst := some 5, op := Op.nilCheck (Operand.tmp 4), type := 0, pos := "climb.go:30", after := #[{ on := 2, ground := Ground.data }], guard := none }) (v := ?vs4) rfl (by kernel_rfl) (by kernel_rfl) (by kernel_rfl) (fun _ _ _ h => h) (Or.inl ⟨by rfl, ?hs4⟩) trivial ?rs4
  case hs4 =>
    intro w hSw
    go_simp
    try with_reducible rfl
  (try simp only [Act.put, List.setIfInBounds_toArray, List.set_cons_zero, List.set_cons_succ])
  refine wpAnyH_take (i := 4) (oi := { dst := some 6, op := Op.fieldAddr 69 (Operand.tmp 5) 1, type := 0, pos := "climb.go:30", after := #[{ on := 3, ground := Ground.data }], guard := none }) (v := ?vs5) rfl (by kernel_rfl) (by kernel_rfl) (by kernel_rfl) (fun _ _ _ h => h) (Or.inl ⟨by rfl, ?hs5⟩) trivial ?rs5
  case hs5 =>
    intro w hSw
    go_simp
    try with_reducible rfl
  (try simp only [Act.put, List.setIfInBounds_toArray, List.set_cons_zero, List.set_cons_succ])
  refine wpAnyH_take (i := 6) (oi := { dst := some 8, op := Op.move (Operand.tmp 0), type := 83, pos := "climb.go:30", after := #[], guard := none }) (v := ?vs6) rfl (by kernel_rfl) (by kernel_rfl) (by kernel_rfl) (fun _ _ _ h => h) (Or.inl ⟨by rfl, ?hs6⟩) trivial ?rs6
  case hs6 =>
    intro w hSw
    go_simp
    try with_reducible rfl
  (try simp only [Act.put, List.setIfInBounds_toArray, List.set_cons_zero, List.set_cons_succ])
  refine wpAnyH_take (i := 7) (oi := { dst := some 9, op := Op.nilCheck (Operand.tmp 8), type := 0, pos := "climb.go:30", after := #[{ on := 6, ground := Ground.data }], guard := none }) (v := ?vs7) rfl (by kernel_rfl) (by kernel_rfl) (by kernel_rfl) (fun _ _ _ h => h) (Or.inl ⟨by rfl, ?hs7⟩) trivial ?rs7
  case hs7 =>
    intro w hSw
    go_simp
    try with_reducible rfl
  (try simp only [Act.put, List.setIfInBounds_toArray, List.set_cons_zero, List.set_cons_succ])
  refine wpAnyH_take (i := 8) (oi := { dst := some 10, op := Op.fieldAddr 69 (Operand.tmp 9) 0, type := 0, pos := "climb.go:30", after := #[{ on := 7, ground := Ground.data }], guard := none }) (v := ?vs8) rfl (by kernel_rfl) (by kernel_rfl) (by kernel_rfl) (fun _ _ _ h => h) (Or.inl ⟨by rfl, ?hs8⟩) trivial ?rs8
  case hs8 =>
    intro w hSw
    go_simp
    try with_reducible rfl
  (try simp only [Act.put, List.setIfInBounds_toArray, List.set_cons_zero, List.set_cons_succ])
  refine wpAnyH_ready (rs := [5, 9]) (by kernel_rfl) (by simp) ?_
  refine AllReadyH.cons (o := { dst := some 7, op := Op.load 67 (Operand.tmp 6), type := 67, pos := "climb.go:30", after := #[{ on := 4, ground := Ground.data }], guard := none }) rfl (fun K hK => ?_) (AllReadyH.cons (o := { dst := some 11, op := Op.load 67 (Operand.tmp 10), type := 67, pos := "climb.go:30", after := #[{ on := 8, ground := Ground.data }], guard := none }) rfl (fun K hK => ?_) (AllReadyH.nil))
  · rw [if_pos (by rfl)]
    refine wp_load_mid 67 _ rfl g 8 rfl (c8 xh zh) _ hq.range Try.underlying67 rfl info8 ?_
    refine hK.out _ _ trivial (fun h => ?_)
    clear h hK K
    rw [show Value.agg (c8 xh zh).toArray = ratV xh zh from rfl]
    (try simp only [Act.put, List.setIfInBounds_toArray, List.set_cons_zero, List.set_cons_succ])
    refine wpAnyH_ready (rs := [9]) (by kernel_rfl) (by simp) ?_
    refine AllReadyH.cons (o := { dst := some 11, op := Op.load 67 (Operand.tmp 10), type := 67, pos := "climb.go:30", after := #[{ on := 8, ground := Ground.data }], guard := none }) rfl (fun K hK => ?_) (AllReadyH.nil)
    rw [if_pos (by rfl)]
    refine wp_load_mid 67 _ rfl g 0 rfl (c8 xl zl) _ hp.range Try.underlying67 rfl info8 ?_
    refine hK.out _ _ trivial (fun h => ?_)
    clear h hK K
    rw [show Value.agg (c8 xl zl).toArray = ratV xl zl from rfl]
    (try simp only [Act.put, List.setIfInBounds_toArray, List.set_cons_zero, List.set_cons_succ])
    refine wpAnyH_take (i := 10) (oi := { dst := some 12, op := Op.nilCheck (Operand.tmp 2), type := 0, pos := "climb.go:30", after := #[{ on := 0, ground := Ground.data }, { on := 0, ground := Ground.phase }, { on := 1, ground := Ground.textOnly Departure.lateStores }, { on := 2, ground := Ground.phase }, { on := 3, ground := Ground.phase }, { on := 4, ground := Ground.phase }, { on := 5, ground := Ground.phase }, { on := 6, ground := Ground.textOnly Departure.lateStores }, { on := 7, ground := Ground.textOnly Departure.lateStoresUnsure }, { on := 8, ground := Ground.textOnly Departure.lateStoresUnsure }, { on := 9, ground := Ground.phase }], guard := none }) (v := ?vs11) rfl (by kernel_rfl) (by kernel_rfl) (by kernel_rfl) (fun _ _ _ h => h) (Or.inl ⟨by rfl, ?hs11⟩) trivial ?rs11
    case hs11 =>
      intro w hSw
      go_simp
      try with_reducible rfl
    (try simp only [Act.put, List.setIfInBounds_toArray, List.set_cons_zero, List.set_cons_succ])
    refine wpAnyH_take (i := 11) (oi := { dst := some 13, op := Op.fieldAddr 69 (Operand.tmp 12) 0, type := 0, pos := "climb.go:30", after := #[{ on := 10, ground := Ground.data }, { on := 0, ground := Ground.phase }, { on := 1, ground := Ground.textOnly Departure.lateStores }, { on := 2, ground := Ground.phase }, { on := 3, ground := Ground.phase }, { on := 4, ground := Ground.phase }, { on := 5, ground := Ground.phase }, { on := 6, ground := Ground.textOnly Departure.lateStores }, { on := 7, ground := Ground.textOnly Departure.lateStoresUnsure }, { on := 8, ground := Ground.textOnly Departure.lateStoresUnsure }, { on := 9, ground := Ground.phase }], guard := none }) (v := ?vs12) rfl (by kernel_rfl) (by kernel_rfl) (by kernel_rfl) (fun _ _ _ h => h) (Or.inl ⟨by rfl, ?hs12⟩) trivial ?rs12
    case hs12 =>
      intro w hSw
      go_simp
      try with_reducible rfl
    (try simp only [Act.put, List.setIfInBounds_toArray, List.set_cons_zero, List.set_cons_succ])
    refine wpAnyH_ready (rs := [12]) (by kernel_rfl) (by simp) ?_
    refine AllReadyH.cons (o := { dst := none, op := Op.store 67 (Operand.tmp 13) (Operand.tmp 7), type := 0, pos := "climb.go:30", after := #[{ on := 11, ground := Ground.data }, { on := 5, ground := Ground.data }, { on := 0, ground := Ground.phase }, { on := 1, ground := Ground.textOnly Departure.lateStores }, { on := 2, ground := Ground.phase }, { on := 3, ground := Ground.phase }, { on := 4, ground := Ground.phase }, { on := 5, ground := Ground.phase }, { on := 6, ground := Ground.textOnly Departure.lateStores }, { on := 7, ground := Ground.textOnly Departure.lateStoresUnsure }, { on := 8, ground := Ground.textOnly Departure.lateStoresUnsure }, { on := 9, ground := Ground.phase }], guard := none }) rfl (fun K hK => ?_) (AllReadyH.nil)
    rw [if_pos (by rfl)]
    refine wp_store_mid 67 _ _ rfl g 0 (c8 xh zh).toArray rfl rfl hp.there info8 (one8 _ _) ?_
    have Os13 := Out.setCells (b := g) (o := 0) (n := (c8 xh zh).length) Vs (c8 xh zh) (Nat.le_refl _) (Nat.le_refl _)
    replace hp := hp.stored (c8 xh zh) rfl
    replace hq := hq.far g 0 (c8 xh zh) (by simp [c8, c4])
    obtain ⟨ws13, hws13⟩ : ∃ W, Vs.setCells g 0 (c8 xh zh) = W := ⟨_, rfl⟩
    rw [hws13] at hq
    rw [hws13] at hp
    rw [hws13] at Os13
    rw [show Vs.setCells g 0 (c8 xh zh).toArray.toList = ws13 from hws13]
    refine hK.out _ _ trivial (fun h => ?_)
    clear h hK K hws13
    (try dsimp only [Act.put])
    refine wpAnyH_take (i := 13) (oi := { dst := some 14, op := Op.nilCheck (Operand.tmp 3), type := 0, pos := "climb.go:30", after := #[{ on := 1, ground := Ground.data }, { on := 0, ground := Ground.phase }, { on := 1, ground := Ground.phase }, { on := 2, ground := Ground.phase }, { on := 3, ground := Ground.phase }, { on := 4, ground := Ground.phase }, { on := 5, ground := Ground.phase }, { on := 6, ground := Ground.phase }, { on := 7, ground := Ground.phase }, { on := 8, ground := Ground.phase }, { on := 9, ground := Ground.phase }, { on := 10, ground := Ground.phase }, { on := 11, ground := Ground.phase }, { on := 12, ground := Ground.phase }], guard := none }) (v := ?vs14) rfl (by kernel_rfl) (by kernel_rfl) (by kernel_rfl) (fun _ _ _ h => h) (Or.inl ⟨by rfl, ?hs14⟩) trivial ?rs14
    case hs14 =>
      intro w hSw
      go_simp
      try with_reducible rfl
    (try simp only [Act.put, List.setIfInBounds_toArray, List.set_cons_zero, List.set_cons_succ])
    refine wpAnyH_take (i := 14) (oi := { dst := some 15, op := Op.fieldAddr 69 (Operand.tmp 14) 1, type := 0, pos := "climb.go:30", after := #[{ on := 13, ground := Ground.data }, { on := 0, ground := Ground.phase }, { on := 1, ground := Ground.phase }, { on := 2, ground := Ground.phase }, { on := 3, ground := Ground.phase }, { on := 4, ground := Ground.phase }, { on := 5, ground := Ground.phase }, { on := 6, ground := Ground.phase }, { on := 7, ground := Ground.phase }, { on := 8, ground := Ground.phase }, { on := 9, ground := Ground.phase }, { on := 10, ground := Ground.phase }, { on := 11, ground := Ground.phase }, { on := 12, ground := Ground.phase }], guard := none }) (v := ?vs15) rfl (by kernel_rfl) (by kernel_rfl) (by kernel_rfl) (fun _ _ _ h => h) (Or.inl ⟨by rfl, ?hs15⟩) trivial ?rs15
    case hs15 =>
      intro w hSw
      go_simp
      try with_reducible rfl
    (try simp only [Act.put, List.setIfInBounds_toArray, List.set_cons_zero, List.set_cons_succ])
    refine wpAnyH_ready (rs := [15]) (by kernel_rfl) (by simp) ?_
    refine AllReadyH.cons (o := { dst := none, op := Op.store 67 (Operand.tmp 15) (Operand.tmp 11), type := 0, pos := "climb.go:30", after := #[{ on := 14, ground := Ground.data }, { on := 9, ground := Ground.data }, { on := 12, ground := Ground.chain }, { on := 0, ground := Ground.phase }, { on := 1, ground := Ground.phase }, { on := 2, ground := Ground.phase }, { on := 3, ground := Ground.phase }, { on := 4, ground := Ground.phase }, { on := 5, ground := Ground.phase }, { on := 6, ground := Ground.phase }, { on := 7, ground := Ground.phase }, { on := 8, ground := Ground.phase }, { on := 9, ground := Ground.phase }, { on := 10, ground := Ground.phase }, { on := 11, ground := Ground.phase }, { on := 12, ground := Ground.phase }], guard := none }) rfl (fun K hK => ?_) (AllReadyH.nil)
    rw [if_pos (by rfl)]
    refine wp_store_mid 67 _ _ rfl g 8 (c8 xl zl).toArray rfl rfl hq.there info8 (one8 _ _) ?_
    have Os16 := Out.setCells (b := g) (o := 8) (n := (c8 xl zl).length) ws13 (c8 xl zl) (Nat.le_refl _) (Nat.le_refl _)
    replace hq := hq.stored (c8 xl zl) rfl
    replace hp := hp.far g 8 (c8 xl zl) (by simp [c8, c4])
    obtain ⟨ws16, hws16⟩ : ∃ W, ws13.setCells g 8 (c8 xl zl) = W := ⟨_, rfl⟩
    rw [hws16] at hp
    rw [hws16] at hq
    rw [hws16] at Os16
    rw [show ws13.setCells g 8 (c8 xl zl).toArray.toList = ws16 from hws16]
    refine hK.out _ _ trivial (fun h => ?_)
    clear h hK K hws16
    (try dsimp only [Act.put])
    refine wpAnyH_done (by kernel_rfl) ?_ _
    refine NoPanic.normal ?_
    go_wp2
    exact bodyPost_end (results_none Try.results47 _ _ _) rfl ⟨rfl, ((Out.of_below hdrew hgl).trans (Out.wide (by assumption) (by decide) (by simp [c8, c4]))).trans (Out.wide (by assumption) (by decide) (by simp [c8, c4])), hp, hq⟩
  · rw [if_pos (by rfl)]
    refine wp_load_mid 67 _ rfl g 0 rfl (c8 xl zl) _ hp.range Try.underlying67 rfl info8 ?_
    refine hK.out _ _ trivial (fun h => ?_)
    clear h hK K
    rw [show Value.agg (c8 xl zl).toArray = ratV xl zl from rfl]
    (try simp only [Act.put, List.setIfInBounds_toArray, List.set_cons_zero, List.set_cons_succ])
    refine wpAnyH_ready (rs := [5]) (by kernel_rfl) (by simp) ?_
    refine AllReadyH.cons (o := { dst := some 7, op := Op.load 67 (Operand.tmp 6), type := 67, pos := "climb.go:30", after := #[{ on := 4, ground := Ground.data }], guard := none }) rfl (fun K hK => ?_) (AllReadyH.nil)
    rw [if_pos (by rfl)]
    refine wp_load_mid 67 _ rfl g 8 rfl (c8 xh zh) _ hq.range Try.underlying67 rfl info8 ?_
    refine hK.out _ _ trivial (fun h => ?_)
    clear h hK K
    rw [show Value.agg (c8 xh zh).toArray = ratV xh zh from rfl]
    (try simp only [Act.put, List.setIfInBounds_toArray, List.set_cons_zero, List.set_cons_succ])
    refine wpAnyH_take (i := 10) (oi := { dst := some 12, op := Op.nilCheck (Operand.tmp 2), type := 0, pos := "climb.go:30", after := #[{ on := 0, ground := Ground.data }, { on := 0, ground := Ground.phase }, { on := 1, ground := Ground.textOnly Departure.lateStores }, { on := 2, ground := Ground.phase }, { on := 3, ground := Ground.phase }, { on := 4, ground := Ground.phase }, { on := 5, ground := Ground.phase }, { on := 6, ground := Ground.textOnly Departure.lateStores }, { on := 7, ground := Ground.textOnly Departure.lateStoresUnsure }, { on := 8, ground := Ground.textOnly Departure.lateStoresUnsure }, { on := 9, ground := Ground.phase }], guard := none }) (v := ?vs19) rfl (by kernel_rfl) (by kernel_rfl) (by kernel_rfl) (fun _ _ _ h => h) (Or.inl ⟨by rfl, ?hs19⟩) trivial ?rs19
    case hs19 =>
      intro w hSw
      go_simp
      try with_reducible rfl
    (try simp only [Act.put, List.setIfInBounds_toArray, List.set_cons_zero, List.set_cons_succ])
    refine wpAnyH_take (i := 11) (oi := { dst := some 13, op := Op.fieldAddr 69 (Operand.tmp 12) 0, type := 0, pos := "climb.go:30", after := #[{ on := 10, ground := Ground.data }, { on := 0, ground := Ground.phase }, { on := 1, ground := Ground.textOnly Departure.lateStores }, { on := 2, ground := Ground.phase }, { on := 3, ground := Ground.phase }, { on := 4, ground := Ground.phase }, { on := 5, ground := Ground.phase }, { on := 6, ground := Ground.textOnly Departure.lateStores }, { on := 7, ground := Ground.textOnly Departure.lateStoresUnsure }, { on := 8, ground := Ground.textOnly Departure.lateStoresUnsure }, { on := 9, ground := Ground.phase }], guard := none }) (v := ?vs20) rfl (by kernel_rfl) (by kernel_rfl) (by kernel_rfl) (fun _ _ _ h => h) (Or.inl ⟨by rfl, ?hs20⟩) trivial ?rs20
    case hs20 =>
      intro w hSw
      go_simp
      try with_reducible rfl
    (try simp only [Act.put, List.setIfInBounds_toArray, List.set_cons_zero, List.set_cons_succ])
    refine wpAnyH_ready (rs := [12]) (by kernel_rfl) (by simp) ?_
    refine AllReadyH.cons (o := { dst := none, op := Op.store 67 (Operand.tmp 13) (Operand.tmp 7), type := 0, pos := "climb.go:30", after := #[{ on := 11, ground := Ground.data }, { on := 5, ground := Ground.data }, { on := 0, ground := Ground.phase }, { on := 1, ground := Ground.textOnly Departure.lateStores }, { on := 2, ground := Ground.phase }, { on := 3, ground := Ground.phase }, { on := 4, ground := Ground.phase }, { on := 5, ground := Ground.phase }, { on := 6, ground := Ground.textOnly Departure.lateStores }, { on := 7, ground := Ground.textOnly Departure.lateStoresUnsure }, { on := 8, ground := Ground.textOnly Departure.lateStoresUnsure }, { on := 9, ground := Ground.phase }], guard := none }) rfl (fun K hK => ?_) (AllReadyH.nil)
    rw [if_pos (by rfl)]
    refine wp_store_mid 67 _ _ rfl g 0 (c8 xh zh).toArray rfl rfl hp.there info8 (one8 _ _) ?_
    have Os21 := Out.setCells (b := g) (o := 0) (n := (c8 xh zh).length) Vs (c8 xh zh) (Nat.le_refl _) (Nat.le_refl _)
    replace hp := hp.stored (c8 xh zh) rfl
    replace hq := hq.far g 0 (c8 xh zh) (by simp [c8, c4])
    obtain ⟨ws21, hws21⟩ : ∃ W, Vs.setCells g 0 (c8 xh zh) = W := ⟨_, rfl⟩
    rw [hws21] at hq
    rw [hws21] at hp
    rw [hws21] at Os21
    rw [show Vs.setCells g 0 (c8 xh zh).toArray.toList = ws21 from hws21]
    refine hK.out _ _ trivial (fun h => ?_)
    clear h hK K hws21
    (try dsimp only [Act.put])
    refine wpAnyH_take (i := 13) (oi := { dst := some 14, op := Op.nilCheck (Operand.tmp 3), type := 0, pos := "climb.go:30", after := #[{ on := 1, ground := Ground.data }, { on := 0, ground := Ground.phase }, { on := 1, ground := Ground.phase }, { on := 2, ground := Ground.phase }, { on := 3, ground := Ground.phase }, { on := 4, ground := Ground.phase }, { on := 5, ground := Ground.phase }, { on := 6, ground := Ground.phase }, { on := 7, ground := Ground.phase }, { on := 8, ground := Ground.phase }, { on := 9, ground := Ground.phase }, { on := 10, ground := Ground.phase }, { on := 11, ground := Ground.phase }, { on := 12, ground := Ground.phase }], guard := none }) (v := ?vs22) rfl (by kernel_rfl) (by kernel_rfl) (by kernel_rfl) (fun _ _ _ h => h) (Or.inl ⟨by rfl, ?hs22⟩) trivial ?rs22
    case hs22 =>
      intro w hSw
      go_simp
      try with_reducible rfl
    (try simp only [Act.put, List.setIfInBounds_toArray, List.set_cons_zero, List.set_cons_succ])
    refine wpAnyH_take (i := 14) (oi := { dst := some 15, op := Op.fieldAddr 69 (Operand.tmp 14) 1, type := 0, pos := "climb.go:30", after := #[{ on := 13, ground := Ground.data }, { on := 0, ground := Ground.phase }, { on := 1, ground := Ground.phase }, { on := 2, ground := Ground.phase }, { on := 3, ground := Ground.phase }, { on := 4, ground := Ground.phase }, { on := 5, ground := Ground.phase }, { on := 6, ground := Ground.phase }, { on := 7, ground := Ground.phase }, { on := 8, ground := Ground.phase }, { on := 9, ground := Ground.phase }, { on := 10, ground := Ground.phase }, { on := 11, ground := Ground.phase }, { on := 12, ground := Ground.phase }], guard := none }) (v := ?vs23) rfl (by kernel_rfl) (by kernel_rfl) (by kernel_rfl) (fun _ _ _ h => h) (Or.inl ⟨by rfl, ?hs23⟩) trivial ?rs23
    case hs23 =>
      intro w hSw
      go_simp
      try with_reducible rfl
    (try simp only [Act.put, List.setIfInBounds_toArray, List.set_cons_zero, List.set_cons_succ])
    refine wpAnyH_ready (rs := [15]) (by kernel_rfl) (by simp) ?_
    refine AllReadyH.cons (o := { dst := none, op := Op.store 67 (Operand.tmp 15) (Operand.tmp 11), type := 0, pos := "climb.go:30", after := #[{ on := 14, ground := Ground.data }, { on := 9, ground := Ground.data }, { on := 12, ground := Ground.chain }, { on := 0, ground := Ground.phase }, { on := 1, ground := Ground.phase }, { on := 2, ground := Ground.phase }, { on := 3, ground := Ground.phase }, { on := 4, ground := Ground.phase }, { on := 5, ground := Ground.phase }, { on := 6, ground := Ground.phase }, { on := 7, ground := Ground.phase }, { on := 8, ground := Ground.phase }, { on := 9, ground := Ground.phase }, { on := 10, ground := Ground.phase }, { on := 11, ground := Ground.phase }, { on := 12, ground := Ground.phase }], guard := none }) rfl (fun K hK => ?_) (AllReadyH.nil)
    rw [if_pos (by rfl)]
    refine wp_store_mid 67 _ _ rfl g 8 (c8 xl zl).toArray rfl rfl hq.there info8 (one8 _ _) ?_
    have Os24 := Out.setCells (b := g) (o := 8) (n := (c8 xl zl).length) ws21 (c8 xl zl) (Nat.le_refl _) (Nat.le_refl _)
    replace hq := hq.stored (c8 xl zl) rfl
    replace hp := hp.far g 8 (c8 xl zl) (by simp [c8, c4])
    obtain ⟨ws24, hws24⟩ : ∃ W, ws21.setCells g 8 (c8 xl zl) = W := ⟨_, rfl⟩
    rw [hws24] at hp
    rw [hws24] at hq
    rw [hws24] at Os24
    rw [show ws21.setCells g 8 (c8 xl zl).toArray.toList = ws24 from hws24]
    refine hK.out _ _ trivial (fun h => ?_)
    clear h hK K hws24
    (try dsimp only [Act.put])
    refine wpAnyH_done (by kernel_rfl) ?_ _
    refine NoPanic.normal ?_
    go_wp2
    exact bodyPost_end (results_none Try.results47 _ _ _) rfl ⟨rfl, ((Out.of_below hdrew hgl).trans (Out.wide (by assumption) (by decide) (by simp [c8, c4]))).trans (Out.wide (by assumption) (by decide) (by simp [c8, c4])), hp, hq⟩
set_option maxRecDepth 20000 in
set_option maxHeartbeats 4000000 in
theorem rung_no (u xl zl xh zh p q r s g : Nat) (hst : ∀ W, RW W g 0 (c8 xl zl) → RW W g 8 (c8 xh zh) → Calls Try.prog 48 #[.pointer (some ⟨g, 0, none⟩), numV u] W fun e w' => e = .returned (.tuple #[]) ∧ Out g 0 16 W w' ∧ RW w' g 0 (c8 p q) ∧ RW w' g 8 (c8 r s))
    (w : World) (hp : RW w g 0 (c8 xl zl)) (hq : RW w g 8 (c8 xh zh)) (hu : RW w g 16 (c4 u)) :
    Calls Try.prog 38 #[.pointer (some ⟨g, 0, none⟩), .bool false] w fun e w' => e = .returned (.tuple #[]) ∧ Out g 0 16 w w' ∧ RW w' g 0 (c8 p q) ∧ RW w' g 8 (c8 r s) ∧ RW w' g 16 (c4 u) := by
  have hgl := hp.lt
  go_enter Try.func38, Try.ntmps38
  go_wp2
  have hdrew : Below w.heap.size w w.drew := (Below.refl _ _).drew
  replace hp := hp.still hdrew
  replace hq := hq.still hdrew
  replace hu := hu.still hdrew
  refine wp_region_noPanic ?_
  refine wp_region_held_drew (S := fun _ => True) (by kernel_rfl) trivial (fun _ => ?_)
  generalize w.drew = Vq at *
  refine wpAnyH_take (i := 0) (oi := { dst := some 9, op := Op.move (Operand.tmp 0), type := 60, pos := "climb.go:61", after := #[], guard := none }) (v := ?vq1) rfl (by kernel_rfl) (by kernel_rfl) (by kernel_rfl) (fun _ _ _ h => h) (Or.inl ⟨by rfl, ?hq1⟩) trivial ?rq1
  case hq1 =>
    intro w hSw
    go_simp
    try with_reducible rfl
  (try simp only [Act.put, List.setIfInBounds_toArray, List.set_cons_zero, List.set_cons_succ])
  refine wpAnyH_take (i := 1) (oi := { dst := some 10, op := Op.nilCheck (Operand.tmp 9), type := 0, pos := "climb.go:61", after := #[{ on := 0, ground := Ground.data }], guard := none }) (v := ?vq2) rfl (by kernel_rfl) (by kernel_rfl) (by kernel_rfl) (fun _ _ _ h => h) (Or.inl ⟨by rfl, ?hq2⟩) trivial ?rq2
  case hq2 =>
    intro w hSw
    go_simp
    try with_reducible rfl
  (try simp only [Act.put, List.setIfInBounds_toArray, List.set_cons_zero, List.set_cons_succ])
  refine wpAnyH_take (i := 2) (oi := { dst := some 11, op := Op.fieldAddr 71 (Operand.tmp 10) 0, type := 0, pos := "climb.go:61", after := #[{ on := 1, ground := Ground.data }], guard := none }) (v := ?vq3) rfl (by kernel_rfl) (by kernel_rfl) (by kernel_rfl) (fun _ _ _ h => h) (Or.inl ⟨by rfl, ?hq3⟩) trivial ?rq3
  case hq3 =>
    intro w hSw
    go_simp
    try with_reducible rfl
  (try simp only [Act.put, List.setIfInBounds_toArray, List.set_cons_zero, List.set_cons_succ])
  refine wpAnyH_take (i := 3) (oi := { dst := some 12, op := Op.move (Operand.tmp 0), type := 60, pos := "climb.go:61", after := #[], guard := none }) (v := ?vq4) rfl (by kernel_rfl) (by kernel_rfl) (by kernel_rfl) (fun _ _ _ h => h) (Or.inl ⟨by rfl, ?hq4⟩) trivial ?rq4
  case hq4 =>
    intro w hSw
    go_simp
    try with_reducible rfl
  (try simp only [Act.put, List.setIfInBounds_toArray, List.set_cons_zero, List.set_cons_succ])
  refine wpAnyH_take (i := 4) (oi := { dst := some 13, op := Op.nilCheck (Operand.tmp 12), type := 0, pos := "climb.go:61", after := #[{ on := 3, ground := Ground.data }], guard := none }) (v := ?vq5) rfl (by kernel_rfl) (by kernel_rfl) (by kernel_rfl) (fun _ _ _ h => h) (Or.inl ⟨by rfl, ?hq5⟩) trivial ?rq5
  case hq5 =>
    intro w hSw
    go_simp
    try with_reducible rfl
  (try simp only [Act.put, List.setIfInBounds_toArray, List.set_cons_zero, List.set_cons_succ])
  refine wpAnyH_take (i := 5) (oi := { dst := some 14, op := Op.fieldAddr 71 (Operand.tmp 13) 1, type := 0, pos := "climb.go:61", after := #[{ on := 4, ground := Ground.data }], guard := none }) (v := ?vq6) rfl (by kernel_rfl) (by kernel_rfl) (by kernel_rfl) (fun _ _ _ h => h) (Or.inl ⟨by rfl, ?hq6⟩) trivial ?rq6
  case hq6 =>
    intro w hSw
    go_simp
    try with_reducible rfl
  (try simp only [Act.put, List.setIfInBounds_toArray, List.set_cons_zero, List.set_cons_succ])
  refine wpAnyH_ready (rs := [6]) (by kernel_rfl) (by simp) ?_
  refine AllReadyH.cons (o := { dst := some 15, op := Op.load 42 (Operand.tmp 14), type := 42, pos := "climb.go:61", after := #[{ on := 5, ground := Ground.data }], guard := none }) rfl (fun K hK => ?_) (AllReadyH.nil)
  rw [if_pos (by rfl)]
  refine wp_load_mid 42 _ rfl g 16 rfl (c4 u) _ hu.range Try.underlying42 rfl info4 ?_
  refine hK.out _ _ trivial (fun h => ?_)
  clear h hK K
  rw [show Value.agg (c4 u).toArray = numV u from rfl]
  (try simp only [Act.put, List.setIfInBounds_toArray, List.set_cons_zero, List.set_cons_succ])
  refine wpAnyH_ready (rs := [7]) (by kernel_rfl) (by simp) ?_
  refine AllReadyH.cons (o := { dst := some 16, op := Op.call { callee := Callee.value (Operand.func 48), args := #[Operand.tmp 11, Operand.tmp 15], argTypes := #[69, 42] }, type := 0, pos := "climb.go:61", after := #[{ on := 2, ground := Ground.data }, { on := 6, ground := Ground.data }], guard := none }) rfl (fun K hK => ?_) (AllReadyH.nil)
  go_simp
  (go_at_call 48; refine (hst _ hp hq).mono ?_; clear hst; rintro e wq8 ⟨rfl, hO, hp2, hq2⟩; (replace hu := hu.outside hO (by simp)))
  (try go_simp)
  refine hK.out _ _ trivial (fun h => ?_)
  clear h hK K
  (try simp only [Act.put, List.setIfInBounds_toArray, List.set_cons_zero, List.set_cons_succ])
  refine wpAnyH_done (by kernel_rfl) ?_ _
  refine NoPanic.normal ?_
  go_wp2
  exact bodyPost_end (results_none Try.results38 _ _ _) rfl ⟨rfl, (Out.of_below hdrew hgl).trans hO, hp2, hq2, hu⟩
set_option maxRecDepth 20000 in
set_option maxHeartbeats 4000000 in
theorem rung_yes (u xl zl xh zh p q r s g : Nat) (hst : ∀ W, RW W g 0 (c8 xh zh) → RW W g 8 (c8 xl zl) → Calls Try.prog 48 #[.pointer (some ⟨g, 0, none⟩), numV u] W fun e w' => e = .returned (.tuple #[]) ∧ Out g 0 16 W w' ∧ RW w' g 0 (c8 p q) ∧ RW w' g 8 (c8 r s))
    (w : World) (hp : RW w g 0 (c8 xl zl)) (hq : RW w g 8 (c8 xh zh)) (hu : RW w g 16 (c4 u)) :
    Calls Try.prog 38 #[.pointer (some ⟨g, 0, none⟩), .bool true] w fun e w' => e = .returned (.tuple #[]) ∧ Out g 0 16 w w' ∧ RW w' g 0 (c8 r s) ∧ RW w' g 8 (c8 p q) ∧ RW w' g 16 (c4 u) := by
  have hsw := swap_any xl zl xh zh g w hp hq
  have hgl := hp.lt
  clear hp hq
  go_enter Try.func38, Try.ntmps38
  go_wp2_with (go_at_call 47; refine hsw.mono ?_; clear hsw; rintro e w1 ⟨rfl, hO1, hp, hq⟩; (replace hu := hu.outside hO1 (by simp)); (replace hgl := Nat.lt_of_lt_of_le hgl hO1.size))
  have hdrew : Below w1.heap.size w1 w1.drew := (Below.refl _ _).drew
  replace hp := hp.still hdrew
  replace hq := hq.still hdrew
  replace hu := hu.still hdrew
  refine wp_region_noPanic ?_
  refine wp_region_held_drew (S := fun _ => True) (by kernel_rfl) trivial (fun _ => ?_)
  generalize w1.drew = Vt at *
  refine wpAnyH_take (i := 0) (oi := { dst := some 9, op := Op.move (Operand.tmp 0), type := 60, pos := "climb.go:61", after := #[], guard := none }) (v := ?vt1) rfl (by kernel_rfl) (by kernel_rfl) (by kernel_rfl) (fun _ _ _ h => h) (Or.inl ⟨by rfl, ?ht1⟩) trivial ?rt1
  case ht1 =>
    intro w hSw
    go_simp
    try with_reducible rfl
  (try simp only [Act.put, List.setIfInBounds_toArray, List.set_cons_zero, List.set_cons_succ])
  refine wpAnyH_take (i := 1) (oi := { dst := some 10, op := Op.nilCheck (Operand.tmp 9), type := 0, pos := "climb.go:61", after := #[{ on := 0, ground := Ground.data }], guard := none }) (v := ?vt2) rfl (by kernel_rfl) (by kernel_rfl) (by kernel_rfl) (fun _ _ _ h => h) (Or.inl ⟨by rfl, ?ht2⟩) trivial ?rt2
  case ht2 =>
    intro w hSw
    go_simp
    try with_reducible rfl
  (try simp only [Act.put, List.setIfInBounds_toArray, List.set_cons_zero, List.set_cons_succ])
  refine wpAnyH_take (i := 2) (oi := { dst := some 11, op := Op.fieldAddr 71 (Operand.tmp 10) 0, type := 0, pos := "climb.go:61", after := #[{ on := 1, ground := Ground.data }], guard := none }) (v := ?vt3) rfl (by kernel_rfl) (by kernel_rfl) (by kernel_rfl) (fun _ _ _ h => h) (Or.inl ⟨by rfl, ?ht3⟩) trivial ?rt3
  case ht3 =>
    intro w hSw
    go_simp
    try with_reducible rfl
  (try simp only [Act.put, List.setIfInBounds_toArray, List.set_cons_zero, List.set_cons_succ])
  refine wpAnyH_take (i := 3) (oi := { dst := some 12, op := Op.move (Operand.tmp 0), type := 60, pos := "climb.go:61", after := #[], guard := none }) (v := ?vt4) rfl (by kernel_rfl) (by kernel_rfl) (by kernel_rfl) (fun _ _ _ h => h) (Or.inl ⟨by rfl, ?ht4⟩) trivial ?rt4
  case ht4 =>
    intro w hSw
    go_simp
    try with_reducible rfl
  (try simp only [Act.put, List.setIfInBounds_toArray, List.set_cons_zero, List.set_cons_succ])
  refine wpAnyH_take (i := 4) (oi := { dst := some 13, op := Op.nilCheck (Operand.tmp 12), type := 0, pos := "climb.go:61", after := #[{ on := 3, ground := Ground.data }], guard := none }) (v := ?vt5) rfl (by kernel_rfl) (by kernel_rfl) (by kernel_rfl) (fun _ _ _ h => h) (Or.inl ⟨by rfl, ?ht5⟩) trivial ?rt5
  case ht5 =>
    intro w hSw
    go_simp
    try with_reducible rfl
  (try simp only [Act.put, List.setIfInBounds_toArray, List.set_cons_zero, List.set_cons_succ])
  refine wpAnyH_take (i := 5) (oi := { dst := some 14, op := Op.fieldAddr 71 (Operand.tmp 13) 1, type := 0, pos := "climb.go:61", after := #[{ on := 4, ground := Ground.data }], guard := none }) (v := ?vt6) rfl (by kernel_rfl) (by kernel_rfl) (by kernel_rfl) (fun _ _ _ h => h) (Or.inl ⟨by rfl, ?ht6⟩) trivial ?rt6
  case ht6 =>
    intro w hSw
    go_simp
    try with_reducible rfl
  (try simp only [Act.put, List.setIfInBounds_toArray, List.set_cons_zero, List.set_cons_succ])
  refine wpAnyH_ready (rs := [6]) (by kernel_rfl) (by simp) ?_
  refine AllReadyH.cons (o := { dst := some 15, op := Op.load 42 (Operand.tmp 14), type := 42, pos := "climb.go:61", after := #[{ on := 5, ground := Ground.data }], guard := none }) rfl (fun K hK => ?_) (AllReadyH.nil)
  rw [if_pos (by rfl)]
  refine wp_load_mid 42 _ rfl g 16 rfl (c4 u) _ hu.range Try.underlying42 rfl info4 ?_
  refine hK.out _ _ trivial (fun h => ?_)
  clear h hK K
  rw [show Value.agg (c4 u).toArray = numV u from rfl]
  (try simp only [Act.put, List.setIfInBounds_toArray, List.set_cons_zero, List.set_cons_succ])
  refine wpAnyH_ready (rs := [7]) (by kernel_rfl) (by simp) ?_
  refine AllReadyH.cons (o := { dst := some 16, op := Op.call { callee := Callee.value (Operand.func 48), args := #[Operand.tmp 11, Operand.tmp 15], argTypes := #[69, 42] }, type := 0, pos := "climb.go:61", after := #[{ on := 2, ground := Ground.data }, { on := 6, ground := Ground.data }], guard := none }) rfl (fun K hK => ?_) (AllReadyH.nil)
  go_simp
  (go_at_call 48; refine (hst _ hp hq).mono ?_; clear hst; rintro e wt8 ⟨rfl, hO, hp2, hq2⟩; (replace hu := hu.outside hO (by simp)))
  (try go_simp)
  refine hK.out _ _ trivial (fun h => ?_)
  clear h hK K
  (try simp only [Act.put, List.setIfInBounds_toArray, List.set_cons_zero, List.set_cons_succ])
  refine wpAnyH_done (by kernel_rfl) ?_ _
  refine NoPanic.normal ?_
  have hsw2 := swap_any p q r s g wt8 hp2 hq2
  clear hp2 hq2
  go_wp2_with (go_at_call 47; refine hsw2.mono ?_; clear hsw2; rintro e w2 ⟨rfl, hO2, hp3, hq3⟩; (replace hu := hu.outside hO2 (by simp)))
  exact bodyPost_end (results_none Try.results38 _ _ _) rfl ⟨rfl, ((hO1.trans (Out.of_below hdrew hgl)).trans hO).trans hO2, hp3, hq3, hu⟩
set_option maxRecDepth 20000 in
set_option maxHeartbeats 4000000 in
theorem value_any (x z i n : Nat) (hI : ∀ W, Calls Try.prog 50 #[numV z] W fun e w' => e = .returned (numV i) ∧ Below W.heap.size W w') (hT : ∀ W, Calls Try.prog 49 #[numV x, numV i] W fun e w' => e = .returned (numV n) ∧ Below W.heap.size W w') (w : World) :
    Calls Try.prog 39 #[ratV x z] w fun e w' => e = .returned (numV n) ∧ Below w.heap.size w w' := by
  obtain ⟨W0, hW0⟩ : ∃ W, W = w.alloc (.cells (c8 x z).toArray 67) := ⟨_, rfl⟩
  obtain ⟨W, g, hWg, hg, hb, hr⟩ := fresh4 W0
  have hs : W0.heap.size = w.heap.size + 1 := by rw [hW0]; simp
  have hb0 : Below w.heap.size w W0 := by rw [hW0]; exact (Below.refl _ _).alloc (Nat.le_refl _) _
  have hx0 : RW W0 w.heap.size 0 (c8 x z) := by rw [hW0]; exact RW.fresh w _ _
  replace hx0 := hx0.still hb
  have hx : RW W w.heap.size 0 (c4 x) := hx0.left
  have hz : RW W w.heap.size 4 (c4 z) := hx0.right
  have hge : g = w.heap.size + 1 := by omega
  have hbW : Below w.heap.size w W := below_next hb0 hb
  have hgl := hr.lt
  have hne : w.heap.size ≠ g := by omega
  have HW : Hid (W = (w.alloc (.cells #[.int .u64 (lw x 0), .int .u64 (lw x 1), .int .u64 (lw x 2), .int .u64 (lw x 3), .int .u64 (lw z 0), .int .u64 (lw z 1), .int .u64 (lw z 2), .int .u64 (lw z 3)] 67)).alloc (.cells #[.int .u64 0, .int .u64 0, .int .u64 0, .int .u64 0] 42)) := Hid.mk' (by rw [← hWg, hW0]; rfl)
  have Hg : Hid (g = w.heap.size + 1) := Hid.mk' hge
  obtain ⟨g0, hg0⟩ : ∃ g0, g0 = w.heap.size := ⟨_, rfl⟩
  have Hg0 : Hid (g0 = w.heap.size) := Hid.mk' hg0
  rw [← hg0] at hx hz hne
  have hgw : w.heap.size ≤ g := by omega
  clear hW0 hWg hg hb hs hb0 hx0 hge hg0 W0
  rw [show ratV x z = .agg #[.int .u64 (lw x 0), .int .u64 (lw x 1), .int .u64 (lw x 2), .int .u64 (lw x 3), .int .u64 (lw z 0), .int .u64 (lw z 1), .int .u64 (lw z 2), .int .u64 (lw z 3)] from rfl]
  go_enter Try.func39, Try.ntmps39
  go_wp2
  rw [← HW.out, ← Hg.out, ← Hg0.out]
  clear HW Hg Hg0
  have hgl0 := hgl
  have hdrew : Below W.heap.size W W.drew := (Below.refl _ _).drew
  replace hx := hx.still hdrew
  replace hz := hz.still hdrew
  replace hr := hr.still hdrew
  refine wp_region_noPanic ?_
  replace hgl := Nat.lt_of_lt_of_le hgl hdrew.size
  refine wp_region_held_drew (S := fun w' => Out g 0 4 W.drew w') (by kernel_rfl) (Out.refl _ _ _ _) (fun hS => ?_)
  generalize W.drew = Vv at *
  refine wpAnyH_take (i := 0) (oi := { dst := some 3, op := Op.fieldAddr 67 (Operand.tmp 1) 0, type := 0, pos := "climb.go:23", after := #[], guard := none }) (v := ?vv1) rfl (by kernel_rfl) (by kernel_rfl) (by kernel_rfl) (fun _ _ _ h => h) (Or.inl ⟨by rfl, ?hv1⟩) hS ?rv1
  case hv1 =>
    intro w hSw
    go_simp
    try with_reducible rfl
  (try simp only [Act.put, List.setIfInBounds_toArray, List.set_cons_zero, List.set_cons_succ])
  refine wpAnyH_take (i := 1) (oi := { dst := some 4, op := Op.load 42 (Operand.tmp 3), type := 42, pos := "climb.go:23", after := #[{ on := 0, ground := Ground.data }], guard := none }) (v := numV x) rfl (by kernel_rfl) (by kernel_rfl) (by kernel_rfl) (fun _ _ _ h => h) (yieldsIf_load_mid (by rfl) 42 _ rfl g0 0 rfl (c4 x) _ (fun _ h => (hx.out h hne).range) Try.underlying42 rfl info4) hS ?_
  (try simp only [Act.put, List.setIfInBounds_toArray, List.set_cons_zero, List.set_cons_succ])
  refine wpAnyH_take (i := 2) (oi := { dst := some 5, op := Op.fieldAddr 67 (Operand.tmp 1) 1, type := 0, pos := "climb.go:23", after := #[], guard := none }) (v := ?vv2) rfl (by kernel_rfl) (by kernel_rfl) (by kernel_rfl) (fun _ _ _ h => h) (Or.inl ⟨by rfl, ?hv2⟩) hS ?rv2
  case hv2 =>
    intro w hSw
    go_simp
    try with_reducible rfl
  (try simp only [Act.put, List.setIfInBounds_toArray, List.set_cons_zero, List.set_cons_succ])
  refine wpAnyH_take (i := 3) (oi := { dst := some 6, op := Op.load 42 (Operand.tmp 5), type := 42, pos := "climb.go:23", after := #[{ on := 2, ground := Ground.data }], guard := none }) (v := numV z) rfl (by kernel_rfl) (by kernel_rfl) (by kernel_rfl) (fun _ _ _ h => h) (yieldsIf_load_mid (by rfl) 42 _ rfl g0 4 rfl (c4 z) _ (fun _ h => (hz.out h hne).range) Try.underlying42 rfl info4) hS ?_
  (try simp only [Act.put, List.setIfInBounds_toArray, List.set_cons_zero, List.set_cons_succ])
  refine wpAnyH_ready (rs := [4]) (by kernel_rfl) (by simp) ?_
  refine AllReadyH.cons (o := { dst := some 7, op := Op.call { callee := Callee.value (Operand.func 50), args := #[Operand.tmp 6], argTypes := #[42] }, type := 42, pos := "climb.go:23", after := #[{ on := 3, ground := Ground.data }], guard := none }) rfl (fun K hK => ?_) (AllReadyH.nil)
  go_simp
  (go_at_call 50; refine (hI _).mono ?_; rintro e wv3 ⟨rfl, hbv3⟩)
  (try go_simp)
  have hSv3 := hS.trans (Out.of_below hbv3 hgl)
  replace hgl := Nat.lt_of_lt_of_le hgl hbv3.size
  replace hr := hr.still hbv3
  refine hK.out _ _ hSv3 (fun h => ?_)
  clear h hK K hbv3
  (try simp only [Act.put, List.setIfInBounds_toArray, List.set_cons_zero, List.set_cons_succ])
  refine wpAnyH_ready (rs := [5]) (by kernel_rfl) (by simp) ?_
  refine AllReadyH.cons (o := { dst := some 8, op := Op.call { callee := Callee.value (Operand.func 49), args := #[Operand.tmp 4, Operand.tmp 7], argTypes := #[42, 42] }, type := 42, pos := "climb.go:23", after := #[{ on := 1, ground := Ground.data }, { on := 4, ground := Ground.data }, { on := 4, ground := Ground.chain }], guard := none }) rfl (fun K hK => ?_) (AllReadyH.nil)
  go_simp
  (go_at_call 49; refine (hT _).mono ?_; rintro e wv4 ⟨rfl, hbv4⟩)
  (try go_simp)
  have hSv4 := hSv3.trans (Out.of_below hbv4 hgl)
  replace hgl := Nat.lt_of_lt_of_le hgl hbv4.size
  replace hr := hr.still hbv4
  refine hK.out _ _ hSv4 (fun h => ?_)
  clear h hK K hbv4
  (try simp only [Act.put, List.setIfInBounds_toArray, List.set_cons_zero, List.set_cons_succ])
  refine wpAnyH_ready (rs := [6]) (by kernel_rfl) (by simp) ?_
  refine AllReadyH.cons (o := { dst := none, op := Op.store 42 (Operand.tmp 2) (Operand.tmp 8), type := 0, pos := "climb.go:23", after := #[{ on := 5, ground := Ground.data }, { on := 5, ground := Ground.chain }, { on := 0, ground := Ground.phase }, { on := 1, ground := Ground.phase }, { on := 2, ground := Ground.phase }, { on := 3, ground := Ground.phase }, { on := 4, ground := Ground.phase }, { on := 5, ground := Ground.phase }], guard := none }) rfl (fun K hK => ?_) (AllReadyH.nil)
  rw [if_pos (by rfl)]
  refine wp_store_mid 42 _ _ rfl g 0 (c4 n).toArray rfl rfl hr.there info4 (one4 _) ?_
  have hSv5 := hSv4.trans (Out.setCells wv4 (c4 n) (Nat.le_refl _) (Nat.le_refl _))
  replace hr := hr.stored (c4 n) rfl
  obtain ⟨wv5, hwv5⟩ : ∃ W, wv4.setCells g 0 (c4 n) = W := ⟨_, rfl⟩
  rw [hwv5] at hr
  rw [hwv5] at hSv5
  rw [show wv4.setCells g 0 (c4 n).toArray.toList = wv5 from hwv5]
  refine hK.out _ _ hSv5 (fun h => ?_)
  clear h hK K hwv5
  (try dsimp only [Act.put])
  refine wpAnyH_done (by kernel_rfl) ?_ _
  refine NoPanic.normal ?_
  clear hI hT
  go_wp2
  exact bodyPost_ret (results_cell_mid Try.results39 _ _ g 0 (c4 n) _ rfl hr.range Try.underlying42 rfl info4) rfl ⟨rfl, hbW.trans (((Out.of_below hdrew hgl0).trans hSv5).below hgw hbW.size)⟩
end Go.Proofs.Ytjbjbnooocbleaa
