/- The law ShaPieces returns true for every argument of bulk up to the bound, and leaves all as it was, where the program's tables start as its text lays them: the row, and the card that ties the tables to the text. -/
import Derived.Test.YtlfofbkanifocaaDoorPieces
import Derived.Test.YtlfofbkanifocaaDoorCardKit
import Derived.Deep.Matrix
namespace Go.Proofs.YtlfofbkanifocaaDoor.ShaPiecesCard
open Go.ChangeShapes Go.WideShapes Go.ChangeAt Go.RowKit
theorem bulk_pos {H : Type} (d : DataW H) : 0 < Rows.uptoBulk d := by
  cases d with
  | lit l => cases l <;> simp [Rows.uptoBulk]
  | _ => simp [Rows.uptoBulk]
theorem bulk_len {H : Type} : ∀ l : List (DataW H), l.length ≤ Rows.uptoBulkAll l
  | [] => Nat.zero_le _
  | d :: r => by
    have h1 := bulk_pos d
    have h2 := bulk_len r
    simp only [Rows.uptoBulkAll, List.length_cons]
    omega
theorem bulk_two {H : Type} : ∀ l r : List (DataW H), Rows.uptoBulkAll (l ++ r) = Rows.uptoBulkAll l + Rows.uptoBulkAll r
  | [], r => by simp [Rows.uptoBulkAll]
  | d :: l, r => by
    have h := bulk_two l r
    simp only [List.cons_append, Rows.uptoBulkAll, h]
    omega
theorem bulk_rows {H : Type} (f : Nat → DataW H) (pn : Nat → Nat) : ∀ n, (∀ r, r < n → pn r ≤ Rows.uptoBulk (f r)) → sumN pn n ≤ Rows.uptoBulkAll ((List.range n).map f)
  | 0, _ => Nat.zero_le _
  | n + 1, h => by
    have h1 := bulk_rows f pn n (fun r hr => h r (by omega))
    have h2 := h n (by omega)
    rw [List.range_succ, List.map_append, bulk_two]
    simp only [List.map_cons, List.map_nil, Rows.uptoBulkAll, sumN]
    omega
theorem cells22 : Tryd.prog.cellsOf 22 = 1 := by kernel_rfl
/-- Slices of bytes that came in: the pieces; how much they are. -/
theorem open_pieces {H : Type} {enc : TypeId × Value → H} {W : World} {base : Nat} {v : Value} {d : DataW H} {ps : List MemPlace} (hval : Value.okWide Tryd.prog W .any base 46 v) (h : DataW.Trod enc Tryd.prog W 0 (fun _ => true) true 46 v d ps) :
    ∃ xo cnt cap pv pn pb, v = .slice xo cnt cap ∧ PiecesIn W xo cnt pv pn pb ∧ cnt ≤ Rows.uptoBulk d ∧ sumN pn cnt ≤ Rows.uptoBulk d := by
  obtain ⟨a0, len, cap, rfl⟩ := okWide_slice Tryd.underlying46 hval
  obtain ⟨fuel, hf⟩ := h
  have hc : Cell.ok Tryd.prog W .any base 46 (.slice a0 len cap) := by
    unfold Value.okWide Cell.okWide at hval
    simp only [Tryd.underlying46] at hval
    exact hval
  rcases Deep.open_int_rows Tryd.underlying46 Tryd.underlying22 Tryd.underlying5 cells22 cellsOfByte hf with ⟨hcs, hx⟩ | ⟨a, len', cap', A, L, C, Z, hcs, _, hl, hm, hx, hrow⟩
  · simp [Value.cells] at hcs
    obtain ⟨rfl, rfl, rfl⟩ := hcs
    exact ⟨none, 0, 0, fun _ => .slice none 0 0, fun _ => 0, fun _ _ => 0, rfl, ⟨fun q hq => by omega, fun i hi => by omega, fun _ _ => Nat.zero_lt_succ _⟩, Nat.zero_le _, Nat.zero_le _⟩
  · simp [Value.cells] at hcs
    obtain ⟨rfl, rfl, rfl⟩ := hcs
    simp only [Prod.mk.injEq] at hx
    obtain ⟨rfl, rfl⟩ := hx
    unfold Cell.ok at hc
    simp only [Tryd.underlying46] at hc
    obtain ⟨_, _, _, hs, _⟩ := hc
    obtain ⟨b, off, spot⟩ := a
    subst hs
    have hn : ∀ r, r < len → ∀ j, 0 ≤ (Z r).getD j 0 ∧ (Z r).getD j 0 < 256 := fun r hr j => by
      rw [List.getD_eq_getElem?_getD]
      cases h : (Z r)[j]? with
      | none => simp
      | some x =>
        have := (hrow r (by omega)).2.2.2.2.1 x (List.mem_of_getElem? h)
        have h0 : (0 : Int) ≤ x ∧ x ≤ 255 := by simpa [Lit.wf, IntKind.min, IntKind.max, IntKind.signed, IntKind.bits] using this
        show 0 ≤ x ∧ x < 256
        omega
    have hpn : ∀ r, r < len → L r ≤ Rows.uptoBulk (Deep.intRow (H := H) .u8 (A r) (L r) (Z r)) := fun r hr => by
      obtain ⟨_, h2, _, h4, _, h6, _⟩ := hrow r (by omega)
      cases hA : A r with
      | none => have := h6 hA; omega
      | some a' =>
        simp only [Deep.intRow, Rows.uptoBulk]
        have := bulk_len (lits (H := H) .u8 ((Z r).take (L r)))
        simp [lits] at this ⊢
        omega
    refine ⟨some ⟨b, off, none⟩, len, cap, fun r => .slice (A r) (L r) (C r), L, fun r j => if r < len then ((Z r).getD j 0).toNat else 0, rfl, ⟨fun q hq => ⟨b, off, rfl, fun i hi => ?_⟩, fun r hr => ?_, fun r j => ?_⟩, ?_, ?_⟩
    · have := (hrow i (by omega)).1
      rw [Addr.add_mid] at this
      exact this
    · obtain ⟨_, h2, _, h4, _, h6, h7⟩ := hrow r (by omega)
      by_cases hC : C r = 0
      · exact .inl ⟨A r, by rw [hC, show L r = 0 by omega], by omega⟩
      · cases hA : A r with
        | none => exact absurd (h6 hA) hC
        | some a' =>
          obtain ⟨_, hcell⟩ := h7 a' hA
          obtain ⟨b', o', sp⟩ := a'
          have hc0 := hcell 0 (by omega)
          have hsp : sp = none := by
            cases sp with
            | none => rfl
            | some k =>
              exfalso
              unfold World.cell? Addr.add at hc0
              simp at hc0
              split at hc0 <;> simp at hc0
          subst hsp
          refine .inr ⟨b', o', C r, rfl, ?_, h2, fun j hj => ?_⟩
          · rw [Addr.add_mid] at hc0
            exact block_lt_of_cell hc0
          · have h := hcell j (by omega)
            rw [Addr.add_mid] at h
            rw [h]
            show some (Value.int .u8 ((Z r).getD j 0)) = some (Value.int .u8 ((if r < len then ((Z r).getD j 0).toNat else 0 : Nat) : Int))
            rw [if_pos hr, Int.toNat_of_nonneg (hn r hr j).1]
    · show (if r < len then ((Z r).getD j 0).toNat else 0) < 256
      split
      · rename_i hr
        have := hn r hr j
        omega
      · decide
    · have h1 := bulk_len (H := H) ((List.range len).map fun r => Deep.intRow .u8 (A r) (L r) (Z r))
      simp only [List.length_map, List.length_range] at h1
      simp only [Rows.uptoBulk]
      omega
    · have h1 := bulk_rows (H := H) (fun r => Deep.intRow .u8 (A r) (L r) (Z r)) L len hpn
      simp only [Rows.uptoBulk]
      omega
/-- WHAT THE WALK GIVES, FOR EVERY ARGUMENT WITHIN THE BOUND AND EVERY WORLD THAT HOLDS THE TABLES. -/
theorem contract (H : Type) (enc : TypeId × Value → H) (W : World) (base : Nat) (args : Array Value) (ds gs : List (DataW H)) (before : List MemPlace)
    (hval : ∀ (j : Nat) t v, Tryd.f6.params[j]? = some t → args[j]? = some v → Value.okWide Tryd.prog W .any base t v)
    (hW : DataW.Whole enc Tryd.prog Tryd.f6.params.toList Rows.shaPiecesSpec.vars false W args.toList ds gs before) (hk : Rows.uptoSmall H (ds ++ gs) = true) (hL : laidMetH Tryd.prog Rows.shaPiecesUptoRow.laid W) :
    Calls Tryd.prog 6 args W fun e W' => ∃ v, e = .returned v ∧ Rows.shaPiecesSpec.post enc Tryd.prog Tryd.f6 false true false false W args v W' := by
  have hW' := hW
  obtain ⟨p, q, hA0, hV, rfl, hfz, hnd⟩ := hW
  have hA : DataW.TrodAll enc Tryd.prog W 0 (fun _ => true) true Tryd.f6.params.toList args.toList ds p := hA0
  rw [Tryd.params6] at hA hval
  obtain ⟨v0, vs0, d0, ds0, p0, q0, hargs, rfl, rfl, h0, r0⟩ := trodAll_cons hA
  obtain ⟨v1, vs1, d1, ds1, p1, q1, rfl, rfl, rfl, h1, r1⟩ := trodAll_cons r0
  obtain ⟨rfl, rfl, rfl⟩ := trodAll_nil r1
  obtain rfl : args = #[v0, v1] := by cases args; simp_all
  obtain ⟨rfl, rfl⟩ := trodVars_none hV
  obtain ⟨z0, rfl, rfl, rfl⟩ := open_bool Tryd.underlying4 (hval 0 4 v0 rfl rfl) h0
  have lt1 : ∀ x ∈ p1, x.block < W.heap.size := by obtain ⟨m, hm⟩ := h1; exact DataW.trod_lt m _ _ _ hm
  have hbulk : Rows.uptoBulk d1 ≤ 1048576 := by
    have h := of_decide_eq_true hk
    simp only [List.append_nil, Rows.uptoBulkAll] at h
    omega
  obtain ⟨xo, cnt, cap, pv, pn, pb, rfl, hP, hc1, hc2⟩ := open_pieces (hval 1 46 v1 rfl rfl) h1
  have hT : Tab W cubeK squareK := tab_of_laid hL
  clear hA0
  have key : Calls Tryd.prog 6 #[.bool z0, .slice xo cnt cap] W fun e w' => e = .returned (.bool true) ∧ Below W.heap.size W w' := by
    cases z0 with
    | false => exact pieces256_any xo cnt cap pv pn pb W hT hP (by omega) (by omega)
    | true => exact pieces512_any xo cnt cap pv pn pb W hT hP (by omega) (by omega)
  refine key.mono fun e W' ⟨he, bel⟩ => ?_
  subst he
  exact ⟨_, rfl, _, _, _, [], _, [], hW', trodAll_mk1 (shut_bool Tryd.underlying4 _), (trodAll_cons_mk (shut_bool Tryd.underlying4 _) (trodAll_cons_mk (Below.trod laidOut (by kernel_rfl) (of_decide_eq_true (by kernel_rfl)) h1 bel lt1) trodAll_mk0)), rfl, bel.frame _, fun h => by cases h⟩
theorem laid_met (os : Os) : laidMet Tryd.prog Rows.shaPiecesUptoRow.laid ((laidWorld os).forCall (fun _ _ => 0) ⟨#[], #[.bool false, .slice none 0 0], []⟩).memory :=
  laidMet_of_run' 8 (by kernel_rfl) (by kernel_rfl)
theorem reads (os : Os) {H : Type} (enc : TypeId × Value → H) : ∃ places, DataW.whole enc Tryd.prog ((laidWorld os).forCall (fun _ _ => 0) ⟨#[], #[.bool false, .slice none 0 0], []⟩).memory Tryd.f6.params.toList Rows.shaPiecesSpec.vars false #[Value.bool false, Value.slice none 0 0].toList 8 = some ([.lit (.bool false), .nil], [], places) :=
  ⟨[], by kernel_rfl⟩
set_option maxRecDepth 100000 in
theorem lifted (os : Os) (started : os.Started) (H : Type) (enc : TypeId × Value → H) (F : Stop.Interp) :
    ReturnsInHanded {} Tryd.checked os 6 .any ((Rows.OpenSpec.upto Rows.shaPiecesSpec).preRow enc Tryd.prog Tryd.f6 Rows.shaPiecesUptoRow.domain false Rows.shaPiecesUptoRow.laid) (((Rows.OpenSpec.upto Rows.shaPiecesSpec).at F).post enc Tryd.prog Tryd.f6 false true false false) := by
  obtain ⟨places, hx⟩ := reads os enc
  refine returnsInHanded_of_row (C := Tryd.checked) (s := Rows.OpenSpec.upto Rows.shaPiecesSpec) ownKnobs started (by kernel_rfl) Tryd.func6
    (witness_row_at (enc := enc) (C := Tryd.checked) false (laidWorld os) #[.bool false, .slice none 0 0] rfl (by kernel_rfl) (by kernel_rfl) (by kernel_rfl)
      (OpenSpec.preRow_of_cond 8 hx (by kernel_rfl) (fun k hk => by cases hk; kernel_rfl) (by kernel_rfl) (laid_met os))) ?_
  intro W base args ds gs before hval hW _ hcond _ hL _ _
  exact contract H enc W base args ds gs before hval hW (hcond _ rfl) hL
theorem said : Rows.ShaPiecesUptoSaid :=
  OpenClaim.holds_of_cond 6 Tryd.f6 rfl rfl rfl rfl rfl rfl rfl ⟨rfl, rfl, rfl, rfl, rfl⟩ rfl rfl rfl rfl rfl (by kernel_rfl) Tryd.func6 (by kernel_rfl)
    (of_decide_eq_true (by kernel_rfl)) (by unfold Func.isWrapper; first | (rw [if_pos (by decide +kernel)]; kernel_rfl) | (rw [if_neg (by decide +kernel)]; exact ⟨rfl, rfl⟩))
    (fun os started H enc _ F => by rw [OpenClaim.pre_eq_preRow]; exact lifted os started H enc F)
/-- No parameter wants a stand-in; the program's own looks are off: what the card asks. -/
theorem plain (f : FuncId) (fn : Func) (hf : Tryd.pinned.checked.prog.funcNamed "synod/synodlaw01.ShaPieces" = some f) (hfn : Tryd.pinned.checked.prog.funcs[f]? = some fn) :
    false = Tryd.pinned.checked.prog.looks [] ∧ ∀ (j : Nat) t, fn.params[j]? = some t → Tryd.pinned.checked.prog.wantsStandIn t = false := by
  obtain rfl : f = 6 := Option.some.inj ((show Tryd.prog.funcNamed "synod/synodlaw01.ShaPieces" = some 6 by kernel_rfl).symm.trans hf) |>.symm
  obtain rfl : fn = Tryd.f6 := (Option.some.inj (Tryd.func6.symm.trans hfn)).symm
  refine ⟨by kernel_rfl, fun j t ht => ?_⟩
  rw [Tryd.params6] at ht
  have h : t = 4 ∨ t = 46 := by simpa using Array.mem_of_getElem? ht
  rcases h with rfl | rfl
  · exact (show Tryd.prog.wantsStandIn 4 = false by kernel_rfl)
  · exact (show Tryd.prog.wantsStandIn 46 = false by kernel_rfl)
end Go.Proofs.YtlfofbkanifocaaDoor.ShaPiecesCard
namespace Go.Proofs.YtlfofbkanifocaaDoor
/-- THE CARD. -/
theorem shaPieces_cardUpto : Rows.ShaPiecesUptoCardSaid :=
  Claim7.holds_tied_plain_at .later [] _ _ _ _ ShaPiecesCard.said (fun _ h => by cases h) (by kernel_rfl) (fun _ h => by cases h) shaPiecesUpto_row_tie rfl ⟨rfl, rfl⟩ (by kernel_rfl) rfl ShaPiecesCard.plain (by kernel_rfl)
end Go.Proofs.YtlfofbkanifocaaDoor
