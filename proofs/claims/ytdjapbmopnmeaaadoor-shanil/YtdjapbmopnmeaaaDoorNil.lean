/- The walk of the law ShaNil in the model: whatever number and bytes it is called with it returns true and leaves all that was there as it was. -/
import Derived.Test.YtdjapbmopnmeaaaDoorKnows
import Derived.Test.YtdjapbmopnmeaaaDoorHash
namespace Go.Proofs.YtdjapbmopnmeaaaDoor
open Go.RowKit
theorem built0 : Tryd.prog.built 44 [] = some (hashVals 0 zSt zSt).toArray := by kernel_rfl
theorem wpList_build0 {P : Program} {ops : Array Oper} {rest : List Oper} {o : Oper} {a : Act} {w : World} {Q : Exit → Act → World → Prop} (hg : o.guard = none) (t : TypeId) (ho : o.op = .build t #[]) (cells : Array Value)
    (hf : P.built t [] = some cells) (h : wpList P ops Q rest (a.put o.dst (.agg cells)) w) : wpList P ops Q (o :: rest) a w :=
  wpList_build_to hg t #[] ho cells (by simp only [List.map_toArray, List.map_nil, hf]) h
/-- No Hash, or one that nobody made. -/
def NoHash (w : World) (p : Value) : Prop := p = .pointer none ∨ ∃ g, p = .pointer (some ⟨g, 0, none⟩) ∧ w.cell? ⟨g, 0, none⟩ = some (.int .i64 0)
theorem noWrite (w : World) (p v : Value) (h : NoHash w p) : Calls Tryd.prog 17 #[p, v] w fun e w' => e = .returned (.int .i64 1) ∧ w' = w := by
  rcases h with rfl | ⟨g, rfl, hc⟩
  · exact hwrite_nil v w
  · exact hwrite_zero g v w hc
theorem noSum (w : World) (p : Value) (h : NoHash w p) : Calls Tryd.prog 18 #[p] w fun e w' => e = .returned (.slice none 0 0) ∧ w' = w := by
  rcases h with rfl | ⟨g, rfl, hc⟩
  · exact hsum_nil w
  · exact hsum_zero g w hc
theorem noSize (w : World) (p : Value) (h : NoHash w p) : Calls Tryd.prog 15 #[p] w fun e w' => e = .returned (.int .i64 0) ∧ w' = w := by
  rcases h with rfl | ⟨g, rfl, hc⟩
  · exact size_nil w
  · exact size_zero g w hc
/-- What New and Size answer, whatever the bits. -/
theorem newSize (n : Int) (w : World) (hT : Tab w cubeK squareK) : Calls Tryd.prog 14 #[.int .i64 n] w fun e w' => Below w.heap.size w w' ∧
    ((e = .returned (.pointer none) ∧ (n == 256) = false ∧ (n == 512) = false) ∨ (∃ g, e = .returned (.pointer (some ⟨g, 0, none⟩)) ∧ n = 256 ∧ w'.cell? ⟨g, 0, none⟩ = some (.int .i64 256)) ∨ (∃ g, e = .returned (.pointer (some ⟨g, 0, none⟩)) ∧ n = 512 ∧ w'.cell? ⟨g, 0, none⟩ = some (.int .i64 512))) := by
  by_cases h1 : n = 256
  · subst h1
    exact (new256_any squareK hT.qlt w hT.squares hT.narrow).mono fun e w' ⟨g, he, _, hc, _, hb⟩ => ⟨hb, .inr (.inl ⟨g, he, rfl, hc⟩)⟩
  · by_cases h2 : n = 512
    · subst h2
      exact (new512_any squareK hT.qlt w hT.squares hT.wide).mono fun e w' ⟨g, he, _, hc, _, hb⟩ => ⟨hb, .inr (.inr ⟨g, he, rfl, hc⟩)⟩
    · have e1 : (n == 256) = false := by simpa using h1
      have e2 : (n == 512) = false := by simpa using h2
      exact (new_other n e1 e2 w).mono fun e w' ⟨he, hw⟩ => ⟨by rw [hw]; exact Below.refl _ _, .inl ⟨he, e1, e2⟩⟩
set_option maxRecDepth 20000 in
set_option maxHeartbeats 1000000 in
theorem shaNil_any (n : Int) (v : Value) (w : World) (hT : Tab w cubeK squareK) : Calls Tryd.prog 5 #[.int .i64 n, v] w fun e w' => e = .returned (.bool true) ∧ Below w.heap.size w w' := by
  have h3 := hT.size
  have hk := fun w1 (hb : Below w.heap.size w w1) => knows_any w1 (hT.below hb h3)
  have hnew := newSize n w hT
  clear hT
  go_enter Tryd.func5, Tryd.ntmps5
  go_wp2_with (first
    | (go_at_call 14; refine hnew.mono ?_; clear hnew; rintro e w1 ⟨hb1, ⟨rfl, e1, e2⟩ | ⟨g, rfl, rfl, hc⟩ | ⟨g, rfl, rfl, hc⟩⟩)
    | (go_at_call 15; refine (size_256 g w1 hc).mono ?_; rintro e w' ⟨rfl, hw'⟩; subst hw')
    | (go_at_call 15; refine (size_512 g w1 hc).mono ?_; rintro e w' ⟨rfl, hw'⟩; subst hw'))
  all_goals
    go_loopw [6, 7] (fun p i wr => ∃ k : Nat, k ≤ 2 ∧ i = .int .i64 k ∧ NoHash wr p ∧ Below w.heap.size w wr) (fun _ i _ => 2 - (intOf i).toNat)
    case atStart => exact ⟨0, Nat.zero_le _, rfl, .inl rfl, hb1⟩
    case round =>
      rename_i p _ _
      obtain ⟨k, hkk, rfl, hno, hb⟩ := hrel
      by_cases hlt : k < 2
      · go_wp2_with (first
          | (go_at_call 17; refine (noWrite _ _ _ hno).mono ?_; rintro e w' ⟨rfl, hw'⟩; subst hw')
          | (go_at_call 16; refine (num_any _ _).mono ?_; rintro e w' ⟨rfl, hw'⟩; subst hw')
          | (go_at_call 18; refine (noSum _ _ hno).mono ?_; rintro e w' ⟨rfl, hw'⟩; subst hw')
          | (go_at_call 15; refine (noSize _ _ hno).mono ?_; rintro e w' ⟨rfl, hw'⟩; subst hw')
          | (refine wpList_build0 rfl 44 rfl (hashVals 0 zSt zSt).toArray built0 ?_))
        go_roundw
        case rel => exact ⟨k + 1, by omega, by go_num, .inr ⟨_, rfl, hash_bits _ 0 zSt zSt⟩, hb.alloc hb.size _⟩
        case measure => simp [intOf]; omega
      · go_wp2_with (go_at_call 11; refine (hk _ hb).mono ?_; rintro e w' ⟨rfl, hbk⟩)
        go_ret
        exact ⟨rfl, hb.trans (hbk.mono hb.size)⟩
end Go.Proofs.YtdjapbmopnmeaaaDoor
