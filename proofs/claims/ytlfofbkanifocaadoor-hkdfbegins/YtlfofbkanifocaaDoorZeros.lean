/- append of so many zeros to bytes of one's own. -/
import Derived.Test.YtlfofbkanifocaaDoorApp
namespace Go.Proofs.YtlfofbkanifocaaDoor
open Go.RowKit
theorem zeroCells_u8 (m : Nat) : Builtin.zeroCells #[.int .u8 0] m = (ints .u8 m (fun _ => 0)).toArray := by
  apply Array.ext'
  apply List.ext_getElem?
  intro j
  by_cases hj : j < m
  · rw [ints_at _ _ _ j hj]
    simp [Builtin.zeroCells, hj, Nat.mod_one]
  · rw [List.getElem?_eq_none (by rw [Array.length_toList, size_zeroCells]; simp; omega), List.getElem?_eq_none (by show (ints .u8 m (fun _ => 0)).length ≤ j; rw [ints_len]; omega)]
theorem run_append_zeros_grow (w : World) (ty : TypeId) (b : Addr) (n cap m : Nat) (olds : List Value) (hlo : olds.length = n) (holds : ∀ j v, olds[j]? = some v → w.cell? (b.add j) = some v) (hg : cap < n + m) (h0 : 0 < m) (hm : n + m ≤ 1000000) :
    (Builtin.append_ #[22, 3] ty #[.slice (some b) n cap, .int .i64 m]).run Tryd.prog w =
      .ok (.slice (some ⟨w.heap.size, 0, none⟩) (n + m) (grownCap w (n + m) cap 5)) (w.drew.alloc (.cells (olds.toArray ++ (ints .u8 m (fun _ => 0)).toArray ++ Builtin.zeroCells #[.int .u8 0] (grownCap w (n + m) cap 5 - (n + m))) 5)) := by
  obtain ⟨i, hi, hz, hz1, hz2⟩ := info_parts Tryd.info5
  have hn : ¬ (n + m ≤ cap) := by omega
  have h63' : ¬ (9223372036854775807 < ((n : Int) + (m : Int))) := by omega
  have hw : IntKind.i64.wrap (m : Int) = m := by simp only [IntKind.wrap_i64]; omega
  have hl0 : ¬((m : Int) < 0) := by omega
  have h48 : ¬ (281474976710656 < (m : Int)) := by omega
  have hfit := growslice_fits (need := n + m) (old := cap) (bytes := 1) (by omega) (by omega)
  have hfo := run_firstCells_some (P := Tryd.prog) w.drew i.size n b n cap olds (by rw [hz1]; omega) (by simpa using holds)
  rw [hz1] at hfo
  have hm0 : ¬(m = 0) := by omega
  have hai : ∀ W, Sem.run Tryd.prog (asInt (.int .i64 (m : Int))) W = .ok (m : Int) W := fun _ => rfl
  have hc : (Value.int IntKind.u8 0).cells = #[.int .u8 0] := rfl
  have hu := run_underlying (P := Tryd.prog) Tryd.underlying22
  have hu2 := run_underlying (P := Tryd.prog) Tryd.underlying3
  simp [Builtin.append_, hu, hu2, sizeOf, typeInfo, zeroValue, hi, hz, hai, hw, hl0, h48, hz1, hz2, hn, h63', Question.forced, hfo, newRow, grownCap, hc, hm0, show ¬ (281474976710656 < Builtin.nextslicecap (n + m) cap) by omega]
  rw [zeroCells_u8 m]
  congr 2
  apply Array.ext'
  simp [List.append_assoc]
theorem run_append_zeros_nil (w : World) (ty : TypeId) (m : Nat) (h0 : 0 < m) (hm : m ≤ 1000000) :
    (Builtin.append_ #[22, 3] ty #[.slice none 0 0, .int .i64 m]).run Tryd.prog w =
      .ok (.slice (some ⟨w.heap.size, 0, none⟩) m (grownCap w m 0 5)) (w.drew.alloc (.cells ((ints .u8 m (fun _ => 0)).toArray ++ Builtin.zeroCells #[.int .u8 0] (grownCap w m 0 5 - m)) 5)) := by
  obtain ⟨i, hi, hz, hz1, hz2⟩ := info_parts Tryd.info5
  have h63' : ¬ (9223372036854775807 < (m : Int)) := by omega
  have hw : IntKind.i64.wrap (m : Int) = m := by simp only [IntKind.wrap_i64]; omega
  have hl0 : ¬((m : Int) < 0) := by omega
  have h48 : ¬ (281474976710656 < (m : Int)) := by omega
  have hm0 : ¬(m = 0) := by omega
  have hai : ∀ W, Sem.run Tryd.prog (asInt (.int .i64 (m : Int))) W = .ok (m : Int) W := fun _ => rfl
  have hc : (Value.int IntKind.u8 0).cells = #[.int .u8 0] := rfl
  have hu := run_underlying (P := Tryd.prog) Tryd.underlying22
  have hu2 := run_underlying (P := Tryd.prog) Tryd.underlying3
  have hns : ¬ (281474976710656 < Builtin.nextslicecap m 0) := by rw [nextslicecap_zero h0]; omega
  simp [Builtin.append_, hu, hu2, sizeOf, typeInfo, zeroValue, hi, hz, hai, hw, hl0, h48, hz1, hz2, h63', Question.forced, run_firstCells_none, newRow, grownCap, hc, hm0, hns]
  rw [zeroCells_u8 m]
theorem run_append_zeros_room (w : World) (ty : TypeId) (g n cap m : Nat) (cur : Array Value) (hg : w.heap[g]? = some (.cells cur 5 (0, 0))) (h0 : 0 < m) (hm : n + m ≤ 1000000) (hroom : n + m ≤ cap) (hcs : cur.size = cap) :
    (Builtin.append_ #[22, 3] ty #[.slice (some ⟨g, 0, none⟩) n cap, .int .i64 m]).run Tryd.prog w =
      .ok (.slice (some ⟨g, 0, none⟩) (n + m) cap) (w.setRow g (cur.toList.take n ++ ints .u8 m (fun _ => 0) ++ cur.toList.drop (n + m)).toArray) := by
  obtain ⟨i, hi, hz, hz1, hz2⟩ := info_parts Tryd.info5
  have hw : IntKind.i64.wrap (m : Int) = m := by simp only [IntKind.wrap_i64]; omega
  have hl0 : ¬((m : Int) < 0) := by omega
  have h48 : ¬ (281474976710656 < (m : Int)) := by omega
  have hm0 : ¬(m = 0) := by omega
  have hai : ∀ W, Sem.run Tryd.prog (asInt (.int .i64 (m : Int))) W = .ok (m : Int) W := fun _ => rfl
  have hc : (Value.int IntKind.u8 0).cells = #[.int .u8 0] := rfl
  have hu := run_underlying (P := Tryd.prog) Tryd.underlying22
  have hu2 := run_underlying (P := Tryd.prog) Tryd.underlying3
  have hst := run_storeCells_at Tryd.prog g n 5 (ints .u8 m (fun _ => 0)) 0 cur w hg (by rw [ints_len]; omega) (ints_one _ _ _)
  simp only [Nat.add_zero, ints_len] at hst
  simp [Builtin.append_, hu, hu2, sizeOf, typeInfo, zeroValue, hi, hz, hai, hw, hl0, h48, hz1, hz2, hc, hm0, hroom, Addr.add_lit, zeroCells_u8, hst]
/-- So many zeros behind bytes of one's own. -/
theorem append_zeros (w : World) (ty : TypeId) (base : Nat) (v : Value) (n m : Nat) (X : Nat → Nat) (hown : Own base w v n X) (h0 : 0 < m) (hm : n + m ≤ 1000000) (hbase : base ≤ w.heap.size) :
    ∃ v' w', (Builtin.append_ #[22, 3] ty #[v, .int .i64 m]).run Tryd.prog w = .ok v' w' ∧ Own base w' v' (n + m) (cat n X (fun _ => 0)) ∧ w.grownBy w' v.ownBlock := by
  have hle : (ints .u8 (n + m) (cat n X (fun _ => 0))).length = (n + m) * 1 := by rw [ints_len, Nat.mul_one]
  have hgrown : ∀ old row, (w.drew.alloc (.cells ((ints .u8 n X).toArray ++ (ints .u8 m (fun _ => 0)).toArray ++ Builtin.zeroCells #[.int .u8 0] (grownCap w (n + m) old 5 - (n + m))) 5)).ownsRow base 5 1 (.slice (some ⟨w.heap.size, 0, none⟩) (n + m) (grownCap w (n + m) old 5)) (n + m) (ints .u8 (n + m) (cat n X (fun _ => 0))) ∧ w.grownBy (w.drew.alloc (.cells ((ints .u8 n X).toArray ++ (ints .u8 m (fun _ => 0)).toArray ++ Builtin.zeroCells #[.int .u8 0] (grownCap w (n + m) old 5 - (n + m))) 5)) row := fun old row => by
    have hge := grownCap_ge w (n + m) old 5
    have hcm := grownCap_le_maxLen w (n + m) old 5 (by unfold maxLen; omega)
    refine ⟨⟨hle, .inr ⟨w.heap.size, _, _, rfl, hbase, heap_alloc_new w.drew _, hge, hcm, ?_, ?_⟩⟩, rfl, rfl, rfl, by simp, fun k hk _ => heap_alloc_old w.drew _ hk⟩
    · simp only [Array.size_append, List.size_toArray, size_zeroCells, ints_len]
      simp
      omega
    · rw [← ints_add, Array.toList_append, Array.toList_append, List.take_append_of_le_length (by simp [ints_len])]
      rw [List.take_of_length_le (by simp [ints_len])]
  rcases hown.2 with ⟨rfl, rfl⟩ | ⟨g, cap, cur, rfl, hbg, hg, hnc, hcm, hcs, htake⟩
  · have hr := run_append_zeros_nil w ty m h0 (by omega)
    have h := hgrown 0 (Value.ownBlock (.slice none 0 0))
    rw [Nat.zero_add] at h ⊢
    have e : (ints .u8 0 X).toArray ++ (ints .u8 m (fun _ => 0)).toArray = (ints .u8 m (fun _ => 0)).toArray := by apply Array.ext'; simp [ints]
    rw [e] at h
    exact ⟨_, _, hr, h.1, h.2⟩
  · rw [Nat.mul_one] at hcs htake
    by_cases hroom : n + m ≤ cap
    · refine ⟨_, _, run_append_zeros_room w ty g n cap m cur hg h0 hm hroom hcs, ⟨hle, .inr ⟨g, cap, _, rfl, hbg, setRow_heap w g cur _ 5 _ hg, hroom, hcm, ?_, ?_⟩⟩, rfl, rfl, rfl, by simp, fun k _ hk => setRow_other w g k _ (fun e => hk (by simp [Value.ownBlock, e]))⟩
      · simp only [List.size_toArray, List.length_append, List.length_take, List.length_drop, Array.length_toList, ints_len]
        omega
      · rw [htake, Nat.mul_one, ← ints_add, List.take_append_of_le_length (by simp [ints_len])]
        rw [List.take_of_length_le (by simp [ints_len])]
    · have holds : ∀ j u, (ints .u8 n X)[j]? = some u → w.cell? ((⟨g, 0, none⟩ : Addr).add j) = some u := World.ownsRow.cells hown (g := g) rfl
      have h := hgrown cap (Value.ownBlock (.slice (some ⟨g, 0, none⟩) n cap))
      exact ⟨_, _, run_append_zeros_grow w ty ⟨g, 0, none⟩ n cap m (ints .u8 n X) (ints_len _ _ _) holds (by omega) h0 hm, h.1, h.2⟩
theorem wpList_append_zeros {w : World} {ops : Array Oper} {rest : List Oper} {o : Oper} {a : Act} {Q : Exit → Act → World → Prop} (hgd : o.guard = none) (s x : Operand)
    (ho : o.op = .call { callee := .builtin .append, args := #[s, x], argTypes := #[22, 3] }) (base : Nat)
    (v : Value) (n : Nat) (X : Nat → Nat) (hs : a.eval s = v) (hown : Own base w v n X) (m : Nat) (hx : a.eval x = .int .i64 m) (h0 : 0 < m) (hm : n + m ≤ 1000000) (hbase : base ≤ w.heap.size)
    (h : ∀ v' w', Own base w' v' (n + m) (cat n X (fun _ => 0)) → w.grownBy w' v.ownBlock → wpList Tryd.prog ops Q rest (a.put o.dst v') w') : wpList Tryd.prog ops Q (o :: rest) a w := by
  refine wpList_plain hgd fun K hK => ?_
  obtain ⟨v', w', h1, h2, h3⟩ := append_zeros w o.type base v n m X hown h0 hm hbase
  unfold Oper.wp execOp
  simp only [ho, resolve, invoke, builtin, Sem.run_bind, Sem.run_pure, Result.andThen_ok, List.map_toArray, List.map_cons, List.map_nil, hs, hx, h1]
  exact hK _ _ (h v' w' h2 h3)
end Go.Proofs.YtlfofbkanifocaaDoor
