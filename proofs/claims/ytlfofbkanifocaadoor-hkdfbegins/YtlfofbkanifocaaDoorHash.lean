/- What made, Size, Write, Sum and New of a Hash do in the model, where nobody made it; and New. -/
import Derived.Test.YtlfofbkanifocaaDoorStart
namespace Go.Proofs.YtlfofbkanifocaaDoor
open Go.RowKit
theorem made_nil (w : World) : Calls Tryd.prog 42 #[.pointer none] w fun e w' => e = .returned (.bool false) ∧ w' = w := by
  go_enter Tryd.func42, Tryd.ntmps42
  go_wp2
  go_ret
  exact ⟨rfl, rfl⟩
theorem made_zero (g : Nat) (w : World) (hc : w.cell? ⟨g, 0, none⟩ = some (.int .i64 0)) : Calls Tryd.prog 42 #[.pointer (some ⟨g, 0, none⟩)] w fun e w' => e = .returned (.bool false) ∧ w' = w := by
  go_enter Tryd.func42, Tryd.ntmps42
  go_wp2
  go_ret
  exact ⟨rfl, rfl⟩
theorem made_yes (g n : Nat) (hn : (n : Int) ≠ 0) (w : World) (hc : w.cell? ⟨g, 0, none⟩ = some (.int .i64 n)) : Calls Tryd.prog 42 #[.pointer (some ⟨g, 0, none⟩)] w fun e w' => e = .returned (.bool true) ∧ w' = w := by
  have hn' : ((n : Int) != 0) = true := by simpa using hn
  go_enter Tryd.func42, Tryd.ntmps42
  go_wp2
  go_ret
  exact ⟨by simp, rfl⟩
theorem size_nil (w : World) : Calls Tryd.prog 20 #[.pointer none] w fun e w' => e = .returned (.int .i64 0) ∧ w' = w := by
  go_enter Tryd.func20, Tryd.ntmps20
  go_wp2_with (go_at_call 42; refine (made_nil _).mono ?_; rintro e w' ⟨rfl, rfl⟩)
  all_goals go_ret
  exact ⟨rfl, rfl⟩
theorem size_zero (g : Nat) (w : World) (hc : w.cell? ⟨g, 0, none⟩ = some (.int .i64 0)) : Calls Tryd.prog 20 #[.pointer (some ⟨g, 0, none⟩)] w fun e w' => e = .returned (.int .i64 0) ∧ w' = w := by
  go_enter Tryd.func20, Tryd.ntmps20
  go_wp2_with (go_at_call 42; refine (made_zero g _ hc).mono ?_; rintro e w' ⟨rfl, rfl⟩)
  all_goals go_ret
  exact ⟨rfl, rfl⟩
theorem size_256 (g : Nat) (w : World) (hc : w.cell? ⟨g, 0, none⟩ = some (.int .i64 256)) : Calls Tryd.prog 20 #[.pointer (some ⟨g, 0, none⟩)] w fun e w' => e = .returned (.int .i64 32) ∧ w' = w := by
  go_enter Tryd.func20, Tryd.ntmps20
  go_wp2_with (go_at_call 42; refine (made_yes g 256 (by decide) _ hc).mono ?_; rintro e w' ⟨rfl, rfl⟩)
  all_goals go_ret
  exact ⟨rfl, rfl⟩
theorem size_512 (g : Nat) (w : World) (hc : w.cell? ⟨g, 0, none⟩ = some (.int .i64 512)) : Calls Tryd.prog 20 #[.pointer (some ⟨g, 0, none⟩)] w fun e w' => e = .returned (.int .i64 64) ∧ w' = w := by
  go_enter Tryd.func20, Tryd.ntmps20
  go_wp2_with (go_at_call 42; refine (made_yes g 512 (by decide) _ hc).mono ?_; rintro e w' ⟨rfl, rfl⟩)
  all_goals go_ret
  exact ⟨rfl, rfl⟩
theorem hwrite_nil (v : Value) (w : World) : Calls Tryd.prog 22 #[.pointer none, v] w fun e w' => e = .returned (.int .i64 1) ∧ w' = w := by
  go_enter Tryd.func22, Tryd.ntmps22
  go_wp2_with (go_at_call 42; refine (made_nil _).mono ?_; rintro e w' ⟨rfl, rfl⟩)
  all_goals go_ret
  exact ⟨rfl, rfl⟩
theorem hwrite_zero (g : Nat) (v : Value) (w : World) (hc : w.cell? ⟨g, 0, none⟩ = some (.int .i64 0)) : Calls Tryd.prog 22 #[.pointer (some ⟨g, 0, none⟩), v] w fun e w' => e = .returned (.int .i64 1) ∧ w' = w := by
  go_enter Tryd.func22, Tryd.ntmps22
  go_wp2_with (go_at_call 42; refine (made_zero g _ hc).mono ?_; rintro e w' ⟨rfl, rfl⟩)
  all_goals go_ret
  exact ⟨rfl, rfl⟩
theorem hsum_nil (w : World) : Calls Tryd.prog 23 #[.pointer none] w fun e w' => e = .returned (.slice none 0 0) ∧ w' = w := by
  go_enter Tryd.func23, Tryd.ntmps23
  go_wp2_with (go_at_call 42; refine (made_nil _).mono ?_; rintro e w' ⟨rfl, rfl⟩)
  all_goals go_ret
  exact ⟨rfl, rfl⟩
theorem hsum_zero (g : Nat) (w : World) (hc : w.cell? ⟨g, 0, none⟩ = some (.int .i64 0)) : Calls Tryd.prog 23 #[.pointer (some ⟨g, 0, none⟩)] w fun e w' => e = .returned (.slice none 0 0) ∧ w' = w := by
  go_enter Tryd.func23, Tryd.ntmps23
  go_wp2_with (go_at_call 42; refine (made_zero g _ hc).mono ?_; rintro e w' ⟨rfl, rfl⟩)
  all_goals go_ret
  exact ⟨rfl, rfl⟩
theorem num_any (n : Int) (w : World) : Calls Tryd.prog 21 #[.int .i64 n] w fun e w' => e = .returned (.int .i64 n) ∧ w' = w := by
  go_enter Tryd.func21, Tryd.ntmps21
  go_wp2
  go_ret
  exact ⟨rfl, rfl⟩
theorem new_other (n : Int) (h1 : (n == 256) = false) (h2 : (n == 512) = false) (w : World) : Calls Tryd.prog 19 #[.int .i64 n] w fun e w' => e = .returned (.pointer none) ∧ w' = w := by
  go_enter Tryd.func19, Tryd.ntmps19
  go_wp2
  all_goals go_ret
  exact ⟨rfl, rfl⟩
/-- A Hash's cells. -/
def hashVals (n : Nat) (s t : St) : List Value := .int .i64 n :: (engVals .u32 s (fun _ => 0) 0 ++ engVals .u64 t (fun _ => 0) 0)
theorem hashVals_len (n : Nat) (s t : St) : (hashVals n s t).length = 275 := by simp [hashVals, engVals_len]
theorem built256 (s : St) : Tryd.prog.built 44 [(0, .int .i64 256), (1, .agg (engVals .u32 s (fun _ => 0) 0).toArray)] = some (hashVals 256 s zSt).toArray := by kernel_rfl
theorem built512 (s : St) : Tryd.prog.built 44 [(0, .int .i64 512), (2, .agg (engVals .u64 s (fun _ => 0) 0).toArray)] = some (hashVals 512 zSt s).toArray := by kernel_rfl
theorem wpList_build_to {P : Program} {ops : Array Oper} {rest : List Oper} {o : Oper} {a : Act} {w : World} {Q : Exit → Act → World → Prop} (hg : o.guard = none) (t : TypeId) (parts : Array (Nat × Operand)) (ho : o.op = .build t parts) (cells : Array Value)
    (hf : P.built t (parts.map fun (i, x) => (i, a.eval x)).toList = some cells) (h : wpList P ops Q rest (a.put o.dst (.agg cells)) w) : wpList P ops Q (o :: rest) a w :=
  wpList_build hg t parts ho (by rw [hf]; rfl) (by rw [hf]; exact h)
theorem wpList_build2 {P : Program} {ops : Array Oper} {rest : List Oper} {o : Oper} {a : Act} {w : World} {Q : Exit → Act → World → Prop} (hg : o.guard = none) (t : TypeId) (i j : Nat) (x y : Operand) (ho : o.op = .build t #[(i, x), (j, y)]) (u v : Value) (hx : a.eval x = u) (hy : a.eval y = v) (cells : Array Value)
    (hf : P.built t [(i, u), (j, v)] = some cells) (h : wpList P ops Q rest (a.put o.dst (.agg cells)) w) : wpList P ops Q (o :: rest) a w :=
  wpList_build_to hg t _ ho cells (by simp only [List.map_toArray, List.map_cons, List.map_nil, hx, hy, hf]) h
theorem hash_narrow (w : World) (n : Nat) (s t : St) : EngAt .u32 (w.alloc (.cells (hashVals n s t).toArray 44)) w.heap.size 1 s (fun _ => 0) 0 :=
  EngAt.of_range (fun j v hv => by
    have hj : j < 137 := by have := (List.getElem?_eq_some_iff.1 hv).1; rwa [engVals_len] at this
    have : (hashVals n s t)[1 + j]? = some v := by
      rw [Nat.add_comm, hashVals, List.getElem?_cons_succ, List.getElem?_append_left (by rw [engVals_len]; exact hj)]; exact hv
    simp [this]) (fun j hj => by simp)
theorem hash_wide (w : World) (n : Nat) (s t : St) : EngAt .u64 (w.alloc (.cells (hashVals n s t).toArray 44)) w.heap.size 138 t (fun _ => 0) 0 :=
  EngAt.of_range (fun j v hv => by
    have hj : j < 137 := by have := (List.getElem?_eq_some_iff.1 hv).1; rwa [engVals_len] at this
    have : (hashVals n s t)[138 + j]? = some v := by
      rw [show 138 + j = (137 + j) + 1 by omega, hashVals, List.getElem?_cons_succ, List.getElem?_append_right (by rw [engVals_len]; omega), engVals_len, show 137 + j - 137 = j by omega]; exact hv
    simp [this]) (fun j hj => by simp)
theorem hash_bits (w : World) (n : Nat) (s t : St) : (w.alloc (.cells (hashVals n s t).toArray 44)).cell? ⟨w.heap.size, 0, none⟩ = some (.int .i64 n) := by simp [hashVals]
theorem hash_bitsf (w : World) (n : Nat) (s t : St) (j : Nat) : (w.alloc (.cells (hashVals n s t).toArray 44)).frozen? ⟨w.heap.size, j, none⟩ = false := by simp
set_option maxHeartbeats 400000 in
theorem new256_any (q : Nat → Nat) (hq : ∀ j, q j < 18446744073709551616) (w : World) (hsq : ∀ j, j < 8 → w.cell? ⟨2, j, none⟩ = some (.int .u64 (q j))) (hru : Rules32 w 0) :
    Calls Tryd.prog 19 #[.int .i64 256] w fun e w' => ∃ g, e = .returned (.pointer (some ⟨g, 0, none⟩)) ∧ w.heap.size ≤ g ∧ w'.cell? ⟨g, 0, none⟩ = some (.int .i64 256) ∧ EngAt .u32 w' g 1 (firstS rn q) (fun _ => 0) 0 ∧ Below w.heap.size w w' := by
  obtain ⟨p0, p1, p2, p3, p4, p5, p6, p7, p8, p9, p10, p11, p12, p13⟩ := hru
  go_enter Tryd.func19, Tryd.ntmps19
  go_wp2_with (first
    | (go_at_call 33; refine (start32_any q hq _ hsq).mono ?_; rintro e w' ⟨rfl, hb⟩; clear hsq)
    | (refine wpList_build2 rfl 44 0 1 (.tmp 6) (.tmp 8) rfl (.int .i64 256) (.agg (engVals .u32 (firstS rn q) (fun _ => 0) 0).toArray) rfl rfl (hashVals 256 (firstS rn q) zSt).toArray (built256 (firstS rn q)) ?_))
  go_ret
  have e1 := hash_bits w' 256 (firstS rn q) zSt
  have e2 := hash_narrow w' 256 (firstS rn q) zSt
  exact ⟨w'.heap.size, rfl, hb.size, e1, e2, hb.alloc hb.size _⟩
set_option maxHeartbeats 400000 in
theorem new512_any (q : Nat → Nat) (hq : ∀ j, q j < 18446744073709551616) (w : World) (hsq : ∀ j, j < 8 → w.cell? ⟨2, j, none⟩ = some (.int .u64 (q j))) (hru : Rules64 w 1) :
    Calls Tryd.prog 19 #[.int .i64 512] w fun e w' => ∃ g, e = .returned (.pointer (some ⟨g, 0, none⟩)) ∧ w.heap.size ≤ g ∧ w'.cell? ⟨g, 0, none⟩ = some (.int .i64 512) ∧ EngAt .u64 w' g 138 (firstS rw6 q) (fun _ => 0) 0 ∧ Below w.heap.size w w' := by
  obtain ⟨p0, p1, p2, p3, p4, p5, p6, p7, p8, p9, p10, p11, p12, p13⟩ := hru
  go_enter Tryd.func19, Tryd.ntmps19
  go_wp2_with (first
    | (go_at_call 38; refine (start64_any q hq _ hsq).mono ?_; rintro e w' ⟨rfl, hb⟩; clear hsq)
    | (refine wpList_build2 rfl 44 0 2 (.tmp 13) (.tmp 15) rfl (.int .i64 512) (.agg (engVals .u64 (firstS rw6 q) (fun _ => 0) 0).toArray) rfl rfl (hashVals 512 zSt (firstS rw6 q)).toArray (built512 (firstS rw6 q)) ?_))
  go_ret
  have e1 := hash_bits w' 512 zSt (firstS rw6 q)
  have e2 := hash_wide w' 512 zSt (firstS rw6 q)
  exact ⟨w'.heap.size, rfl, hb.size, e1, e2, hb.alloc hb.size _⟩
end Go.Proofs.YtlfofbkanifocaaDoor
