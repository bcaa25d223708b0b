/- Numbers of the program in memory: new ones, stores, comparisons. -/
import Derived.Test.YtinigkpidhbgcaaLRow
import Derived.Laws.StructEq
namespace Go.Proofs.Ytinigkpidhbgcaa
open Go.RowKit
theorem fresh4' (w : World) : RW (w.alloc (.cells #[.int .u64 0, .int .u64 0, .int .u64 0, .int .u64 0] 46)) w.heap.size 0 (c4 0) := by
  rw [c4_zero]; exact RW.fresh w _ _
theorem num_store {o : Oper} {a : Act} {cur V : World} {K : Act → World → Prop} {Q : Exit → Act → World → Prop} (x y : Operand) (ho : o.op = .store 46 x y) (g m n : Nat) (hx : a.eval x = .pointer (some ⟨g, 0, none⟩)) (hy : a.eval y = numV n) (r : RW cur g 0 (c4 m)) (S : Below V.heap.size V cur) (G : V.heap.size ≤ g)
    (h : ∀ W1, RW W1 g 0 (c4 n) → Below V.heap.size V W1 → (∀ b p cs, b ≠ g → RW cur b p cs → RW W1 b p cs) → K (a.put o.dst undef) W1) : o.wp Try.prog a cur K Q :=
  wp_store_mid 46 x y ho g 0 (c4 n).toArray hx hy r.there info4 (one4 n) (h _ (r.stored (c4 n) rfl) (below_setCells G _ _ _ S) (fun _ _ _ hne hr => hr.far g 0 (c4 n) (.inl hne)))
theorem fresh4t (w : World) (n : Nat) : (w.alloc (.cells #[.int .u64 0, .int .u64 0, .int .u64 0, .int .u64 0] 46)).there w.heap.size 0 (c4 n).toArray.size := (fresh4' w).there
theorem info4a (n : Nat) : (Try.prog.info? 46).map (·.size) = some (c4 n).toArray.size := info4
theorem yields_build2 {P : Program} {ops : Array Oper} {S : World → Prop} {o : Oper} {a : Act} (hw : Region.wanted o (yielded ops a.tmps) = true) (t : TypeId) (i j : Nat) (x y : Operand) (ho : o.op = .build t #[(i, x), (j, y)]) (u v : Value) (hx : a.eval x = u) (hy : a.eval y = v) (cells : Array Value)
    (hf : P.built t [(i, u), (j, v)] = some cells) : YieldsIf P ops S o (.agg cells) a := by
  refine .inl ⟨hw, fun w _ => ?_⟩
  unfold execOp
  simp only [ho, List.map_toArray, List.map_cons, List.map_nil, hx, hy]
  rw [Sem.run_bind, run_build w t _ cells hf]
  rfl
theorem lw_inj {a b : Nat} (ha : a < pF) (hb : b < pF) (h0 : lw a 0 = lw b 0) (h1 : lw a 1 = lw b 1) (h2 : lw a 2 = lw b 2) (h3 : lw a 3 = lw b 3) : a = b := by
  unfold lw at *
  unfold pF at *
  simp only [Nat.pow_zero, Nat.div_one, Nat.pow_one] at *
  omega
theorem run_isAgg_int {P : Program} (w : World) (e : Nat) (k : IntKind) (he : P.underlying e = some (.int k)) : (isAgg e).run P w = .ok false w := by
  simp [isAgg, run_underlying he]
theorem run_eq4 {P : Program} (w : World) (d t e : Nat) (k : IntKind) (ht : P.underlying t = some (.array 4 e)) (he : P.underlying e = some (.int k)) (hs : (sizeOf e).run P w = .ok 1 w) (a0 a1 a2 a3 b0 b1 b2 b3 : Int) :
    (Op.equalIn (d + 2) t (.agg #[.int k a0, .int k a1, .int k a2, .int k a3]) (.agg #[.int k b0, .int k b1, .int k b2, .int k b3])).run P w = .ok (a0 == b0 && a1 == b1 && a2 == b2 && a3 == b3) w := by
  rw [Op.equalIn]
  simp only [Sem.run_bind, run_underlying ht, Result.andThen_ok, hs]
  have hp : ∀ (xs : Array Value) (i : Nat) (v : Value), xs[i]? = some v → (part e xs i).run P w = .ok v w := fun xs i v h => by
    simp [part, run_isAgg_int w e k he, h]
  simp only [Std.Legacy.Range.forIn_eq_forIn_range', Std.Legacy.Range.size]
  simp [List.range', hp, run_equalIn_int w d e k k _ _ he]
  cases h0 : (a0 == b0) <;> cases h1 : (a1 == b1) <;> cases h2 : (a2 == b2) <;> cases h3 : (a3 == b3) <;> simp_all
theorem part_num (w : World) (x0 x1 x2 x3 : Value) : (part 44 #[x0, x1, x2, x3] 0).run Try.prog w = .ok (.agg #[x0, x1, x2, x3]) w := by kernel_rfl
theorem eq_num (w : World) {a b : Nat} (ha : a < pF) (hb : b < pF) : (Op.equalIn 10000 46 (numV a) (numV b)).run Try.prog w = .ok (decide (a = b)) w := by
  unfold numV
  rw [show (10000 : Nat) = 9999 + 1 from rfl, run_equalIn_agg w 9999 46 _ _ (by kernel_rfl) (by kernel_rfl)]
  simp only [Program.fieldsOf, Try.underlying46, Op.eqFields]
  rw [if_pos (by decide)]
  simp only [Sem.run_bind]
  rw [part_num]
  simp only [Result.andThen_ok]
  rw [part_num]
  simp only [Result.andThen_ok]
  rw [show (9999 : Nat) = 9997 + 2 from rfl, run_eq4 w 9997 44 42 .u64 (by kernel_rfl) (by kernel_rfl) (by kernel_rfl)]
  simp only [Result.andThen_ok]
  by_cases h : a = b
  · subst h
    simp
  · have hn : ((lw a 0 : Int) == (lw b 0 : Int) && (lw a 1 : Int) == (lw b 1 : Int) && (lw a 2 : Int) == (lw b 2 : Int) && (lw a 3 : Int) == (lw b 3 : Int)) = false := by
      rcases Bool.eq_false_or_eq_true ((lw a 0 : Int) == (lw b 0 : Int) && (lw a 1 : Int) == (lw b 1 : Int) && (lw a 2 : Int) == (lw b 2 : Int) && (lw a 3 : Int) == (lw b 3 : Int)) with e | e
      · exfalso
        simp only [Bool.and_eq_true, beq_iff_eq] at e
        exact h (lw_inj ha hb (by omega) (by omega) (by omega) (by omega))
      · exact e
    rw [hn, decide_eq_false h]
    simp
theorem exec_neq (w : World) {a b : Nat} (ha : a < pF) (hb : b < pF) (x y : Operand) : (do eqGuard .neq 46 x y (numV a) (numV b); binOp .neq 46 (numV a) (numV b) : Sem Value).run Try.prog w = .ok (.bool (!decide (a = b))) w := by
  rw [Sem.run_bind, show (eqGuard .neq 46 x y (numV a) (numV b)).run Try.prog w = .ok () w from run_eqGuard_agg w .neq 46 x y _ _ (by kernel_rfl)]
  simp only [Result.andThen_ok]
  rw [show (binOp .neq 46 (numV a) (numV b)).run Try.prog w = ((Op.equalIn 10000 46 (numV a) (numV b)).run Try.prog w).andThen fun b w' => .ok (.bool (!b)) w' from run_neq_struct w 46 _ _, eq_num w ha hb]
  rfl
theorem wpList_neq {ops : Array Oper} {rest : List Oper} {op : Oper} {a : Act} {w : World} {Q : Exit → Act → World → Prop} (hgd : op.guard = none) (x y : Operand) (t2 : TypeId) (ho : op.op = .binOp .neq 46 x y t2) (m n : Nat) (hm : m < pF) (hn : n < pF)
    (hx : a.eval x = numV m) (hy : a.eval y = numV n) (z : Bool) (hz : decide (m = n) = z) (h : wpList Try.prog ops Q rest (a.put op.dst (.bool (!z))) w) : wpList Try.prog ops Q (op :: rest) a w :=
  wpList_plain hgd fun K hK => by
    unfold Oper.wp execOp
    simp only [ho, hx, hy]
    rw [Sem.run_bind, exec_neq w hm hn, hz]
    exact hK _ _ h
theorem yields_neq {ops : Array Oper} {S : World → Prop} {o : Oper} {a : Act} (hw : Region.wanted o (yielded ops a.tmps) = true) (x y : Operand) (t2 : TypeId) (ho : o.op = .binOp .neq 46 x y t2) (m n : Nat) (hm : m < pF) (hn : n < pF)
    (hx : a.eval x = numV m) (hy : a.eval y = numV n) (z : Bool) (hz : decide (m = n) = z) : YieldsIf Try.prog ops S o (.bool (!z)) a := by
  refine .inl ⟨hw, fun w _ => ?_⟩
  unfold execOp
  simp only [ho, hx, hy]
  rw [Sem.run_bind, exec_neq w hm hn, hz]
  rfl
end Go.Proofs.Ytinigkpidhbgcaa
