/- Laws on bytes that are put behind bytes: the source may be nothing; rows of one's own. -/
import Derived.Test.YtlfofbkanifocaaDoorRefWords
import Derived.Test.YtlfofbkanifocaaDoorEng
import Derived.Deep.Upon
namespace Go.Proofs.YtlfofbkanifocaaDoor
open Go.RowKit
/-- One list of bytes behind another that has n. -/
def cat (n : Nat) (a b : Nat → Nat) : Nat → Nat := fun j => if j < n then a j else b (j - n)
theorem cat_lt {n p : Nat} {a b : Nat → Nat} (ha : ∀ j, a j < p) (hb : ∀ j, b j < p) : ∀ j, cat n a b j < p := fun j => by
  unfold cat; split
  · exact ha _
  · exact hb _
theorem cat_left {n : Nat} {a b : Nat → Nat} {j : Nat} (h : j < n) : cat n a b j = a j := by unfold cat; rw [if_pos h]
theorem cat_right {n : Nat} {a b : Nat → Nat} (j : Nat) : cat n a b (n + j) = b j := by unfold cat; rw [if_neg (by omega), Nat.add_sub_cancel_left]
theorem ints_add (K : IntKind) (n m : Nat) (X Y : Nat → Nat) : ints K n X ++ ints K m Y = ints K (n + m) (cat n X Y) := by
  apply List.ext_getElem?
  intro j
  by_cases h : j < n
  · rw [List.getElem?_append_left (by rw [ints_len]; exact h), ints_at _ _ _ j h, ints_at _ _ _ j (by omega), cat_left h]
  · rw [List.getElem?_append_right (by rw [ints_len]; omega), ints_len]
    by_cases h2 : j < n + m
    · rw [ints_at _ _ _ (j - n) (by omega), ints_at _ _ _ j h2]
      unfold cat; rw [if_neg h]
    · rw [List.getElem?_eq_none (by rw [ints_len]; omega), List.getElem?_eq_none (by rw [ints_len]; omega)]
theorem run_append_any {P : Program} (w : World) (t ty base e : TypeId) (i : TypeInfo) (z : Value) (bytes : Nat) (ht : P.underlying t = some (.slice e)) (hi : P.info? e = some i) (hz : i.zero = some z) (hsize : i.size = 1) (hby : i.bytes = bytes) (hzs : z.cells.size = 1)
    (v : Value) (n : Nat) (xs : List Value) (hown : w.ownsRow base e 1 v n xs) (xo : Option Addr) (m c : Nat) (bs : Nat → Nat) (hsrc : Src w xo m bs) (hxn : xo = none → c = 0)
    (h63 : n + m ≤ maxLen) (hbytes : (n + m) * bytes ≤ 140737488355328) (hbase : base ≤ w.heap.size) :
    ∃ v' w', (Builtin.append_ #[t, t] ty #[v, .slice xo m c]).run P w = .ok v' w' ∧ w'.ownsRow base e 1 v' (n + m) (xs ++ ints .u8 m bs) ∧ w.grownBy w' v.ownBlock := by
  cases xo with
  | none =>
    have hm : m = 0 := by
      rcases hsrc with h | ⟨_, _, h, _⟩
      · exact h
      · cases h
    subst hm
    have hc := hxn rfl
    subst hc
    refine ⟨v, w, ?_, by rw [show ints .u8 0 bs = [] from rfl, List.append_nil]; exact hown, ⟨rfl, rfl, rfl, Nat.le_refl _, fun _ _ _ => rfl⟩⟩
    rcases hown.2 with ⟨rfl, _⟩ | ⟨g, cap, cur, rfl, _, _, hnc, _⟩
    · exact run_append_nothing w t t ty e i ht hi none 0 0 (Nat.le_refl _) _ ⟨.inl ⟨_, ht⟩, fun _ => rfl, rfl, rfl, by simp, fun _ h => by cases h⟩
    · exact run_append_nothing w t t ty e i ht hi _ n cap hnc _ ⟨.inl ⟨_, ht⟩, fun _ => rfl, rfl, rfl, by simp, fun _ h => by cases h⟩
  | some ad =>
    have hnews : ∀ j u, (ints .u8 m bs)[j]? = some u → w.cell? (ad.add j) = some u := fun j u hu => by
      have hj : j < m := by have := (List.getElem?_eq_some_iff.1 hu).1; rwa [ints_len] at this
      rw [ints_at _ _ _ j hj] at hu
      rcases hsrc with h | ⟨bb, ob, h, hc⟩
      · omega
      · cases h
        rw [Addr.add_mid, ← hu]
        exact hc j hj
    obtain ⟨v', w', h1, h2, h3, _, _⟩ := run_append_own_at (P := P) w base t ty e i z 1 bytes ht hi hz hsize hby hzs (by decide) v n xs hown ad m c (ints .u8 m bs) (by rw [ints_len, Nat.mul_one]) hnews (ints_one _ _ _) h63 hbytes hbase
    exact ⟨v', w', h1, h2, h3⟩
theorem wpList_append_any {P : Program} {w : World} {ops : Array Oper} {rest : List Oper} {o : Oper} {a : Act} {Q : Exit → Act → World → Prop} (hgd : o.guard = none) (s x : Operand) (t : TypeId)
    (ho : o.op = .call { callee := .builtin .append, args := #[s, x], argTypes := #[t, t] }) (base e : TypeId) (i : TypeInfo) (z : Value) (bytes : Nat) (ht : P.underlying t = some (.slice e)) (hi : P.info? e = some i) (hz : i.zero = some z) (hsize : i.size = 1) (hby : i.bytes = bytes) (hzs : z.cells.size = 1)
    (v : Value) (n : Nat) (xs : List Value) (hs : a.eval s = v) (hown : w.ownsRow base e 1 v n xs) (xo : Option Addr) (m c : Nat) (bs : Nat → Nat) (hx : a.eval x = .slice xo m c) (hsrc : Src w xo m bs) (hxn : xo = none → c = 0)
    (h63 : n + m ≤ maxLen) (hbytes : (n + m) * bytes ≤ 140737488355328) (hbase : base ≤ w.heap.size)
    (h : ∀ v' w', w'.ownsRow base e 1 v' (n + m) (xs ++ ints .u8 m bs) → w.grownBy w' v.ownBlock → wpList P ops Q rest (a.put o.dst v') w') : wpList P ops Q (o :: rest) a w := by
  refine wpList_plain hgd fun K hK => ?_
  obtain ⟨v', w', h1, h2, h3⟩ := run_append_any (P := P) w t o.type base e i z bytes ht hi hz hsize hby hzs v n xs hown xo m c bs hsrc hxn h63 hbytes hbase
  unfold Oper.wp execOp
  simp only [ho, resolve, invoke, builtin, Sem.run_bind, Sem.run_pure, Result.andThen_ok, List.map_toArray, List.map_cons, List.map_nil, hs, hx, h1]
  exact hK _ _ (h v' w' h2 h3)
/-- Bytes of one's own: a row from base on. -/
def Own (base : Nat) (w : World) (v : Value) (n : Nat) (X : Nat → Nat) : Prop := w.ownsRow base 5 1 v n (ints .u8 n X)
theorem Own.below {base : Nat} {w w' : World} {v : Value} {n : Nat} {X : Nat → Nat} (h : Own base w v n X) (hb : Below w.heap.size w w') : Own base w' v n X := own_below h hb
theorem Own.alloc {base : Nat} {w : World} {v : Value} {n : Nat} {X : Nat → Nat} (h : Own base w v n X) (o : Obj) : Own base (w.alloc o) v n X := h.below ((Below.refl _ _).alloc (Nat.le_refl _) _)
theorem Own.congr {base : Nat} {w : World} {v : Value} {n : Nat} {X Y : Nat → Nat} (h : Own base w v n X) (e : ∀ j, j < n → X j = Y j) : Own base w v n Y := by
  unfold Own; rw [← ints_congr _ _ _ _ e]; exact h
theorem Own.form {base : Nat} {w : World} {v : Value} {n : Nat} {X : Nat → Nat} (h : Own base w v n X) : (v = .slice none 0 0 ∧ n = 0) ∨ ∃ g cap, v = .slice (some ⟨g, 0, none⟩) n cap ∧ base ≤ g ∧ g < w.heap.size ∧ n ≤ cap ∧ RowAt .u8 w g 0 n X := by
  rcases h.2 with hv | ⟨g, cap, cur, rfl, hb, hg, hn, _⟩
  · exact .inl hv
  · refine .inr ⟨g, cap, rfl, hb, (h.lt g rfl).2, hn, fun j hj => ?_⟩
    rw [Nat.zero_add]
    exact ⟨by rw [World.ownsRow.cellAt h j (by omega), ints_at _ _ _ j hj], World.ownsRow.frozenAt h j⟩
theorem Own.nil (base : Nat) (w : World) (X : Nat → Nat) : Own base w (.slice none 0 0) 0 X := World.ownsRow_nil w base _ _
theorem Own.lit (base : Nat) (w : World) (X : Nat → Nat) (h : base ≤ w.heap.size) : Own base (w.alloc (.cells #[] 5)) (.slice (some ⟨w.heap.size, 0, none⟩) 0 0) 0 X := World.ownsRow_lit w #[] 0 h (by decide) rfl
theorem Own.grown {B base : Nat} {a w w' : World} {v : Value} {n : Nat} {X : Nat → Nat} (h : Below B a w) (hg : w.grownBy w' v.ownBlock) (ho : Own base w v n X) (hB : B ≤ base) (hs : B ≤ w.heap.size) : Below B a w' := below_grown h hg ho hB hs
/-- One byte in a new block. -/
theorem src_one (w : World) (x : Int) (y : Nat) (h : x = (y : Int)) : Src (w.alloc (.cells #[.int .u8 x] 5)) (some ⟨w.heap.size, 0, none⟩) 1 (fun _ => y) := by
  subst h
  refine .inr ⟨w.heap.size, 0, rfl, fun j hj => ?_⟩
  have : j = 0 := by omega
  subst this
  simp
/-- Own bytes put behind own bytes. -/
theorem wpList_append_bytes {w : World} {ops : Array Oper} {rest : List Oper} {o : Oper} {a : Act} {Q : Exit → Act → World → Prop} (hgd : o.guard = none) (s x : Operand)
    (ho : o.op = .call { callee := .builtin .append, args := #[s, x], argTypes := #[22, 22] }) (base : Nat)
    (v : Value) (n : Nat) (X : Nat → Nat) (hs : a.eval s = v) (hown : Own base w v n X) (xo : Option Addr) (m c : Nat) (bs : Nat → Nat) (hx : a.eval x = .slice xo m c) (hsrc : Src w xo m bs) (hxn : xo = none → c = 0)
    (hl : n + m ≤ 140737488355328) (hbase : base ≤ w.heap.size)
    (h : ∀ v' w', Own base w' v' (n + m) (cat n X bs) → w.grownBy w' v.ownBlock → wpList Tryd.prog ops Q rest (a.put o.dst v') w') : wpList Tryd.prog ops Q (o :: rest) a w := by
  obtain ⟨i0, hi, hz0, hz1, hz2⟩ := info_parts Tryd.info5
  exact wpList_append_any hgd s x 22 ho base 5 i0 (.int .u8 0) 1 Tryd.underlying22 hi hz0 hz1 hz2 rfl v n _ hs hown xo m c bs hx hsrc hxn (by unfold maxLen; omega) (by omega) hbase (fun v' w' h1 h2 => h v' w' (by unfold Own; rw [← ints_add]; exact h1) h2)
/-- One byte more, out of a new block. -/
theorem wpList_append_next {w : World} {ops : Array Oper} {rest : List Oper} {o : Oper} {a : Act} {Q : Exit → Act → World → Prop} (hgd : o.guard = none) (s x : Operand)
    (ho : o.op = .call { callee := .builtin .append, args := #[s, x], argTypes := #[22, 22] }) (base : Nat)
    (v : Value) (n : Nat) (F : Nat → Nat) (y : Int) (hs : a.eval s = v) (hown : Own base w v n F) (hx : a.eval x = .slice (some ⟨w.heap.size, 0, none⟩) 1 1) (hF : y = (F n : Int))
    (hl : n + 1 ≤ 140737488355328) (hbase : base ≤ w.heap.size)
    (h : ∀ v' w', Own base w' v' (n + 1) F → Below base w w' → wpList Tryd.prog ops Q rest (a.put o.dst v') w') : wpList Tryd.prog ops Q (o :: rest) a (w.alloc (.cells #[.int .u8 y] 5)) := by
  have hb : Below base w (w.alloc (.cells #[.int .u8 y] 5)) := (Below.refl _ _).alloc hbase _
  have hz : base ≤ (w.alloc (.cells #[.int .u8 y] 5)).heap.size := by simp only [World.size_alloc]; omega
  refine wpList_append_bytes hgd s x ho base v n F hs (hown.alloc _) _ 1 1 (fun _ => F n) hx (src_one w y (F n) hF) (fun h => by cases h) hl hz (fun v' w' h1 h2 => h v' w' (h1.congr fun j hj => ?_) (Own.grown hb h2 (hown.alloc _) (Nat.le_refl _) hz))
  by_cases e : j < n
  · rw [cat_left e]
  · obtain rfl : j = n := by omega
    unfold cat; rw [if_neg e]
/-- Bytes put behind own bytes. -/
theorem run_append_bytes (w : World) (base : Nat) (v : Value) (n : Nat) (X : Nat → Nat) (hown : Own base w v n X) (xo : Option Addr) (m c : Nat) (bs : Nat → Nat) (hsrc : Src w xo m bs) (hxn : xo = none → c = 0)
    (hl : n + m ≤ 140737488355328) (hbase : base ≤ w.heap.size) :
    ∃ v' w', (Builtin.append_ #[22, 22] 22 #[v, .slice xo m c]).run Tryd.prog w = .ok v' w' ∧ Own base w' v' (n + m) (cat n X bs) ∧ Below base w w' := by
  obtain ⟨i0, hi, hz0, hz1, hz2⟩ := info_parts Tryd.info5
  obtain ⟨v', w', h1, h2, h3⟩ := run_append_any (P := Tryd.prog) w 22 22 base 5 i0 (.int .u8 0) 1 Tryd.underlying22 hi hz0 hz1 hz2 rfl v n _ hown xo m c bs hsrc hxn (by unfold maxLen; omega) (by omega) hbase
  exact ⟨v', w', h1, by unfold Own; rw [← ints_add]; exact h2, Own.grown (Below.refl _ _) h3 hown (Nat.le_refl _) hbase⟩
/-- Bytes put behind an empty list. -/
theorem run_append_empty (w : World) (base : Nat) (F : Nat → Nat) (xo : Option Addr) (m c : Nat) (hsrc : Src (w.alloc (.cells #[] 5)) xo m F) (hxn : xo = none → c = 0)
    (hl : m ≤ 140737488355328) (hbase : base ≤ w.heap.size) :
    ∃ v' w', (Builtin.append_ #[22, 22] 22 #[.slice (some ⟨w.heap.size, 0, none⟩) 0 0, .slice xo m c]).run Tryd.prog (w.alloc (.cells #[] 5)) = .ok v' w' ∧ Own base w' v' m F ∧ Below base w w' := by
  have hb : Below base w (w.alloc (.cells #[] 5)) := (Below.refl _ _).alloc hbase _
  obtain ⟨v', w', h1, h2, h3⟩ := run_append_bytes (w.alloc (.cells #[] 5)) base _ 0 F (Own.lit base w F hbase) xo m c F hsrc hxn (by omega) (by simp only [World.size_alloc]; omega)
  rw [Nat.zero_add] at h2
  exact ⟨v', w', h1, h2.congr (fun j _ => by unfold cat; rw [if_neg (by omega), Nat.sub_zero]), hb.trans h3⟩
theorem wpList_append_empty {w : World} {ops : Array Oper} {rest : List Oper} {o : Oper} {a : Act} {Q : Exit → Act → World → Prop} (hgd : o.guard = none) (s x : Operand)
    (ho : o.op = .call { callee := .builtin .append, args := #[s, x], argTypes := #[22, 22] }) (base : Nat)
    (F : Nat → Nat) (g : Nat) (hg : w.heap.size = g) (hs : a.eval s = .slice (some ⟨g, 0, none⟩) 0 0) (xo : Option Addr) (m c : Nat) (hx : a.eval x = .slice xo m c) (hsrc : Src (w.alloc (.cells #[] 5)) xo m F) (hxn : xo = none → c = 0)
    (hl : m ≤ 140737488355328) (hbase : base ≤ w.heap.size)
    (h : ∀ v' w', Own base w' v' m F → Below base w w' → wpList Tryd.prog ops Q rest (a.put o.dst v') w') : wpList Tryd.prog ops Q (o :: rest) a (w.alloc (.cells #[] 5)) := by
  subst hg
  have hb : Below base w (w.alloc (.cells #[] 5)) := (Below.refl _ _).alloc hbase _
  have hz : base ≤ (w.alloc (.cells #[] 5)).heap.size := by simp only [World.size_alloc]; omega
  refine wpList_append_bytes hgd s x ho base _ 0 F hs (Own.lit base w F hbase) xo m c F hx hsrc hxn (by omega) hz (fun v' w' h1 h2 => h v' w' ?_ (Own.grown hb h2 (Own.lit base w F hbase) (Nat.le_refl _) hz))
  rw [Nat.zero_add] at h1
  exact h1.congr fun j _ => by unfold cat; rw [if_neg (by omega), Nat.sub_zero]
theorem Own.start {base : Nat} {w : World} {v : Value} {n m : Nat} {X : Nat → Nat} (h : Own base w v m X) (e : m = n) : Own base w v n X := by subst e; exact h
end Go.Proofs.YtlfofbkanifocaaDoor
