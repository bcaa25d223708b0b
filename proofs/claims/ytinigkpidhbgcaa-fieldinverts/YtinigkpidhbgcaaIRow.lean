/- Rows of signed numbers in memory; the reference's carry as plain arithmetic. -/
import Derived.Test.YtinigkpidhbgcaaBts
namespace Go.Proofs.Ytinigkpidhbgcaa
open Go.RowKit
/-- n signed numbers in a block. -/
def IRow (w : World) (g n : Nat) (L : Nat → Int) : Prop := ∀ j, j < n → w.cell? ⟨g, j, none⟩ = some (.int .i64 (L j)) ∧ w.frozen? ⟨g, j, none⟩ = false
def intsI (n : Nat) (L : Nat → Int) : List Value := (List.range n).map fun j => .int .i64 (L j)
theorem intsI_len (n : Nat) (L : Nat → Int) : (intsI n L).length = n := by simp [intsI]
theorem intsI_size (n : Nat) (L : Nat → Int) : (intsI n L).toArray.size = n := by simp [intsI]
theorem intsI_at (n : Nat) (L : Nat → Int) (j : Nat) (h : j < n) : (intsI n L)[j]? = some (.int .i64 (L j)) := by simp [intsI, h]
theorem intsI_one (n : Nat) (L : Nat → Int) : ∀ v ∈ intsI n L, v.oneCell' = true := fun v hv => by
  simp only [intsI, List.mem_map] at hv
  obtain ⟨j, _, rfl⟩ := hv
  rfl
theorem intsI_congr {n : Nat} {L M : Nat → Int} (h : ∀ j, j < n → L j = M j) : intsI n L = intsI n M :=
  List.map_congr_left fun j hj => by rw [h j (List.mem_range.1 hj)]
/-- A number of the reference, as a value. -/
def refV (L : Nat → Int) : Value := .agg (intsI 16 L).toArray
theorem IRow.below {B : Nat} {w w' : World} {g n : Nat} {L : Nat → Int} (h : IRow w g n L) (hb : Below B w w') (hB : g < B) : IRow w' g n L := fun j hj =>
  ⟨(hb.cell (p := ⟨g, j, none⟩) hB).trans (h j hj).1, (hb.frozen (p := ⟨g, j, none⟩) hB).trans (h j hj).2⟩
theorem IRow.congr {w : World} {g n : Nat} {L M : Nat → Int} (h : IRow w g n L) (e : ∀ j, j < n → L j = M j) : IRow w g n M := fun j hj => by rw [← e j hj]; exact h j hj
theorem IRow.drew {w : World} {g n : Nat} {L : Nat → Int} (h : IRow w g n L) : IRow w.drew g n L := fun j hj => h j hj
def updI (L : Nat → Int) (i : Nat) (v : Int) : Nat → Int := fun j => if j = i then v else L j
theorem IRow.set {w : World} {g n : Nat} {L : Nat → Int} (h : IRow w g n L) {i : Nat} (hi : i < n) (v : Int) : IRow (w.setCell ⟨g, i, none⟩ (.int .i64 v)) g n (updI L i v) := fun j hj => by
  obtain ⟨h1, h2⟩ := h j hj
  by_cases e : j = i
  · subst e
    refine ⟨?_, ?_⟩
    · have := World.rangeAt_setCells_same w g j [.int .i64 v] (fun k hk => by
        have : k = 0 := by simpa using hk
        subst this
        rw [Nat.add_zero, h1]; exact ⟨rfl, h2⟩) 0 _ rfl
      simp only [updI, if_true]
      exact this
    · exact (World.frozen?_setCells g [.int .i64 v] j w _).trans h2
  · refine ⟨?_, (World.frozen?_setCells g [.int .i64 v] i w _).trans h2⟩
    simp only [updI, if_neg e]
    rw [← h1]
    exact World.cell?_setCells_out g [.int .i64 v] i w _ (fun _ _ => by show j < i ∨ i + 1 ≤ j; omega)
theorem IRow.far {w : World} {g n : Nat} {L : Nat → Int} (h : IRow w g n L) {a : Addr} (ha : a.block ≠ g) (v : Value) : IRow (w.setCell a v) g n L := fun j hj => by
  have hk : (w.setCell a v).heap[g]? = w.heap[g]? := Below.heap_setCell w a v g (Ne.symm ha)
  exact ⟨(World.cell?_of_block (w := w) hk).trans (h j hj).1, (World.frozen?_of_block (w := w) hk).trans (h j hj).2⟩
theorem IRow.range {w : World} {g n : Nat} {L : Nat → Int} (h : IRow w g n L) : w.rangeAt g 0 (intsI n L) := fun j v hv => by
  have hj : j < n := by have := (List.getElem?_eq_some_iff.1 hv).1; rwa [intsI_len] at this
  rw [intsI_at _ _ j hj] at hv
  cases hv
  rw [Nat.zero_add]; exact (h j hj).1
theorem IRow.there {w : World} {g n : Nat} {L : Nat → Int} (h : IRow w g n L) : w.there g 0 n := fun j hj => by
  rw [Nat.zero_add, (h j hj).1]; exact ⟨rfl, (h j hj).2⟩
theorem IRow.fresh (w : World) (cs : Array Value) (t : TypeId) {n : Nat} {L : Nat → Int} (h : ∀ j, j < n → cs[j]? = some (.int .i64 (L j))) : IRow (w.alloc (.cells cs t)) w.heap.size n L := fun j hj => by
  refine ⟨?_, by simp⟩
  have := h j hj
  simp [this]
theorem IRow.box (w : World) (n : Nat) (L : Nat → Int) (t : TypeId) : IRow (w.alloc (.cells (intsI n L).toArray t)) w.heap.size n L := IRow.fresh w _ t (fun j hj => by rw [List.getElem?_toArray]; exact intsI_at n L j hj)
theorem IRow.stored {w : World} {g n : Nat} {M L : Nat → Int} (h : IRow w g n M) : IRow (w.setCells g 0 (intsI n L)) g n L := fun j hj => by
  have hr := World.rangeAt_setCells_same w g 0 (intsI n L) (by rw [intsI_len]; exact h.there)
  refine ⟨?_, (World.frozen?_setCells g (intsI n L) 0 w _).trans (h j hj).2⟩
  have := hr j _ (intsI_at n L j hj)
  rwa [Nat.zero_add] at this
theorem IRow.farCells {w : World} {g n : Nat} {L : Nat → Int} (h : IRow w g n L) {k : Nat} (hk : g ≠ k) (o : Nat) (vs : List Value) : IRow (w.setCells k o vs) g n L := fun j hj => by
  have hb : (w.setCells k o vs).heap[g]? = w.heap[g]? := heap_setCells_other k vs o w g hk
  exact ⟨(World.cell?_of_block (w := w) hb).trans (h j hj).1, (World.frozen?_of_block (w := w) hb).trans (h j hj).2⟩
/-- The carry into limb i. -/
def cr (L : Nat → Int) : Nat → Int
  | 0 => 0
  | i + 1 => (L i + cr L i) / 65536
/-- Behind k rounds of a carry. -/
def stC (L : Nat → Int) (k : Nat) : Nat → Int := fun j => if j < k then (L j + cr L j) % 65536 else if j = k then L j + cr L j else L j
/-- Behind the whole carry. -/
def carryL (L : Nat → Int) : Nat → Int := fun j => if j = 0 then L 0 % 65536 + 38 * cr L 16 else (L j + cr L j) % 65536
/-- The number of n limbs. -/
def valR (L : Nat → Int) : Nat → Int
  | 0 => 0
  | n + 1 => valR L n + L n * 65536 ^ n
theorem valR_congr {L M : Nat → Int} : ∀ n, (∀ j, j < n → L j = M j) → valR L n = valR M n
  | 0, _ => rfl
  | n + 1, h => by rw [valR, valR, valR_congr n (fun j hj => h j (by omega)), h n (by omega)]
theorem valR_digits (L : Nat → Int) : ∀ n, valR (fun j => (L j + cr L j) % 65536) n + cr L n * 65536 ^ n = valR L n
  | 0 => by simp [valR, cr]
  | n + 1 => by
    have h := valR_digits L n
    rw [valR, valR, cr, ← h]
    have e : L n + cr L n = 65536 * ((L n + cr L n) / 65536) + (L n + cr L n) % 65536 := (Int.mul_ediv_add_emod _ _).symm
    have e2 : (L n + cr L n) * 65536 ^ n = (65536 * ((L n + cr L n) / 65536) + (L n + cr L n) % 65536) * 65536 ^ n := congrArg (· * 65536 ^ n) e
    rw [Int.add_mul, Int.add_mul] at e2
    have e3 : 65536 * ((L n + cr L n) / 65536) * 65536 ^ n = (L n + cr L n) / 65536 * 65536 ^ (n + 1) := by
      rw [Int.pow_succ, Int.mul_comm 65536, Int.mul_assoc, Int.mul_comm 65536 (65536 ^ n)]
    omega
/-- A carry keeps the number mod p. -/
theorem valR_carry (L : Nat → Int) : valR (carryL L) 16 = valR L 16 - cr L 16 * 2 * (pF : Int) := by
  have h := valR_digits L 16
  have h1 : ∀ n, valR (carryL L) (n + 1) = valR (fun j => (L j + cr L j) % 65536) (n + 1) + 38 * cr L 16 := by
    intro n
    induction n with
    | zero =>
      simp only [valR, carryL, if_true, cr]
      simp
    | succ n ih =>
      rw [valR, ih]
      conv => rhs; rw [valR]
      simp only [carryL, Nat.add_eq_zero_iff, Nat.one_ne_zero, and_false, if_false]
      omega
  have h2 : valR (carryL L) 16 = valR (fun j => (L j + cr L j) % 65536) 16 + 38 * cr L 16 := h1 15
  have e : (65536 : Int) ^ 16 = 2 * (pF : Int) + 38 := by decide
  have e2 : cr L 16 * (65536 : Int) ^ 16 = cr L 16 * 2 * (pF : Int) + 38 * cr L 16 := by rw [e, Int.mul_add, Int.mul_assoc, Int.mul_comm (cr L 16) 38]
  rw [h2, ← h, e2]
  generalize cr L 16 * 2 * (pF : Int) = Y
  omega
theorem cr_bd (L : Nat → Int) (M : Int) (hM : 2 ≤ M) (h : ∀ j, j < 16 → -M ≤ L j ∧ L j ≤ M) : ∀ i, i ≤ 16 → -M ≤ cr L i ∧ cr L i ≤ M
  | 0, _ => by simp [cr]; omega
  | i + 1, hi => by
    have h1 := cr_bd L M hM h i (by omega)
    have h2 := h i (by omega)
    rw [cr]; omega
theorem cr_bd2 (L : Nat → Int) (M : Int) (hM : 2 ≤ M) (h : ∀ j, j < 16 → -M ≤ L j ∧ L j ≤ M) (i : Nat) (hi : i ≤ 16) : -(M / 32768) - 1 ≤ cr L i ∧ cr L i ≤ M / 32768 + 1 := by
  cases i with
  | zero => simp [cr]; omega
  | succ i =>
    have h1 := cr_bd L M hM h i (by omega)
    have h2 := h i (by omega)
    rw [cr]; omega
/-- Digits but for the lowest one. -/
structure Dig (R : Int) (L : Nat → Int) : Prop where
  low : -R ≤ L 0 ∧ L 0 ≤ R
  dig : ∀ j, 0 < j → j < 16 → 0 ≤ L j ∧ L j ≤ 65535
theorem Dig.all {R : Int} {L : Nat → Int} (h : Dig R L) (hR : 65535 ≤ R) : ∀ j, j < 16 → -R ≤ L j ∧ L j ≤ R := fun j hj => by
  by_cases e : j = 0
  · rw [e]; exact h.low
  · have := h.dig j (by omega) hj; omega
theorem carry_dig (L : Nat → Int) (M : Int) (hM : 2 ≤ M) (h : ∀ j, j < 16 → -M ≤ L j ∧ L j ≤ M) : Dig (65535 + 38 * (M / 32768 + 1)) (carryL L) := by
  have h1 := cr_bd2 L M hM h 16 (Nat.le_refl _)
  refine ⟨?_, fun j h0 hj => ?_⟩
  · unfold carryL; rw [if_pos rfl]; omega
  · unfold carryL; rw [if_neg (by omega)]; omega
theorem cr_small (L : Nat → Int) (h : Dig 9007199254740992 L) : ∀ i, 4 ≤ i → i ≤ 16 → -1 ≤ cr L i ∧ cr L i ≤ 1 := by
  have c1 : -137438953472 ≤ cr L 1 ∧ cr L 1 ≤ 137438953472 := by
    have := h.low
    show _ ≤ (L 0 + 0) / 65536 ∧ (L 0 + 0) / 65536 ≤ _
    omega
  have c2 : -2097152 ≤ cr L 2 ∧ cr L 2 ≤ 2097153 := by
    have := h.dig 1 (by decide) (by decide)
    show _ ≤ (L 1 + cr L 1) / 65536 ∧ (L 1 + cr L 1) / 65536 ≤ _
    omega
  have c3 : -33 ≤ cr L 3 ∧ cr L 3 ≤ 33 := by
    have := h.dig 2 (by decide) (by decide)
    show _ ≤ (L 2 + cr L 2) / 65536 ∧ (L 2 + cr L 2) / 65536 ≤ _
    omega
  intro i h4 hi
  induction i with
  | zero => omega
  | succ i ih =>
    have hd := h.dig i (by omega) (by omega)
    rw [cr]
    by_cases e : i = 3
    · subst e; omega
    · have := ih (by omega) (by omega); omega
theorem carry_fine (L : Nat → Int) (h : Dig 9007199254740992 L) : Dig 65573 (carryL L) ∧ -38 ≤ carryL L 0 := by
  have h1 := cr_small L h 16 (by decide) (Nat.le_refl _)
  refine ⟨⟨?_, fun j h0 hj => ?_⟩, ?_⟩
  · unfold carryL; rw [if_pos rfl]; omega
  · unfold carryL; rw [if_neg (by omega)]; omega
  · unfold carryL; rw [if_pos rfl]; omega
/-- All limbs are digits. -/
def Nrm (L : Nat → Int) : Prop := ∀ j, j < 16 → 0 ≤ L j ∧ L j ≤ 65535
theorem carry_nrm (L : Nat → Int) (h : Dig 65573 L) (h0 : -38 ≤ L 0) : Nrm (carryL L) := by
  have key : ∀ i, 1 ≤ i → i ≤ 16 → (cr L i = 0 ∨ cr L i = cr L 1) := by
    intro i h1 hi
    have c1 : cr L 1 = (L 0 + 0) / 65536 := rfl
    have hl := h.low
    induction i with
    | zero => omega
    | succ i ih =>
      by_cases e : i = 0
      · subst e; exact .inr rfl
      · have hd := h.dig i (by omega) (by omega)
        rw [cr]
        rcases ih (by omega) (by omega) with e2 | e2 <;> rw [e2] <;> omega
  intro j hj
  by_cases e : j = 0
  · subst e
    unfold carryL; rw [if_pos rfl]
    have c1 : cr L 1 = (L 0 + 0) / 65536 := rfl
    have hl := h.low
    rcases key 16 (by decide) (Nat.le_refl _) with e2 | e2 <;> rw [e2] <;> omega
  · unfold carryL; rw [if_neg e]; omega
end Go.Proofs.Ytinigkpidhbgcaa
