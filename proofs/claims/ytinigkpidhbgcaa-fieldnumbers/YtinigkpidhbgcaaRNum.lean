/- Numbers mod p as plain functions, the reference's limbs that stand for them, and rows of these in memory. -/
import Derived.Test.YtinigkpidhbgcaaRefSmall2
import Derived.Test.YtinigkpidhbgcaaLRow
namespace Go.Proofs.Ytinigkpidhbgcaa
open Go.RowKit
def fadd (a b : Nat) : Nat := (a + b) % pF
def fsub (a b : Nat) : Nat := (a + pF - b) % pF
def fmul (a b : Nat) : Nat := a * b % pF
def finv (a : Nat) : Nat := a ^ (pF - 2) % pF
theorem fadd_lt (a b : Nat) : fadd a b < pF := Nat.mod_lt _ (by decide)
theorem fsub_lt (a b : Nat) : fsub a b < pF := Nat.mod_lt _ (by decide)
theorem fmul_lt (a b : Nat) : fmul a b < pF := Nat.mod_lt _ (by decide)
theorem finv_lt (a : Nat) : finv a < pF := Nat.mod_lt _ (by decide)
theorem Rep.cast {L : Nat → Int} {x y : Nat} (h : Rep L x) (e : x % pF = y % pF) : Rep L y := ⟨h.dig, by rw [h.val, e]⟩
/-- As Rep, with a wider lowest limb. -/
structure Rw (L : Nat → Int) (x : Nat) : Prop where
  dig : Dig 65725 L
  val : valR L 16 % (pF : Int) = ((x % pF : Nat) : Int)
theorem Rep.wide {L : Nat → Int} {x : Nat} (h : Rep L x) : Rw L x := ⟨h.dig.mono (by decide), h.val⟩
theorem Rw.bd {L : Nat → Int} {x : Nat} (h : Rw L x) : ∀ j, j < 16 → -131072 ≤ L j ∧ L j ≤ 131072 := fun j hj => by have := h.dig.all (by decide) j hj; omega
theorem Rw.cast {L : Nat → Int} {x y : Nat} (h : Rw L x) (e : x % pF = y % pF) : Rw L y := ⟨h.dig, by rw [h.val, e]⟩
theorem rw_times {L M : Nat → Int} {x y : Nat} (hL : Rw L x) (hM : Rw M y) : Rep (timesL L M) (fmul x y) := by
  have hbd := tP_bd L M hL.bd hM.bd 15 16 (by decide) (Nat.le_refl _)
  have hF : ∀ j, j < 16 → -171523813933056 ≤ foldT (tP L M 15 16) 16 j ∧ foldT (tP L M 15 16) 16 j ≤ 171523813933056 := fun j hj => by
    have h1 := hbd j
    have h2 := hbd (j + 16)
    unfold foldT
    rw [if_pos hj]
    split <;> omega
  refine ⟨(carry_fine _ ((carry_dig _ 171523813933056 (by decide) hF).mono (by decide))).1, ?_⟩
  unfold timesL fmul
  rw [valR_carry, valR_carry, foldT_val, tP_all, show ∀ a b c d P : Int, a - 2 * P * d - b * 2 * P - c * 2 * P = a + P * (-(2 * d) - b * 2 - c * 2) from fun a b c d P => by
    rw [Int.mul_sub, Int.mul_sub, Int.mul_neg, Int.mul_comm P (b * 2), Int.mul_comm P (c * 2), Int.mul_comm 2 P, Int.mul_assoc P 2 d]; omega, Int.add_mul_emod_self_left, Int.mul_emod, hL.val, hM.val, ← Int.natCast_mul, nat_mod, ← Nat.mul_mod, Nat.mod_mod]
def plusL (L M : Nat → Int) : Nat → Int := carryL (fun j => L j + M j)
def minusL (L M : Nat → Int) : Nat → Int := carryL (fun j => L j - M j)
theorem rep_plus {L M : Nat → Int} {x y : Nat} (hL : Rep L x) (hM : Rep M y) : Rw (plusL L M) (fadd x y) := by
  have hb : ∀ j, j < 16 → -131146 ≤ L j + M j ∧ L j + M j ≤ 131146 := fun j hj => by
    have h1 := hL.dig.all (by decide) j hj
    have h2 := hM.dig.all (by decide) j hj
    omega
  refine ⟨(carry_dig _ 131146 (by decide) hb).mono (by decide), ?_⟩
  have e : valR (fun j => L j + M j) 16 = valR L 16 + valR M 16 := by
    have := valR_lin L M 1 16
    simp only [Int.one_mul] at this
    exact this
  unfold plusL fadd
  rw [valR_carry, e, show ∀ a b P : Int, a - b * 2 * P = a + P * (-(b * 2)) from fun a b P => by rw [Int.mul_neg, Int.mul_comm P]; omega, Int.add_mul_emod_self_left, Int.add_emod, hL.val, hM.val, ← Int.natCast_add, nat_mod, ← Nat.add_mod, Nat.mod_mod]
theorem rep_minus {L M : Nat → Int} {x y : Nat} (hL : Rep L x) (hM : Rep M y) (hy : y < pF) : Rw (minusL L M) (fsub x y) := by
  have hb : ∀ j, j < 16 → -131146 ≤ L j - M j ∧ L j - M j ≤ 131146 := fun j hj => by
    have h1 := hL.dig.all (by decide) j hj
    have h2 := hM.dig.all (by decide) j hj
    omega
  refine ⟨(carry_dig _ 131146 (by decide) hb).mono (by decide), ?_⟩
  have e : valR (fun j => L j - M j) 16 = valR L 16 - valR M 16 := by
    have := valR_lin L M (-1) 16
    simp only [Int.neg_mul, Int.one_mul, ← Int.sub_eq_add_neg] at this
    exact this
  unfold minusL fsub
  rw [valR_carry, e, show ∀ a b P : Int, a - b * 2 * P = a + P * (-(b * 2)) from fun a b P => by rw [Int.mul_neg, Int.mul_comm P]; omega, Int.add_mul_emod_self_left, Int.sub_emod, hL.val, hM.val, ← nat_mod, ← nat_mod, ← Int.sub_emod, Nat.mod_mod, ← nat_mod, show ((x + pF - y : Nat) : Int) = ((x : Int) - (y : Int)) + (pF : Int) * 1 by omega, Int.add_mul_emod_self_left]
/-- A number's cells. -/
def i16 (L : Nat → Int) : List Value := intsI 16 L
def rV (L : Nat → Int) : Value := .agg (i16 L).toArray
theorem i16_len (L : Nat → Int) : (i16 L).length = 16 := intsI_len 16 L
theorem zI_eq : zI = (i16 (fun _ => 0)).toArray := by kernel_rfl
theorem freshR (w : World) : ∃ w' g, w.alloc (.cells zI 52) = w' ∧ w.heap.size = g ∧ Below w.heap.size w w' ∧ RW w' g 0 (i16 (fun _ => 0)) := by
  refine ⟨_, _, rfl, rfl, (Below.refl _ _).alloc (Nat.le_refl _) _, ?_⟩
  rw [zI_eq]; exact RW.fresh w _ _
theorem infoI (L : Nat → Int) : (Try.prog.info? 52).map (·.size) = some (i16 L).length := infoRL L
theorem infoIA (L : Nat → Int) : (Try.prog.info? 52).map (·.size) = some (i16 L).toArray.size := infoRA L
theorem oneI (L : Nat → Int) : (i16 L).toArray.all (·.oneCell') = true := oneR L
theorem ref_store {o : Oper} {a : Act} {cur V : World} {K : Act → World → Prop} {Q : Exit → Act → World → Prop} (x y : Operand) (ho : o.op = .store 52 x y) (g : Nat) (M L : Nat → Int) (hx : a.eval x = .pointer (some ⟨g, 0, none⟩)) (hy : a.eval y = rV L) (r : RW cur g 0 (i16 M)) (S : Below V.heap.size V cur) (G : V.heap.size ≤ g)
    (h : ∀ W1, RW W1 g 0 (i16 L) → Below V.heap.size V W1 → K (a.put o.dst undef) W1) : o.wp Try.prog a cur K Q :=
  wp_store_mid 52 x y ho g 0 (i16 L).toArray hx hy (by rw [List.size_toArray, i16_len]; have := r.there; rwa [i16_len] at this) (infoIA L) (oneI L) (h _ (r.stored (i16 L) (by rw [i16_len, i16_len])) (below_setCells G _ _ _ S))
theorem freshR' (w : World) : RW (w.alloc (.cells zI 52)) w.heap.size 0 (i16 (fun _ => 0)) := by rw [zI_eq]; exact RW.fresh w _ _
theorem freshRt (w : World) (L : Nat → Int) : (w.alloc (.cells zI 52)).there w.heap.size 0 (i16 L).toArray.size := by
  have h := (freshR' w).there
  rw [i16_len] at h
  have e : (i16 L).toArray.size = 16 := by rw [List.size_toArray]; exact i16_len L
  rw [e]; exact h
end Go.Proofs.Ytinigkpidhbgcaa
