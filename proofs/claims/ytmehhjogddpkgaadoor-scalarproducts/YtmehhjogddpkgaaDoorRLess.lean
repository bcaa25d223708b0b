/- The reference of layer 4: what order and less do in the model. -/
import Derived.Test.YtmehhjogddpkgaaDoorRInts
import Derived.Test.YtmehhjogddpkgaaDoorSMath
namespace Go.Proofs.YtmehhjogddpkgaaDoor
open Go.RowKit
theorem i64_and (a b : Nat) (ha : a < 9223372036854775808) (hb : b < 9223372036854775808) : bits .and .i64 (a : Int) (b : Int) = ((a &&& b : Nat) : Int) := by
  have hx : a &&& b ≤ a := Nat.and_le_left
  show IntKind.i64.wrap ((BitVec.ofInt 64 (a : Int) &&& BitVec.ofInt 64 (b : Int)).toNat : Int) = _
  rw [BitVec.toNat_and, ofInt_u64 a (by omega), ofInt_u64 b (by omega), IntKind.wrap_i64]
  omega
theorem i64_and255 (a : Nat) (ha : a < 9223372036854775808) : bits .and .i64 (a : Int) 255 = ((a % 256 : Nat) : Int) := by
  have h := i64_and a 255 ha (by decide)
  rw [Nat.and_two_pow_sub_one_eq_mod a 8] at h
  exact h
theorem i64_and1 (a : Nat) (ha : a < 9223372036854775808) : bits .and .i64 (a : Int) 1 = ((a % 2 : Nat) : Int) := by
  have h := i64_and a 1 ha (by decide)
  rw [Nat.and_two_pow_sub_one_eq_mod a 1] at h
  exact h
/-- So many zeros. -/
def zi (n : Nat) : Array Value := Array.replicate n (.int .i64 0)
theorem zi_at (n j : Nat) (h : j < n) : (zi n)[j]? = some (.int .i64 0) := by simp [zi, h]
theorem made_zi (n : Nat) : madeCells (Value.int .i64 0).cells (n * 1) = zi n := by
  apply Array.ext_getElem?
  intro j
  by_cases h : j < n
  · rw [zi_at n j h]; simp [madeCells, Value.cells, h, Nat.mod_one]
  · simp [madeCells, zi, Value.cells, h]
theorem make_ints (W : World) (n : Nat) (l : Int) (hl : l = (n : Int)) (hn : n ≤ 1000000) : (Instr.makeSlice 43 (.int .i64 l) (.int .i64 l)).run Tryd.prog W = .ok (.slice (some ⟨W.heap.size, 0, none⟩) n n) (W.alloc (.cells (zi n) 3)) := by
  subst hl
  obtain ⟨i0, hi, hz0, hz1, hz2⟩ := info_parts infoInt
  have := run_makeSlice (P := Tryd.prog) W 43 3 i0 (.int .i64 0) Tryd.underlying43 hi hz0 .i64 .i64 n n (by omega) (Int.le_refl _) (by rw [hz1]; simp; omega) (by rw [hz2]; omega) (by omega)
  rw [this, hz1]
  simp only [Int.toNat_natCast, made_zi]
theorem ofB_upd (X : Nat → Nat) (i v : Nat) : ofB (upd X i v) i = ofB X i := ofB_congr i (fun j hj => by unfold upd; rw [if_neg (by omega)])
set_option maxRecDepth 20000 in
set_option maxHeartbeats 2000000 in
theorem rless_any (ga gb ca cb : Nat) (X Y : Nat → Nat) (hX : ∀ j, X j < 256) (hY : ∀ j, Y j < 256) (w : World) (ha : RowAt .i64 w ga 0 34 X) (hb : RowAt .i64 w gb 0 34 Y) :
    Calls Tryd.prog 29 #[.slice (some ⟨ga, 0, none⟩) 34 ca, .slice (some ⟨gb, 0, none⟩) 34 cb] w fun e w' => ∃ (Z : Nat → Nat) (b : Nat), b ≤ 1 ∧ e = .returned (.tuple #[.slice (some ⟨w.heap.size, 0, none⟩) 34 34, .bool (decide (b = 0))]) ∧ RowAt .i64 w' w.heap.size 0 34 Z ∧ (∀ j, Z j < 256) ∧ ofB Z 34 + ofB Y 34 = ofB X 34 + 256 ^ 34 * b ∧ Below w.heap.size w w' := by
  have hmk := make_ints w 34 34 rfl (by decide)
  have hal : ga < w.heap.size := block_lt_of_cell (ha 0 (by decide)).1
  have hbl : gb < w.heap.size := block_lt_of_cell (hb 0 (by decide)).1
  have hb0 : Below w.heap.size w (w.alloc (.cells (zi 34) 3)) := (Below.refl _ _).alloc (Nat.le_refl _) _
  have hrow0 : RowAt .i64 (w.alloc (.cells (zi 34) 3)) w.heap.size 0 34 (fun _ => 0) := RowAt.fresh (fun j hj => zi_at 34 j hj)
  go_enter Tryd.func29, Tryd.ntmps29
  go_wp2_with (rw [hmk])
  go_loopw [8, 7] (fun i c wr => ∃ (k b : Nat) (Z : Nat → Nat), k ≤ 34 ∧ i = .int .i64 k ∧ c = .int .i64 b ∧ b ≤ 1 ∧ RowAt .i64 wr w.heap.size 0 34 Z ∧ (∀ j, Z j < 256) ∧ ofB Z k + ofB Y k = ofB X k + 256 ^ k * b ∧ Below w.heap.size w wr) (fun i _ _ => 34 - (intOf i).toNat)
  case atStart => exact ⟨0, 0, fun _ => 0, by decide, rfl, rfl, by decide, hrow0, fun _ => Nat.zero_lt_succ _, by simp [ofB], hb0⟩
  case round =>
    clear hrow0 hb0 hmk
    obtain ⟨k, b, Z, hk, rfl, rfl, hb1, hrow, hZ, hinv, hbel⟩ := hrel
    by_cases hlt : k < 34
    · have ra := (hbel.cell (p := ⟨ga, 0 + k, none⟩) hal).trans (ha k hlt).1
      have rb := (hbel.cell (p := ⟨gb, 0 + k, none⟩) hbl).trans (hb k hlt).1
      obtain ⟨rz, fz⟩ := hrow k hlt
      rw [Nat.zero_add] at ra rb rz fz
      have hx := hX k
      have hy := hY k
      have hi' := Hid.mk' hinv
      clear hinv
      have key : ∀ (u b' : Nat), u < 256 → b' ≤ 1 → u + Y k + b = X k + 256 * b' → ∃ (k' b'' : Nat) (Z' : Nat → Nat), k' = k + 1 ∧ b'' = b' ∧ Z' = upd Z k u ∧ (∀ j, Z' j < 256) ∧ ofB Z' (k + 1) + ofB Y (k + 1) = ofB X (k + 1) + 256 ^ (k + 1) * b' := fun u b' hu hb' e => by
        refine ⟨_, _, _, rfl, rfl, rfl, fun j => ?_, ?_⟩
        · unfold upd; split
          · exact hu
          · exact hZ j
        · have h1 := hi'.out
          rw [ofB, ofB, ofB, ofB_upd, show upd Z k u k = u by unfold upd; rw [if_pos rfl], Nat.pow_succ]
          generalize 256 ^ k = P at *
          have e2 : P * (u + Y k + b) = P * (X k + 256 * b') := by rw [e]
          rw [Nat.mul_add, Nat.mul_add, Nat.mul_add, ← Nat.mul_assoc] at e2
          omega
      by_cases hneg : X k < Y k + b
      · have hd : ((X k : Int) - (Y k : Int) - (b : Int)) < 0 := by omega
        obtain ⟨_, _, Z', rfl, rfl, rfl, hZ', hinv'⟩ := key (X k + 256 - Y k - b) 1 (by omega) (by decide) (by omega)
        have hin2 := Hid.mk' hinv'
        clear key hinv'
        go_wp2
        go_region
        go_wp2
        go_roundw
        case rel =>
          have h1 := (hrow.drew.set (i := k) hlt (v := (X k : Int) - (Y k : Int) - (b : Int) + 256) (u := X k + 256 - Y k - b) (by omega))
          rw [Nat.zero_add] at h1
          exact ⟨k + 1, 1, _, by omega, by go_num, rfl, by decide, h1, hZ', hin2.out, (hbel.drew).setCell (Nat.le_refl _) _⟩
        case measure => simp [intOf]; omega
      · have hd : ¬((X k : Int) - (Y k : Int) - (b : Int)) < 0 := by omega
        obtain ⟨_, _, Z', rfl, rfl, rfl, hZ', hinv'⟩ := key (X k - Y k - b) 0 (by omega) (by decide) (by omega)
        have hin2 := Hid.mk' hinv'
        clear key hinv'
        go_wp2
        go_region
        go_wp2
        go_roundw
        case rel =>
          have h1 := (hrow.drew.set (i := k) hlt (v := (X k : Int) - (Y k : Int) - (b : Int)) (u := X k - Y k - b) (by omega))
          rw [Nat.zero_add] at h1
          exact ⟨k + 1, 0, _, by omega, by go_num, rfl, by decide, h1, hZ', hin2.out, (hbel.drew).setCell (Nat.le_refl _) _⟩
        case measure => simp [intOf]; omega
    · have hke : k = 34 := by omega
      subst hke
      have hi' := Hid.mk' hinv
      clear hinv
      by_cases hb0 : b = 0
      · subst hb0
        go_wp2
        go_ret2
        exact ⟨Z, 0, by decide, rfl, hrow, hZ, hi'.out, hbel⟩
      · obtain rfl : b = 1 := by omega
        go_wp2
        go_ret2
        exact ⟨Z, 1, by decide, rfl, hrow, hZ, hi'.out, hbel⟩
end Go.Proofs.YtmehhjogddpkgaaDoor
