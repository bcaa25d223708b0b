/- New bytes, their strings, and what Fit of the laws does in the model. -/
import Derived.Test.YtjbjbnooocbleaaLProd
import Derived.Test.YtjbjbnooocbleaaApi
import Derived.Test.YtjbjbnooocbleaaLent
namespace Go.Proofs.Ytjbjbnooocbleaa
open Go.RowKit
theorem byt_small (n j : Nat) (hn : n < 256) : (if j = 0 then n else 0) = byt n j := by
  unfold byt
  by_cases e : j = 0
  · rw [if_pos e, e]; simp; omega
  · have h : 256 ≤ 256 ^ j := by
      have := Nat.pow_le_pow_right (n := 256) (by decide) (show 1 ≤ j by omega)
      simpa using this
    rw [if_neg e, Nat.div_eq_of_lt (by omega)]
theorem NewB.still {w w' w2 : World} {v : Value} {n : Nat} {X : Nat → Nat} (h : NewB w w' v n X) (h0 : 0 < n) (hb : Below w'.heap.size w' w2) : NewB w w2 v n X := by
  obtain ⟨g, rfl, hg, hr⟩ := h
  exact ⟨g, rfl, hg, hr.below hb (block_lt_of_cell (hr 0 h0).1)⟩
theorem byt_all (n : Nat) : ∀ j, byt n j < 256 := fun j => byt_lt n j
theorem ofB_byt32 (n : Nat) (h : n < 115792089237316195423570985008687907853269984665640564039457584007913129639936) : ofB (byt n) 32 = n := by
  rw [ofB_byt, show (256 : Nat) ^ 32 = 115792089237316195423570985008687907853269984665640564039457584007913129639936 from rfl, Nat.mod_eq_of_lt h]
theorem lent_bytes {W : World} {g cap n : Nat} {bs : Nat → Nat} (hr : RowAt .u8 W g 0 (n + 2) (cat n bs room)) (hc : n + 2 ≤ cap) : BytesIn W (.slice (some ⟨g, 0, none⟩) n cap) n bs :=
  .inr ⟨g, 0, cap, rfl, block_lt_of_cell (hr 0 (by omega)).1, by omega, fun j hj => by have := (hr j (by omega)).1; rwa [cat_left hj] at this⟩
theorem ans_str {W : World} {v : Value} {n : Nat} {X : Nat → Nat} (h : BytesIn W v n X) (hX : ∀ j, X j < 256) : ∃ xo c, v = .slice xo n c ∧ ∀ W', Below W.heap.size W W' → (convert 22 9 v).run Try.prog W' = .ok (.string (strB n X)) W' := by
  have hc := h.conv hX
  obtain ⟨xo, c, rfl, -⟩ := h.src
  exact ⟨xo, c, rfl, hc⟩
/-- Bytes of an answer: a slice, its string in every later world. -/
structure Str (W : World) (v : Value) (S : ByteArray) : Prop where
  form : ∃ xo n c, v = .slice xo n c
  conv : ∀ W', Below W.heap.size W W' → (convert 22 9 v).run Try.prog W' = .ok (.string S) W'
theorem Str.of {W : World} {v : Value} {n : Nat} {X : Nat → Nat} (h : BytesIn W v n X) (hX : ∀ j, X j < 256) : Str W v (strB n X) := by
  obtain ⟨xo, c, rfl, hc⟩ := ans_str h hX
  exact ⟨⟨xo, n, c, rfl⟩, hc⟩
theorem Str.still {W W2 : World} {v : Value} {S : ByteArray} (h : Str W v S) (hb : Below W.heap.size W W2) : Str W2 v S := ⟨h.form, fun W' h2 => h.conv W' (hb.trans (h2.mono hb.size))⟩
theorem Str.nil (W : World) : Str W (.slice none 0 0) (strB 0 (fun _ => 0)) := ⟨⟨none, 0, 0, rfl⟩, fun W' _ => conv_nil W'⟩
/-- Whatever two calls of a pair of bytes answer: the same string, the same error. -/
def Pair (f g : FuncId) (w : World) (p : Array Value) (q : Array Value) : Prop := ∃ (S : ByteArray) (er : Int), (∀ W, Below w.heap.size w W → Calls Try.prog f p W fun e w' => ∃ v, e = .returned (.tuple #[v, .int .i64 er]) ∧ Str w' v S ∧ Below W.heap.size W w') ∧ (∀ W, Below w.heap.size w W → Calls Try.prog g q W fun e w' => ∃ v, e = .returned (.tuple #[v, .int .i64 er]) ∧ Str w' v S ∧ Below W.heap.size W w')
theorem NewB.str {w w' : World} {v : Value} {N : Nat} (h : NewB w w' v 32 (byt N)) : Str w' v (strB 32 (byt N)) := Str.of (h.bytes (by decide)) (byt_all N)
/-- The first bytes of any, zeros behind. -/
def fitB (n : Nat) (bs : Nat → Nat) (j : Nat) : Nat := if j < n then bs j else 0
theorem fitB_lt {n : Nat} {bs : Nat → Nat} (h : ∀ j, bs j < 256) (j : Nat) : fitB n bs j < 256 := by
  unfold fitB; split
  · exact h j
  · decide
theorem infoByte : (Try.prog.info? 5).map (·.size) = some 1 := by kernel_rfl
set_option maxRecDepth 20000 in
theorem fit_any (v : Value) (n : Nat) (bs : Nat → Nat) (w : World) (hv : BytesIn w v n bs) : Calls Try.prog 20 #[v] w fun e w' => ∃ s, e = .returned s ∧ NewB w w' s 32 (fitB n bs) ∧ Below w.heap.size w w' := by
  have hmk := make_bytes w 32 32 rfl (by decide)
  obtain ⟨W, hW⟩ : ∃ W, W = w.alloc (.cells (zb 32) 5) := ⟨_, rfl⟩
  have hrow : RowAt .u8 W w.heap.size 0 32 (fun _ => 0) := by rw [hW]; exact RowAt.fresh (fun j hj => zb_at 32 j hj)
  have hb : Below w.heap.size w W := by rw [hW]; exact (Below.refl _ _).alloc (Nat.le_refl _) _
  obtain ⟨xo, c, rfl, hxn, hnc, hsrc⟩ := hv.src
  have src := hsrc W hb
  have hth := hrow.there
  obtain ⟨m, hm⟩ : ∃ m, m = Nat.min n 32 := ⟨_, rfl⟩
  have hsp := hrow.splice 0 m bs (by rw [hm, Nat.zero_add]; exact Nat.min_le_right _ _)
  rw [← hW] at hmk
  have Hm := Hid.mk' hm
  clear hW hv hsrc hm
  go_enter Try.func20, Try.ntmps20
  go_wp2_with (first
    | rw [hmk]
    | (refine wpList_copy_bytes rfl _ _ 22 22 rfl 5 Try.underlying22 infoByte w.heap.size 0 32 32 xo n c rfl rfl m bs src Hm.out hth ?_))
  go_ret
  refine ⟨_, rfl, ⟨w.heap.size, rfl, Nat.le_refl _, ?_⟩, below_setCells (Nat.le_refl _) _ _ _ hb⟩
  refine hsp.congr (fun j hj => ?_)
  have := Hm.out
  unfold over fitB
  by_cases e : j < n
  · rw [if_pos ⟨Nat.zero_le _, by rw [Nat.zero_add, this]; exact Nat.lt_min.2 ⟨e, hj⟩⟩, if_pos e, Nat.sub_zero]
  · rw [if_neg (fun h => by have h2 := h.2; rw [Nat.zero_add, this] at h2; exact e (Nat.lt_min.1 h2).1), if_neg e]
end Go.Proofs.Ytjbjbnooocbleaa
