/- What Canon, Add, Sub, Mul and Swap of package field do in the model. -/
import Derived.Test.YtjbjbnooocbleaaBoth
namespace Go.Proofs.Ytjbjbnooocbleaa
open Go.RowKit
/-- New bytes: so many, in a block of their own. -/
def NewB (w w' : World) (v : Value) (n : Nat) (X : Nat → Nat) : Prop := ∃ g, v = .slice (some ⟨g, 0, none⟩) n n ∧ w.heap.size ≤ g ∧ RowAt .u8 w' g 0 n X
theorem NewB.bytes {w w' : World} {v : Value} {n : Nat} {X : Nat → Nat} (h : NewB w w' v n X) (h0 : 0 < n) : BytesIn w' v n X := by
  obtain ⟨g, rfl, -, hr⟩ := h
  exact .inr ⟨g, 0, n, rfl, block_lt_of_cell (hr 0 h0).1, Nat.le_refl _, fun j hj => (hr j hj).1⟩
set_option maxRecDepth 20000 in
set_option maxHeartbeats 2000000 in
theorem canon_good (v : Value) (bs : Nat → Nat) (hbs : ∀ j, bs j < 256) (w : World) (hv : BytesIn w v 32 bs) :
    Calls Try.prog 21 #[v] w fun e w' => ∃ s, e = .returned (.tuple #[s, .int .i64 0]) ∧ NewB w w' s 32 (byt (ofB bs 32 % pF)) ∧ Below w.heap.size w w' := by
  have cb : Calls Try.prog 35 #[v] w fun e w' => e = .returned (.tuple #[numV (ofB bs 32 % pF), .int .i64 0]) ∧ Below w.heap.size w w' := from_any v 32 bs hbs w hv
  obtain ⟨xv, kv, rfl, -⟩ := hv.src
  have cq := fun W => bytes_any (ofB bs 32 % pF) W
  obtain ⟨N, hN⟩ : ∃ N, N = ofB bs 32 % pF := ⟨_, rfl⟩
  rw [← hN] at cb cq ⊢
  obtain ⟨z0, z1, z2, z3, hzv⟩ := numV_ex N
  rw [hzv] at cb cq
  clear hv hN hzv
  go_enter Try.func21, Try.ntmps21
  go_wp2_with (first
    | (go_at_call 35; refine cb.mono ?_; clear cb; rintro e w1 ⟨rfl, hb1⟩)
    | (go_at_call 25; refine (cq _).mono ?_; clear cq; rintro e w3 ⟨g, rfl, hg, hr, hb3⟩))
  go_ret2
  have hbw2 := hb1.alloc hb1.size (.cells #[.int .u64 z0, .int .u64 z1, .int .u64 z2, .int .u64 z3] 42)
  exact ⟨_, rfl, ⟨g, rfl, by have := hbw2.size; omega, hr⟩, hbw2.trans (hb3.mono hbw2.size)⟩
set_option maxRecDepth 20000 in
set_option maxHeartbeats 2000000 in
theorem canon_bad (v : Value) (n : Nat) (bs : Nat → Nat) (hbs : ∀ j, bs j < 256) (w : World) (hv : BytesIn w v n bs) (hbad : ¬n = 32) :
    Calls Try.prog 21 #[v] w fun e w' => e = .returned (.tuple #[.slice none 0 0, .int .i64 1]) ∧ Below w.heap.size w w' := by
  have cb0 := from_any v n bs hbs w hv
  have e1 : fromE n = 1 := if_neg hbad
  have e2 : fromN n bs = 0 := if_neg hbad
  rw [e1, e2, numV_zero] at cb0
  have cb : Calls Try.prog 35 #[v] w fun e w' => e = .returned (.tuple #[.agg #[.int .u64 0, .int .u64 0, .int .u64 0, .int .u64 0], .int .i64 1]) ∧ Below w.heap.size w w' := cb0
  obtain ⟨xv, kv, rfl, -⟩ := hv.src
  clear hv hbad cb0 e1 e2
  go_enter Try.func21, Try.ntmps21
  go_wp2_with (first
    | (go_at_call 35; refine cb.mono ?_; clear cb; rintro e w1 ⟨rfl, hb1⟩))
  go_ret2
  exact ⟨rfl, hb1.alloc hb1.size _⟩
end Go.Proofs.Ytjbjbnooocbleaa
