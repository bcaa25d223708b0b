/- What Canon, Add, Sub, Mul and Swap of package field do in the model. -/
import Derived.Test.YtinigkpidhbgcaaBoth
namespace Go.Proofs.Ytinigkpidhbgcaa
open Go.RowKit
/-- New bytes: so many, in a block of their own. -/
def NewB (w w' : World) (v : Value) (n : Nat) (X : Nat → Nat) : Prop := ∃ g, v = .slice (some ⟨g, 0, none⟩) n n ∧ w.heap.size ≤ g ∧ RowAt .u8 w' g 0 n X
theorem NewB.bytes {w w' : World} {v : Value} {n : Nat} {X : Nat → Nat} (h : NewB w w' v n X) (h0 : 0 < n) : BytesIn w' v n X := by
  obtain ⟨g, rfl, -, hr⟩ := h
  exact .inr ⟨g, 0, n, rfl, block_lt_of_cell (hr 0 h0).1, Nat.le_refl _, fun j hj => (hr j hj).1⟩
set_option maxRecDepth 20000 in
set_option maxHeartbeats 2000000 in
theorem add_good (v u : Value) (bs cs : Nat → Nat) (hbs : ∀ j, bs j < 256) (hcs : ∀ j, cs j < 256) (w : World) (hv : BytesIn w v 32 bs) (hu : BytesIn w u 32 cs) :
    Calls Try.prog 11 #[v, u] w fun e w' => ∃ s, e = .returned (.tuple #[s, .int .i64 0]) ∧ NewB w w' s 32 (byt (((ofB bs 32 % pF) + (ofB cs 32 % pF)) % pF)) ∧ Below w.heap.size w w' := by
  have cb := both_good v u bs cs hbs hcs w hv hu
  obtain ⟨xv, kv, rfl, -⟩ := hv.src
  obtain ⟨xu, ku, rfl, -⟩ := hu.src
  have hx : ofB bs 32 % pF < pF := Nat.mod_lt _ (by decide)
  have hy : ofB cs 32 % pF < pF := Nat.mod_lt _ (by decide)
  obtain ⟨x, hxe⟩ : ∃ x, x = ofB bs 32 % pF := ⟨_, rfl⟩
  obtain ⟨y, hye⟩ : ∃ y, y = ofB cs 32 % pF := ⟨_, rfl⟩
  rw [← hxe] at cb hx ⊢
  rw [← hye] at cb hy ⊢
  have cp := fun W => plus_any x y hx hy W
  have cq := fun W => bytes_any ((x + y) % pF) W
  obtain ⟨N, hN⟩ : ∃ N, N = (x + y) % pF := ⟨_, rfl⟩
  rw [← hN] at cp cq ⊢
  obtain ⟨x0, x1, x2, x3, hxv⟩ := numV_ex x
  obtain ⟨y0, y1, y2, y3, hyv⟩ := numV_ex y
  obtain ⟨z0, z1, z2, z3, hzv⟩ := numV_ex N
  rw [hxv, hyv] at cb cp
  rw [hzv] at cp cq
  clear hv hu hxe hye hN hxv hyv hzv
  go_enter Try.func11, Try.ntmps11
  go_wp2_with (first
    | (go_at_call 44; refine cb.mono ?_; clear cb; rintro e w1 ⟨rfl, hb1⟩)
    | (go_at_call 35; refine (cp _).mono ?_; clear cp; rintro e w2 ⟨rfl, hb2⟩)
    | (go_at_call 31; refine (cq _).mono ?_; clear cq; rintro e w3 ⟨g, rfl, hg, hr, hb3⟩))
  go_ret2
  have hb12 : Below w1.heap.size w1 w2 := (((Below.refl _ w1).alloc (Nat.le_refl _) _).alloc (by simp) _).trans (hb2.mono (by simp; omega))
  have hbw2 : Below w.heap.size w w2 := hb1.trans (hb12.mono hb1.size)
  exact ⟨_, rfl, ⟨g, rfl, by have := hbw2.size; omega, hr⟩, hbw2.trans (hb3.mono hbw2.size)⟩
set_option maxRecDepth 20000 in
set_option maxHeartbeats 2000000 in
theorem add_bad (v u : Value) (n m : Nat) (bs cs : Nat → Nat) (hbs : ∀ j, bs j < 256) (hcs : ∀ j, cs j < 256) (w : World) (hv : BytesIn w v n bs) (hu : BytesIn w u m cs) (hbad : ¬(n = 32 ∧ m = 32)) :
    Calls Try.prog 11 #[v, u] w fun e w' => e = .returned (.tuple #[.slice none 0 0, .int .i64 1]) ∧ Below w.heap.size w w' := by
  have cb := both_bad v u n m bs cs hbs hcs w hv hu hbad
  obtain ⟨xv, kv, rfl, -⟩ := hv.src
  obtain ⟨xu, ku, rfl, -⟩ := hu.src
  rw [numV_zero] at cb
  clear hv hu hbad
  go_enter Try.func11, Try.ntmps11
  go_wp2_with (first
    | (go_at_call 44; refine cb.mono ?_; clear cb; rintro e w1 ⟨rfl, hb1⟩))
  go_ret2
  exact ⟨rfl, (hb1.alloc hb1.size _).alloc (by have := hb1.size; simp; omega) _⟩
set_option maxRecDepth 20000 in
set_option maxHeartbeats 2000000 in
theorem sub_good (v u : Value) (bs cs : Nat → Nat) (hbs : ∀ j, bs j < 256) (hcs : ∀ j, cs j < 256) (w : World) (hv : BytesIn w v 32 bs) (hu : BytesIn w u 32 cs) :
    Calls Try.prog 13 #[v, u] w fun e w' => ∃ s, e = .returned (.tuple #[s, .int .i64 0]) ∧ NewB w w' s 32 (byt (((ofB bs 32 % pF) + pF - (ofB cs 32 % pF)) % pF)) ∧ Below w.heap.size w w' := by
  have cb := both_good v u bs cs hbs hcs w hv hu
  obtain ⟨xv, kv, rfl, -⟩ := hv.src
  obtain ⟨xu, ku, rfl, -⟩ := hu.src
  have hx : ofB bs 32 % pF < pF := Nat.mod_lt _ (by decide)
  have hy : ofB cs 32 % pF < pF := Nat.mod_lt _ (by decide)
  obtain ⟨x, hxe⟩ : ∃ x, x = ofB bs 32 % pF := ⟨_, rfl⟩
  obtain ⟨y, hye⟩ : ∃ y, y = ofB cs 32 % pF := ⟨_, rfl⟩
  rw [← hxe] at cb hx ⊢
  rw [← hye] at cb hy ⊢
  have cp := fun W => minus_any x y hx hy W
  have cq := fun W => bytes_any ((x + pF - y) % pF) W
  obtain ⟨N, hN⟩ : ∃ N, N = (x + pF - y) % pF := ⟨_, rfl⟩
  rw [← hN] at cp cq ⊢
  obtain ⟨x0, x1, x2, x3, hxv⟩ := numV_ex x
  obtain ⟨y0, y1, y2, y3, hyv⟩ := numV_ex y
  obtain ⟨z0, z1, z2, z3, hzv⟩ := numV_ex N
  rw [hxv, hyv] at cb cp
  rw [hzv] at cp cq
  clear hv hu hxe hye hN hxv hyv hzv
  go_enter Try.func13, Try.ntmps13
  go_wp2_with (first
    | (go_at_call 44; refine cb.mono ?_; clear cb; rintro e w1 ⟨rfl, hb1⟩)
    | (go_at_call 37; refine (cp _).mono ?_; clear cp; rintro e w2 ⟨rfl, hb2⟩)
    | (go_at_call 31; refine (cq _).mono ?_; clear cq; rintro e w3 ⟨g, rfl, hg, hr, hb3⟩))
  go_ret2
  have hb12 : Below w1.heap.size w1 w2 := (((Below.refl _ w1).alloc (Nat.le_refl _) _).alloc (by simp) _).trans (hb2.mono (by simp; omega))
  have hbw2 : Below w.heap.size w w2 := hb1.trans (hb12.mono hb1.size)
  exact ⟨_, rfl, ⟨g, rfl, by have := hbw2.size; omega, hr⟩, hbw2.trans (hb3.mono hbw2.size)⟩
set_option maxRecDepth 20000 in
set_option maxHeartbeats 2000000 in
theorem sub_bad (v u : Value) (n m : Nat) (bs cs : Nat → Nat) (hbs : ∀ j, bs j < 256) (hcs : ∀ j, cs j < 256) (w : World) (hv : BytesIn w v n bs) (hu : BytesIn w u m cs) (hbad : ¬(n = 32 ∧ m = 32)) :
    Calls Try.prog 13 #[v, u] w fun e w' => e = .returned (.tuple #[.slice none 0 0, .int .i64 1]) ∧ Below w.heap.size w w' := by
  have cb := both_bad v u n m bs cs hbs hcs w hv hu hbad
  obtain ⟨xv, kv, rfl, -⟩ := hv.src
  obtain ⟨xu, ku, rfl, -⟩ := hu.src
  rw [numV_zero] at cb
  clear hv hu hbad
  go_enter Try.func13, Try.ntmps13
  go_wp2_with (first
    | (go_at_call 44; refine cb.mono ?_; clear cb; rintro e w1 ⟨rfl, hb1⟩))
  go_ret2
  exact ⟨rfl, (hb1.alloc hb1.size _).alloc (by have := hb1.size; simp; omega) _⟩
set_option maxRecDepth 20000 in
set_option maxHeartbeats 2000000 in
theorem mul_good (v u : Value) (bs cs : Nat → Nat) (hbs : ∀ j, bs j < 256) (hcs : ∀ j, cs j < 256) (w : World) (hv : BytesIn w v 32 bs) (hu : BytesIn w u 32 cs) :
    Calls Try.prog 20 #[v, u] w fun e w' => ∃ s, e = .returned (.tuple #[s, .int .i64 0]) ∧ NewB w w' s 32 (byt ((ofB bs 32 % pF) * (ofB cs 32 % pF) % pF)) ∧ Below w.heap.size w w' := by
  have cb := both_good v u bs cs hbs hcs w hv hu
  obtain ⟨xv, kv, rfl, -⟩ := hv.src
  obtain ⟨xu, ku, rfl, -⟩ := hu.src
  have hx : ofB bs 32 % pF < pF := Nat.mod_lt _ (by decide)
  have hy : ofB cs 32 % pF < pF := Nat.mod_lt _ (by decide)
  obtain ⟨x, hxe⟩ : ∃ x, x = ofB bs 32 % pF := ⟨_, rfl⟩
  obtain ⟨y, hye⟩ : ∃ y, y = ofB cs 32 % pF := ⟨_, rfl⟩
  rw [← hxe] at cb hx ⊢
  rw [← hye] at cb hy ⊢
  have cp := fun W => times_any x y hx hy W
  have cq := fun W => bytes_any (x * y % pF) W
  obtain ⟨N, hN⟩ : ∃ N, N = x * y % pF := ⟨_, rfl⟩
  rw [← hN] at cp cq ⊢
  obtain ⟨x0, x1, x2, x3, hxv⟩ := numV_ex x
  obtain ⟨y0, y1, y2, y3, hyv⟩ := numV_ex y
  obtain ⟨z0, z1, z2, z3, hzv⟩ := numV_ex N
  rw [hxv, hyv] at cb cp
  rw [hzv] at cp cq
  clear hv hu hxe hye hN hxv hyv hzv
  go_enter Try.func20, Try.ntmps20
  go_wp2_with (first
    | (go_at_call 44; refine cb.mono ?_; clear cb; rintro e w1 ⟨rfl, hb1⟩)
    | (go_at_call 39; refine (cp _).mono ?_; clear cp; rintro e w2 ⟨rfl, hb2⟩)
    | (go_at_call 31; refine (cq _).mono ?_; clear cq; rintro e w3 ⟨g, rfl, hg, hr, hb3⟩))
  go_ret2
  have hb12 : Below w1.heap.size w1 w2 := (((Below.refl _ w1).alloc (Nat.le_refl _) _).alloc (by simp) _).trans (hb2.mono (by simp; omega))
  have hbw2 : Below w.heap.size w w2 := hb1.trans (hb12.mono hb1.size)
  exact ⟨_, rfl, ⟨g, rfl, by have := hbw2.size; omega, hr⟩, hbw2.trans (hb3.mono hbw2.size)⟩
set_option maxRecDepth 20000 in
set_option maxHeartbeats 2000000 in
theorem mul_bad (v u : Value) (n m : Nat) (bs cs : Nat → Nat) (hbs : ∀ j, bs j < 256) (hcs : ∀ j, cs j < 256) (w : World) (hv : BytesIn w v n bs) (hu : BytesIn w u m cs) (hbad : ¬(n = 32 ∧ m = 32)) :
    Calls Try.prog 20 #[v, u] w fun e w' => e = .returned (.tuple #[.slice none 0 0, .int .i64 1]) ∧ Below w.heap.size w w' := by
  have cb := both_bad v u n m bs cs hbs hcs w hv hu hbad
  obtain ⟨xv, kv, rfl, -⟩ := hv.src
  obtain ⟨xu, ku, rfl, -⟩ := hu.src
  rw [numV_zero] at cb
  clear hv hu hbad
  go_enter Try.func20, Try.ntmps20
  go_wp2_with (first
    | (go_at_call 44; refine cb.mono ?_; clear cb; rintro e w1 ⟨rfl, hb1⟩))
  go_ret2
  exact ⟨rfl, (hb1.alloc hb1.size _).alloc (by have := hb1.size; simp; omega) _⟩
set_option maxRecDepth 20000 in
set_option maxHeartbeats 2000000 in
theorem canon_good (v : Value) (bs : Nat → Nat) (hbs : ∀ j, bs j < 256) (w : World) (hv : BytesIn w v 32 bs) :
    Calls Try.prog 15 #[v] w fun e w' => ∃ s, e = .returned (.tuple #[s, .int .i64 0]) ∧ NewB w w' s 32 (byt (ofB bs 32 % pF)) ∧ Below w.heap.size w w' := by
  have cb : Calls Try.prog 30 #[v] w fun e w' => e = .returned (.tuple #[numV (ofB bs 32 % pF), .int .i64 0]) ∧ Below w.heap.size w w' := from_any v 32 bs hbs w hv
  obtain ⟨xv, kv, rfl, -⟩ := hv.src
  have cq := fun W => bytes_any (ofB bs 32 % pF) W
  obtain ⟨N, hN⟩ : ∃ N, N = ofB bs 32 % pF := ⟨_, rfl⟩
  rw [← hN] at cb cq ⊢
  obtain ⟨z0, z1, z2, z3, hzv⟩ := numV_ex N
  rw [hzv] at cb cq
  clear hv hN hzv
  go_enter Try.func15, Try.ntmps15
  go_wp2_with (first
    | (go_at_call 30; refine cb.mono ?_; clear cb; rintro e w1 ⟨rfl, hb1⟩)
    | (go_at_call 31; refine (cq _).mono ?_; clear cq; rintro e w3 ⟨g, rfl, hg, hr, hb3⟩))
  go_ret2
  have hbw2 := hb1.alloc hb1.size (.cells #[.int .u64 z0, .int .u64 z1, .int .u64 z2, .int .u64 z3] 46)
  exact ⟨_, rfl, ⟨g, rfl, by have := hbw2.size; omega, hr⟩, hbw2.trans (hb3.mono hbw2.size)⟩
set_option maxRecDepth 20000 in
set_option maxHeartbeats 2000000 in
theorem canon_bad (v : Value) (n : Nat) (bs : Nat → Nat) (hbs : ∀ j, bs j < 256) (w : World) (hv : BytesIn w v n bs) (hbad : ¬n = 32) :
    Calls Try.prog 15 #[v] w fun e w' => e = .returned (.tuple #[.slice none 0 0, .int .i64 1]) ∧ Below w.heap.size w w' := by
  have cb0 := from_any v n bs hbs w hv
  have e1 : fromE n = 1 := if_neg hbad
  have e2 : fromN n bs = 0 := if_neg hbad
  rw [e1, e2, numV_zero] at cb0
  have cb : Calls Try.prog 30 #[v] w fun e w' => e = .returned (.tuple #[.agg #[.int .u64 0, .int .u64 0, .int .u64 0, .int .u64 0], .int .i64 1]) ∧ Below w.heap.size w w' := cb0
  obtain ⟨xv, kv, rfl, -⟩ := hv.src
  clear hv hbad cb0 e1 e2
  go_enter Try.func15, Try.ntmps15
  go_wp2_with (first
    | (go_at_call 30; refine cb.mono ?_; clear cb; rintro e w1 ⟨rfl, hb1⟩))
  go_ret2
  exact ⟨rfl, hb1.alloc hb1.size _⟩
end Go.Proofs.Ytinigkpidhbgcaa
