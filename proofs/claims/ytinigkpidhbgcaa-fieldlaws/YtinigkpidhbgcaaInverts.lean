/- The walk of the law FieldInverts in the model. -/
import Derived.Test.YtinigkpidhbgcaaSums
import Derived.Test.YtinigkpidhbgcaaRefPow
import Derived.Test.YtinigkpidhbgcaaInverse
namespace Go.Proofs.Ytinigkpidhbgcaa
open Go.RowKit
set_option maxRecDepth 20000 in
set_option maxHeartbeats 2000000 in
theorem inv_good (v : Value) (bs : Nat → Nat) (hbs : ∀ j, bs j < 256) (w : World) (hv : BytesIn w v 32 bs) :
    Calls Try.prog 22 #[v] w fun e w' => ∃ s, e = .returned (.tuple #[s, .int .i64 0]) ∧ NewB w w' s 32 (byt ((ofB bs 32 % pF) ^ (pF - 2) % pF)) ∧ Below w.heap.size w w' := by
  have cb : Calls Try.prog 30 #[v] w fun e w' => e = .returned (.tuple #[numV (ofB bs 32 % pF), .int .i64 0]) ∧ Below w.heap.size w w' := from_any v 32 bs hbs w hv
  obtain ⟨xv, kv, rfl, -⟩ := hv.src
  have hx : ofB bs 32 % pF < pF := Nat.mod_lt _ (by decide)
  obtain ⟨x, hxe⟩ : ∃ x, x = ofB bs 32 % pF := ⟨_, rfl⟩
  rw [← hxe] at cb hx ⊢
  have cp := fun W => inverse_any x hx W
  have cq := fun W => bytes_any (x ^ (pF - 2) % pF) W
  obtain ⟨N, hN⟩ : ∃ N, N = x ^ (pF - 2) % pF := ⟨_, rfl⟩
  rw [← hN] at cp cq ⊢
  obtain ⟨x0, x1, x2, x3, hxv⟩ := numV_ex x
  obtain ⟨z0, z1, z2, z3, hzv⟩ := numV_ex N
  rw [hxv] at cb cp
  rw [hzv] at cp cq
  clear hv hxe hN hxv hzv
  go_enter Try.func22, Try.ntmps22
  go_wp2_with (first
    | (go_at_call 30; refine cb.mono ?_; clear cb; rintro e w1 ⟨rfl, hb1⟩)
    | (go_at_call 41; refine (cp _).mono ?_; clear cp; rintro e w2 ⟨rfl, hb2⟩)
    | (go_at_call 31; refine (cq _).mono ?_; clear cq; rintro e w3 ⟨g, rfl, hg, hr, hb3⟩))
  go_ret2
  have hb12 : Below w1.heap.size w1 w2 := ((Below.refl _ w1).alloc (Nat.le_refl _) _).trans (hb2.mono (by simp))
  have hbw2 : Below w.heap.size w w2 := hb1.trans (hb12.mono hb1.size)
  exact ⟨_, rfl, ⟨g, rfl, by have := hbw2.size; omega, hr⟩, hbw2.trans (hb3.mono hbw2.size)⟩
set_option maxRecDepth 20000 in
set_option maxHeartbeats 2000000 in
theorem inv_bad (v : Value) (n : Nat) (bs : Nat → Nat) (hbs : ∀ j, bs j < 256) (w : World) (hv : BytesIn w v n bs) (hbad : ¬n = 32) :
    Calls Try.prog 22 #[v] w fun e w' => e = .returned (.tuple #[.slice none 0 0, .int .i64 1]) ∧ Below w.heap.size w w' := by
  have cb0 := from_any v n bs hbs w hv
  have e1 : fromE n = 1 := if_neg hbad
  have e2 : fromN n bs = 0 := if_neg hbad
  rw [e1, e2, numV_zero] at cb0
  have cb : Calls Try.prog 30 #[v] w fun e w' => e = .returned (.tuple #[.agg #[.int .u64 0, .int .u64 0, .int .u64 0, .int .u64 0], .int .i64 1]) ∧ Below w.heap.size w w' := cb0
  obtain ⟨xv, kv, rfl, -⟩ := hv.src
  clear hv hbad cb0 e1 e2
  go_enter Try.func22, Try.ntmps22
  go_wp2_with (first
    | (go_at_call 30; refine cb.mono ?_; clear cb; rintro e w1 ⟨rfl, hb1⟩))
  go_ret2
  exact ⟨rfl, hb1.alloc hb1.size _⟩
set_option maxRecDepth 20000 in
set_option maxHeartbeats 2000000 in
theorem rinv_good (v : Value) (bs : Nat → Nat) (hbs : ∀ j, bs j < 256) (w : World) (hv : BytesIn w v 32 bs) :
    Calls Try.prog 23 #[v] w fun e w' => ∃ s, e = .returned (.tuple #[s, .int .i64 0]) ∧ BytesIn w' s 32 (byt ((ofB bs 32 % pF) ^ (pF - 2) % pF)) ∧ Below w.heap.size w w' := by
  have c1 := rfrom v bs hbs w hv
  have c2 := fun W => rinverse_any (fromL bs) (ofB bs 32) (rep_from bs hbs) W
  have eE : 57896044618658097711785492504343953926634992332820282019728792003956564819947 = pF - 2 := by decide
  rw [eE] at c2
  rw [← Nat.pow_mod]
  obtain ⟨N, hN⟩ : ∃ N, N = ofB bs 32 ^ (pF - 2) := ⟨_, rfl⟩
  rw [← hN] at c2 ⊢
  have c4 := fun R (hR : Rep R N) W => rbytes R (hR.dig.mono (by decide)) N hR.val W
  obtain ⟨xv, kv, rfl, -⟩ := hv.src
  obtain ⟨A, hA⟩ : ∃ A, A = refV (fromL bs) := ⟨_, rfl⟩
  rw [← hA] at c1 c2
  clear hA hN hv eE
  go_enter Try.func23, Try.ntmps23
  go_wp2_with (first
    | (go_at_call 32; refine c1.mono ?_; clear c1; rintro e w1 ⟨rfl, hb1⟩)
    | (go_at_call 42; refine (c2 _).mono ?_; clear c2; rintro e w2 ⟨R, rfl, hR, hb2⟩; replace c4 := c4 R hR; (obtain ⟨B, hB⟩ : ∃ B, B = refV R := ⟨_, rfl⟩); rw [← hB] at c4 ⊢; clear hB)
    | (go_at_call 43; refine (c4 _).mono ?_; clear c4; rintro e w4 ⟨vv, rfl, own, hb4⟩))
  go_ret2
  have hbw2 := hb1.trans (hb2.mono hb1.size)
  exact ⟨_, rfl, BytesIn.of_own own, hbw2.trans (hb4.mono hbw2.size)⟩
theorem rinv_bad (x : Option Addr) (n c : Nat) (w : World) (hbad : ¬n = 32) :
    Calls Try.prog 23 #[.slice x n c] w fun e w' => e = .returned (.tuple #[.slice none 0 0, .int .i64 1]) ∧ w' = w := by
  have h' : ¬(n : Int) = 32 := by omega
  go_enter Try.func23, Try.ntmps23
  go_wp2
  go_ret2
  exact ⟨rfl, rfl⟩
theorem inv_pair (w : World) (x a : Value) (n : Nat) (bs : Nat → Nat) (hbs : ∀ j, bs j < 256) (hx : BytesIn w x n bs) (ha : BytesIn w a n bs) : Pair 22 23 w #[x] #[a] := by
  by_cases h : n = 32
  · subst h
    exact ⟨_, 0, fun W hW => (inv_good x bs hbs W (hx.still hW)).mono fun e w' ⟨s, he, hn, hbw⟩ => ⟨s, he, hn.str, hbw⟩, fun W hW => (rinv_good a bs hbs W (ha.still hW)).mono fun e w' ⟨s, he, hn, hbw⟩ => ⟨s, he, Str.of hn (byt_all _), hbw⟩⟩
  · obtain ⟨xa, ca, rfl, -⟩ := ha.src
    exact ⟨_, 1, fun W hW => (inv_bad x n bs hbs W (hx.still hW) h).mono fun e w' ⟨he, hbw⟩ => ⟨_, he, Str.nil _, hbw⟩, fun W hW => (rinv_bad xa n ca W h).mono fun e w' ⟨he, hw⟩ => ⟨_, he, Str.nil _, by rw [hw]; exact Below.refl _ _⟩⟩
set_option maxRecDepth 20000 in
set_option maxHeartbeats 4000000 in
theorem fieldInverts_any (a : Value) (n : Nat) (bs : Nat → Nat) (hbs : ∀ j, bs j < 256) (w : World) (ha : BytesIn w a n bs) (hn : n < 140737488355000) :
    Calls Try.prog 5 #[a] w fun e w' => e = .returned (.bool true) ∧ Below w.heap.size w w' := by
  have cl1 := lent_any a n bs w ha hn
  have hk := fun W => knows3_any W
  have hst := fun W g cap (hc : n + 2 ≤ cap) (hr : RowAt .u8 W g 0 (n + 2) (cat n bs room)) (hW : Below w.heap.size w W) => stays_any g cap n a bs hbs W hn hc hr (ha.still hW)
  have hadd := fun W x (hW : Below w.heap.size w W) hx => inv_pair W x a n bs hbs hx (ha.still hW)
  obtain ⟨xa, ca, rfl, -⟩ := ha.src
  clear ha
  go_enter Try.func5, Try.ntmps5
  go_wp2_with (first
    | (go_at_call 10; refine cl1.mono ?_; clear cl1; rintro e w2 ⟨g1, k1, rfl, hk1, hg1, hr1, hbw2⟩; (obtain ⟨SA, ea, pa1, pa2⟩ := hadd w2 _ hbw2 (lent_bytes hr1 hk1)); clear hadd)
    | (go_at_call 22; refine (pa1 w2 (Below.refl _ _)).mono ?_; clear pa1; rintro e w3 ⟨c, rfl, sc, hb3⟩; obtain ⟨⟨cx, cn, cc, rfl⟩, hc⟩ := sc)
    | (go_at_call 23; refine (pa2 w3 hb3).mono ?_; clear pa2; rintro e w8 ⟨d, rfl, sd, hb4⟩; obtain ⟨⟨dx, dn, dc, rfl⟩, hd⟩ := sd; (have h28 := hb3.trans (hb4.mono hb3.size)); replace hc := hc w8 hb4; replace hd := hd w8 (Below.refl _ _); (have hbw8 := hbw2.trans (h28.mono hbw2.size)); (have r18 := hr1.below h28 (block_lt_of_cell (hr1 0 (by omega)).1)); replace hst := hst w8 g1 k1 hk1 r18 hbw8; clear hr1 r18 hb3 hb4)
    | (go_at_call 17; refine (num3_any _ _).mono ?_; rintro e wn ⟨rfl, hwn⟩; subst hwn)
    | (go_at_call 18; refine hst.mono ?_; clear hst; rintro e w9 ⟨rfl, hb9⟩; (have hbw9 := hbw8.trans (hb9.mono hbw8.size)))
    | (go_at_call 19; refine (hk _).mono ?_; rintro e w11 ⟨rfl, hb11⟩; (have hbw11 := hbw9.trans (hb11.mono hbw9.size))))
  go_ret
  exact ⟨rfl, hbw11⟩
end Go.Proofs.Ytinigkpidhbgcaa
