/- Root of package field, and the reference's, in the model. -/
import Derived.Test.YtinigkpidhbgcaaDoorRRatioA
import Derived.Test.YtinigkpidhbgcaaDoorApi
namespace Go.Proofs.YtinigkpidhbgcaaDoor
open Go.RowKit
set_option maxRecDepth 20000 in
set_option maxHeartbeats 4000000 in
theorem froot_good (v u : Value) (bs cs : Nat → Nat) (hbs : ∀ j, bs j < 256) (hcs : ∀ j, cs j < 256) (w : World) (im : IM w) (hv : BytesIn w v 32 bs) (hu : BytesIn w u 32 cs) :
    Calls Tryd.prog 6 #[v, u] w fun e w' => ∃ s, e = .returned (.tuple #[s, .bool (rootP kP (ofB bs 32 % pF) (ofB cs 32 % pF)).isSome, .int .i64 0]) ∧ NewB w w' s 32 (byt ((rootP kP (ofB bs 32 % pF) (ofB cs 32 % pF)).getD 0)) ∧ Below w.heap.size w w' := by
  have cb := both_good v u bs cs hbs hcs w hv hu
  obtain ⟨xv, kv, rfl, -⟩ := hv.src
  obtain ⟨xu, ku, rfl, -⟩ := hu.src
  have hx : ofB bs 32 % pF < pF := Nat.mod_lt _ (by decide)
  have hy : ofB cs 32 % pF < pF := Nat.mod_lt _ (by decide)
  obtain ⟨x, hxe⟩ : ∃ x, x = ofB bs 32 % pF := ⟨_, rfl⟩
  obtain ⟨y, hye⟩ : ∃ y, y = ofB cs 32 % pF := ⟨_, rfl⟩
  rw [← hxe] at cb hx ⊢
  rw [← hye] at cb hy ⊢
  have cp := fun W (h : IM W) => rootq_any x y hx hy W h
  obtain ⟨N, hN⟩ : ∃ N, N = (rootP kP x y).getD 0 := ⟨_, rfl⟩
  obtain ⟨ok, hok⟩ : ∃ N, N = (rootP kP x y).isSome := ⟨_, rfl⟩
  have cq := fun W => bytes_any N W
  rw [← hN, ← hok] at cp
  rw [← hN, ← hok]
  obtain ⟨x0, x1, x2, x3, hxv⟩ := numV_ex x
  obtain ⟨y0, y1, y2, y3, hyv⟩ := numV_ex y
  obtain ⟨z0, z1, z2, z3, hzv⟩ := numV_ex N
  rw [hxv, hyv] at cb cp
  rw [hzv] at cp cq
  clear hv hu hxe hye hN hxv hyv hzv hok
  go_enter Tryd.func6, Tryd.ntmps6
  go_wp2_with (first
    | (go_at_call 16; refine cb.mono ?_; clear cb; rintro e w1 ⟨rfl, hb1⟩; (have im2 := fun (A B : Obj) => (im.still hb1).still (show Below w1.heap.size w1 ((w1.alloc A).alloc B) from ((Below.refl _ w1).alloc (Nat.le_refl _) _).alloc (by simp) _)))
    | (go_at_call 17; refine (cp _ (im2 _ _)).mono ?_; clear cp im2; rintro e w2 ⟨rfl, hb2⟩)
    | (go_at_call 18; refine (cq _).mono ?_; clear cq; rintro e w3 ⟨g, rfl, hg, hr, hb3⟩))
  go_ret3
  have hb12 : Below w1.heap.size w1 w2 := (((Below.refl _ w1).alloc (Nat.le_refl _) _).alloc (by simp) _).trans (hb2.mono (by simp; omega))
  have hbw2 : Below w.heap.size w w2 := hb1.trans (hb12.mono hb1.size)
  have hb23 : Below w2.heap.size w2 w3 := ((Below.refl _ w2).alloc (Nat.le_refl _) _).trans (hb3.mono (by simp))
  have hg2 : w2.heap.size ≤ g := Nat.le_trans (by simp) hg
  exact ⟨_, rfl, ⟨g, rfl, Nat.le_trans hbw2.size hg2, hr⟩, below_next hbw2 hb23⟩
set_option maxRecDepth 20000 in
set_option maxHeartbeats 2000000 in
theorem froot_bad (v u : Value) (n m : Nat) (bs cs : Nat → Nat) (hbs : ∀ j, bs j < 256) (hcs : ∀ j, cs j < 256) (w : World) (hv : BytesIn w v n bs) (hu : BytesIn w u m cs) (hbad : ¬(n = 32 ∧ m = 32)) :
    Calls Tryd.prog 6 #[v, u] w fun e w' => e = .returned (.tuple #[.slice none 0 0, .bool false, .int .i64 1]) ∧ Below w.heap.size w w' := by
  have cb := both_bad v u n m bs cs hbs hcs w hv hu hbad
  obtain ⟨xv, kv, rfl, -⟩ := hv.src
  obtain ⟨xu, ku, rfl, -⟩ := hu.src
  rw [numV_zero] at cb
  clear hv hu hbad
  go_enter Tryd.func6, Tryd.ntmps6
  go_wp2_with (first
    | (go_at_call 16; refine cb.mono ?_; clear cb; rintro e w1 ⟨rfl, hb1⟩))
  go_ret3
  exact ⟨rfl, (hb1.alloc hb1.size _).alloc (by have := hb1.size; simp; omega) _⟩
set_option maxRecDepth 20000 in
set_option maxHeartbeats 4000000 in
theorem rroot_good (v u : Value) (bs cs : Nat → Nat) (hbs : ∀ j, bs j < 256) (hcs : ∀ j, cs j < 256) (w : World) (hv : BytesIn w v 32 bs) (hu : BytesIn w u 32 cs) :
    Calls Tryd.prog 7 #[v, u] w fun e w' => ∃ s, e = .returned (.tuple #[s, .bool (rootR kP (ofB bs 32 % pF) (ofB cs 32 % pF)).isSome, .int .i64 0]) ∧ BytesIn w' s 32 (byt ((rootR kP (ofB bs 32 % pF) (ofB cs 32 % pF)).getD 0 % pF)) ∧ Below w.heap.size w w' := by
  have hz := zeroR
  have c1 := rfrom v bs hbs w hv
  have c2 := fun W (h : Below w.heap.size w W) => rfrom u cs hcs W (hu.still h)
  have hU : Rep (fromL bs) (ofB bs 32 % pF) := (rep_from bs hbs).cast (by rw [Nat.mod_mod])
  have hV : Rep (fromL cs) (ofB cs 32 % pF) := (rep_from cs hcs).cast (by rw [Nat.mod_mod])
  have c3 := fun W => rratio_any (fromL bs) (fromL cs) _ _ hU hV (Nat.mod_lt _ pF_pos) (Nat.mod_lt _ pF_pos) W
  obtain ⟨N, hN⟩ : ∃ N, N = (rootR kP (ofB bs 32 % pF) (ofB cs 32 % pF)).getD 0 := ⟨_, rfl⟩
  obtain ⟨ok, hok⟩ : ∃ N, N = (rootR kP (ofB bs 32 % pF) (ofB cs 32 % pF)).isSome := ⟨_, rfl⟩
  rw [← hN, ← hok] at c3
  rw [← hN, ← hok]
  have c4 : ∀ R, Rw R N → ∀ W, Calls Tryd.prog 22 #[.agg (i16 R).toArray] W fun e w' => ∃ v, e = .returned v ∧ Own W.heap.size w' v 32 (byt (N % pF)) ∧ Below W.heap.size W w' := fun R hR W => rbytes R (hR.dig.mono (by decide)) N hR.val W
  obtain ⟨xv, kv, rfl, -⟩ := hv.src
  obtain ⟨xu, ku, rfl, -⟩ := hu.src
  have cl := length_any xv xu 32 32 kv ku w
  rw [show decide (32 = 32 ∧ 32 = 32) = true from rfl] at cl
  obtain ⟨A, hA⟩ : ∃ A, A = refV (fromL bs) := ⟨_, rfl⟩
  obtain ⟨B, hB⟩ : ∃ B, B = refV (fromL cs) := ⟨_, rfl⟩
  rw [show rV (fromL bs) = refV (fromL bs) from rfl, show rV (fromL cs) = refV (fromL cs) from rfl] at c3
  rw [← hA] at c1 c3
  rw [← hB] at c2 c3
  clear hA hB hN hok hv hu hU hV
  go_enter Tryd.func7, Tryd.ntmps7
  go_wp2_with (first
    | (go_at_call 19; refine cl.mono ?_; clear cl; rintro e wl ⟨rfl, hw⟩; subst hw)
    | (go_at_call 21; refine c1.mono ?_; clear c1; rintro e w1 ⟨rfl, hb1⟩)
    | (go_at_call 21; refine (c2 _ hb1).mono ?_; clear c2; rintro e w2 ⟨rfl, hb2⟩)
    | (go_at_call 20; refine (c3 _).mono ?_; clear c3; rintro e w3 ⟨R, rfl, hR, hb3⟩; (have hbw3 := below_next (below_next hb1 hb2) hb3); rw [show rV R = .agg (i16 R).toArray from rfl]; (have t3 := freshRt w3 R); (have z3 := freshR' w3); (obtain ⟨V, hV⟩ : ∃ V, V = (w3.alloc (.cells zI 46)).setCells w3.heap.size 0 (i16 R) := ⟨_, rfl⟩); (have rR : RW V w3.heap.size 0 (i16 R) := by rw [hV]; exact z3.stored (i16 R) (by rw [i16_len, i16_len])); (have bV : Below w3.heap.size w3 V := by rw [hV]; exact below_setCells (Nat.le_refl _) _ _ _ ((Below.refl _ _).alloc (Nat.le_refl _) _)); (have HV := Hid.mk' hV); clear hV z3)
    | (with_reducible (refine id (?_ : wpList _ _ _ _ _ _)); refine wpList_store_mid rfl 46 _ _ rfl w3.heap.size 0 (i16 R).toArray rfl rfl t3 (infoIA R) (oneI R) ?_; rw [List.toList_toArray, ← HV.out]; clear t3 HV)
    | (refine wpList_load_mid rfl 46 _ rfl w3.heap.size 0 rfl (i16 R) _ rR.range Tryd.underlying46 rfl (infoI R) ?_)
    | (go_at_call 22; refine (c4 R hR _).mono ?_; clear c4; rintro e w4 ⟨vv, rfl, own, hb4⟩))
  go_ret3
  exact ⟨_, rfl, BytesIn.of_own own, below_next (below_next hbw3 bV) hb4⟩
theorem rroot_bad (x y : Option Addr) (n m c d : Nat) (w : World) (hbad : ¬(n = 32 ∧ m = 32)) :
    Calls Tryd.prog 7 #[.slice x n c, .slice y m d] w fun e w' => e = .returned (.tuple #[.slice none 0 0, .bool false, .int .i64 1]) ∧ w' = w := by
  have cl := length_any x y n m c d w
  rw [decide_eq_false hbad] at cl
  clear hbad
  go_enter Tryd.func7, Tryd.ntmps7
  go_wp2_with (go_at_call 19; refine cl.mono ?_; clear cl; rintro e wl ⟨rfl, hw⟩; subst hw)
  go_ret3
  exact ⟨rfl, rfl⟩
end Go.Proofs.YtinigkpidhbgcaaDoor
