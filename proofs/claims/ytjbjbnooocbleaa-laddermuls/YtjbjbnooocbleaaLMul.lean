/- What Mul, Public, Shared and the laws' known answer do in the model. -/
import Derived.Test.YtjbjbnooocbleaaLClamp
namespace Go.Proofs.Ytjbjbnooocbleaa
open Go.RowKit
set_option maxRecDepth 20000 in
set_option maxHeartbeats 2000000 in
theorem lmul_key (v u : Value) (n : Nat) (bs : Nat → Nat) (w : World) (hv : BytesIn w v n bs) (hn : n ≠ 32) : Calls Try.prog 14 #[v, u] w fun e w' => e = .returned (.tuple #[.slice none 0 0, .int .i64 1]) ∧ Below w.heap.size w w' := by
  have hC := clamp_bad v n bs w hv hn
  go_enter Try.func14, Try.ntmps14
  go_wp2_with (go_at_call 9; refine hC.mono ?_; clear hC; rintro e w1 ⟨rfl, rfl⟩)
  exact bodyPost_ret (results_tmp2 rfl _ _ _) rfl ⟨rfl, Below.refl _ _⟩
set_option maxRecDepth 20000 in
set_option maxHeartbeats 2000000 in
theorem lmul_point (v u : Value) (m : Nat) (bs cs : Nat → Nat) (hbs : ∀ j, bs j < 256) (w : World) (hv : BytesIn w v 32 bs) (hu : BytesIn w u m cs) (hm : m ≠ 32) : Calls Try.prog 14 #[v, u] w fun e w' => e = .returned (.tuple #[.slice none 0 0, .int .i64 1]) ∧ Below w.heap.size w w' := by
  have hC := clamp_good v bs hbs w hv
  have hP : ∀ W, BytesIn W u m cs → Calls Try.prog 23 #[u] W fun e w' => e = .returned (.tuple #[.agg #[.int .u64 0, .int .u64 0, .int .u64 0, .int .u64 0], .int .i64 1]) ∧ Below W.heap.size W w' := fun W h => by
    have := pointOf_bad u m cs W h hm
    rw [numV_zero] at this; exact this
  go_enter Try.func14, Try.ntmps14
  go_wp2_with (first
    | (go_at_call 9; refine hC.mono ?_; clear hC; rintro e w1 ⟨s, rfl, hs, hb1⟩)
    | (go_at_call 23; refine (hP _ (hu.still hb1)).mono ?_; clear hP; rintro e w2 ⟨rfl, hb2⟩))
  exact bodyPost_ret (results_tmp2 rfl _ _ _) rfl ⟨rfl, by first | exact below_next hb1 (hb2.alloc hb2.size _) | exact below_next hb1 hb2⟩
set_option maxRecDepth 20000 in
set_option maxHeartbeats 2000000 in
theorem lmul_good (v u : Value) (bs cs : Nat → Nat) (hbs : ∀ j, bs j < 256) (hcs : ∀ j, cs j < 256) (w : World) (hv : BytesIn w v 32 bs) (hu : BytesIn w u 32 cs) : Calls Try.prog 14 #[v, u] w fun e w' => ∃ s, e = .returned (.tuple #[s, .int .i64 0]) ∧ NewB w w' s 32 (byt (mulL (clB bs) (ofB (loB cs) 32 % pF))) ∧ Below w.heap.size w w' := by
  have hC := clamp_good v bs hbs w hv
  obtain ⟨N, hN⟩ : ∃ N, N = ofB (loB cs) 32 % pF := ⟨_, rfl⟩
  have hNl : N < pF := by rw [hN]; exact Nat.mod_lt _ (by decide)
  have hP : ∀ W, BytesIn W u 32 cs → Calls Try.prog 23 #[u] W fun e w' => e = .returned (.tuple #[.agg (c4 N).toArray, .int .i64 0]) ∧ Below W.heap.size W w' := fun W h => by
    have := pointOf_good u cs hcs W h
    rw [← hN] at this; exact this
  rw [← hN]
  clear hN
  obtain ⟨M, hM⟩ : ∃ M, M = mulL (clB bs) N := ⟨_, rfl⟩
  rw [← hM]
  have hQ : ∀ g W, RowAt .u8 W g 0 32 (clB bs) → Calls Try.prog 24 #[.slice (some ⟨g, 0, none⟩) 32 32, .agg (c4 N).toArray] W fun e w' => e = .returned (numV M) ∧ Below W.heap.size W w' := fun g W h => by
    have := lproduct_any g 0 32 (clB bs) (clB_lt hbs) N hNl W (fun j hj => (h j hj).1)
    rw [← hM] at this; exact this
  have hB := fun W => bytes_any M W
  clear hM
  go_enter Try.func14, Try.ntmps14
  go_wp2_with (first
    | (go_at_call 9; refine hC.mono ?_; clear hC; rintro e w1 ⟨s, rfl, ⟨g, rfl, hg, hr⟩, hb1⟩)
    | (go_at_call 23; refine (hP _ (hu.still hb1)).mono ?_; clear hP; rintro e w2 ⟨rfl, hb2⟩; (have t2 := fresh4t w2 N); (have z2 := fresh4' w2); (obtain ⟨V, hV⟩ : ∃ V, V = (w2.alloc (.cells #[.int .u64 0, .int .u64 0, .int .u64 0, .int .u64 0] 42)).setCells w2.heap.size 0 (c4 N) := ⟨_, rfl⟩); (have rN : RW V w2.heap.size 0 (c4 N) := by rw [hV]; exact z2.stored (c4 N) rfl); (have bV : Below w2.heap.size w2 V := by rw [hV]; exact below_setCells (Nat.le_refl _) _ _ _ ((Below.refl _ _).alloc (Nat.le_refl _) _)); (have HV := Hid.mk' hV); clear hV z2)
    | (with_reducible (refine id (?_ : wpList _ _ _ _ _ _)); refine wpList_store_mid rfl 42 _ _ rfl w2.heap.size 0 (c4 N).toArray rfl rfl t2 (info4a N) (one4 N) ?_; rw [List.toList_toArray, ← HV.out]; clear t2 HV)
    | (refine wpList_load_mid rfl 42 _ rfl w2.heap.size 0 rfl (c4 N) _ rN.range Try.underlying42 rfl info4 ?_)
    | (go_at_call 24; refine (hQ g _ ((hr.below hb2 (block_lt_of_cell (hr 0 (by decide)).1)).below bV (Nat.lt_of_lt_of_le (block_lt_of_cell (hr 0 (by decide)).1) hb2.size))).mono ?_; clear hQ; rintro e w3 ⟨rfl, hb3⟩)
    | (go_at_call 25; refine (hB _).mono ?_; clear hB; rintro e w4 ⟨g4, rfl, hg4, hr4, hb4⟩))
  have s1 := hb1.size
  have s2 := hb2.size
  have s3 := bV.size
  have s4 := hb3.size
  exact bodyPost_ret (results_tmp2 rfl _ _ _) rfl ⟨_, rfl, ⟨g4, rfl, by omega, hr4⟩, (((hb1.trans (hb2.mono s1)).trans (bV.mono (by omega))).trans (hb3.mono (by omega))).trans (hb4.mono (by omega))⟩
end Go.Proofs.Ytjbjbnooocbleaa
