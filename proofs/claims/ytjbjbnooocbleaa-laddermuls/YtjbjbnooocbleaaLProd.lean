/- What product does in the model. -/
import Derived.Test.YtjbjbnooocbleaaLMath
namespace Go.Proofs.Ytjbjbnooocbleaa
open Go.RowKit Go.Shelf
attribute [local go_sem] Oper.semAt_some
/-- What the loop's blocks hold between two rounds. -/
structure PInv (w : World) (l D g cb pb rb bb ob cap : Nat) (rec : Loop) (ks : Nat → Nat) (u j : Nat) (W : World) : Prop where
  lp : W.heap[l]? = some (.loop rec)
  dfr : W.heap[D]? = some (.deferred (some []))
  cc : W.cell? ⟨cb, 0, none⟩ = some (.pointer (some ⟨g, 0, none⟩))
  pc : W.cell? ⟨pb, 0, none⟩ = some (.slice (some ⟨bb, ob, none⟩) 32 cap)
  bs : ∀ q, q < 32 → W.cell? ⟨bb, ob + q, none⟩ = some (.int .u8 (ks q))
  low : RW W g 0 (c8 (climbL u ks j).xl (climbL u ks j).zl)
  high : RW W g 8 (c8 (climbL u ks j).xh (climbL u ks j).zh)
  un : RW W g 16 (c4 u)
  res : RW W rb 0 (c4 0)
  bel : Below w.heap.size w W
set_option maxRecDepth 100000 in
set_option maxHeartbeats 4000000 in
theorem product_in (n : Nat) (bb ob cap : Nat) (ks : Nat → Nat) (hks : ∀ q, ks q < 256) (u : Nat) (hu : u < pF) (w : World) (hc : ∀ j, j < 32 → w.cell? ⟨bb, ob + j, none⟩ = some (.int .u8 (ks j))) :
    CallsIn Fence.wide n Try.prog 24 #[.slice (some ⟨bb, ob, none⟩) 32 cap, numV u] w fun e w' => e = .returned (numV (mulL ks u)) ∧ Below w.heap.size w w' := by
  obtain ⟨N, hN⟩ : ∃ N, N = mulL ks u := ⟨_, rfl⟩
  rw [← hN]
  have HN := Hid.mk' hN
  clear hN
  have hB : ∀ W, Calls Try.prog 36 #[.agg #[.int .u64 (lw u 0), .int .u64 (lw u 1), .int .u64 (lw u 2), .int .u64 (lw u 3)]] W fun e w' => ∃ g, e = .returned (.pointer (some ⟨g, 0, none⟩)) ∧ W.heap.size ≤ g ∧ Below W.heap.size W w' ∧ RW w' g 0 (c8 1 0) ∧ RW w' g 8 (c8 u 1) ∧ RW w' g 16 (c4 u) := fun W => begin_any u W
  have hD := fun W => bitsDown_any (some ⟨bb, ob, none⟩) 32 cap W
  rw [show numV u = .agg #[.int .u64 (lw u 0), .int .u64 (lw u 1), .int .u64 (lw u 2), .int .u64 (lw u 3)] from rfl]
  refine callsIn_of_wp_marks Try.func24 rfl trivial ?_ rfl
  simp only [Try.ntmps24, List.size_toArray, List.length_cons, List.length_nil, Nat.reduceAdd, Nat.reduceSub, Array.replicate_succ, Array.replicate_zero, List.push_toArray, List.append_toArray, List.nil_append, List.cons_append]
  gi_wp2_with (first
    | (refine ⟨trivial, (fun h => by cases h), ?_⟩; gi_at_call 36; refine (callsIn_wide.2 (hB _)).mono ?_; clear hB; rintro e w1 ⟨g, rfl, hg, hb1, r0, r8, r16⟩)
    | (refine ⟨trivial, (fun h => by cases h), ?_⟩; gi_at_call 37; refine (callsIn_wide.2 (hD _)).mono ?_; clear hD; rintro e w2 ⟨rfl, hw2⟩))
  obtain ⟨Z, hZ⟩ : ∃ Z, Z = (w.alloc (.cells #[.int .u64 (lw u 0), .int .u64 (lw u 1), .int .u64 (lw u 2), .int .u64 (lw u 3)] 42)).alloc (.cells #[.int .u64 0, .int .u64 0, .int .u64 0, .int .u64 0] 42) := ⟨_, rfl⟩
  have hZs : Z.heap.size = w.heap.size + 2 := by rw [hZ]; simp
  have hZb : Below w.heap.size w Z := by rw [hZ]; exact ((Below.refl _ _).alloc (Nat.le_refl _) _).alloc (by simp) _
  have hZr : RW Z (w.heap.size + 1) 0 (c4 0) := by
    have h := fresh4' (w.alloc (.cells #[.int .u64 (lw u 0), .int .u64 (lw u 1), .int .u64 (lw u 2), .int .u64 (lw u 3)] 42))
    rw [World.size_alloc] at h
    rw [hZ]; exact h
  rw [← hZ] at hg hb1
  rw [← hw2]
  have hw12 : Below w1.heap.size w1 w2 := by rw [hw2]; exact ((Below.refl _ _).alloc (Nat.le_refl _) _).alloc (by simp) _
  have hcc : w2.cell? ⟨w1.heap.size, 0, none⟩ = some (.pointer (some ⟨g, 0, none⟩)) := by rw [hw2]; simp
  have hpc : w2.cell? ⟨w1.heap.size + 1, 0, none⟩ = some (.slice (some ⟨bb, ob, none⟩) 32 cap) := by rw [hw2]; simp
  have hs2 : w2.heap.size = w1.heap.size + 2 := by rw [hw2]; simp
  have hs1 := hb1.size
  have hbl : bb < w.heap.size := block_lt_of_cell (hc 0 (by decide))
  have hb2 : Below w.heap.size w w2 := (hZb.trans (hb1.mono (by omega))).trans (hw12.mono (by omega))
  have hr2 : RW w2 (w.heap.size + 1) 0 (c4 0) := (hZr.still hb1).still hw12
  have hcg : g < w1.heap.size := r0.lt
  replace r0 := r0.still hw12
  replace r8 := r8.still hw12
  replace r16 := r16.still hw12
  clear hw2 hZ hZb hZr
  refine wpIn_range_with rfl (fun _ => trivial) (fun h => by cases h) rfl (enters_of Try.func46 (by kernel_rfl) rfl) (fun q0 e1 e2 e4 e5 e6 e7 => ?_)
  obtain ⟨W1, hW1⟩ : ∃ W1, W1 = (w2.alloc (.deferred (some []))).alloc (.loop q0) := ⟨_, rfl⟩
  obtain ⟨l, hl⟩ : ∃ l, l = w2.heap.size + 1 := ⟨_, rfl⟩
  have hbl1 : Below w2.heap.size w2 W1 := by rw [hW1]; exact ((Below.refl _ _).alloc (Nat.le_refl _) _).alloc (by simp) _
  have hl1 : W1.heap[l]? = some (.loop q0) := by
    rw [hW1, hl]; have := World.alloc_heap_new (w2.alloc (.deferred (some []))) (.loop q0); rwa [World.size_alloc] at this
  have hD1 : W1.heap[w2.heap.size]? = some (.deferred (some [])) := by
    rw [hW1]; exact (Below.heap_alloc _ _ _ (by simp)).trans (World.alloc_heap_new w2 _)
  rw [← hW1, ← hl]
  obtain ⟨D, hD⟩ : ∃ D, D = w2.heap.size := ⟨_, rfl⟩
  have hDl : D < l := by omega
  rw [← hD] at hD1 ⊢
  have hgc : g < w1.heap.size := by omega
  have hDc : D = w1.heap.size + 2 := by omega
  have hgw : w.heap.size + 1 < g := by omega
  clear hW1 hl
  have hI0 : PInv w l D g w1.heap.size (w1.heap.size + 1) (w.heap.size + 1) bb ob cap q0 ks u 0 W1 := ⟨hl1, hD1, (hbl1.cell (block_lt_of_cell hcc)).trans hcc, (hbl1.cell (block_lt_of_cell hpc)).trans hpc, fun q hq => ((hb2.trans (hbl1.mono hb2.size)).cell (p := ⟨bb, ob + q, none⟩) hbl).trans (hc q hq), r0.still hbl1, r8.still hbl1, r16.still hbl1, hr2.still hbl1, hb2.trans (hbl1.mono hb2.size)⟩
  have hY : ∀ j V, j < 255 → PInv w l D g w1.heap.size (w1.heap.size + 1) (w.heap.size + 1) bb ob cap q0 ks u j V → YieldAt Fence.wide (n - 1 - 1) Try.prog l #[.bool (bitN ks (254 - j))] V fun e W' => e = .returned (.bool true) ∧ PInv w l D g w1.heap.size (w1.heap.size + 1) (w.heap.size + 1) bb ob cap q0 ks u (j + 1) W' := by
    intro j V hj hI
    refine yield_round hI.lp (by rw [e5]; rfl) ?_
    rw [e4, e5, e6, e7]
    obtain ⟨V2, hV2⟩ : ∃ V2, V2 = V.putObj l (.loop { q0 with state := .busy }) := ⟨_, rfl⟩
    have hbV : But (fun k => k = l) V V2 := by rw [hV2]; exact but_put _ _ _
    have hlV : V2.heap[l]? = some (.loop { q0 with state := .busy }) := by rw [hV2]; exact World.putObj_heap_same (Array.getElem?_eq_some_iff.1 hI.lp).1
    have hDV : V2.heap[D]? = some (.deferred (some [])) := (hbV.block _ (Array.getElem?_eq_some_iff.1 hI.dfr).1 (by omega)).trans hI.dfr
    have hcV := hbV.cell hI.cc (by omega)
    have hpV := hbV.cell hI.pc (by omega)
    have hsV := BytesIn.but hI.bs hbV (by omega)
    have hbeg : (Instr.beginRound l).run Try.prog V = .ok () V2 := by rw [hV2]; exact run_beginRound hI.lp e1
    have hR := rung_any u g hu (bitN ks (254 - j)) (climbL u ks j) (climbL_ok u hu ks j) V2 (hI.low.but hbV (by omega)) (hI.high.but hbV (by omega)) (hI.un.but hbV (by omega))
    have hrV := hI.res.but hbV (by omega)
    have hBV : Below w.heap.size w V2 := hI.bel.trans (hbV.below hI.bel.size (by omega))
    have hfin : ∀ V3 : World, Out g 0 16 V2 V3 → RW V3 g 0 (c8 (climbL u ks (j + 1)).xl (climbL u ks (j + 1)).zl) → RW V3 g 8 (c8 (climbL u ks (j + 1)).xh (climbL u ks (j + 1)).zh) → RW V3 g 16 (c4 u) → ∃ v W', (Instr.endRound l none).run Try.prog V3 = .ok v W' ∧ (Ending.returned v = .returned (.bool true) ∧ PInv w l D g w1.heap.size (w1.heap.size + 1) (w.heap.size + 1) bb ob cap q0 ks u (j + 1) W') := by
      intro V3 hO x0 x8 x16
      have hb3 := hO.but
      have hl3 : V3.heap[l]? = some (.loop { q0 with state := .busy }) := (hb3.block l (Array.getElem?_eq_some_iff.1 hlV).1 (by omega)).trans hlV
      have hrec : ({ { q0 with state := .busy } with state := .ready, pending := none } : Loop) = q0 := loop_back q0 e1 e2
      have hb5 := but_put V3 l (.loop q0)
      refine ⟨_, _, run_endRound none hl3, rfl, ?_⟩
      simp only [Option.isNone_none, if_true, hrec]
      have hD3 := (hb3.block D (Array.getElem?_eq_some_iff.1 hDV).1 (by omega)).trans hDV
      exact ⟨World.putObj_heap_same (Array.getElem?_eq_some_iff.1 hl3).1, (hb5.block D (Array.getElem?_eq_some_iff.1 hD3).1 (by omega)).trans hD3, hb5.cell (hb3.cell hcV (by omega)) (by omega), hb5.cell (hb3.cell hpV (by omega)) (by omega), BytesIn.but (BytesIn.but hsV hb3 (by omega)) hb5 (by omega), x0.but hb5 (by omega), x8.but hb5 (by omega), x16.but hb5 (by omega), (hrV.but hb3 (by omega)).but hb5 (by omega), (hBV.trans (hb3.below hBV.size (by omega))).trans (hb5.below (Nat.le_trans hBV.size hb3.size) (by omega))⟩
    clear hV2 hI e1 e2 e4 e5 e6 e7 hI0 hbV hrV hBV hDV hlV hsV hpV
    gi_wp2
    try (refine ⟨V2, hbeg, ?_⟩; gi_wp2_with (refine ⟨trivial, (fun h => by cases h), ?_⟩; gi_at_call 38; refine (callsIn_wide.2 hR).mono ?_; clear hR; rintro e V3 ⟨rfl, hO, x0, x8, x16⟩))
    exact hfin V3 hO x0 x8 x16
  refine (iter_in (n - 1) l (w1.heap.size + 1) bb ob cap ks (PInv w l D g w1.heap.size (w1.heap.size + 1) (w.heap.size + 1) bb ob cap q0 ks u) (fun j W h => h.pc) (fun j W h => h.bs) hks hY W1 hI0).mono ?_
  rintro e W2 ⟨⟨v, rfl⟩, hF⟩
  obtain ⟨V, hV⟩ : ∃ V, V = W2.putObj l (.loop { q0 with state := .exhausted }) := ⟨_, rfl⟩
  have hbV : But (fun k => k = l) W2 V := by rw [hV]; exact but_put _ _ _
  have hDV : V.heap[D]? = some (.deferred (some [])) := (hbV.block _ (Array.getElem?_eq_some_iff.1 hF.dfr).1 (by omega)).trans hF.dfr
  have hcV := hbV.cell hF.cc (by omega)
  have hBV : Below w.heap.size w V := hF.bel.trans (hbV.below hF.bel.size (by omega))
  have hlow := hF.low.but hbV (by omega)
  have hres := hF.res.but hbV (by omega)
  have hok := climbL_ok u hu ks 255
  have hval := fun W => value_any (climbL u ks 255).xl (climbL u ks 255).zl (finv (climbL u ks 255).zl) (mulL ks u) (fun W => inverse_any _ hok.zl W) (fun W => times_any _ _ hok.xl (finv_lt _) W) W
  refine ⟨none, V, ?_, ?_⟩
  · have h := run_endLoop (P := Try.prog) hF.lp (by rw [e1]; simp)
    rw [← hV, e2] at h
    exact h
  clear hV hY hI0 e1 e2 e4 e5 e6 e7 hb1 hbl1 hl1 hD1 hF hok
  have rlow := hlow.range
  have tres := hres.there
  have hD' : D < V.heap.size := (Array.getElem?_eq_some_iff.1 hDV).1
  obtain ⟨xx, zz, hxx⟩ : ∃ xx zz, c8 (climbL u ks 255).xl (climbL u ks 255).zl = c8 xx zz ∧ ratV (climbL u ks 255).xl (climbL u ks 255).zl = ratV xx zz := ⟨_, _, rfl, rfl⟩
  rw [hxx.1] at rlow
  rw [hxx.2] at hval
  clear hxx hlow
  rw [← HN.out] at hval
  have hval' : ∀ W, Calls Try.prog 39 #[.agg (c8 xx zz).toArray] W fun e w' => e = .returned (.agg (c4 N).toArray) ∧ Below W.heap.size W w' := hval
  clear hval HN
  gi_wp2_with (first
    | (refine wpListIn_load_mid rfl 67 _ rfl g 0 rfl (c8 xx zz) _ rlow Try.underlying67 rfl info8 ?_)
    | (refine ⟨trivial, (fun h => by cases h), ?_⟩; gi_at_call 39; refine (callsIn_wide.2 (hval' _)).mono ?_; clear hval' rlow; rintro e W3 ⟨rfl, hb3⟩; (have hres3 := hres.still hb3); (have t3 : W3.there (w.heap.size + 1) 0 (c4 N).toArray.size := hres3.there))
    | (refine wpListIn_store_mid rfl 42 _ _ rfl (w.heap.size + 1) 0 (c4 N).toArray rfl rfl t3 (info4a N) (one4 N) ?_))
  subst hDc
  dsimp only [Act.put]
  have hD3 : W3.heap[w1.heap.size + 2]? = some (.deferred (some [])) := (hb3.block (w1.heap.size + 2) hD').trans hDV
  have hD4 : (W3.setCells (w.heap.size + 1) 0 (c4 N)).heap[w1.heap.size + 2]? = some (.deferred (some [])) := (heap_setCells_other _ _ _ _ _ (by omega)).trans hD3
  have hr4 : RW (W3.setCells (w.heap.size + 1) 0 (c4 N)) (w.heap.size + 1) 0 (c4 N) := hres3.stored (c4 N) rfl
  have hB4 : Below w.heap.size w (W3.setCells (w.heap.size + 1) 0 (c4 N)) := below_setCells (by omega) _ _ _ (hBV.trans (hb3.mono hBV.size))
  have hbV2 := but_put (W3.setCells (w.heap.size + 1) 0 (c4 N)) (w1.heap.size + 2) (.deferred none)
  have hr5 := hr4.but hbV2 (by omega)
  have hB5 := hB4.trans (hbV2.below hB4.size (by omega))
  refine ⟨by simp, .inl ⟨_, _, rfl, run_takeDeferred hD4, ?_⟩⟩
  exact ⟨_, results_cell_mid Try.results24 _ _ (w.heap.size + 1) 0 (c4 N) _ rfl hr5.range Try.underlying42 rfl info4, rfl, hB5⟩
theorem lproduct_any (bb ob cap : Nat) (ks : Nat → Nat) (hks : ∀ q, ks q < 256) (u : Nat) (hu : u < pF) (w : World) (hc : ∀ j, j < 32 → w.cell? ⟨bb, ob + j, none⟩ = some (.int .u8 (ks j))) :
    Calls Try.prog 24 #[.slice (some ⟨bb, ob, none⟩) 32 cap, numV u] w fun e w' => e = .returned (numV (mulL ks u)) ∧ Below w.heap.size w w' :=
  callsIn_wide.1 (product_in 9 bb ob cap ks hks u hu w hc)
end Go.Proofs.Ytjbjbnooocbleaa
