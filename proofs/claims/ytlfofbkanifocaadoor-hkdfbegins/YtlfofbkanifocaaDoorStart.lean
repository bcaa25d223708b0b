/- What start does in the model: a hash of nothing, at both widths; an engine as a value. -/
import Derived.Test.YtlfofbkanifocaaDoorEng
namespace Go.Proofs.YtlfofbkanifocaaDoor
open Go.RowKit
/-- An engine's cells as a list. -/
def engVals (K : IntKind) (s : St) (R : Nat → Nat) (c : Nat) : List Value := ints K 8 s.at ++ ints .u8 128 R ++ [.int .i64 c]
theorem engVals_len (K : IntKind) (s : St) (R : Nat → Nat) (c : Nat) : (engVals K s R c).length = 137 := by simp [engVals, ints_len]
theorem engVals_one (K : IntKind) (s : St) (R : Nat → Nat) (c : Nat) : ∀ v ∈ engVals K s R c, v.oneCell' = true := fun v hv => by
  simp only [engVals, List.mem_append, List.mem_singleton] at hv
  rcases hv with (hv | hv) | rfl
  · exact ints_one _ _ _ v hv
  · exact ints_one _ _ _ v hv
  · rfl
theorem engVals_st (K : IntKind) (s : St) (R : Nat → Nat) (c j : Nat) (h : j < 8) : (engVals K s R c)[j]? = some (.int K (s.at j)) := by
  unfold engVals
  rw [List.append_assoc, List.getElem?_append_left (by rw [ints_len]; exact h)]; exact ints_at _ _ _ j h
theorem engVals_rest (K : IntKind) (s : St) (R : Nat → Nat) (c j : Nat) (h : j < 128) : (engVals K s R c)[8 + j]? = some (.int .u8 (R j)) := by
  unfold engVals
  rw [List.append_assoc, List.getElem?_append_right (by rw [ints_len]; omega), ints_len, List.getElem?_append_left (by rw [ints_len]; omega), show 8 + j - 8 = j by omega]; exact ints_at _ _ _ j h
theorem engVals_cnt (K : IntKind) (s : St) (R : Nat → Nat) (c : Nat) : (engVals K s R c)[136]? = some (.int .i64 c) := by
  unfold engVals
  rw [List.getElem?_append_right (by simp [ints_len])]; simp [ints_len]
theorem EngAt.of_range {K : IntKind} {w : World} {b o : Nat} {s : St} {R : Nat → Nat} {c : Nat} (h : w.rangeAt b o (engVals K s R c)) (hf : ∀ j, j < 137 → w.frozen? ⟨b, o + j, none⟩ = false) : EngAt K w b o s R c :=
  ⟨fun j hj => ⟨h j _ (engVals_st K s R c j hj), hf j (by omega)⟩, fun j hj => by rw [Nat.add_assoc]; exact ⟨h (8 + j) _ (engVals_rest K s R c j hj), hf _ (by omega)⟩, h 136 _ (engVals_cnt K s R c), hf 136 (by decide)⟩
theorem EngAt.range {K : IntKind} {w : World} {b o : Nat} {s : St} {R : Nat → Nat} {c : Nat} (h : EngAt K w b o s R c) : w.rangeAt b o (engVals K s R c) := fun j v hv => by
  have hj : j < 137 := by have := (List.getElem?_eq_some_iff.1 hv).1; rwa [engVals_len] at this
  by_cases h1 : j < 8
  · rw [engVals_st K s R c j h1] at hv; rw [← hv]; exact (h.st j h1).1
  · by_cases h2 : j = 136
    · subst h2; rw [engVals_cnt K s R c] at hv; rw [← hv]; exact h.cnt
    · have := (h.rest (j - 8) (by omega)).1
      have hv' := engVals_rest K s R c (j - 8) (by omega)
      rw [show 8 + (j - 8) = j by omega] at hv'
      rw [hv'] at hv
      rw [← hv, show o + j = o + 8 + (j - 8) by omega]; exact this
theorem EngAt.there {K : IntKind} {w : World} {b o : Nat} {s : St} {R : Nat → Nat} {c : Nat} (h : EngAt K w b o s R c) : w.there b o 137 := fun j hj => by
  by_cases h1 : j < 8
  · rw [(h.st j h1).1]; exact ⟨rfl, (h.st j h1).2⟩
  · by_cases h2 : j = 136
    · subst h2; rw [h.cnt]; exact ⟨rfl, h.cntf⟩
    · have := h.rest (j - 8) (by omega)
      rw [show o + 8 + (j - 8) = o + j by omega] at this
      rw [this.1]; exact ⟨rfl, this.2⟩
theorem EngAt.fresh {K : IntKind} (w : World) (s : St) (R : Nat → Nat) (c : Nat) (t : TypeId) : EngAt K (w.alloc (.cells (engVals K s R c).toArray t)) w.heap.size 0 s R c :=
  EngAt.of_range (fun j v hv => by rw [Nat.zero_add]; simp [hv]) (fun j hj => by simp)
theorem EngAt.stored {K : IntKind} {w : World} {b o : Nat} (ht : w.there b o 137) (s : St) (R : Nat → Nat) (c : Nat) : EngAt K (w.setCells b o (engVals K s R c)) b o s R c :=
  EngAt.of_range (World.rangeAt_setCells_same _ _ _ _ (by rw [engVals_len]; exact ht)) (fun j hj => by rw [World.frozen?_setCells]; exact (ht j hj).2)
theorem RowAt.cong {K : IntKind} {w : World} {b o n : Nat} {X Y : Nat → Nat} (h : RowAt K w b o n X) (e : ∀ j, j < n → X j = Y j) : RowAt K w b o n Y := fun j hj => by rw [← e j hj]; exact h j hj
def zSt : St := ⟨0, 0, 0, 0, 0, 0, 0, 0⟩
/-- The first state: the highest bits of the table of squares. -/
def firstS (r : Ru) (q : Nat → Nat) : St := ⟨q 0 / 2 ^ (64 - r.m), q 1 / 2 ^ (64 - r.m), q 2 / 2 ^ (64 - r.m), q 3 / 2 ^ (64 - r.m), q 4 / 2 ^ (64 - r.m), q 5 / 2 ^ (64 - r.m), q 6 / 2 ^ (64 - r.m), q 7 / 2 ^ (64 - r.m)⟩
def stG (m : Nat) (q : Nat → Nat) : Nat → Nat → Nat
  | 0 => fun _ => 0
  | k + 1 => upd (stG m q k) k (q k / 2 ^ (64 - m))
def zeng32 : Array Value := (engVals .u32 zSt (fun _ => 0) 0).toArray
theorem zero38 (w : World) : Sem.run Tryd.prog (zeroValue 38) w = .ok (.agg zeng32) w := by kernel_rfl
theorem isz38 (K : IntKind) (s : St) (R : Nat → Nat) (c : Nat) : (Tryd.prog.info? 38).map (·.size) = some (engVals K s R c).toArray.size := by simp only [List.size_toArray, engVals_len]; kernel_rfl
theorem first32_at (q : Nat → Nat) (j : Nat) (h : j < 8) : stG 32 q 8 j = (firstS rn q).at j := by
  match j, h with
  | 0, _ => rfl
  | 1, _ => rfl
  | 2, _ => rfl
  | 3, _ => rfl
  | 4, _ => rfl
  | 5, _ => rfl
  | 6, _ => rfl
  | 7, _ => rfl
set_option maxRecDepth 20000 in
set_option maxHeartbeats 1000000 in
theorem start32_any (q : Nat → Nat) (hq : ∀ j, q j < 18446744073709551616) (w : World) (hsq : ∀ j, j < 8 → w.cell? ⟨2, j, none⟩ = some (.int .u64 (q j))) :
    Calls Tryd.prog 33 #[(.agg #[.int .i64 32, .int .i64 64, .int .u64 7, .int .u64 18, .int .u64 3, .int .u64 17, .int .u64 19, .int .u64 10, .int .u64 2, .int .u64 13, .int .u64 22, .int .u64 6, .int .u64 11, .int .u64 25])] w fun e w' => e = .returned (.agg (engVals .u32 (firstS rn q) (fun _ => 0) 0).toArray) ∧ Below w.heap.size w w' := by
  have hz := zero38
  have h2 : 2 < w.heap.size := block_lt_of_cell (hsq 0 (by decide))
  go_enter Tryd.func33, Tryd.ntmps33
  go_wp2
  clear hz
  go_loopw [5] (fun i wr => ∃ k : Nat, k ≤ 8 ∧ i = .int .i64 k ∧ RowAt .u32 wr (w.heap.size + 1 + 1) 0 8 (stG 32 q k) ∧ RowAt .u8 wr (w.heap.size + 1 + 1) 8 128 (fun _ => 0) ∧ wr.cell? ⟨w.heap.size + 1 + 1, 136, none⟩ = some (.int .i64 0) ∧ wr.frozen? ⟨w.heap.size + 1 + 1, 136, none⟩ = false ∧ wr.there (w.heap.size + 1) 0 137 ∧ Below (w.heap.size + 1) (w.alloc (.cells #[.int .i64 32, .int .i64 64, .int .u64 7, .int .u64 18, .int .u64 3, .int .u64 17, .int .u64 19, .int .u64 10, .int .u64 2, .int .u64 13, .int .u64 22, .int .u64 6, .int .u64 11, .int .u64 25] 59)) wr) (fun i _ => 8 - (intOf i).toNat)
  case atStart =>
    have e1 := EngAt.fresh (K := .u32) (w.alloc (.cells #[.int .i64 32, .int .i64 64, .int .u64 7, .int .u64 18, .int .u64 3, .int .u64 17, .int .u64 19, .int .u64 10, .int .u64 2, .int .u64 13, .int .u64 22, .int .u64 6, .int .u64 11, .int .u64 25] 59)) zSt (fun _ => 0) 0 38
    have e2 := EngAt.fresh (K := .u32) ((w.alloc (.cells #[.int .i64 32, .int .i64 64, .int .u64 7, .int .u64 18, .int .u64 3, .int .u64 17, .int .u64 19, .int .u64 10, .int .u64 2, .int .u64 13, .int .u64 22, .int .u64 6, .int .u64 11, .int .u64 25] 59)).alloc (.cells zeng32 38)) zSt (fun _ => 0) 0 38
    have e3 := e1.below ((Below.refl _ _).alloc (Nat.le_refl _) (.cells zeng32 38))
    simp only [World.size_alloc] at e2 e3
    refine ⟨0, Nat.zero_le _, rfl, fun j hj => ?_, ?_, e2.cnt, e2.cntf, e3.there, ((Below.refl _ _).alloc (by simp) _).alloc (by simp) _⟩
    · have h0 : zSt.at j = 0 := by
        match j, hj with
        | 0, _ => rfl
        | 1, _ => rfl
        | 2, _ => rfl
        | 3, _ => rfl
        | 4, _ => rfl
        | 5, _ => rfl
        | 6, _ => rfl
        | 7, _ => rfl
      have := e2.st j hj
      rw [h0] at this
      exact this
    · exact e2.rest
  case round =>
    obtain ⟨k, hk, rfl, hrow, hrest, hcnt, hcntf, hres, hbel⟩ := hrel
    by_cases hlt : k < 8
    · obtain ⟨p0, p1, p2, p3, p4, p5, p6, p7, p8, p9, p10, p11, p12, p13⟩ := rbox32 hbel _ rfl
      have hN : w.heap.size + 1 + 1 < wr.heap.size := block_lt_of_cell hcnt
      have g0 : w.heap.size < wr.heap.size := by omega
      have g2 : 2 < wr.heap.size := by omega
      have hsk : wr.cell? ⟨2, k, none⟩ = some (.int .u64 (q k)) := (hbel.cell (p := ⟨2, k, none⟩) (Nat.lt_succ_of_lt h2)).trans ((World.cell?_alloc_lt _ _ _ h2).trans (hsq k hlt))
      have hS : ∀ w' : World, Near (w.heap.size + 1 + 1) k wr w' → ∀ j, w'.cell? ⟨2, j, none⟩ = wr.cell? ⟨2, j, none⟩ := fun w' h j => h.cell _ _ g2 (fun e => by omega)
      have hS' : ∀ w' : World, Near (w.heap.size + 1 + 1) k wr w' → ∀ j, w'.cell? ⟨w.heap.size, j, none⟩ = wr.cell? ⟨w.heap.size, j, none⟩ := fun w' h j => h.cell _ _ g0 (fun e => by omega)
      have hF : ∀ w' : World, Near (w.heap.size + 1 + 1) k wr w' → ∀ j, w'.frozen? ⟨w.heap.size + 1 + 1, j, none⟩ = wr.frozen? ⟨w.heap.size + 1 + 1, j, none⟩ := fun w' h j => h.frozen _ _ hN
      have hb0 : Below wr.heap.size wr wr.drew := (Below.refl _ _).drew
      obtain ⟨rg, rf⟩ := hrow k (by omega)
      rw [Nat.zero_add] at rg rf
      have hqk := hq k
      have ki : (0 : Int) ≤ (k : Int) ∧ (k : Int) < 8 := by omega
      clear hsq
      go_wp2
      go_region_held3 (fun w' => Near (w.heap.size + 1 + 1) k wr w') (first | exact Near.of_below (by assumption) | exact Near.set (by assumption) _) (first
        | (go_at_call 47; refine (highest32_any _ hqk _).mono ?_; rintro e w' ⟨rfl, hb⟩; have hbn := below_next (W := wr) (by assumption) hb; have rgn := (hbn.cell (p := ⟨w.heap.size + 1 + 1, k, none⟩) hN).trans rg))
      clear hS hS' hF hb0 hsk p0 p1 p2 p3 p4 p5 p6 p7 p8 p9 p10 p11 p12 p13
      go_wp2
      go_roundw
      case rel =>
        have h1 := (hrow.below hbn hN).set (i := k) (by omega) (v := ((q k : Int) / 4294967296)) (u := q k / 2 ^ (64 - 32)) (by simp)
        rw [Nat.zero_add] at h1
        have h2' : RowAt .u8 (w'.setCell ⟨w.heap.size + 1 + 1, k, none⟩ (.int .u32 ((q k : Int) / 4294967296))) (w.heap.size + 1 + 1) 8 128 (fun _ => 0) := (hrest.below hbn hN).apart k [.int .u32 ((q k : Int) / 4294967296)] (.inr (by simp; omega))
        have h3' : (w'.setCell ⟨w.heap.size + 1 + 1, k, none⟩ (.int .u32 ((q k : Int) / 4294967296))).cell? ⟨w.heap.size + 1 + 1, 136, none⟩ = some (.int .i64 0) := by
          rw [World.cell?_setCell_other _ _ _ _ (fun e => by injection e; omega)]; exact (hbn.cell (p := ⟨w.heap.size + 1 + 1, 136, none⟩) hN).trans hcnt
        have h4' : (w'.setCell ⟨w.heap.size + 1 + 1, k, none⟩ (.int .u32 ((q k : Int) / 4294967296))).frozen? ⟨w.heap.size + 1 + 1, 136, none⟩ = false := by
          rw [World.frozen?_setCell]; exact (hbn.frozen (p := ⟨w.heap.size + 1 + 1, 136, none⟩) hN).trans hcntf
        have h5' : (w'.setCell ⟨w.heap.size + 1 + 1, k, none⟩ (.int .u32 ((q k : Int) / 4294967296))).there (w.heap.size + 1) 0 137 := fun j hj => by
          rw [World.frozen?_setCell, World.cell?_setCell_other _ _ _ _ (fun e => by injection e; omega), hbn.cell (p := ⟨w.heap.size + 1, 0 + j, none⟩) (by show w.heap.size + 1 < _; omega), hbn.frozen (p := ⟨w.heap.size + 1, 0 + j, none⟩) (by show w.heap.size + 1 < _; omega)]; exact hres j hj
        have h6' := (hbel.trans (hbn.mono (by omega))).setCell (p := ⟨w.heap.size + 1 + 1, k, none⟩) (by simp) (.int .u32 ((q k : Int) / 4294967296))
        first
          | exact ⟨k + 1, by omega, by go_num, h1, h2', h3', h4', h5', h6'⟩
          | (repeat apply Exists.intro
             refine ⟨?_, rfl⟩
             exact ⟨k + 1, by omega, by go_num, h1, h2', h3', h4', h5', h6'⟩)
      case measure => simp [intOf]; omega
    · have hke : k = 8 := by omega
      subst hke
      have hE : EngAt .u32 wr (w.heap.size + 1 + 1) 0 (firstS rn q) (fun _ => 0) 0 := ⟨hrow.cong (first32_at q), hrest, hcnt, hcntf⟩
      have ht : wr.there (w.heap.size + 1) 0 (engVals .u32 (firstS rn q) (fun _ => 0) 0).toArray.size := by simp only [List.size_toArray, engVals_len]; exact hres
      have hi := isz38 .u32 (firstS rn q) (fun _ => 0) 0
      have hi' : (Tryd.prog.info? 38).map (·.size) = some (engVals .u32 (firstS rn q) (fun _ => 0) 0).length := by rw [engVals_len]; kernel_rfl
      have hone := all_oneCell_toArray (engVals_one .u32 (firstS rn q) (fun _ => 0) 0)
      clear hsq
      go_wp2_with (first
        | (refine wpList_load_mid rfl 38 _ rfl _ 0 rfl _ _ hE.range Tryd.underlying38 rfl hi' ?_)
        | (refine wpList_store_mid rfl 38 _ _ rfl _ 0 _ rfl rfl ht hi hone ?_))
      refine bodyPost_ret (results_cell_mid Tryd.results33 _ _ (w.heap.size + 1) 0 _ _ rfl (World.rangeAt_setCells_same _ _ _ _ (by rw [engVals_len]; exact hres)) Tryd.underlying38 rfl hi') rfl ⟨rfl, ?_⟩
      exact below_setCells (by omega) _ _ _ (((Below.refl _ _).alloc (Nat.le_refl _) _).trans (hbel.mono (by omega)))
def zeng64 : Array Value := (engVals .u64 zSt (fun _ => 0) 0).toArray
theorem zero42 (w : World) : Sem.run Tryd.prog (zeroValue 42) w = .ok (.agg zeng64) w := by kernel_rfl
theorem isz42 (K : IntKind) (s : St) (R : Nat → Nat) (c : Nat) : (Tryd.prog.info? 42).map (·.size) = some (engVals K s R c).toArray.size := by simp only [List.size_toArray, engVals_len]; kernel_rfl
theorem first64_at (q : Nat → Nat) (j : Nat) (h : j < 8) : stG 64 q 8 j = (firstS rw6 q).at j := by
  match j, h with
  | 0, _ => rfl
  | 1, _ => rfl
  | 2, _ => rfl
  | 3, _ => rfl
  | 4, _ => rfl
  | 5, _ => rfl
  | 6, _ => rfl
  | 7, _ => rfl
set_option maxRecDepth 20000 in
set_option maxHeartbeats 1000000 in
theorem start64_any (q : Nat → Nat) (hq : ∀ j, q j < 18446744073709551616) (w : World) (hsq : ∀ j, j < 8 → w.cell? ⟨2, j, none⟩ = some (.int .u64 (q j))) :
    Calls Tryd.prog 38 #[(.agg #[.int .i64 64, .int .i64 80, .int .u64 1, .int .u64 8, .int .u64 7, .int .u64 19, .int .u64 61, .int .u64 6, .int .u64 28, .int .u64 34, .int .u64 39, .int .u64 14, .int .u64 18, .int .u64 41])] w fun e w' => e = .returned (.agg (engVals .u64 (firstS rw6 q) (fun _ => 0) 0).toArray) ∧ Below w.heap.size w w' := by
  have hz := zero42
  have h2 : 2 < w.heap.size := block_lt_of_cell (hsq 0 (by decide))
  go_enter Tryd.func38, Tryd.ntmps38
  go_wp2
  clear hz
  go_loopw [5] (fun i wr => ∃ k : Nat, k ≤ 8 ∧ i = .int .i64 k ∧ RowAt .u64 wr (w.heap.size + 1 + 1) 0 8 (stG 64 q k) ∧ RowAt .u8 wr (w.heap.size + 1 + 1) 8 128 (fun _ => 0) ∧ wr.cell? ⟨w.heap.size + 1 + 1, 136, none⟩ = some (.int .i64 0) ∧ wr.frozen? ⟨w.heap.size + 1 + 1, 136, none⟩ = false ∧ wr.there (w.heap.size + 1) 0 137 ∧ Below (w.heap.size + 1) (w.alloc (.cells #[.int .i64 64, .int .i64 80, .int .u64 1, .int .u64 8, .int .u64 7, .int .u64 19, .int .u64 61, .int .u64 6, .int .u64 28, .int .u64 34, .int .u64 39, .int .u64 14, .int .u64 18, .int .u64 41] 59)) wr) (fun i _ => 8 - (intOf i).toNat)
  case atStart =>
    have e1 := EngAt.fresh (K := .u64) (w.alloc (.cells #[.int .i64 64, .int .i64 80, .int .u64 1, .int .u64 8, .int .u64 7, .int .u64 19, .int .u64 61, .int .u64 6, .int .u64 28, .int .u64 34, .int .u64 39, .int .u64 14, .int .u64 18, .int .u64 41] 59)) zSt (fun _ => 0) 0 42
    have e2 := EngAt.fresh (K := .u64) ((w.alloc (.cells #[.int .i64 64, .int .i64 80, .int .u64 1, .int .u64 8, .int .u64 7, .int .u64 19, .int .u64 61, .int .u64 6, .int .u64 28, .int .u64 34, .int .u64 39, .int .u64 14, .int .u64 18, .int .u64 41] 59)).alloc (.cells zeng64 42)) zSt (fun _ => 0) 0 42
    have e3 := e1.below ((Below.refl _ _).alloc (Nat.le_refl _) (.cells zeng64 42))
    simp only [World.size_alloc] at e2 e3
    refine ⟨0, Nat.zero_le _, rfl, fun j hj => ?_, ?_, e2.cnt, e2.cntf, e3.there, ((Below.refl _ _).alloc (by simp) _).alloc (by simp) _⟩
    · have h0 : zSt.at j = 0 := by
        match j, hj with
        | 0, _ => rfl
        | 1, _ => rfl
        | 2, _ => rfl
        | 3, _ => rfl
        | 4, _ => rfl
        | 5, _ => rfl
        | 6, _ => rfl
        | 7, _ => rfl
      have := e2.st j hj
      rw [h0] at this
      exact this
    · exact e2.rest
  case round =>
    obtain ⟨k, hk, rfl, hrow, hrest, hcnt, hcntf, hres, hbel⟩ := hrel
    by_cases hlt : k < 8
    · obtain ⟨p0, p1, p2, p3, p4, p5, p6, p7, p8, p9, p10, p11, p12, p13⟩ := rbox64 hbel _ rfl
      have hN : w.heap.size + 1 + 1 < wr.heap.size := block_lt_of_cell hcnt
      have g0 : w.heap.size < wr.heap.size := by omega
      have g2 : 2 < wr.heap.size := by omega
      have hsk : wr.cell? ⟨2, k, none⟩ = some (.int .u64 (q k)) := (hbel.cell (p := ⟨2, k, none⟩) (Nat.lt_succ_of_lt h2)).trans ((World.cell?_alloc_lt _ _ _ h2).trans (hsq k hlt))
      have hS : ∀ w' : World, Near (w.heap.size + 1 + 1) k wr w' → ∀ j, w'.cell? ⟨2, j, none⟩ = wr.cell? ⟨2, j, none⟩ := fun w' h j => h.cell _ _ g2 (fun e => by omega)
      have hS' : ∀ w' : World, Near (w.heap.size + 1 + 1) k wr w' → ∀ j, w'.cell? ⟨w.heap.size, j, none⟩ = wr.cell? ⟨w.heap.size, j, none⟩ := fun w' h j => h.cell _ _ g0 (fun e => by omega)
      have hF : ∀ w' : World, Near (w.heap.size + 1 + 1) k wr w' → ∀ j, w'.frozen? ⟨w.heap.size + 1 + 1, j, none⟩ = wr.frozen? ⟨w.heap.size + 1 + 1, j, none⟩ := fun w' h j => h.frozen _ _ hN
      have hb0 : Below wr.heap.size wr wr.drew := (Below.refl _ _).drew
      obtain ⟨rg, rf⟩ := hrow k (by omega)
      rw [Nat.zero_add] at rg rf
      have hqk := hq k
      have ki : (0 : Int) ≤ (k : Int) ∧ (k : Int) < 8 := by omega
      clear hsq
      go_wp2
      go_region_held3 (fun w' => Near (w.heap.size + 1 + 1) k wr w') (first | exact Near.of_below (by assumption) | exact Near.set (by assumption) _) (first
        | (go_at_call 55; refine (highest64_any _ hqk _).mono ?_; rintro e w' ⟨rfl, hb⟩; have hbn := below_next (W := wr) (by assumption) hb; have rgn := (hbn.cell (p := ⟨w.heap.size + 1 + 1, k, none⟩) hN).trans rg))
      clear hS hS' hF hb0 hsk p0 p1 p2 p3 p4 p5 p6 p7 p8 p9 p10 p11 p12 p13
      go_wp2
      go_roundw
      case rel =>
        have h1 := (hrow.below hbn hN).set (i := k) (by omega) (v := (q k : Int)) (u := q k / 2 ^ (64 - 64)) (by simp)
        rw [Nat.zero_add] at h1
        have h2' : RowAt .u8 (w'.setCell ⟨w.heap.size + 1 + 1, k, none⟩ (.int .u64 (q k : Int))) (w.heap.size + 1 + 1) 8 128 (fun _ => 0) := (hrest.below hbn hN).apart k [.int .u64 (q k : Int)] (.inr (by simp; omega))
        have h3' : (w'.setCell ⟨w.heap.size + 1 + 1, k, none⟩ (.int .u64 (q k : Int))).cell? ⟨w.heap.size + 1 + 1, 136, none⟩ = some (.int .i64 0) := by
          rw [World.cell?_setCell_other _ _ _ _ (fun e => by injection e; omega)]; exact (hbn.cell (p := ⟨w.heap.size + 1 + 1, 136, none⟩) hN).trans hcnt
        have h4' : (w'.setCell ⟨w.heap.size + 1 + 1, k, none⟩ (.int .u64 (q k : Int))).frozen? ⟨w.heap.size + 1 + 1, 136, none⟩ = false := by
          rw [World.frozen?_setCell]; exact (hbn.frozen (p := ⟨w.heap.size + 1 + 1, 136, none⟩) hN).trans hcntf
        have h5' : (w'.setCell ⟨w.heap.size + 1 + 1, k, none⟩ (.int .u64 (q k : Int))).there (w.heap.size + 1) 0 137 := fun j hj => by
          rw [World.frozen?_setCell, World.cell?_setCell_other _ _ _ _ (fun e => by injection e; omega), hbn.cell (p := ⟨w.heap.size + 1, 0 + j, none⟩) (by show w.heap.size + 1 < _; omega), hbn.frozen (p := ⟨w.heap.size + 1, 0 + j, none⟩) (by show w.heap.size + 1 < _; omega)]; exact hres j hj
        have h6' := (hbel.trans (hbn.mono (by omega))).setCell (p := ⟨w.heap.size + 1 + 1, k, none⟩) (by simp) (.int .u64 (q k : Int))
        first
          | exact ⟨k + 1, by omega, by go_num, h1, h2', h3', h4', h5', h6'⟩
          | (repeat apply Exists.intro
             refine ⟨?_, rfl⟩
             exact ⟨k + 1, by omega, by go_num, h1, h2', h3', h4', h5', h6'⟩)
      case measure => simp [intOf]; omega
    · have hke : k = 8 := by omega
      subst hke
      have hE : EngAt .u64 wr (w.heap.size + 1 + 1) 0 (firstS rw6 q) (fun _ => 0) 0 := ⟨hrow.cong (first64_at q), hrest, hcnt, hcntf⟩
      have ht : wr.there (w.heap.size + 1) 0 (engVals .u64 (firstS rw6 q) (fun _ => 0) 0).toArray.size := by simp only [List.size_toArray, engVals_len]; exact hres
      have hi := isz42 .u64 (firstS rw6 q) (fun _ => 0) 0
      have hi' : (Tryd.prog.info? 42).map (·.size) = some (engVals .u64 (firstS rw6 q) (fun _ => 0) 0).length := by rw [engVals_len]; kernel_rfl
      have hone := all_oneCell_toArray (engVals_one .u64 (firstS rw6 q) (fun _ => 0) 0)
      clear hsq
      go_wp2_with (first
        | (refine wpList_load_mid rfl 42 _ rfl _ 0 rfl _ _ hE.range Tryd.underlying42 rfl hi' ?_)
        | (refine wpList_store_mid rfl 42 _ _ rfl _ 0 _ rfl rfl ht hi hone ?_))
      refine bodyPost_ret (results_cell_mid Tryd.results38 _ _ (w.heap.size + 1) 0 _ _ rfl (World.rangeAt_setCells_same _ _ _ _ (by rw [engVals_len]; exact hres)) Tryd.underlying42 rfl hi') rfl ⟨rfl, ?_⟩
      exact below_setCells (by omega) _ _ _ (((Below.refl _ _).alloc (Nat.le_refl _) _).trans (hbel.mono (by omega)))
end Go.Proofs.YtlfofbkanifocaaDoor
