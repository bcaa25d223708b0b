/- What the proof stands on: HStart, HSum, HTop, HRefSmall, HPlain, HCert, HConsts, Fit, SClamp, SMath, SgMath, PApi7, PSome, SgTimes, SgKey, HHash, HHashM. -/
import Derived.Test.YtdgkmloabificaaDoorBaseM
import Derived.Test.YtdgkmloabificaaDoorBothM
import Derived.Test.YtdgkmloabificaaDoorPtBM
import Derived.Test.YtdgkmloabificaaDoorPtEM
import Derived.ArgAppend
import Derived.Deep.AppendLies
import Derived.Deep.Cut
import Derived.Deep.RegionLawGrows
import Derived.Deep.RegionWith
import Derived.Deep.Upon
namespace Go.Proofs.YtdgkmloabificaaDoor
open Go.RowKit
/-- An engine's cells as a list. -/
def engVals (K : IntKind) (s : St) (R : Nat → Nat) (c : Nat) : List Value := ints K 8 s.at ++ ints .u8 128 R ++ [.int .i64 c]
theorem engVals_len (K : IntKind) (s : St) (R : Nat → Nat) (c : Nat) : (engVals K s R c).length = 137 := by simp [engVals, ints_len]
theorem engVals_one (K : IntKind) (s : St) (R : Nat → Nat) (c : Nat) : ∀ v ∈ engVals K s R c, v.oneCell' = true := fun v hv => by
 simp only [engVals, List.mem_append, List.mem_singleton] at hv
 rcases hv with (hv | hv) | rfl
 · exact ints_one _ _ _ v hv
 · exact ints_one _ _ _ v hv
 · rfl
theorem engVals_st (K : IntKind) (s : St) (R : Nat → Nat) (c j : Nat) (h : j < 8) : (engVals K s R c)[j]? = some (.int K (s.at j)) := by
 unfold engVals
 rw [List.append_assoc, List.getElem?_append_left (by rw [ints_len]; exact h)]; exact ints_at _ _ _ j h
theorem engVals_rest (K : IntKind) (s : St) (R : Nat → Nat) (c j : Nat) (h : j < 128) : (engVals K s R c)[8 + j]? = some (.int .u8 (R j)) := by
 unfold engVals
 rw [List.append_assoc, List.getElem?_append_right (by rw [ints_len]; omega), ints_len, List.getElem?_append_left (by rw [ints_len]; omega), show 8 + j - 8 = j by omega]; exact ints_at _ _ _ j h
theorem engVals_cnt (K : IntKind) (s : St) (R : Nat → Nat) (c : Nat) : (engVals K s R c)[136]? = some (.int .i64 c) := by
 unfold engVals
 rw [List.getElem?_append_right (by simp [ints_len])]; simp [ints_len]
theorem EngAt.of_range {K : IntKind} {w : World} {b o : Nat} {s : St} {R : Nat → Nat} {c : Nat} (h : w.rangeAt b o (engVals K s R c)) (hf : ∀ j, j < 137 → w.frozen? ⟨b, o + j, none⟩ = false) : EngAt K w b o s R c :=
 ⟨fun j hj => ⟨h j _ (engVals_st K s R c j hj), hf j (by omega)⟩, fun j hj => by rw [Nat.add_assoc]; exact ⟨h (8 + j) _ (engVals_rest K s R c j hj), hf _ (by omega)⟩, h 136 _ (engVals_cnt K s R c), hf 136 (by decide)⟩
theorem EngAt.range {K : IntKind} {w : World} {b o : Nat} {s : St} {R : Nat → Nat} {c : Nat} (h : EngAt K w b o s R c) : w.rangeAt b o (engVals K s R c) := fun j v hv => by
 have hj : j < 137 := by have := (List.getElem?_eq_some_iff.1 hv).1; rwa [engVals_len] at this
 by_cases h1 : j < 8
 · rw [engVals_st K s R c j h1] at hv; rw [← hv]; exact (h.st j h1).1
 · by_cases h2 : j = 136
   · subst h2; rw [engVals_cnt K s R c] at hv; rw [← hv]; exact h.cnt
   · have := (h.rest (j - 8) (by omega)).1
     have hv' := engVals_rest K s R c (j - 8) (by omega)
     rw [show 8 + (j - 8) = j by omega] at hv'
     rw [hv'] at hv
     rw [← hv, show o + j = o + 8 + (j - 8) by omega]; exact this
theorem EngAt.there {K : IntKind} {w : World} {b o : Nat} {s : St} {R : Nat → Nat} {c : Nat} (h : EngAt K w b o s R c) : w.there b o 137 := fun j hj => by
 by_cases h1 : j < 8
 · rw [(h.st j h1).1]; exact ⟨rfl, (h.st j h1).2⟩
 · by_cases h2 : j = 136
   · subst h2; rw [h.cnt]; exact ⟨rfl, h.cntf⟩
   · have := h.rest (j - 8) (by omega)
     rw [show o + 8 + (j - 8) = o + j by omega] at this
     rw [this.1]; exact ⟨rfl, this.2⟩
theorem EngAt.fresh {K : IntKind} (w : World) (s : St) (R : Nat → Nat) (c : Nat) (t : TypeId) : EngAt K (w.alloc (.cells (engVals K s R c).toArray t)) w.heap.size 0 s R c :=
 EngAt.of_range (fun j v hv => by rw [Nat.zero_add]; simp [hv]) (fun j hj => by simp)
theorem EngAt.stored {K : IntKind} {w : World} {b o : Nat} (ht : w.there b o 137) (s : St) (R : Nat → Nat) (c : Nat) : EngAt K (w.setCells b o (engVals K s R c)) b o s R c :=
 EngAt.of_range (World.rangeAt_setCells_same _ _ _ _ (by rw [engVals_len]; exact ht)) (fun j hj => by rw [World.frozen?_setCells]; exact (ht j hj).2)
theorem RowAt.cong {K : IntKind} {w : World} {b o n : Nat} {X Y : Nat → Nat} (h : RowAt K w b o n X) (e : ∀ j, j < n → X j = Y j) : RowAt K w b o n Y := fun j hj => by rw [← e j hj]; exact h j hj
def zSt : St := ⟨0, 0, 0, 0, 0, 0, 0, 0⟩
/-- The first state: the highest bits of the table of squares. -/
def firstS (r : Ru) (q : Nat → Nat) : St := ⟨q 0 / 2 ^ (64 - r.m), q 1 / 2 ^ (64 - r.m), q 2 / 2 ^ (64 - r.m), q 3 / 2 ^ (64 - r.m), q 4 / 2 ^ (64 - r.m), q 5 / 2 ^ (64 - r.m), q 6 / 2 ^ (64 - r.m), q 7 / 2 ^ (64 - r.m)⟩
def stG (m : Nat) (q : Nat → Nat) : Nat → Nat → Nat
 | 0 => fun _ => 0
 | k + 1 => upd (stG m q k) k (q k / 2 ^ (64 - m))
def zeng64 : Array Value := (engVals .u64 zSt (fun _ => 0) 0).toArray
theorem zero77 (w : World) : Sem.run Tryd.prog (zeroValue 77) w = .ok (.agg zeng64) w := by kernel_rfl
theorem isz77 (K : IntKind) (s : St) (R : Nat → Nat) (c : Nat) : (Tryd.prog.info? 77).map (·.size) = some (engVals K s R c).toArray.size := by simp only [List.size_toArray, engVals_len]; kernel_rfl
theorem first64_at (q : Nat → Nat) (j : Nat) (h : j < 8) : stG 64 q 8 j = (firstS rw6 q).at j := by
 match j, h with
 | 0, _ => rfl
 | 1, _ => rfl
 | 2, _ => rfl
 | 3, _ => rfl
 | 4, _ => rfl
 | 5, _ => rfl
 | 6, _ => rfl
 | 7, _ => rfl
set_option maxRecDepth 20000 in
set_option maxHeartbeats 1000000 in
theorem start64_any (q : Nat → Nat) (hq : ∀ j, q j < 18446744073709551616) (w : World) (hsq : ∀ j, j < 8 → w.cell? ⟨3, j, none⟩ = some (.int .u64 (q j))) :
 Calls Tryd.prog 46 #[(.agg #[.int .i64 64, .int .i64 80, .int .u64 1, .int .u64 8, .int .u64 7, .int .u64 19, .int .u64 61, .int .u64 6, .int .u64 28, .int .u64 34, .int .u64 39, .int .u64 14, .int .u64 18, .int .u64 41])] w fun e w' => e = .returned (.agg (engVals .u64 (firstS rw6 q) (fun _ => 0) 0).toArray) ∧ Below w.heap.size w w' := by
 have hz := zero77
 have h2 : 3 < w.heap.size := block_lt_of_cell (hsq 0 (by decide))
 go_enter Tryd.func46, Tryd.ntmps46
 go_wp2
 clear hz
 go_loopw [5] (fun i wr => ∃ k : Nat, k ≤ 8 ∧ i = .int .i64 k ∧ RowAt .u64 wr (w.heap.size + 1 + 1) 0 8 (stG 64 q k) ∧ RowAt .u8 wr (w.heap.size + 1 + 1) 8 128 (fun _ => 0) ∧ wr.cell? ⟨w.heap.size + 1 + 1, 136, none⟩ = some (.int .i64 0) ∧ wr.frozen? ⟨w.heap.size + 1 + 1, 136, none⟩ = false ∧ wr.there (w.heap.size + 1) 0 137 ∧ Below (w.heap.size + 1) (w.alloc (.cells #[.int .i64 64, .int .i64 80, .int .u64 1, .int .u64 8, .int .u64 7, .int .u64 19, .int .u64 61, .int .u64 6, .int .u64 28, .int .u64 34, .int .u64 39, .int .u64 14, .int .u64 18, .int .u64 41] 82)) wr) (fun i _ => 8 - (intOf i).toNat)
 case atStart =>
  have e1 := EngAt.fresh (K := .u64) (w.alloc (.cells #[.int .i64 64, .int .i64 80, .int .u64 1, .int .u64 8, .int .u64 7, .int .u64 19, .int .u64 61, .int .u64 6, .int .u64 28, .int .u64 34, .int .u64 39, .int .u64 14, .int .u64 18, .int .u64 41] 82)) zSt (fun _ => 0) 0 77
  have e2 := EngAt.fresh (K := .u64) ((w.alloc (.cells #[.int .i64 64, .int .i64 80, .int .u64 1, .int .u64 8, .int .u64 7, .int .u64 19, .int .u64 61, .int .u64 6, .int .u64 28, .int .u64 34, .int .u64 39, .int .u64 14, .int .u64 18, .int .u64 41] 82)).alloc (.cells zeng64 77)) zSt (fun _ => 0) 0 77
  have e3 := e1.below ((Below.refl _ _).alloc (Nat.le_refl _) (.cells zeng64 77))
  simp only [World.size_alloc] at e2 e3
  refine ⟨0, Nat.zero_le _, rfl, fun j hj => ?_, ?_, e2.cnt, e2.cntf, e3.there, ((Below.refl _ _).alloc (by simp) _).alloc (by simp) _⟩
  · have h0 : zSt.at j = 0 := by
     match j, hj with
     | 0, _ => rfl
     | 1, _ => rfl
     | 2, _ => rfl
     | 3, _ => rfl
     | 4, _ => rfl
     | 5, _ => rfl
     | 6, _ => rfl
     | 7, _ => rfl
    have := e2.st j hj
    rw [h0] at this
    exact this
  · exact e2.rest
 case round =>
  obtain ⟨k, hk, rfl, hrow, hrest, hcnt, hcntf, hres, hbel⟩ := hrel
  by_cases hlt : k < 8
  · obtain ⟨p0, p1, p2, p3, p4, p5, p6, p7, p8, p9, p10, p11, p12, p13⟩ := rbox64 hbel _ rfl
    have hN : w.heap.size + 1 + 1 < wr.heap.size := block_lt_of_cell hcnt
    have g0 : w.heap.size < wr.heap.size := by omega
    have g2 : 3 < wr.heap.size := by omega
    have hsk : wr.cell? ⟨3, k, none⟩ = some (.int .u64 (q k)) := (hbel.cell (p := ⟨3, k, none⟩) (Nat.lt_succ_of_lt h2)).trans ((World.cell?_alloc_lt _ _ _ h2).trans (hsq k hlt))
    have hS : ∀ w' : World, Near (w.heap.size + 1 + 1) k wr w' → ∀ j, w'.cell? ⟨3, j, none⟩ = wr.cell? ⟨3, j, none⟩ := fun w' h j => h.cell _ _ g2 (fun e => by omega)
    have hS' : ∀ w' : World, Near (w.heap.size + 1 + 1) k wr w' → ∀ j, w'.cell? ⟨w.heap.size, j, none⟩ = wr.cell? ⟨w.heap.size, j, none⟩ := fun w' h j => h.cell _ _ g0 (fun e => by omega)
    have hF : ∀ w' : World, Near (w.heap.size + 1 + 1) k wr w' → ∀ j, w'.frozen? ⟨w.heap.size + 1 + 1, j, none⟩ = wr.frozen? ⟨w.heap.size + 1 + 1, j, none⟩ := fun w' h j => h.frozen _ _ hN
    have hb0 : Below wr.heap.size wr wr.drew := (Below.refl _ _).drew
    obtain ⟨rg, rf⟩ := hrow k (by omega)
    rw [Nat.zero_add] at rg rf
    have hqk := hq k
    have ki : (0 : Int) ≤ (k : Int) ∧ (k : Int) < 8 := by omega
    clear hsq
    go_wp2
    go_region_held3 (fun w' => Near (w.heap.size + 1 + 1) k wr w') (first | exact Near.of_below (by assumption) | exact Near.set (by assumption) _) (first
     | (go_at_call 71; refine (highest64_any _ hqk _).mono ?_; rintro e w' ⟨rfl, hb⟩; have hbn := below_next (W := wr) (by assumption) hb; have rgn := (hbn.cell (p := ⟨w.heap.size + 1 + 1, k, none⟩) hN).trans rg))
    clear hS hS' hF hb0 hsk p0 p1 p2 p3 p4 p5 p6 p7 p8 p9 p10 p11 p12 p13
    go_wp2
    go_roundw
    case rel =>
     have h1 := (hrow.below hbn hN).set (i := k) (by omega) (v := (q k : Int)) (u := q k / 2 ^ (64 - 64)) (by simp)
     rw [Nat.zero_add] at h1
     have h2' : RowAt .u8 (w'.setCell ⟨w.heap.size + 1 + 1, k, none⟩ (.int .u64 (q k : Int))) (w.heap.size + 1 + 1) 8 128 (fun _ => 0) := (hrest.below hbn hN).apart k [.int .u64 (q k : Int)] (.inr (by simp; omega))
     have h3' : (w'.setCell ⟨w.heap.size + 1 + 1, k, none⟩ (.int .u64 (q k : Int))).cell? ⟨w.heap.size + 1 + 1, 136, none⟩ = some (.int .i64 0) := by
      rw [World.cell?_setCell_other _ _ _ _ (fun e => by injection e; omega)]; exact (hbn.cell (p := ⟨w.heap.size + 1 + 1, 136, none⟩) hN).trans hcnt
     have h4' : (w'.setCell ⟨w.heap.size + 1 + 1, k, none⟩ (.int .u64 (q k : Int))).frozen? ⟨w.heap.size + 1 + 1, 136, none⟩ = false := by
      rw [World.frozen?_setCell]; exact (hbn.frozen (p := ⟨w.heap.size + 1 + 1, 136, none⟩) hN).trans hcntf
     have h5' : (w'.setCell ⟨w.heap.size + 1 + 1, k, none⟩ (.int .u64 (q k : Int))).there (w.heap.size + 1) 0 137 := fun j hj => by
      rw [World.frozen?_setCell, World.cell?_setCell_other _ _ _ _ (fun e => by injection e; omega), hbn.cell (p := ⟨w.heap.size + 1, 0 + j, none⟩) (by show w.heap.size + 1 < _; omega), hbn.frozen (p := ⟨w.heap.size + 1, 0 + j, none⟩) (by show w.heap.size + 1 < _; omega)]; exact hres j hj
     have h6' := (hbel.trans (hbn.mono (by omega))).setCell (p := ⟨w.heap.size + 1 + 1, k, none⟩) (by simp) (.int .u64 (q k : Int))
     first
      | exact ⟨k + 1, by omega, by go_num, h1, h2', h3', h4', h5', h6'⟩
      | (repeat apply Exists.intro
         refine ⟨?_, rfl⟩
         exact ⟨k + 1, by omega, by go_num, h1, h2', h3', h4', h5', h6'⟩)
    case measure => simp [intOf]; omega
  · have hke : k = 8 := by omega
    subst hke
    have hE : EngAt .u64 wr (w.heap.size + 1 + 1) 0 (firstS rw6 q) (fun _ => 0) 0 := ⟨hrow.cong (first64_at q), hrest, hcnt, hcntf⟩
    have ht : wr.there (w.heap.size + 1) 0 (engVals .u64 (firstS rw6 q) (fun _ => 0) 0).toArray.size := by simp only [List.size_toArray, engVals_len]; exact hres
    have hi := isz77 .u64 (firstS rw6 q) (fun _ => 0) 0
    have hi' : (Tryd.prog.info? 77).map (·.size) = some (engVals .u64 (firstS rw6 q) (fun _ => 0) 0).length := by rw [engVals_len]; kernel_rfl
    have hone := all_oneCell_toArray (engVals_one .u64 (firstS rw6 q) (fun _ => 0) 0)
    clear hsq
    go_wp2_with (first
     | (refine wpList_load_mid rfl 77 _ rfl _ 0 rfl _ _ hE.range Tryd.underlying77 rfl hi' ?_)
     | (refine wpList_store_mid rfl 77 _ _ rfl _ 0 _ rfl rfl ht hi hone ?_))
    refine bodyPost_ret (results_cell_mid Tryd.results46 _ _ (w.heap.size + 1) 0 _ _ rfl (World.rangeAt_setCells_same _ _ _ _ (by rw [engVals_len]; exact hres)) Tryd.underlying77 rfl hi') rfl ⟨rfl, ?_⟩
    exact below_setCells (by omega) _ _ _ (((Below.refl _ _).alloc (Nat.le_refl _) _).trans (hbel.mono (by omega)))
end Go.Proofs.YtdgkmloabificaaDoor
namespace Go.Proofs.YtdgkmloabificaaDoor
open Go.RowKit
/-- The state behind the padding. -/
def endS (r : Ru) (K : Nat → Nat) (s : St) (R : Nat → Nat) (c : Nat) : St := (writeE r K s R c (padN r c) (padF r c)).1
/-- A state's bytes. -/
def outB (m : Nat) (s : St) (j : Nat) : Nat := s.at (j / (m / 8)) / 2 ^ (m - 8 - j % (m / 8) * 8) % 256
def outG (m : Nat) (s : St) : Nat → Nat → Nat
 | 0 => fun _ => 0
 | k + 1 => upd (outG m s k) k (outB m s k)
theorem outG_at (m : Nat) (s : St) : ∀ k j, j < k → outG m s k j = outB m s j
 | k + 1, j, h => by
  unfold outG upd
  by_cases e : j = k
  · rw [if_pos e, e]
  · rw [if_neg e]; exact outG_at m s k j (by omega)
theorem padF_lt (r : Ru) (c : Nat) : ∀ j, padF r c j < 256 := by
 suffices h : ∀ N i j, padG N c i j < 256 from h _ _
 intro N i
 induction i with
 | zero =>
  intro j; unfold padG upd; split
  · omega
  · exact Nat.zero_lt_succ _
 | succ i ih =>
  intro j; unfold padG upd; split
  · exact Nat.mod_lt _ (by decide)
  · exact ih j
theorem padN64_le (c : Nat) : padN rw6 c ≤ 200 := by
 show 1 + (4 * 64 - 1 - 64 / 4 - c % (2 * 64)) % (2 * 64) + 64 / 4 ≤ 200
 omega
set_option maxRecDepth 20000 in
set_option maxHeartbeats 1000000 in
theorem sum64_any (K : Nat → Nat) (hK : ∀ j, K j < 18446744073709551616) (s : St) (hs : s.lt 18446744073709551616) (R : Nat → Nat) (hR : ∀ j, R j < 256) (c : Nat) (hc : c < 2305843009213693952) (w : World)
 (hcub : ∀ j, j < 80 → w.cell? ⟨4, j, none⟩ = some (.int .u64 (K j))) :
 Calls Tryd.prog 48 #[.agg (engVals .u64 s R c).toArray, (.agg #[.int .i64 64, .int .i64 80, .int .u64 1, .int .u64 8, .int .u64 7, .int .u64 19, .int .u64 61, .int .u64 6, .int .u64 28, .int .u64 34, .int .u64 39, .int .u64 14, .int .u64 18, .int .u64 41])] w
  fun e w' => ∃ g, e = .returned (.slice (some ⟨g, 0, none⟩) 64 64) ∧ w.heap.size ≤ g ∧ RowAt .u8 w' g 0 64 (outB 64 (endS rw6 K s R c)) ∧ Below w.heap.size w w' := by
 have h3 : 4 < w.heap.size := block_lt_of_cell (hcub 0 (by decide))
 obtain ⟨W2, hW2⟩ : ∃ W2, W2 = (w.alloc (.cells (engVals .u64 s R c).toArray 77)).alloc (.cells #[.int .i64 64, .int .i64 80, .int .u64 1, .int .u64 8, .int .u64 7, .int .u64 19, .int .u64 61, .int .u64 6, .int .u64 28, .int .u64 34, .int .u64 39, .int .u64 14, .int .u64 18, .int .u64 41] 82) := ⟨_, rfl⟩
 have hE : EngAt .u64 W2 w.heap.size 0 s R c := by rw [hW2]; exact (EngAt.fresh w s R c 77).below ((Below.refl _ _).alloc (Nat.le_refl _) _)
 have hRu : Rules64 W2 (w.heap.size + 1) := by
  have := Rules64.of_box (W := w.alloc (.cells (engVals .u64 s R c).toArray 77)) (w1 := W2) (by rw [hW2]; exact Below.refl _ _)
  rw [World.size_alloc] at this; exact this
 have hcub2 : ∀ j, j < 80 → W2.cell? ⟨4, j, none⟩ = some (.int .u64 (K j)) := fun j hj => by
  rw [hW2, World.cell?_alloc_lt _ _ _ (by simp; omega), World.cell?_alloc_lt _ _ _ h3]; exact hcub j hj
 have hB2 : Below w.heap.size w W2 := by rw [hW2]; exact ((Below.refl _ _).alloc (Nat.le_refl _) _).alloc (by simp) _
 have hz2 : W2.heap.size = w.heap.size + 1 + 1 := by rw [hW2]; simp
 have HW2 : Hid (W2 = (w.alloc (.cells (engVals .u64 s R c).toArray 77)).alloc (.cells #[.int .i64 64, .int .i64 80, .int .u64 1, .int .u64 8, .int .u64 7, .int .u64 19, .int .u64 61, .int .u64 6, .int .u64 28, .int .u64 34, .int .u64 39, .int .u64 14, .int .u64 18, .int .u64 41] 82)) := hW2
 clear hW2
 go_enter Tryd.func48, Tryd.ntmps48
 go_wp2
 rw [← HW2.out]
 obtain ⟨p0, p1, p2, p3, p4, p5, p6, p7, p8, p9, p10, p11, p12, p13⟩ := id hRu
 have hcn := hE.cnt
 rw [Nat.zero_add] at hcn
 have hb0 : Below W2.heap.size W2 W2.drew := (Below.refl _ _).drew
 have hpad := padding64_any c hc W2.drew
 have HZ2 : Hid (W2.heap.size = w.heap.size + 1 + 1) := hz2
 clear hz2 hcub
 have hw : ∀ (w1 : World) (g : Nat), W2.drew.heap.size ≤ g → RowAt .u8 w1 g 0 (padN rw6 c) (padF rw6 c) → Below W2.drew.heap.size W2.drew w1 →
  Rules64 w1 (w.heap.size + 1) ∧ Calls Tryd.prog 47 #[.pointer (some ⟨w.heap.size, 0, none⟩), (.agg #[.int .i64 64, .int .i64 80, .int .u64 1, .int .u64 8, .int .u64 7, .int .u64 19, .int .u64 61, .int .u64 6, .int .u64 28, .int .u64 34, .int .u64 39, .int .u64 14, .int .u64 18, .int .u64 41]), .slice (some ⟨g, 0, none⟩) (padN rw6 c) (padN rw6 c)] w1
   fun e w' => e = .returned (.tuple #[]) ∧ EngAt .u64 w' w.heap.size 0 (writeE rw6 K s R c (padN rw6 c) (padF rw6 c)).1 (writeE rw6 K s R c (padN rw6 c) (padF rw6 c)).2 (c + padN rw6 c) ∧ Rules64 w' (w.heap.size + 1) ∧ Below w.heap.size w w' := fun w1 g hg hrow hb => by
  have hb' := below_next hb0 hb
  have hz := HZ2.out
  have hg' : w.heap.size + 1 + 1 ≤ g := by simp only [World.size_drew] at hg; omega
  have hR1 := hRu.below hb' (by omega)
  refine ⟨hR1, (write64_any K hK s hs R hR w.heap.size 0 c (padN rw6 c) _ (padF rw6 c) (padF_lt _ _) w1 (hE.below hb') (fun j hj => (hb'.cell (p := ⟨4, j, none⟩) (by show 4 < _; omega)).trans (hcub2 j hj)) (by omega) (.inr ⟨g, 0, _, rfl, by omega, Nat.le_refl _, fun j hj => (hrow j hj).1⟩) (by have := padN64_le c; omega)).mono ?_⟩
  rintro e w' ⟨rfl, hE', hO'⟩
  have hs' := hb'.size
  exact ⟨rfl, hE', hR1.same (fun q => hO'.cell' (by omega) (by omega)), hB2.trans ((hb'.mono (by omega)).trans (hO'.below (Nat.le_refl _) (by omega)))⟩
 go_cut [] from 8 (fun wc => EngAt .u64 wc w.heap.size 0 (writeE rw6 K s R c (padN rw6 c) (padF rw6 c)).1 (writeE rw6 K s R c (padN rw6 c) (padF rw6 c)).2 (c + padN rw6 c) ∧ Rules64 wc (w.heap.size + 1) ∧ Below w.heap.size w wc)
 case first =>
  go_region_with (first
   | (go_at_call 74; refine hpad.mono ?_; rintro e w1 ⟨g, rfl, hg, hrow, hb1⟩; obtain ⟨⟨r0, r1, r2, r3, r4, r5, r6, r7, r8, r9, r10, r11, r12, r13⟩, hwc⟩ := hw w1 g hg hrow hb1)
   | (go_at_call 47; refine hwc.mono ?_; rintro e w5 ⟨rfl, hE5, hR5, hB5⟩))
  all_goals
   go_wp2
   go_meet
   case rel => exact ⟨hE5, hR5, hB5⟩
 case rest =>
  obtain ⟨hE5, hR5, hB5⟩ := hcut
  have hs5 : (writeE rw6 K s R c (padN rw6 c) (padF rw6 c)).1.lt 18446744073709551616 := (writeE_lt (r := rw6) hs hR (padF_lt _ _)).1
  have HS5 : Hid (endS rw6 K s R c = (writeE rw6 K s R c (padN rw6 c) (padF rw6 c)).1) := (rfl : endS rw6 K s R c = (writeE rw6 K s R c (padN rw6 c) (padF rw6 c)).1)
  have hst := hE5.st
  obtain ⟨x, hx⟩ : ∃ x, x = (writeE rw6 K s R c (padN rw6 c) (padF rw6 c)).1 := ⟨_, rfl⟩
  have HX : Hid (x = (writeE rw6 K s R c (padN rw6 c) (padF rw6 c)).1) := hx
  rw [← hx] at hs5 hst
  clear hx
  have c0 := hR5.1
  have hmk := fun W => make_bytes W 64 64 rfl (by decide)
  clear hw hpad hb0 hcn p0 p1 p2 p3 p4 p5 p6 p7 p8 p9 p10 p11 p12 p13 hRu hcub2 hE hB2 HW2 HZ2 hE5
  have hwl : w.heap.size < wc.heap.size := block_lt_of_cell (hst 0 (by decide)).1
  have hwl1 : w.heap.size + 1 < wc.heap.size := block_lt_of_cell c0
  go_wp2
  clear hmk
  go_loopw [22] (fun i wr => ∃ k : Nat, k ≤ 64 ∧ i = .int .i64 k ∧ RowAt .u8 wr wc.heap.size 0 64 (outG 64 x k) ∧ Below wc.heap.size wc wr) (fun i _ => 64 - (intOf i).toNat)
  case atStart => exact ⟨0, Nat.zero_le _, rfl, RowAt.fresh (fun j hj => zb_at 64 j hj), (Below.refl _ _).alloc (Nat.le_refl _) _⟩
  case round =>
   obtain ⟨k, hk, rfl, hrow, hbel⟩ := hrel
   by_cases hlt : k < 64
   · have rs : wr.cell? ⟨w.heap.size, k / 8, none⟩ = some (.int .u64 (x.at (k / 8))) := by
      have := (hst (k / 8) (by omega)).1
      rw [Nat.zero_add] at this
      exact (hbel.cell (p := ⟨w.heap.size, k / 8, none⟩) hwl).trans this
     have rr : wr.cell? ⟨w.heap.size + 1, 0, none⟩ = some (.int .i64 64) := (hbel.cell (p := ⟨w.heap.size + 1, 0, none⟩) hwl1).trans c0
     obtain ⟨rg, rf⟩ := hrow k hlt
     rw [Nat.zero_add] at rg rf
     have hq : k / 8 < 8 := by omega
     go_wp2
     go_region
     go_wp2
     go_roundw
     case rel =>
      have h1 := hrow.set (i := k) hlt (v := (x.at (k / 8) : Int) / 2 ^ (64 - 8 - k % 8 * 8) % 256) (u := outB 64 x k) (by show _ = ((x.at (k / (64 / 8)) / 2 ^ (64 - 8 - k % (64 / 8) * 8) % 256 : Nat) : Int); simp)
      rw [Nat.zero_add] at h1
      exact ⟨k + 1, by omega, by go_num, h1.drew, (hbel.setCell (Nat.le_refl _) _).drew⟩
     case measure => simp [intOf]; omega
   · have hke : k = 64 := by omega
     subst hke
     go_wp2
     go_ret
     refine ⟨wc.heap.size, rfl, hB5.size, hrow.cong (fun j hj => ?_), hB5.trans (hbel.mono hB5.size)⟩
     rw [outG_at _ _ _ _ hj, HS5.out, ← HX.out]
end Go.Proofs.YtdgkmloabificaaDoor
namespace Go.Proofs.YtdgkmloabificaaDoor
open Go.RowKit
/-- The tables and the rules as the program's variables hold them. -/
structure HTab (w : World) (K q : Nat → Nat) : Prop where
 cubes : ∀ j, j < 80 → w.cell? ⟨4, j, none⟩ = some (.int .u64 (K j))
 squares : ∀ j, j < 8 → w.cell? ⟨3, j, none⟩ = some (.int .u64 (q j))
 narrow : Rules32 w 1
 wide : Rules64 w 0
 Klt : ∀ j, K j < 18446744073709551616
 qlt : ∀ j, q j < 18446744073709551616
theorem HTab.size {w : World} {K q : Nat → Nat} (h : HTab w K q) : 4 < w.heap.size := block_lt_of_cell (h.cubes 0 (by decide))
theorem HTab.below {w w' : World} {K q : Nat → Nat} (h : HTab w K q) {n : Nat} (hb : Below n w w') (hn : 4 < n) : HTab w' K q :=
 ⟨fun j hj => (hb.cell (p := ⟨4, j, none⟩) hn).trans (h.cubes j hj), fun j hj => (hb.cell (p := ⟨3, j, none⟩) (by show 3 < n; omega)).trans (h.squares j hj), h.narrow.below hb (by omega), h.wide.below hb (by omega), h.Klt, h.qlt⟩
theorem firstS_lt (r : Ru) (q : Nat → Nat) (hm : r.m ≤ 64) (hq : ∀ j, q j < 18446744073709551616) : (firstS r q).lt (2 ^ r.m) := by
 have h : ∀ j, q j / 2 ^ (64 - r.m) < 2 ^ r.m := fun j => by
  rw [Nat.div_lt_iff_lt_mul (Nat.two_pow_pos _), ← Nat.pow_add, show r.m + (64 - r.m) = 64 by omega]; exact hq j
 exact ⟨h 0, h 1, h 2, h 3, h 4, h 5, h 6, h 7⟩
/-- The state behind all blocks of n bytes and their padding, as the engine comes to it. -/
def hashS (r : Ru) (K q : Nat → Nat) (n : Nat) (bs : Nat → Nat) : St := endS r K (writeE r K (firstS r q) (fun _ => 0) 0 n bs).1 (writeE r K (firstS r q) (fun _ => 0) 0 n bs).2 n
theorem BytesIn.away {w w' : World} {v : Value} {n : Nat} {bs : Nat → Nat} (h : BytesIn w v n bs) (hb : Below w.heap.size w w') {b : Nat} (hn : w.heap.size ≤ b) : Bytes w' b v n bs := by
 rcases h with h | ⟨bb, ob, cap, rfl, h1, h2, h3⟩
 · exact .inl h
 · exact .inr ⟨bb, ob, cap, rfl, by omega, h2, fun j hj => (hb.cell (p := ⟨bb, ob + j, none⟩) h1).trans (h3 j hj)⟩
theorem there_new64 (w : World) : (w.alloc (.cells zeng64 77)).there w.heap.size 0 137 := (EngAt.fresh (K := .u64) w zSt (fun _ => 0) 0 77).there
set_option maxRecDepth 20000 in
set_option maxHeartbeats 1000000 in
theorem Sum512_any (K q : Nat → Nat) (v : Value) (n : Nat) (bs : Nat → Nat) (hbs : ∀ j, bs j < 256) (w : World) (hT : HTab w K q) (hv : BytesIn w v n bs) (hn : n < 2305843009213693952) :
 Calls Tryd.prog 21 #[v] w
  fun e w' => ∃ g, e = .returned (.slice (some ⟨g, 0, none⟩) 64 64) ∧ w.heap.size ≤ g ∧ RowAt .u8 w' g 0 64 (outB 64 (hashS rw6 K q n bs)) ∧ Below w.heap.size w w' := by
 have hz := zero77
 obtain ⟨p0, p1, p2, p3, p4, p5, p6, p7, p8, p9, p10, p11, p12, p13⟩ := id hT.wide
 have hst := start64_any q hT.qlt w hT.squares
 have hi := isz77 .u64 (firstS rw6 q) (fun _ => 0) 0
 have hone := all_oneCell_toArray (engVals_one .u64 (firstS rw6 q) (fun _ => 0) 0)
 have hF : (firstS rw6 q).lt 18446744073709551616 := firstS_lt rw6 q (by decide) hT.qlt
 have hkey : ∀ w1 : World, Below w.heap.size w w1 → (w1.alloc (.cells zeng64 77)).there w1.heap.size 0 (engVals .u64 (firstS rw6 q) (fun _ => 0) 0).toArray.size ∧ ∀ w2, w2 = (w1.alloc (.cells zeng64 77)).setCells w1.heap.size 0 (engVals .u64 (firstS rw6 q) (fun _ => 0) 0) → Rules64 w2 0 ∧ Calls Tryd.prog 47 #[.pointer (some ⟨w1.heap.size, 0, none⟩), (.agg #[.int .i64 64, .int .i64 80, .int .u64 1, .int .u64 8, .int .u64 7, .int .u64 19, .int .u64 61, .int .u64 6, .int .u64 28, .int .u64 34, .int .u64 39, .int .u64 14, .int .u64 18, .int .u64 41]), v] w2 fun e w' => e = .returned (.tuple #[]) ∧ Rules64 w' 0 ∧ EngAt .u64 w' w1.heap.size 0 (writeE rw6 K (firstS rw6 q) (fun _ => 0) 0 n bs).1 (writeE rw6 K (firstS rw6 q) (fun _ => 0) 0 n bs).2 n ∧ Below w.heap.size w w' ∧ ∀ j, j < 80 → w'.cell? ⟨4, j, none⟩ = some (.int .u64 (K j)) := fun w1 hb1 => by
  refine ⟨by simp only [List.size_toArray, engVals_len]; exact there_new64 w1, fun w2 hw2 => ?_⟩
  have h3 := hT.size
  have hs1 := hb1.size
  have hE : EngAt .u64 w2 w1.heap.size 0 (firstS rw6 q) (fun _ => 0) 0 := by rw [hw2]; exact EngAt.stored (there_new64 w1) _ _ _
  have hb2 : Below w1.heap.size w1 w2 := by rw [hw2]; exact below_setCells (Nat.le_refl _) _ _ _ ((Below.refl _ _).alloc (Nat.le_refl _) _)
  have hb3 : Below w.heap.size w w2 := hb1.trans (hb2.mono hs1)
  have hT2 := hT.below hb3 h3
  refine ⟨hT2.wide, (write64_any K hT.Klt (firstS rw6 q) hF (fun _ => 0) (fun _ => by decide) w1.heap.size 0 0 n v bs hbs w2 hE hT2.cubes (by omega) (hv.away hb3 hs1) (by omega)).mono ?_⟩
  rintro e w' ⟨rfl, hE', hO'⟩
  have hl : w1.heap.size < w2.heap.size := block_lt_of_cell hE.cnt
  have hb4 : Below w.heap.size w w' := hb3.trans (hO'.below hs1 (by omega))
  have hT3 := hT.below hb4 h3
  rw [Nat.zero_add] at hE'
  exact ⟨rfl, hT3.wide, hE', hb4, hT3.cubes⟩
 have hX := writeE_lt (r := rw6) (K := K) (c := 0) (n := n) hF (fun _ => (by decide : (0 : Nat) < 256)) hbs
 obtain ⟨X, hXe⟩ : ∃ X, X = writeE rw6 K (firstS rw6 q) (fun _ => 0) 0 n bs := ⟨_, rfl⟩
 have HX : Hid (X = writeE rw6 K (firstS rw6 q) (fun _ => 0) 0 n bs) := hXe
 rw [← hXe] at hkey hX
 have hsum := fun w' h => sum64_any K hT.Klt X.1 hX.1 X.2 hX.2 n hn w' h
 clear hXe hv hT hF
 go_enter Tryd.func21, Tryd.ntmps21
 go_wp2_with (first
  | (go_at_call 46; refine hst.mono ?_; clear hst; rintro e w1 ⟨rfl, hb1⟩; obtain ⟨ht, hk2⟩ := hkey w1 hb1; clear hkey)
  | (refine wpList_store_mid rfl 77 _ _ rfl _ 0 _ rfl rfl ht hi hone ?_; rw [List.toList_toArray]; obtain ⟨w2, hw2⟩ : ∃ w2, w2 = (w1.alloc (.cells zeng64 77)).setCells w1.heap.size 0 (engVals .u64 (firstS rw6 q) (fun _ => 0) 0) := ⟨_, rfl⟩; obtain ⟨⟨r0, r1, r2, r3, r4, r5, r6, r7, r8, r9, r10, r11, r12, r13⟩, hwr⟩ := hk2 w2 hw2; rw [← hw2]; clear hw2 hk2 ht hi hone hz)
  | (go_at_call 47; refine hwr.mono ?_; clear hwr; rintro e w5 ⟨rfl, ⟨t0, t1, t2, t3, t4, t5, t6, t7, t8, t9, t10, t11, t12, t13⟩, hE5, hB5, hc5⟩)
  | (refine wpList_load_mid rfl 77 _ rfl _ 0 rfl _ _ hE5.range Tryd.underlying77 rfl (by rw [engVals_len]; kernel_rfl) ?_)
  | (go_at_call 48; refine (hsum w5 hc5).mono ?_; rintro e w6 ⟨g, rfl, hg, hrow, hb6⟩))
 go_ret
 have e : hashS rw6 K q n bs = endS rw6 K X.1 X.2 n := by rw [HX.out]; rfl
 rw [e]
 exact ⟨g, rfl, Nat.le_trans hB5.size hg, hrow, hB5.trans (hb6.mono hB5.size)⟩
end Go.Proofs.YtdgkmloabificaaDoor
namespace Go.Proofs.YtdgkmloabificaaDoor
open Go.RowKit
/-- The three numbers of each of the four lists. -/
structure Lists32 (w : World) (g0 g1 g2 g3 : Nat) : Prop where
 a0 : w.cell? ⟨g0, 0, none⟩ = some (.int .i64 7)
 a1 : w.cell? ⟨g0, 1, none⟩ = some (.int .i64 18)
 a2 : w.cell? ⟨g0, 2, none⟩ = some (.int .i64 3)
 b0 : w.cell? ⟨g1, 0, none⟩ = some (.int .i64 17)
 b1 : w.cell? ⟨g1, 1, none⟩ = some (.int .i64 19)
 b2 : w.cell? ⟨g1, 2, none⟩ = some (.int .i64 10)
 c0 : w.cell? ⟨g2, 0, none⟩ = some (.int .i64 2)
 c1 : w.cell? ⟨g2, 1, none⟩ = some (.int .i64 13)
 c2 : w.cell? ⟨g2, 2, none⟩ = some (.int .i64 22)
 d0 : w.cell? ⟨g3, 0, none⟩ = some (.int .i64 6)
 d1 : w.cell? ⟨g3, 1, none⟩ = some (.int .i64 11)
 d2 : w.cell? ⟨g3, 2, none⟩ = some (.int .i64 25)
theorem Lists32.below {w w' : World} {g0 g1 g2 g3 : Nat} (h : Lists32 w g0 g1 g2 g3) (hb : Below w.heap.size w w') : Lists32 w' g0 g1 g2 g3 := by
 have k : ∀ {g j : Nat} {v : Value}, w.cell? ⟨g, j, none⟩ = some v → w'.cell? ⟨g, j, none⟩ = some v := fun {g j v} e => (hb.cell (p := ⟨g, j, none⟩) (block_lt_of_cell e)).trans e
 exact ⟨k h.a0, k h.a1, k h.a2, k h.b0, k h.b1, k h.b2, k h.c0, k h.c1, k h.c2, k h.d0, k h.d1, k h.d2⟩
/-- The cells of a box that holds the sizes. -/
def ZBox32 (W : World) (B g0 g1 g2 g3 : Nat) : Prop := W.cell? ⟨B, 0, none⟩ = some (.int .i64 32) ∧ W.cell? ⟨B, 1, none⟩ = some (.int .i64 64) ∧ W.cell? ⟨B, 2, none⟩ = some (.int .i64 64) ∧ W.cell? ⟨B, 3, none⟩ = some (.slice (some ⟨g0, 0, none⟩) 3 3) ∧ W.cell? ⟨B, 4, none⟩ = some (.slice (some ⟨g1, 0, none⟩) 3 3) ∧ W.cell? ⟨B, 5, none⟩ = some (.slice (some ⟨g2, 0, none⟩) 3 3) ∧ W.cell? ⟨B, 6, none⟩ = some (.slice (some ⟨g3, 0, none⟩) 3 3)
theorem ZBox32.below {w w' : World} {B g0 g1 g2 g3 : Nat} (h : ZBox32 w B g0 g1 g2 g3) (hb : Below w.heap.size w w') : ZBox32 w' B g0 g1 g2 g3 := by
 have k : ∀ {g j : Nat} {v : Value}, w.cell? ⟨g, j, none⟩ = some v → w'.cell? ⟨g, j, none⟩ = some v := fun {g j v} e => (hb.cell (p := ⟨g, j, none⟩) (block_lt_of_cell e)).trans e
 obtain ⟨h0, h1, h2, h3, h4, h5, h6⟩ := h
 exact ⟨k h0, k h1, k h2, k h3, k h4, k h5, k h6⟩
/-- The three numbers of each of the four lists. -/
structure Lists64 (w : World) (g0 g1 g2 g3 : Nat) : Prop where
 a0 : w.cell? ⟨g0, 0, none⟩ = some (.int .i64 1)
 a1 : w.cell? ⟨g0, 1, none⟩ = some (.int .i64 8)
 a2 : w.cell? ⟨g0, 2, none⟩ = some (.int .i64 7)
 b0 : w.cell? ⟨g1, 0, none⟩ = some (.int .i64 19)
 b1 : w.cell? ⟨g1, 1, none⟩ = some (.int .i64 61)
 b2 : w.cell? ⟨g1, 2, none⟩ = some (.int .i64 6)
 c0 : w.cell? ⟨g2, 0, none⟩ = some (.int .i64 28)
 c1 : w.cell? ⟨g2, 1, none⟩ = some (.int .i64 34)
 c2 : w.cell? ⟨g2, 2, none⟩ = some (.int .i64 39)
 d0 : w.cell? ⟨g3, 0, none⟩ = some (.int .i64 14)
 d1 : w.cell? ⟨g3, 1, none⟩ = some (.int .i64 18)
 d2 : w.cell? ⟨g3, 2, none⟩ = some (.int .i64 41)
theorem Lists64.below {w w' : World} {g0 g1 g2 g3 : Nat} (h : Lists64 w g0 g1 g2 g3) (hb : Below w.heap.size w w') : Lists64 w' g0 g1 g2 g3 := by
 have k : ∀ {g j : Nat} {v : Value}, w.cell? ⟨g, j, none⟩ = some v → w'.cell? ⟨g, j, none⟩ = some v := fun {g j v} e => (hb.cell (p := ⟨g, j, none⟩) (block_lt_of_cell e)).trans e
 exact ⟨k h.a0, k h.a1, k h.a2, k h.b0, k h.b1, k h.b2, k h.c0, k h.c1, k h.c2, k h.d0, k h.d1, k h.d2⟩
/-- The cells of a box that holds the sizes. -/
def ZBox64 (W : World) (B g0 g1 g2 g3 : Nat) : Prop := W.cell? ⟨B, 0, none⟩ = some (.int .i64 64) ∧ W.cell? ⟨B, 1, none⟩ = some (.int .i64 128) ∧ W.cell? ⟨B, 2, none⟩ = some (.int .i64 80) ∧ W.cell? ⟨B, 3, none⟩ = some (.slice (some ⟨g0, 0, none⟩) 3 3) ∧ W.cell? ⟨B, 4, none⟩ = some (.slice (some ⟨g1, 0, none⟩) 3 3) ∧ W.cell? ⟨B, 5, none⟩ = some (.slice (some ⟨g2, 0, none⟩) 3 3) ∧ W.cell? ⟨B, 6, none⟩ = some (.slice (some ⟨g3, 0, none⟩) 3 3)
theorem ZBox64.below {w w' : World} {B g0 g1 g2 g3 : Nat} (h : ZBox64 w B g0 g1 g2 g3) (hb : Below w.heap.size w w') : ZBox64 w' B g0 g1 g2 g3 := by
 have k : ∀ {g j : Nat} {v : Value}, w.cell? ⟨g, j, none⟩ = some v → w'.cell? ⟨g, j, none⟩ = some v := fun {g j v} e => (hb.cell (p := ⟨g, j, none⟩) (block_lt_of_cell e)).trans e
 obtain ⟨h0, h1, h2, h3, h4, h5, h6⟩ := h
 exact ⟨k h0, k h1, k h2, k h3, k h4, k h5, k h6⟩
end Go.Proofs.YtdgkmloabificaaDoor
namespace Go.Proofs.YtdgkmloabificaaDoor
open Go.RowKit
theorem fill_congr {m sz : Nat} {bs cs : Nat → Nat} : ∀ i, (∀ j, j < i → bs j = cs j) → fill m sz bs i = fill m sz cs i
 | 0, _ => rfl
 | i + 1, h => by unfold fill; rw [fill_congr i (fun j hj => h j (by omega)), h i (by omega)]
theorem blockS_congr {r : Ru} {K : Nat → Nat} {bs cs : Nat → Nat} {s : St} (h : ∀ j, j < 2 * r.m → bs j = cs j) : blockS r K bs s = blockS r K cs s := by
 unfold blockS; rw [fill_congr _ h]
theorem loopS_congr {r : Ru} {K : Nat → Nat} {s : St} {bs cs : Nat → Nat} : ∀ i, (∀ j, j < i * (2 * r.m) → bs j = cs j) → loopS r K s bs i = loopS r K s cs i
 | 0, _ => rfl
 | i + 1, h => by
  unfold loopS
  have hs : (i + 1) * (2 * r.m) = i * (2 * r.m) + 2 * r.m := Nat.succ_mul i (2 * r.m)
  rw [loopS_congr i (fun j hj => h j (by omega))]
  exact blockS_congr fun j hj => h _ (by omega)
theorem loopS_add {r : Ru} {K : Nat → Nat} {s : St} {bs : Nat → Nat} (i : Nat) : ∀ k, loopS r K s bs (i + k) = loopS r K (loopS r K s bs i) (fun j => bs (i * (2 * r.m) + j)) k
 | 0 => rfl
 | k + 1 => by
  show blockS r K (fun j => bs ((i + k) * (2 * r.m) + j)) (loopS r K s bs (i + k)) = blockS r K (fun j => bs (i * (2 * r.m) + (k * (2 * r.m) + j))) _
  rw [loopS_add i k]
  exact blockS_congr fun j _ => by rw [Nat.add_mul, Nat.add_assoc]
theorem divmod {x a b t : Nat} (h : x = a * b + t) (ht : t < b) : x / b = a ∧ x % b = t := by
 subst h
 have hb : 0 < b := by omega
 exact ⟨by rw [Nat.add_comm, Nat.add_mul_div_right _ _ hb, Nat.div_eq_of_lt ht, Nat.zero_add], by rw [Nat.add_comm, Nat.add_mul_mod_self_right, Nat.mod_eq_of_lt ht]⟩
/-- A state and held bytes are those behind n bytes. -/
structure Holds (r : Ru) (K : Nat → Nat) (s0 : St) (n : Nat) (bs : Nat → Nat) (s : St) (R : Nat → Nat) : Prop where
 st : s = loopS r K s0 bs (n / (2 * r.m))
 rest : ∀ j, j < n % (2 * r.m) → R j = bs (n / (2 * r.m) * (2 * r.m) + j)
theorem Holds.none (r : Ru) (K : Nat → Nat) (s0 : St) (bs R : Nat → Nat) : Holds r K s0 0 bs s0 R := ⟨by rw [Nat.zero_div]; rfl, fun j h => by rw [Nat.zero_mod] at h; omega⟩
theorem Holds.congr {r : Ru} {K : Nat → Nat} {s0 : St} {n : Nat} {bs cs : Nat → Nat} {s : St} {R : Nat → Nat} (h : Holds r K s0 n bs s R) (e : ∀ j, j < n → bs j = cs j) : Holds r K s0 n cs s R := by
 have h1 := Nat.div_add_mod n (2 * r.m)
 rw [Nat.mul_comm] at h1
 exact ⟨h.st.trans (loopS_congr _ fun j hj => e j (by omega)), fun j hj => (h.rest j hj).trans (e _ (by omega))⟩
theorem Holds.write {r : Ru} {K : Nat → Nat} {s0 : St} {n : Nat} {bs : Nat → Nat} {s : St} {R : Nat → Nat} (hm : 0 < r.m) (h : Holds r K s0 n bs s R) (m : Nat) (b2 : Nat → Nat) :
 Holds r K s0 (n + m) (cat n bs b2) (writeE r K s R n m b2).1 (writeE r K s R n m b2).2 := by
 obtain ⟨hst, hrest⟩ := h
 obtain ⟨B, hB⟩ : ∃ B, B = 2 * r.m := ⟨_, rfl⟩
 have hB0 : 0 < B := by omega
 have hn := Nat.div_add_mod n B
 have ht := Nat.mod_lt n hB0
 rw [← hB] at hst hrest
 obtain ⟨a, ha⟩ : ∃ a, a = n / B := ⟨_, rfl⟩
 obtain ⟨t, htt⟩ : ∃ t, t = n % B := ⟨_, rfl⟩
 rw [← ha] at hst hrest hn
 rw [← htt] at hrest hn ht
 rw [Nat.mul_comm] at hn
 have hpre : loopS r K s0 (cat n bs b2) a = s := by
  rw [hst]
  refine loopS_congr _ fun j hj => ?_
  rw [← hB] at hj
  show (if j < n then bs j else _) = _
  rw [if_pos (by omega)]
 -- what tailE makes, where a whole block's end is reached at place p (a multiple of B) of all bytes
 have tail : ∀ (p c m' : Nat) (s' : St) (R' : Nat → Nat) (b' : Nat → Nat), p = c * B → s' = loopS r K s0 (cat n bs b2) c → (∀ j, cat n bs b2 (p + j) = b' j) → p + m' = n + m →
  Holds r K s0 (n + m) (cat n bs b2) (tailE r K s' R' m' b').1 (tailE r K s' R' m' b').2 := by
  intro p c m' s' R' b' hp hs' hb' hpm
  have hm' := Nat.div_add_mod m' B
  have hu := Nat.mod_lt m' hB0
  rw [Nat.mul_comm] at hm'
  obtain ⟨e1, e2⟩ := divmod (x := n + m) (a := c + m' / B) (b := B) (t := m' % B) (by rw [Nat.add_mul]; omega) hu
  refine ⟨?_, ?_⟩
  · rw [← hB, e1, loopS_add, ← hB, ← hp, ← hs']
    show loopS r K s' b' (m' / (2 * r.m)) = _
    rw [← hB]
    exact loopS_congr _ fun j _ => (hb' j).symm
  · intro j hj
    rw [← hB, e2] at hj
    rw [← hB, e1]
    show over R' 0 (m' % (2 * r.m)) (fun j => b' (m' / (2 * r.m) * (2 * r.m) + j)) j = _
    rw [← hB]
    unfold over
    rw [if_pos ⟨Nat.zero_le _, by omega⟩, Nat.sub_zero]
    show b' (m' / B * B + j) = _
    rw [← hb', Nat.add_mul, hp, Nat.add_assoc]
 unfold writeE
 rw [← hB, ← htt]
 by_cases h0 : t = 0
 · rw [if_pos h0]
   refine tail n a m s R b2 (by omega) hpre.symm (fun j => ?_) rfl
   unfold cat
   rw [if_neg (by omega), show n + j - n = j by omega]
 · rw [if_neg h0]
   by_cases h1 : t + m < B
   · rw [if_pos h1]
     obtain ⟨e1, e2⟩ := divmod (x := n + m) (a := a) (b := B) (t := t + m) (by omega) h1
     refine ⟨?_, ?_⟩
     · rw [← hB, e1]; exact hpre.symm
     · intro j hj
       rw [← hB, e2] at hj
       rw [← hB, e1]
       show over R t m b2 j = _
       unfold over cat
       by_cases h2 : j < t
       · rw [if_neg (by omega), if_pos (by omega)]; exact hrest j h2
       · rw [if_pos (by omega), if_neg (by omega)]; congr 1; omega
   · rw [if_neg h1]
     refine tail (n + (B - t)) (a + 1) (m - (B - t)) _ _ _ (by rw [Nat.succ_mul]; omega) ?_ (fun j => ?_) (by omega)
     · show _ = blockS r K (fun j => cat n bs b2 (a * (2 * r.m) + j)) (loopS r K s0 (cat n bs b2) a)
       rw [hpre]
       refine blockS_congr fun j hj => ?_
       rw [← hB] at hj ⊢
       unfold over cat
       by_cases h2 : j < t
       · rw [if_neg (by omega), if_pos (by omega)]; exact hrest j h2
       · rw [if_pos (by omega), if_neg (by omega)]; congr 1; omega
     · unfold cat
       rw [if_neg (by omega)]; congr 1; omega
/-- The state behind all blocks of a text and its padding. -/
def specS (r : Ru) (K q : Nat → Nat) (n : Nat) (bs : Nat → Nat) : St := loopS r K (firstS r q) (cat n bs (padF r n)) ((n + padN r n) / (2 * r.m))
theorem Holds.end {r : Ru} {K q : Nat → Nat} {n : Nat} {bs : Nat → Nat} {s : St} {R : Nat → Nat} (hm : 0 < r.m) (h : Holds r K (firstS r q) n bs s R) : endS r K s R n = specS r K q n bs := (h.write hm (padN r n) (padF r n)).st
theorem hashS_spec {r : Ru} (K q : Nat → Nat) (n : Nat) (bs : Nat → Nat) (hm : 0 < r.m) : hashS r K q n bs = specS r K q n bs := by
 have h := (Holds.none r K (firstS r q) bs (fun _ => 0)).write hm n bs
 rw [Nat.zero_add] at h
 exact Holds.end hm (h.congr fun j _ => by unfold cat; rw [if_neg (by omega), Nat.sub_zero])
theorem specS_congr {r : Ru} {K q : Nat → Nat} {n : Nat} {bs cs : Nat → Nat} (h : ∀ j, j < n → bs j = cs j) : specS r K q n bs = specS r K q n cs :=
 loopS_congr _ fun j _ => by
  unfold cat
  by_cases e : j < n
  · rw [if_pos e, if_pos e]; exact h j e
  · rw [if_neg e, if_neg e]
end Go.Proofs.YtdgkmloabificaaDoor
namespace Go.Proofs.YtdgkmloabificaaDoor
open Go
def cubesL : List Nat := [4794697086780616226, 8158064640168781261, 13096744586834688815, 16840607885511220156, 4131703408338449720, 6480981068601479193, 10538285296894168987, 12329834152419229976, 15566598209576043074, 1334009975649890238, 2608012711638119052, 6128411473006802146, 8268148722764581231, 9286055187155687089, 11230858885718282805, 13951009754708518548, 16472876342353939154, 17275323862435702243, 1135362057144423861, 2597628984639134821, 3308224258029322869, 5365058923640841347, 6679025012923562964, 8573033837759648693, 10970295158949994411, 12119686244451234320, 12683024718118986047, 13788192230050041572, 14330467153632333762, 15395433587784984357, 489312712824947311, 1452737877330783856, 2861767655752347644, 3322285676063803686, 5560940570517711597, 5996557281743188959, 7280758554555802590, 8532644243296465576, 9350256976987008742, 10552545826968843579, 11727347734174303076, 12113106623233404929, 14000437183269869457, 14369950271660146224, 15101387698204529176, 15463397548674623760, 17586052441742319658, 1182934255886127544, 1847814050463011016, 2177327727835720531, 2830643537854262169, 3796741975233480872, 4115178125766777443, 5681478168544905931, 6601373596472566643, 7507060721942968483, 8399075790359081724, 8693463985226723168, 9568029438360202098, 10144078919501101548, 10430055236837252648, 11840083180663258601, 13761210420658862357, 14299343276471374635, 14566680578165727644, 15097957966210449927, 16922976911328602910, 17689382322260857208, 500013540394364858, 748580250866718886, 1242879168328830382, 1977374033974150939, 2944078676154940804, 3659926193048069267, 4368137639120453308, 4836135668995329356, 5532061633213252278, 6448918945643986474, 6902733635092675308, 7801388544844847127]
def squaresL : List Nat := [7640891576956012808, 13503953896175478587, 4354685564936845355, 11912009170470909681, 5840696475078001361, 11170449401992604703, 2270897969802886507, 6620516959819538809]
def cubeK (j : Nat) : Nat := cubesL.getD j 0
def squareK (j : Nat) : Nat := squaresL.getD j 0
end Go.Proofs.YtdgkmloabificaaDoor
namespace Go.Proofs.YtdgkmloabificaaDoor
open Go.RowKit
theorem cubeK_lt : ∀ j, cubeK j < 18446744073709551616 := fun j => by
 unfold cubeK
 rw [List.getD_eq_getElem?_getD]
 cases h : cubesL[j]? with
 | none => decide
 | some x =>
  have hm : x ∈ cubesL := List.mem_of_getElem? h
  exact of_decide_eq_true (List.all_eq_true.1 (show cubesL.all (fun x => decide (x < 18446744073709551616)) = true by kernel_rfl) x hm)
theorem squareK_lt : ∀ j, squareK j < 18446744073709551616 := fun j => by
 unfold squareK
 rw [List.getD_eq_getElem?_getD]
 cases h : squaresL[j]? with
 | none => decide
 | some x =>
  have hm : x ∈ squaresL := List.mem_of_getElem? h
  exact of_decide_eq_true (List.all_eq_true.1 (show squaresL.all (fun x => decide (x < 18446744073709551616)) = true by kernel_rfl) x hm)
end Go.Proofs.YtdgkmloabificaaDoor
namespace Go.Proofs.YtdgkmloabificaaDoor
open Go.RowKit
/-- The first bytes of any, zeros behind. -/
def fitB (n : Nat) (bs : Nat → Nat) (j : Nat) : Nat := if j < n then bs j else 0
theorem fitB_lt {n : Nat} {bs : Nat → Nat} (h : ∀ j, bs j < 256) (j : Nat) : fitB n bs j < 256 := by
 unfold fitB; split
 · exact h j
 · decide
theorem infoByte : (Tryd.prog.info? 5).map (·.size) = some 1 := by kernel_rfl
set_option maxRecDepth 20000 in
theorem fit_any (v : Value) (n : Nat) (bs : Nat → Nat) (w : World) (hv : BytesIn w v n bs) : Calls Tryd.prog 4 #[v] w fun e w' => ∃ s, e = .returned s ∧ NewB w w' s 32 (fitB n bs) ∧ Below w.heap.size w w' := by
 have hmk := make_bytes w 32 32 rfl (by decide)
 obtain ⟨W, hW⟩ : ∃ W, W = w.alloc (.cells (zb 32) 5) := ⟨_, rfl⟩
 have hrow : RowAt .u8 W w.heap.size 0 32 (fun _ => 0) := by rw [hW]; exact RowAt.fresh (fun j hj => zb_at 32 j hj)
 have hb : Below w.heap.size w W := by rw [hW]; exact (Below.refl _ _).alloc (Nat.le_refl _) _
 obtain ⟨xo, c, rfl, hxn, hnc, hsrc⟩ := hv.src
 have src := hsrc W hb
 have hth := hrow.there
 obtain ⟨m, hm⟩ : ∃ m, m = Nat.min n 32 := ⟨_, rfl⟩
 have hsp := hrow.splice 0 m bs (by rw [hm, Nat.zero_add]; exact Nat.min_le_right _ _)
 rw [← hW] at hmk
 have Hm := Hid.mk' hm
 clear hW hv hsrc hm
 go_enter Tryd.func4, Tryd.ntmps4
 go_wp2_with (first
  | rw [hmk]
  | (refine wpList_copy_bytes rfl _ _ 22 22 rfl 5 Tryd.underlying22 infoByte w.heap.size 0 32 32 xo n c rfl rfl m bs src Hm.out hth ?_))
 go_ret
 refine ⟨_, rfl, ⟨w.heap.size, rfl, Nat.le_refl _, ?_⟩, below_setCells (Nat.le_refl _) _ _ _ hb⟩
 refine hsp.congr (fun j hj => ?_)
 have := Hm.out
 unfold over fitB
 by_cases e : j < n
 · rw [if_pos ⟨Nat.zero_le _, by rw [Nat.zero_add, this]; exact Nat.lt_min.2 ⟨e, hj⟩⟩, if_pos e, Nat.sub_zero]
 · rw [if_neg (fun h => by have h2 := h.2; rw [Nat.zero_add, this] at h2; exact e (Nat.lt_min.1 h2).1), if_neg e]
end Go.Proofs.YtdgkmloabificaaDoor
namespace Go.Proofs.YtdgkmloabificaaDoor
open Go.RowKit
/-- Bytes, clamped. -/
def clB (bs : Nat → Nat) (j : Nat) : Nat := if j = 0 then bs 0 / 8 * 8 else if j = 31 then bs 31 % 64 + 64 else bs j
theorem clB_lt {bs : Nat → Nat} (h : ∀ j, bs j < 256) (j : Nat) : clB bs j < 256 := by
 unfold clB
 have := h 0; have := h 31; have := h j
 split
 · omega
 · split
   · omega
   · exact h j
theorem and_not7 : ∀ b : Nat, b < 256 → bits .andNot .u8 (b : Int) 7 = ((b / 8 * 8 : Nat) : Int) := by decide +kernel
theorem and_not128 : ∀ b : Nat, b < 256 → bits .andNot .u8 (b : Int) 128 = ((b % 128 : Nat) : Int) := by decide +kernel
theorem or_64 : ∀ b : Nat, b < 128 → bits .or .u8 (b : Int) 64 = ((b % 64 + 64 : Nat) : Int) := by decide +kernel
set_option maxRecDepth 20000 in
set_option maxHeartbeats 2000000 in
theorem clamp_good (v : Value) (bs : Nat → Nat) (hbs : ∀ j, bs j < 256) (w : World) (hv : BytesIn w v 32 bs) : Calls Tryd.prog 22 #[v] w fun e w' => ∃ s, e = .returned (.tuple #[s, .int .i64 0]) ∧ NewB w w' s 32 (clB bs) ∧ Below w.heap.size w w' := by
 have hmk := make_bytes w 32 32 rfl (by decide)
 obtain ⟨W, hW⟩ : ∃ W, W = w.alloc (.cells (zb 32) 5) := ⟨_, rfl⟩
 have hrow : RowAt .u8 W w.heap.size 0 32 (fun _ => 0) := by rw [hW]; exact RowAt.fresh (fun j hj => zb_at 32 j hj)
 have hb : Below w.heap.size w W := by rw [hW]; exact (Below.refl _ _).alloc (Nat.le_refl _) _
 obtain ⟨xo, c, rfl, hxn, hnc, hsrc⟩ := hv.src
 have src := hsrc W hb
 have hth := hrow.there
 have hsp := hrow.splice 0 32 bs (by decide)
 rw [← hW] at hmk
 have hb2 : Below w.heap.size w (W.setCells w.heap.size 0 (ints .u8 32 bs)) := below_setCells (Nat.le_refl _) _ _ _ hb
 replace hsp : RowAt .u8 (W.setCells w.heap.size 0 (ints .u8 32 bs)) w.heap.size 0 32 bs := hsp.congr (fun j hj => by unfold over; rw [if_pos ⟨Nat.zero_le _, by omega⟩, Nat.sub_zero])
 obtain ⟨V, hV⟩ : ∃ V, V = W.setCells w.heap.size 0 (ints .u8 32 bs) := ⟨_, rfl⟩
 rw [← hV] at hsp hb2
 have HV := Hid.mk' hV
 clear hW hv hsrc hV hrow
 have c0 := (hsp 0 (by decide)).1
 have f0 := (hsp 0 (by decide)).2
 have c1 := (hsp 31 (by decide)).1
 have f1 := (hsp 31 (by decide)).2
 rw [Nat.zero_add] at c0 f0 c1 f1
 have e1 := and_not7 (bs 0) (hbs 0)
 have e2 := and_not128 (bs 31) (hbs 31)
 have e3 := or_64 (bs 31 % 128) (by omega)
 have r1 := hsp.set (i := 0) (by decide) (v := ((bs 0 / 8 * 8 : Nat) : Int)) rfl
 rw [Nat.zero_add] at r1
 have r2 := r1.set (i := 31) (by decide) (v := ((bs 31 % 128 : Nat) : Int)) rfl
 rw [Nat.zero_add] at r2
 have r3 := r2.set (i := 31) (by decide) (v := ((bs 31 % 128 % 64 + 64 : Nat) : Int)) rfl
 rw [Nat.zero_add] at r3
 generalize ((bs 0 / 8 * 8 : Nat) : Int) = b0 at *
 generalize hb1 : ((bs 31 % 128 : Nat) : Int) = b1 at *
 generalize ((bs 31 % 128 % 64 + 64 : Nat) : Int) = b3 at *
 clear hb1
 go_enter Tryd.func22, Tryd.ntmps22
 go_wp2_with (first
  | rw [hmk]
  | (refine wpList_copy_bytes rfl _ _ 22 22 rfl 5 Tryd.underlying22 infoByte w.heap.size 0 32 32 xo 32 c rfl rfl 32 bs src rfl hth ?_; rw [← HV.out]; clear src hth HV hmk))
 refine bodyPost_ret (results_tmp2 rfl _ _ _) rfl ⟨_, rfl, ⟨w.heap.size, rfl, Nat.le_refl _, r3.congr (fun j hj => ?_)⟩, ?_⟩
 · unfold upd clB
   by_cases h31 : j = 31
   · rw [if_pos h31, if_neg (by omega), if_pos h31]; omega
   · simp only [if_neg h31]
 · exact below_setCells (Nat.le_refl _) [_] 31 _ (below_setCells (Nat.le_refl _) [_] 31 _ (below_setCells (Nat.le_refl _) [_] 0 _ hb2))
end Go.Proofs.YtdgkmloabificaaDoor
namespace Go.Proofs.YtdgkmloabificaaDoor
/-- The order of the curve's points. -/
def oL : Nat := 7237005577332262213973186563042994240857116359379907606001950938285454250989
/-- Its words. -/
def Lw (j : Nat) : Nat := if j = 0 then 6346243789798364141 else if j = 1 then 1503914060200516822 else if j = 3 then 1152921504606846976 else 0
theorem Lw_lt (j : Nat) : Lw j < 18446744073709551616 := by
 unfold Lw; split
 · decide
 · split
   · decide
   · split <;> decide
/-- The number of k words from a on. -/
def pt (X : Nat → Nat) (a : Nat) : Nat → Nat
 | 0 => 0
 | k + 1 => pt X a k + X (a + k) * 18446744073709551616 ^ k
theorem pt_succ0 (X : Nat → Nat) (m : Nat) : pt X 0 (m + 1) = pt X 0 m + X m * 18446744073709551616 ^ m := by rw [pt, Nat.zero_add]
theorem pt5 (X : Nat → Nat) (a : Nat) : pt X a 5 = pt X a 4 + X (a + 4) * 18446744073709551616 ^ 4 := rfl
theorem pt_L : pt Lw 0 4 = oL := by kernel_rfl
theorem pt_congr {X Y : Nat → Nat} {a : Nat} : ∀ k, (∀ j, j < k → X (a + j) = Y (a + j)) → pt X a k = pt Y a k
 | 0, _ => rfl
 | k + 1, h => by rw [pt, pt, pt_congr k (fun j hj => h j (by omega)), h k (by omega)]
theorem pt_lt {X : Nat → Nat} (h : ∀ j, X j < 18446744073709551616) (a : Nat) : ∀ k, pt X a k < 18446744073709551616 ^ k
 | 0 => Nat.one_pos
 | k + 1 => by
  have h1 := pt_lt h a k
  have h2 : X (a + k) * 18446744073709551616 ^ k ≤ 18446744073709551615 * 18446744073709551616 ^ k := Nat.mul_le_mul_right _ (by have := h (a + k); omega)
  rw [pt, Nat.pow_succ]
  omega
theorem pt_split (X : Nat → Nat) (a m : Nat) : ∀ k, pt X a (m + k) = pt X a m + 18446744073709551616 ^ m * pt X (a + m) k
 | 0 => by rw [pt, Nat.mul_zero, Nat.add_zero, Nat.add_zero]
 | k + 1 => by
  rw [← Nat.add_assoc, pt, pt_split X a m k, pt, Nat.mul_add, Nat.pow_add, ← Nat.add_assoc, ← Nat.add_assoc]
  congr 1
  rw [← Nat.mul_assoc, ← Nat.mul_assoc, Nat.mul_comm (X (a + m + k))]
theorem pt_head (X : Nat → Nat) (a k : Nat) : pt X a (k + 1) = X a + 18446744073709551616 * pt X (a + 1) k := by
 rw [Nat.add_comm k 1, pt_split X a 1 k, pt, pt]
 simp
/-- The words of a number. -/
theorem pt_lw (N : Nat) : ∀ k, pt (lw N) 0 k = N % 18446744073709551616 ^ k
 | 0 => by rw [pt, Nat.pow_zero, Nat.mod_one]
 | k + 1 => by
  rw [pt, pt_lw N k, Nat.pow_succ, Nat.mod_mul, Nat.zero_add]
  unfold lw
  rw [Nat.mul_comm]
theorem lw_pt {X : Nat → Nat} (h : ∀ j, X j < 18446744073709551616) : ∀ k j, j < k → lw (pt X 0 k) j = X j
 | 0, _, hj => absurd hj (Nat.not_lt_zero _)
 | k + 1, j, hj => by
  rw [pt, Nat.zero_add]
  unfold lw
  by_cases e : j = k
  · subst e
    rw [Nat.mul_comm, Nat.add_mul_div_left _ _ (Nat.pow_pos (by decide)), Nat.div_eq_of_lt (pt_lt h 0 j), Nat.zero_add, Nat.mod_eq_of_lt (h j)]
  · have hj2 : j < k := by omega
    have e2 : k = j + (1 + (k - j - 1)) := by omega
    have : 18446744073709551616 ^ k = 18446744073709551616 ^ j * (18446744073709551616 * 18446744073709551616 ^ (k - j - 1)) := by
     conv => lhs; rw [e2]
     rw [Nat.pow_add, Nat.pow_add, Nat.pow_one]
    rw [Nat.mul_comm (X k), this, Nat.mul_assoc, Nat.add_mul_div_left _ _ (Nat.pow_pos (by decide)), Nat.mul_assoc, Nat.add_mul_mod_self_left]
    exact lw_pt h k j hj2
/-- One word of a product less. -/
theorem take_step {P pz pl px q l0 h0 c b u s k1 b' x Lk : Nat} (inv : pz + q * pl = px + P * (c + b)) (e0 : l0 + 18446744073709551616 * h0 = q * Lk) (e1 : s + 18446744073709551616 * k1 = l0 + c) (e2 : u + s + b = x + 18446744073709551616 * b') :
 (pz + u * P) + q * (pl + Lk * P) = (px + x * P) + P * 18446744073709551616 * ((h0 + k1) + b') := by
 have key : (u + (l0 + 18446744073709551616 * h0) + (c + b)) * P = (x + 18446744073709551616 * ((h0 + k1) + b')) * P := by congr 1; omega
 rw [Nat.mul_add q, ← Nat.mul_assoc q Lk P, ← e0]
 rw [Nat.add_mul, Nat.add_mul, Nat.add_mul x] at key
 rw [Nat.mul_comm P (c + b)] at inv
 rw [Nat.mul_assoc P, Nat.mul_comm P (18446744073709551616 * (h0 + k1 + b'))]
 omega
/-- One word of a product more. -/
theorem add_step {P V px x y pb Pi Pj h0 l0 l1 k1 l2 k2 c xm : Nat} (hP : P = Pi * Pj) (inv : px + c * P = V + x * pb * Pi) (e0 : l0 + 18446744073709551616 * h0 = x * y) (e1 : l1 + 18446744073709551616 * k1 = l0 + xm) (e2 : l2 + 18446744073709551616 * k2 = l1 + c) {px' : Nat} (hpx : px' + xm * P = px + l2 * P) :
 px' + (h0 + k1 + k2) * (P * 18446744073709551616) = V + x * (pb + y * Pj) * Pi := by
 have key : (l2 + 18446744073709551616 * (h0 + k1 + k2)) * P = ((l0 + 18446744073709551616 * h0) + xm + c) * P := by congr 1; omega
 rw [e0, Nat.add_mul, Nat.add_mul, Nat.add_mul] at key
 have e3 : x * (pb + y * Pj) * Pi = x * pb * Pi + x * y * P := by
  rw [Nat.mul_add, Nat.add_mul, hP, ← Nat.mul_assoc x y Pj, Nat.mul_assoc (x * y), Nat.mul_comm Pj Pi]
 have e4 : (h0 + k1 + k2) * (P * 18446744073709551616) = 18446744073709551616 * (h0 + k1 + k2) * P := by
  rw [Nat.mul_comm P, ← Nat.mul_assoc, Nat.mul_comm (h0 + k1 + k2)]
 rw [e3, e4]
 omega
theorem pt_upd (X : Nat → Nat) (i v a : Nat) : ∀ k, i < k → pt (upd X (a + i) v) a k + X (a + i) * 18446744073709551616 ^ i = pt X a k + v * 18446744073709551616 ^ i
 | 0, h => absurd h (Nat.not_lt_zero _)
 | k + 1, h => by
  rw [pt, pt]
  by_cases e : i = k
  · subst e
    have h1 : pt (upd X (a + i) v) a i = pt X a i := pt_congr i (fun j hj => by unfold upd; rw [if_neg (by omega)])
    have h2 : upd X (a + i) v (a + i) = v := by unfold upd; rw [if_pos rfl]
    rw [h1, h2]
    omega
  · have h1 := pt_upd X i v a k (by omega)
    have h2 : upd X (a + i) v (a + k) = X (a + k) := by unfold upd; rw [if_neg (by omega)]
    rw [h2]
    omega
end Go.Proofs.YtdgkmloabificaaDoor
namespace Go.Proofs.YtdgkmloabificaaDoor
/-- The hash of 512 bits of n bytes. -/
def h5 (n : Nat) (bs : Nat → Nat) : Nat → Nat := outB 64 (specS rw6 cubeK squareK n bs)
theorem h5_lt (n : Nat) (bs : Nat → Nat) (j : Nat) : h5 n bs j < 256 := Nat.mod_lt _ (by decide)
theorem h5_congr {n : Nat} {a b : Nat → Nat} (h : ∀ j, j < n → a j = b j) : h5 n a = h5 n b := by unfold h5; rw [specS_congr h]
/-- It as a number mod the order. -/
def hL (n : Nat) (bs : Nat → Nat) : Nat := ofB (h5 n bs) 64 % oL
theorem hL_congr {n : Nat} {a b : Nat → Nat} (h : ∀ j, j < n → a j = b j) : hL n a = hL n b := by unfold hL; rw [h5_congr h]
theorem oL_pos : 0 < oL := by decide
theorem hL_lt (n : Nat) (bs : Nat → Nat) : hL n bs < oL := Nat.mod_lt _ oL_pos
theorem ofB_ord {N : Nat} (h : N < oL) : ofB (byt N) 32 = N := by
 have := ofB_byt N 32
 rw [this]
 exact Nat.mod_eq_of_lt (Nat.lt_trans h (by decide))
/-- A seed's number, as bytes; as a number; its prefix; what it tells. -/
def aB (s : Nat → Nat) : Nat → Nat := clB (h5 32 s)
def aN (s : Nat → Nat) : Nat := ofB (aB s) 32
def preB (s : Nat → Nat) (j : Nat) : Nat := h5 32 s (32 + j)
noncomputable def bP (m : Nat) : Fp × Fp := emul dE m baseP
noncomputable def pubB (s : Nat → Nat) : Nat → Nat := encB (bP (aN s))
def rN (s : Nat → Nat) (n : Nat) (t : Nat → Nat) : Nat := hL (32 + n) (cat 32 (preB s) t)
noncomputable def RB (s : Nat → Nat) (n : Nat) (t : Nat → Nat) : Nat → Nat := encB (bP (rN s n t))
def kN (R A : Nat → Nat) (n : Nat) (t : Nat → Nat) : Nat := hL (64 + n) (cat 64 (cat 32 R A) t)
noncomputable def SN (s : Nat → Nat) (n : Nat) (t : Nat → Nat) : Nat := (rN s n t + kN (RB s n t) (pubB s) n t * aN s) % oL
noncomputable def sigB (s : Nat → Nat) (n : Nat) (t : Nat → Nat) : Nat → Nat := cat 32 (RB s n t) (byt (SN s n t))
def sOf (s : Nat → Nat) : Nat := ofB (fun j => s (32 + j)) 32
theorem kN_congr {R A R' A' t t' : Nat → Nat} {n : Nat} (hR : ∀ j, j < 32 → R j = R' j) (hA : ∀ j, j < 32 → A j = A' j) (ht : ∀ j, j < n → t j = t' j) : kN R A n t = kN R' A' n t' := by
 refine hL_congr fun j hj => ?_
 unfold cat
 by_cases h : j < 64
 · rw [if_pos h, if_pos h]
   by_cases h2 : j < 32
   · rw [if_pos h2, if_pos h2, hR j h2]
   · rw [if_neg h2, if_neg h2, hA (j - 32) (by omega)]
 · rw [if_neg h, if_neg h, ht (j - 64) (by omega)]
theorem aB_lt (s : Nat → Nat) (j : Nat) : aB s j < 256 := clB_lt (h5_lt _ _) j
theorem preB_lt (s : Nat → Nat) (j : Nat) : preB s j < 256 := h5_lt _ _ _
theorem sigB_lt (s : Nat → Nat) (n : Nat) (t : Nat → Nat) : ∀ j, sigB s n t j < 256 := cat_lt (encB_lt _) (byt_lt _)
open Classical in
/-- What Verify answers. -/
noncomputable def verE (n : Nat) (p : Nat → Nat) (m : Nat) (t : Nat → Nat) (q : Nat) (s : Nat → Nat) : Int :=
 if n = 32 ∧ q = 64 then
  if decN p = none then 30
  else if decN s = none ∨ ¬sOf s < oL then 31
  else if ∃ P Q, On dE P ∧ On dE Q ∧ (∀ j, j < 32 → encB P j = p j) ∧ (∀ j, j < 32 → encB Q j = s j) ∧ bP (sOf s) = eadd dE Q (emul dE (kN s p m t) P) then 0 else 31
 else 1
theorem verE_arg {n m q : Nat} {p t s : Nat → Nat} (h : ¬(n = 32 ∧ q = 64)) : verE n p m t q s = 1 := by unfold verE; rw [if_neg h]
theorem verE_pub {m : Nat} {p t s : Nat → Nat} (h : decN p = none) : verE 32 p m t 64 s = 30 := by unfold verE; rw [if_pos ⟨rfl, rfl⟩, if_pos h]
theorem verE_sig {m : Nat} {p t s : Nat → Nat} (h : decN p ≠ none) (h2 : decN s = none ∨ ¬sOf s < oL) : verE 32 p m t 64 s = 31 := by unfold verE; rw [if_pos ⟨rfl, rfl⟩, if_neg h, if_pos h2]
open Classical in
theorem verE_pts {m : Nat} {p t s : Nat → Nat} (h : decN p ≠ none) (h2 : decN s ≠ none) (h3 : sOf s < oL) {P Q : Fp × Fp} (hP : On dE P) (hQ : On dE Q) (eP : ∀ j, j < 32 → encB P j = p j) (eQ : ∀ j, j < 32 → encB Q j = s j) :
 verE 32 p m t 64 s = if bP (sOf s) = eadd dE Q (emul dE (kN s p m t) P) then 0 else 31 := by
 unfold verE
 rw [if_pos ⟨rfl, rfl⟩, if_neg h, if_neg (fun e => e.elim h2 (fun e => e h3))]
 by_cases e : bP (sOf s) = eadd dE Q (emul dE (kN s p m t) P)
 · rw [if_pos e, if_pos ⟨P, Q, hP, hQ, eP, eQ, e⟩]
 · rw [if_neg e, if_neg]
   rintro ⟨P', Q', hP', hQ', eP', eQ', e'⟩
   rw [encB_inj hP' hP (fun j hj => (eP' j hj).trans (eP j hj).symm), encB_inj hQ' hQ (fun j hj => (eQ' j hj).trans (eQ j hj).symm)] at e'
   exact e e'
/-- What a quotient's root needs. -/
theorem rootR_found {k u v x : Nat} (hk : 8 * k + 5 = pF) (hx : x < pF) (hq : quoR u v = x * x % pF) (hv : v ≠ 0) : (rootR k u v).isSome = true := by
 have h := root_found hk hx
 rw [root_same hk (Nat.mod_lt _ pF_pos) (by decide)] at h
 unfold rootR rootZ rootY at h ⊢
 rw [quo_one (Nat.mod_lt _ pF_pos)] at h
 rw [hq]
 generalize x * x % pF = U at h ⊢
 generalize U ^ (k + 1) % pF = Y at h ⊢
 generalize (if Y * Y % pF = U then Y else Y * iM % pF) = Z at h ⊢
 by_cases e : Z * Z % pF = U
 · rw [if_pos ⟨e, fun h => hv h.1⟩]; rfl
 · rw [if_neg (fun h => e h.1)] at h; cases h
end Go.Proofs.YtdgkmloabificaaDoor
namespace Go.Proofs.YtdgkmloabificaaDoor
open Go.RowKit
theorem two_rows (w : World) (A B : List Value) (t : TypeId) : RW ((w.alloc (.cells A.toArray t)).alloc (.cells B.toArray t)) w.heap.size 0 A ∧ RW ((w.alloc (.cells A.toArray t)).alloc (.cells B.toArray t)) (w.heap.size + 1) 0 B := by
 have h1 : RW (w.alloc (.cells A.toArray t)) w.heap.size 0 A := RW.fresh w _ _
 have h2 : RW ((w.alloc (.cells A.toArray t)).alloc (.cells B.toArray t)) (w.alloc (.cells A.toArray t)).heap.size 0 B := RW.fresh _ _ _
 rw [World.size_alloc] at h2
 exact ⟨h1.still ((Below.refl _ _).alloc (Nat.le_refl _) _), h2⟩
def zP : Array Value := ((List.range 16).map fun _ => Value.int .u64 0).toArray
theorem zeroP (w : World) : Sem.run Tryd.prog (zeroValue 45) w = .ok (.agg zP) w := by kernel_rfl
theorem infoPs : (Tryd.prog.info? 45).map (·.size) = some 16 := by kernel_rfl
/-- The calls, with any way to hold a point: R: these cells hold this point; G: what stays true of the world. -/
structure PointApi (G : World → Prop) (R : List Value → Fp × Fp → Prop) : Prop where
 keep : ∀ w w', G w → Below w.heap.size w w' → G w'
 len : ∀ c P, R c P → c.length = 16
 one : ∀ c P, R c P → c.toArray.all (·.oneCell') = true
 on : ∀ c P, R c P → On dE P
 base : ∀ w, G w → Calls Tryd.prog 13 #[] w fun e w' => ∃ c, e = .returned (.agg c.toArray) ∧ R c baseP ∧ Below w.heap.size w w'
 zero : ∀ w, G w → Calls Tryd.prog 77 #[] w fun e w' => ∃ c, e = .returned (.agg c.toArray) ∧ R c ezero ∧ Below w.heap.size w w'
 enc : ∀ c P w, R c P → G w → Calls Tryd.prog 14 #[.agg c.toArray] w fun e w' => ∃ s, e = .returned s ∧ NewC w w' s 32 (encB P) ∧ Below w.heap.size w w'
 plus : ∀ c P d Q w, R c P → R d Q → G w → Calls Tryd.prog 20 #[.agg c.toArray, .agg d.toArray] w fun e w' => ∃ c', e = .returned (.agg c'.toArray) ∧ R c' (eadd dE P Q) ∧ Below w.heap.size w w'
 same : ∀ c P d Q w, R c P → R d Q → G w → Calls Tryd.prog 19 #[.agg c.toArray, .agg d.toArray] w fun e w' => e = .returned (.bool (decide (P = Q))) ∧ Below w.heap.size w w'
 times : ∀ c P v ks w, R c P → (∀ j, ks j < 256) → BytesIn w v 32 ks → G w → Calls Tryd.prog 27 #[.agg c.toArray, v] w fun e w' => ∃ c', e = .returned (.tuple #[.agg c'.toArray, .int .i64 0]) ∧ R c' (emul dE (ofB ks 32) P) ∧ Below w.heap.size w w'
 timesBad : ∀ c P v n ks w, R c P → n ≠ 32 → BytesIn w v n ks → G w → Calls Tryd.prog 27 #[.agg c.toArray, v] w fun e w' => ∃ c', e = .returned (.tuple #[.agg c'.toArray, .int .i64 1]) ∧ R c' ezero ∧ Below w.heap.size w w'
 dec : ∀ v bs w, (∀ j, bs j < 256) → BytesIn w v 32 bs → G w → Calls Tryd.prog 17 #[v] w fun e w' => ∃ (c : List Value) (er : Int), e = .returned (.tuple #[.agg c.toArray, .int .i64 er]) ∧ Below w.heap.size w w' ∧
  ((er = 30 ∧ R c ezero ∧ decN bs = none) ∨ (er = 0 ∧ (decN bs).isSome = true ∧ ∃ P, R c P ∧ ∀ j, j < 32 → encB P j = bs j))
 decBad : ∀ v n bs w, n ≠ 32 → BytesIn w v n bs → G w → Calls Tryd.prog 17 #[v] w fun e w' => ∃ c, e = .returned (.tuple #[.agg c.toArray, .int .i64 1]) ∧ R c ezero ∧ Below w.heap.size w w'
theorem freshP (w : World) : RW (w.alloc (.cells zP 45)) w.heap.size 0 ((List.range 16).map fun _ => Value.int .u64 0) := RW.fresh w _ _
theorem infoP {c : List Value} (h : c.length = 16) : (Tryd.prog.info? 45).map (·.size) = some c.length := by rw [h]; exact infoPs
theorem infoPA {c : List Value} (h : c.length = 16) : (Tryd.prog.info? 45).map (·.size) = some c.toArray.size := by rw [List.size_toArray, h]; exact infoPs
end Go.Proofs.YtdgkmloabificaaDoor
namespace Go.Proofs.YtdgkmloabificaaDoor
open Go.RowKit
theorem thereP {w : World} {g : Nat} {c d : List Value} (r : RW w g 0 c) (hc : c.length = 16) (hd : d.length = 16) : w.there g 0 d.toArray.size := by
 have h := r.there
 rw [hc] at h
 rw [List.size_toArray, hd]; exact h
theorem boxP (w : World) (c : List Value) (hl : c.length = 16) : ∃ V, V = (w.alloc (.cells zP 45)).setCells w.heap.size 0 c ∧ RW V w.heap.size 0 c ∧ Below w.heap.size w V ∧ (w.alloc (.cells zP 45)).there w.heap.size 0 c.toArray.size :=
 ⟨_, rfl, (freshP w).stored _ (by rw [hl]; rfl), below_setCells (Nat.le_refl _) _ _ _ ((Below.refl _ _).alloc (Nat.le_refl _) _), thereP (freshP w) rfl hl⟩
end Go.Proofs.YtdgkmloabificaaDoor
namespace Go.Proofs.YtdgkmloabificaaDoor
open Go.RowKit
/-- With more that stays true. -/
theorem PointApi.more {G G' : World → Prop} {R : List Value → Fp × Fp → Prop} (api : PointApi G R) (h : ∀ w, G' w → G w) (hk : ∀ w w', G' w → Below w.heap.size w w' → G' w') : PointApi G' R where
 keep := hk
 len := api.len
 one := api.one
 on := api.on
 base := fun w hG => api.base w (h w hG)
 zero := fun w hG => api.zero w (h w hG)
 enc := fun c P w hc hG => api.enc c P w hc (h w hG)
 plus := fun c P d Q w hc hd hG => api.plus c P d Q w hc hd (h w hG)
 same := fun c P d Q w hc hd hG => api.same c P d Q w hc hd (h w hG)
 times := fun c P v ks w hc hks hv hG => api.times c P v ks w hc hks hv (h w hG)
 timesBad := fun c P v n ks w hc hn hv hG => api.timesBad c P v n ks w hc hn hv (h w hG)
 dec := fun v bs w hbs hv hG => api.dec v bs w hbs hv (h w hG)
 decBad := fun v n bs w hn hv hG => api.decBad v n bs w hn hv (h w hG)
set_option maxRecDepth 20000 in
set_option maxHeartbeats 4000000 in
theorem times_sg {G : World → Prop} {R : List Value → Fp × Fp → Prop} (api : PointApi G R) (c : List Value) (P : Fp × Fp) (hc : R c P) (v : Value) (ks : Nat → Nat) (hks : ∀ j, ks j < 256) (w : World) (hv : BytesIn w v 32 ks) (hG : G w) :
 Calls Tryd.prog 12 #[.agg c.toArray, v] w fun e w' => ∃ c', e = .returned (.agg c'.toArray) ∧ R c' (emul dE (ofB ks 32) P) ∧ Below w.heap.size w w' := by
 have hz := zeroP
 have kl := api.len
 have ko := api.one
 have lc := kl _ _ hc
 have ct := fun W hv hG => api.times c P v ks W hc hks hv hG
 generalize emul dE (ofB ks 32) P = pr at *
 obtain ⟨V1, g1, e1, hg1, b1, h1⟩ : ∃ V g, w.alloc (.cells c.toArray 45) = V ∧ w.heap.size = g ∧ Below w.heap.size w V ∧ RW V g 0 c := ⟨_, _, rfl, rfl, (Below.refl _ _).alloc (Nat.le_refl _) _, RW.fresh w _ _⟩
 obtain ⟨W, g2, e2, hg2, b2, h2⟩ : ∃ V g, V1.alloc (.cells zP 45) = V ∧ V1.heap.size = g ∧ Below V1.heap.size V1 V ∧ RW V g 0 ((List.range 16).map fun _ => Value.int .u64 0) := ⟨_, _, rfl, rfl, (Below.refl _ _).alloc (Nat.le_refl _) _, freshP V1⟩
 have t1 : V1.heap.size = w.heap.size + 1 := by rw [← e1]; simp
 have HW : Hid (W = (w.alloc (.cells c.toArray 45)).alloc (.cells zP 45)) := Hid.mk' (by rw [← e2, ← e1])
 have q1 : Hid (w.heap.size = g1) := Hid.mk' hg1
 have q2 : Hid (w.heap.size + 1 = g2) := Hid.mk' (by omega)
 have w2 : w.heap.size ≤ g2 := by omega
 replace h1 := h1.still b2
 have b : Below w.heap.size w W := b1.trans (b2.mono (by omega))
 have ct1 := ct W (hv.still b) (api.keep _ _ hG b)
 clear e1 e2 hg1 hg2 b1 b2 t1 V1 ct hv hG api
 go_enter Tryd.func12, Tryd.ntmps12
 go_wp2_with (first
  | (rw [← HW.out, q2.out, q1.out]; refine wpList_load_mid rfl 45 _ rfl g1 0 rfl c _ h1.range Tryd.underlying45 rfl (infoP lc) ?_; clear HW q1 q2)
  | (go_at_call 27; refine ct1.mono ?_; clear ct1; rintro e w3 ⟨c3, rfl, hc3, hb3⟩; (replace h2 := h2.still hb3); (replace b := below_next b hb3); clear hb3; (have l3 := kl _ _ hc3); (have o3 := ko _ _ hc3); (obtain ⟨V3, hV3, h3, b3, t3⟩ := boxP w3 c3 l3); (have H3 := Hid.mk' hV3); clear hV3; (replace h2 := h2.still b3); (replace b := below_next b b3); clear b3; (have t0 : V3.there g2 0 c3.toArray.size := thereP h2 rfl l3))
  | (with_reducible (refine id (?_ : wpList _ _ _ _ _ _)); refine wpList_store_mid rfl 45 _ _ rfl w3.heap.size 0 c3.toArray rfl rfl t3 (infoPA l3) o3 ?_; rw [List.toList_toArray, ← H3.out]; clear t3 H3)
  | (refine wpList_load_mid rfl 45 _ rfl w3.heap.size 0 rfl c3 _ h3.range Tryd.underlying45 rfl (infoP l3) ?_)
  | (with_reducible (refine id (?_ : wpList _ _ _ _ _ _)); refine wpList_store_mid rfl 45 _ _ rfl g2 0 c3.toArray rfl rfl t0 (infoPA l3) o3 ?_))
 (try simp only [Exit.inBlock, Exit.then])
 exact bodyPost_ret (results_cell_mid Tryd.results12 _ _ g2 0 c3 _ rfl (h2.stored c3 (by rw [l3]; rfl)).range Tryd.underlying45 rfl (infoP l3)) rfl ⟨c3, rfl, hc3, below_setCells w2 _ _ _ b⟩
end Go.Proofs.YtdgkmloabificaaDoor
namespace Go.Proofs.YtdgkmloabificaaDoor
open Go.RowKit
/-- What the walks of package sign know of sha. -/
def ShaC (G : World → Prop) : Prop := ∀ v n bs w, (∀ j, bs j < 256) → n < 2305843009213693952 → BytesIn w v n bs → G w → Calls Tryd.prog 21 #[v] w fun e w' => ∃ g, e = .returned (.slice (some ⟨g, 0, none⟩) 64 64) ∧ w.heap.size ≤ g ∧ RowAt .u8 w' g 0 64 (h5 n bs) ∧ Below w.heap.size w w'
def zK : Array Value := #[.slice none 0 0, .slice none 0 0, .slice none 0 0]
theorem zeroK (w : World) : Sem.run Tryd.prog (zeroValue 35) w = .ok (.agg zK) w := by kernel_rfl
theorem infoK : (Tryd.prog.info? 35).map (·.size) = some 3 := by kernel_rfl
/-- A key's cells. -/
def kL (a b c : Value) : List Value := [a, b, c]
theorem infoKL (a b c : Value) : (Tryd.prog.info? 35).map (·.size) = some (kL a b c).length := infoK
theorem infoKA (a b c : Value) : (Tryd.prog.info? 35).map (·.size) = some (kL a b c).toArray.size := infoK
theorem oneKy (x y z : Option Addr) (a b c d e f : Nat) : (kL (.slice x a b) (.slice y c d) (.slice z e f)).toArray.all (·.oneCell') = true := by simp [kL, Value.oneCell']
theorem kL_set {w : World} {g : Nat} {a b c : Value} (h : RW w g 0 (kL a b c)) (v : Value) : RW (w.setCell ⟨g, 2, none⟩ v) g 0 (kL a b v) :=
 RW.join (cs := [a, b]) (ds := [v]) ((RW.left (cs := [a, b]) (ds := [c]) h).far g 2 [v] (.inr (.inl (by simp)))) ((RW.right (cs := [a, b]) (ds := [c]) h).stored [v] rfl)
theorem builtK1 (a b : Value) : Tryd.prog.built 35 [(0, .agg #[a, b])] = some (kL a b (.slice none 0 0)).toArray := by kernel_rfl
theorem boxK (w : World) (c : List Value) (hl : c.length = 3) : ∃ V, V = (w.alloc (.cells zK 35)).setCells w.heap.size 0 c ∧ RW V w.heap.size 0 c ∧ Below w.heap.size w V ∧ (w.alloc (.cells zK 35)).there w.heap.size 0 c.toArray.size := by
 have h : RW (w.alloc (.cells zK 35)) w.heap.size 0 (kL (.slice none 0 0) (.slice none 0 0) (.slice none 0 0)) := RW.fresh w _ _
 refine ⟨_, rfl, h.stored _ (by rw [hl]; rfl), below_setCells (Nat.le_refl _) _ _ _ ((Below.refl _ _).alloc (Nat.le_refl _) _), ?_⟩
 have t := h.there
 have e : c.toArray.size = 3 := hl
 rw [e]
 exact t
theorem freshK (w : World) : ∃ V g, w.alloc (.cells zK 35) = V ∧ w.heap.size = g ∧ Below w.heap.size w V ∧ RW V g 0 (kL (.slice none 0 0) (.slice none 0 0) (.slice none 0 0)) := ⟨_, _, rfl, rfl, (Below.refl _ _).alloc (Nat.le_refl _) _, RW.fresh w _ _⟩
theorem results_key (tmps : Array Value) (w : World) (g : Nat) (a b c : Value) (hp : tmps.getD 2 undef = .pointer (some ⟨g, 0, none⟩)) (h : RW w g 0 (kL a b c)) (e : Value) (he : tmps.getD 3 undef = e) :
 (results Tryd.f10 tmps).run Tryd.prog w = .ok (.tuple #[.agg (kL a b c).toArray, e]) w := by
 have hp' : tmps[2]?.getD undef = .pointer (some ⟨g, 0, none⟩) := by simpa using hp
 have he' : tmps[3]?.getD undef = e := by simpa using he
 simp [results, hp', he', asAddr, run_loadVar_mid w g 0 35 (kL a b c) _ h.range Tryd.underlying35 rfl (infoKL a b c)]
set_option maxRecDepth 20000 in
set_option maxHeartbeats 8000000 in
theorem keyOf_good {G : World → Prop} {R : List Value → Fp × Fp → Prop} (api : PointApi G R) (sha : ShaC G) (v : Value) (bs : Nat → Nat) (hbs : ∀ j, bs j < 256) (w : World) (hv : BytesIn w v 32 bs) (hG : G w) :
 Calls Tryd.prog 10 #[v] w fun e w' => ∃ gn gh gp cp, e = .returned (.tuple #[.agg (kL (.slice (some ⟨gn, 0, none⟩) 32 32) (.slice (some ⟨gh, 32, none⟩) 32 32) (.slice (some ⟨gp, 0, none⟩) 32 cp)).toArray, .int .i64 0]) ∧ RowAt .u8 w' gn 0 32 (aB bs) ∧ RowAt .u8 w' gh 32 32 (preB bs) ∧ RowAt .u8 w' gp 0 32 (pubB bs) ∧ 32 ≤ cp ∧ Below w.heap.size w w' := by
 have hz := zeroK
 have kk := api.keep
 obtain ⟨W, g, eW, hg, b, h0⟩ := freshK w
 have HW : Hid (w.alloc (.cells zK 35) = W) := Hid.mk' eW
 have Hg : Hid (w.heap.size = g) := Hid.mk' hg
 have wg : w.heap.size ≤ g := Nat.le_of_eq hg
 have cs := sha v 32 bs W hbs (by decide) (hv.still b) (kk _ _ hG b)
 obtain ⟨xo, c, rfl, hxn, hnc, hsrc⟩ := hv.src
 have cc : ∀ gh W, RowAt .u8 W gh 0 64 (h5 32 bs) → Calls Tryd.prog 22 #[.slice (some ⟨gh, 0, none⟩) 32 64] W fun e w' => ∃ s, e = .returned (.tuple #[s, .int .i64 0]) ∧ NewB W w' s 32 (aB bs) ∧ Below W.heap.size W w' := fun gh W hr => clamp_good _ (h5 32 bs) (h5_lt _ _) W (.inr ⟨gh, 0, 64, rfl, block_lt_of_cell (hr 0 (by decide)).1, by decide, fun j hj => (hr j (by omega)).1⟩)
 clear eW hg hsrc hv
 go_enter Tryd.func10, Tryd.ntmps10
 go_upto_region 8 with (first
  | (go_at_call 21; rw [HW.out, Hg.out]; refine cs.mono ?_; clear cs HW Hg; rintro e w1 ⟨gh, rfl, hgh, hrh, hb1⟩; (have lgh : g < gh := Nat.lt_of_lt_of_le h0.lt hgh); (replace h0 := h0.still hb1); (replace b := below_next b hb1); clear hb1; (have cc1 := cc gh w1 hrh); clear cc)
  | (go_at_call 22; refine cc1.mono ?_; clear cc1; rintro e w2 ⟨s2, rfl, hn2, hb2⟩; (have lg1 := h0.lt); (replace h0 := h0.still hb2); (replace b := below_next b hb2); (replace hrh := hrh.below hb2 (block_lt_of_cell (hrh 0 (by decide)).1)); clear hb2; (obtain ⟨gn, rfl, hgn, hrn⟩ := hn2); (have lgn : g < gn := Nat.lt_of_lt_of_le lg1 hgn); clear lg1 hgn hgh)
  | (refine wpList_build1 rfl 35 0 (.tmp 27) rfl _ rfl _ (builtK1 _ _) ?_; (obtain ⟨V3, hV3, h3, b3, t3⟩ := boxK w2 (kL (.slice (some ⟨gn, 0, none⟩) 32 32) (.slice (some ⟨gh, 32, none⟩) 32 32) (.slice none 0 0)) rfl); (have H3 := Hid.mk' hV3); clear hV3)
  | (with_reducible (refine id (?_ : wpList _ _ _ _ _ _)); refine wpList_store_mid rfl 35 _ _ rfl w2.heap.size 0 (kL (.slice (some ⟨gn, 0, none⟩) 32 32) (.slice (some ⟨gh, 32, none⟩) 32 32) (.slice none 0 0)).toArray rfl rfl t3 (infoKA _ _ _) (oneKy _ _ _ _ _ _ _ _ _) ?_; rw [List.toList_toArray, ← H3.out]; clear t3 H3))
 (try dsimp only [Act.put])
 have hG3 := kk _ _ hG (below_next b b3)
 have ln : gn < w2.heap.size := block_lt_of_cell (hrn 0 (by decide)).1
 have lh : gh < w2.heap.size := block_lt_of_cell (hrh 0 (by decide)).1
 generalize hg7 : w2.heap.size = g7 at *
 have l7 := h3.lt
 have n7n : gn ≠ g7 := by omega
 have n7h : gh ≠ g7 := by omega
 replace hrn := hrn.below b3 (by omega)
 replace hrh := hrh.below b3 (by omega)
 have w7 : w.heap.size ≤ g7 := by have := b.size; omega
 have n07 : g ≠ g7 := by have := h0.lt; omega
 replace h0 := h0.below b3 (by have := h0.lt; omega)
 replace b := b.trans (b3.mono w7)
 clear b3 hg7
 have hdrew : Below V3.heap.size V3 V3.drew := (Below.refl _ _).drew
 replace h3 := h3.still hdrew
 replace h0 := h0.still hdrew
 replace hG3 := kk _ _ hG3 hdrew
 replace hrn := hrn.drew
 replace hrh := hrh.drew
 replace b := below_next b hdrew
 replace l7 := h3.lt
 clear hdrew
 refine wp_region_noPanic ?_
 refine wp_region_held_drew (S := fun w' => Out g7 2 1 V3.drew w') (by kernel_rfl) (Out.refl _ _ _ _) (fun hS => ?_)
 generalize V3.drew = V at *
 refine tkH 1 (oN 30 (Op.fieldAddr 35 (oT 7) 0) 0 "key.go:33" #[]) (pA g7 0) hS yR ?_
 (try simp only [pS])
 refine tkH 2 (oN 31 (Op.fieldAddr 33 (oT 30) 0) 0 "key.go:33" #[jD 1]) (pA g7 0) hS yR ?_
 (try simp only [pS])
 refine tkH 3 (oN 32 (Op.load 22 (oT 31)) 22 "key.go:33" #[jD 2]) (.slice (some ⟨gn, 0, none⟩) 32 32) hS (Or.inl ⟨by rfl, ?hld⟩) ?_
 case hld =>
  intro u hu
  have q : u.cell? ⟨g7, 0, none⟩ = some (.slice (some ⟨gn, 0, none⟩) 32 32) := (hu.cell 0 (.inl (by decide))).trans (h3.range 0 _ rfl)
  go_simp
  try with_reducible rfl
 (try simp only [pS])
 refine callH 0 (oN 29 (cF1 13 #[] #[]) 45 "key.go:33" #[]) (api.base V hG3) ?_
 rintro e w4 ⟨c4, rfl, hc4, hb4⟩
 replace hS := hS.trans (Out.of_below hb4 l7)
 replace h3 := h3.still hb4
 replace h0 := h0.still hb4
 replace hG3 := kk _ _ hG3 hb4
 replace hrn := hrn.below hb4 (block_lt_of_cell (hrn 0 (by decide)).1)
 replace hrh := hrh.below hb4 (block_lt_of_cell (hrh 0 (by decide)).1)
 replace b := below_next b hb4
 replace l7 := h3.lt
 clear hb4
 refine ⟨_, rfl, hS, ?_⟩
 (try simp only [pS])
 refine callH 4 (oN 33 (cF1 12 #[oT 29, oT 32] #[45, 22]) 45 "key.go:33" #[jD 0, jD 3, jC 0]) (times_sg api c4 _ hc4 (.slice (some ⟨gn, 0, none⟩) 32 32) (aB bs) (aB_lt bs) w4 (.inr ⟨gn, 0, 32, rfl, block_lt_of_cell (hrn 0 (by decide)).1, by decide, fun j hj => (hrn j hj).1⟩) hG3) ?_
 rintro e w5 ⟨c5, rfl, hc5, hb5⟩
 replace hS := hS.trans (Out.of_below hb5 l7)
 replace h3 := h3.still hb5
 replace h0 := h0.still hb5
 replace hG3 := kk _ _ hG3 hb5
 replace hrn := hrn.below hb5 (block_lt_of_cell (hrn 0 (by decide)).1)
 replace hrh := hrh.below hb5 (block_lt_of_cell (hrh 0 (by decide)).1)
 replace b := below_next b hb5
 replace l7 := h3.lt
 clear hb5 hc4
 refine ⟨_, rfl, hS, ?_⟩
 (try simp only [pS])
 refine callH 5 (oN 34 (cF1 14 #[oT 33] #[45]) 22 "key.go:33" #[jD 4, jC 4]) (api.enc c5 _ w5 hc5 hG3) ?_
 rintro e w6 ⟨s6, rfl, hn6, hb6⟩
 replace hS := hS.trans (Out.of_below hb6 l7)
 replace h3 := h3.still hb6
 have lgp0 := h0.lt
 replace h0 := h0.still hb6
 replace hrn := hrn.below hb6 (block_lt_of_cell (hrn 0 (by decide)).1)
 replace hrh := hrh.below hb6 (block_lt_of_cell (hrh 0 (by decide)).1)
 replace b := below_next b hb6
 obtain ⟨gp, cp, rfl, hcp, hgp, hrp⟩ := hn6
 have n7p : gp ≠ g7 := by omega
 have lgp : g < gp := by omega
 clear hb6 hc5 hG3
 refine ⟨_, rfl, hS, ?_⟩
 (try simp only [pS])
 refine tkH 6 (oN 35 (Op.fieldAddr 35 (oT 7) 1) 0 "key.go:33" #[jP 0, jP 1, jP 2, jP 3, jP 4, jP 5]) (pA g7 2) hS yR ?_
 (try simp only [pS])
 refine wpAnyH_ready (rs := [7]) (by kernel_rfl) (by simp) ?_
 refine AllReadyH.cons (o := oS (Op.store 22 (oT 35) (oT 34)) "key.go:33" #[jD 6, jD 5, jC 5, jP 0, jP 1, jP 2, jP 3, jP 4, jP 5]) rfl (fun K hK => ?_) AllReadyH.nil
 have q2 : w6.cell? ⟨g7, 2, none⟩ = some (.slice none 0 0) := h3.range 2 _ rfl
 have f2 : w6.frozen? ⟨g7, 2, none⟩ = false := (h3.there 2 (show 2 < 3 by decide)).2
 go_simp
 refine hK.out _ _ (hS.trans (Out.setCell w6 _ (Nat.le_refl _) (by decide))) (fun h => ?_)
 clear h hK K q2 f2
 refine wpAnyH_done (by kernel_rfl) ?_ _
 refine NoPanic.normal ?_
 have h7 := kL_set h3 (.slice (some ⟨gp, 0, none⟩) 32 cp)
 replace h0 := h0.far g7 2 [.slice (some ⟨gp, 0, none⟩) 32 cp] (.inl n07)
 replace hrn := hrn.far (a := ⟨g7, 2, none⟩) (Ne.symm n7n) (.slice (some ⟨gp, 0, none⟩) 32 cp)
 replace hrh := hrh.far (a := ⟨g7, 2, none⟩) (Ne.symm n7h) (.slice (some ⟨gp, 0, none⟩) 32 cp)
 replace hrp := hrp.far (a := ⟨g7, 2, none⟩) (Ne.symm n7p) (.slice (some ⟨gp, 0, none⟩) 32 cp)
 replace b := below_setCells w7 [.slice (some ⟨gp, 0, none⟩) 32 cp] 2 _ b
 simp only [World.setCells] at h0 b
 generalize w6.setCell ⟨g7, 2, none⟩ (.slice (some ⟨gp, 0, none⟩) 32 cp) = W7 at *
 have t0 : W7.there g 0 (kL (.slice (some ⟨gn, 0, none⟩) 32 32) (.slice (some ⟨gh, 32, none⟩) 32 32) (.slice (some ⟨gp, 0, none⟩) 32 cp)).toArray.size := h0.there
 go_wp2_with (first
  | (refine wpList_load_mid rfl 35 _ rfl g7 0 rfl (kL (.slice (some ⟨gn, 0, none⟩) 32 32) (.slice (some ⟨gh, 32, none⟩) 32 32) (.slice (some ⟨gp, 0, none⟩) 32 cp)) _ h7.range Tryd.underlying35 rfl (infoKL _ _ _) ?_)
  | (with_reducible (refine id (?_ : wpList _ _ _ _ _ _)); refine wpList_store_mid rfl 35 _ _ rfl g 0 (kL (.slice (some ⟨gn, 0, none⟩) 32 32) (.slice (some ⟨gh, 32, none⟩) 32 32) (.slice (some ⟨gp, 0, none⟩) 32 cp)).toArray rfl rfl t0 (infoKA _ _ _) (oneKy _ _ _ _ _ _ _ _ _) ?_))
 (try simp only [Exit.inBlock, Exit.then])
 have O := Out.setCells (b := g) (o := 0) (n := 3) W7 (p := 0) (kL (.slice (some ⟨gn, 0, none⟩) 32 32) (.slice (some ⟨gh, 32, none⟩) 32 32) (.slice (some ⟨gp, 0, none⟩) 32 cp)) (Nat.le_refl _) (Nat.le_refl _)
 refine bodyPost_ret (results_key _ _ g _ _ _ rfl (h0.stored (kL (.slice (some ⟨gn, 0, none⟩) 32 32) (.slice (some ⟨gh, 32, none⟩) 32 32) (.slice (some ⟨gp, 0, none⟩) 32 cp)) rfl) _ rfl) rfl ⟨gn, gh, gp, cp, rfl, O.row hrn (by omega), fun j hj => ?_, O.row hrp (by omega), hcp, below_setCells wg _ _ _ b⟩
 have q := O.row hrh (by omega) (32 + j) (by omega)
 rw [Nat.zero_add] at q
 exact q
set_option maxRecDepth 20000 in
set_option maxHeartbeats 4000000 in
theorem public_good {G : World → Prop} {R : List Value → Fp × Fp → Prop} (api : PointApi G R) (sha : ShaC G) (v : Value) (bs : Nat → Nat) (hbs : ∀ j, bs j < 256) (w : World) (hv : BytesIn w v 32 bs) (hG : G w) :
 Calls Tryd.prog 5 #[v] w fun e w' => ∃ s, e = .returned (.tuple #[s, .int .i64 0]) ∧ BytesIn w' s 32 (pubB bs) ∧ Below w.heap.size w w' := by
 have ck := keyOf_good api sha v bs hbs w hv hG
 have hz := zeroK
 obtain ⟨xo, c, rfl, hxn, hnc, hsrc⟩ := hv.src
 clear hv hsrc api sha
 go_enter Tryd.func5, Tryd.ntmps5
 go_wp2_with (first
  | (go_at_call 10; refine ck.mono ?_; clear ck; rintro e w1 ⟨gn, gh, gp, cp, rfl, hrn, hrh, hrp, hcp, b⟩; (obtain ⟨V2, hV2, h2, b2, t2⟩ := boxK w1 (kL (.slice (some ⟨gn, 0, none⟩) 32 32) (.slice (some ⟨gh, 32, none⟩) 32 32) (.slice (some ⟨gp, 0, none⟩) 32 cp)) rfl); (have H2 := Hid.mk' hV2); clear hV2 hrn hrh; (replace hrp := hrp.below b2 (block_lt_of_cell (hrp 0 (by decide)).1)); (replace b := below_next b b2); clear b2; (have q2 : V2.cell? ⟨w1.heap.size, 2, none⟩ = some (.slice (some ⟨gp, 0, none⟩) 32 cp) := h2.range 2 _ rfl))
  | (with_reducible (refine id (?_ : wpList _ _ _ _ _ _)); refine wpList_store_mid rfl 35 _ _ rfl w1.heap.size 0 (kL (.slice (some ⟨gn, 0, none⟩) 32 32) (.slice (some ⟨gh, 32, none⟩) 32 32) (.slice (some ⟨gp, 0, none⟩) 32 cp)).toArray rfl rfl t2 (infoKA _ _ _) (oneKy _ _ _ _ _ _ _ _ _) ?_; rw [List.toList_toArray, ← H2.out]; clear t2 H2))
 go_ret2
 exact ⟨_, rfl, .inr ⟨gp, 0, cp, rfl, block_lt_of_cell (hrp 0 (by decide)).1, hcp, fun j hj => (hrp j hj).1⟩, b⟩
end Go.Proofs.YtdgkmloabificaaDoor
namespace Go.Proofs.YtdgkmloabificaaDoor
open Go.RowKit
theorem made_yes (g n : Nat) (hn : (n : Int) ≠ 0) (w : World) (hc : w.cell? ⟨g, 0, none⟩ = some (.int .i64 n)) : Calls Tryd.prog 50 #[.pointer (some ⟨g, 0, none⟩)] w fun e w' => e = .returned (.bool true) ∧ w' = w := by
 have hn' : ((n : Int) != 0) = true := by simpa using hn
 go_enter Tryd.func50, Tryd.ntmps50
 go_wp2
 go_ret
 exact ⟨by simp, rfl⟩
/-- A Hash's cells. -/
def hashVals (n : Nat) (s t : St) : List Value := .int .i64 n :: (engVals .u32 s (fun _ => 0) 0 ++ engVals .u64 t (fun _ => 0) 0)
theorem built512 (s : St) : Tryd.prog.built 91 [(0, .int .i64 512), (2, .agg (engVals .u64 s (fun _ => 0) 0).toArray)] = some (hashVals 512 zSt s).toArray := by kernel_rfl
theorem wpList_build_to {P : Program} {ops : Array Oper} {rest : List Oper} {o : Oper} {a : Act} {w : World} {Q : Exit → Act → World → Prop} (hg : o.guard = none) (t : TypeId) (parts : Array (Nat × Operand)) (ho : o.op = .build t parts) (cells : Array Value)
 (hf : P.built t (parts.map fun (i, x) => (i, a.eval x)).toList = some cells) (h : wpList P ops Q rest (a.put o.dst (.agg cells)) w) : wpList P ops Q (o :: rest) a w :=
 wpList_build hg t parts ho (by rw [hf]; rfl) (by rw [hf]; exact h)
theorem wpList_build2 {P : Program} {ops : Array Oper} {rest : List Oper} {o : Oper} {a : Act} {w : World} {Q : Exit → Act → World → Prop} (hg : o.guard = none) (t : TypeId) (i j : Nat) (x y : Operand) (ho : o.op = .build t #[(i, x), (j, y)]) (u v : Value) (hx : a.eval x = u) (hy : a.eval y = v) (cells : Array Value)
 (hf : P.built t [(i, u), (j, v)] = some cells) (h : wpList P ops Q rest (a.put o.dst (.agg cells)) w) : wpList P ops Q (o :: rest) a w :=
 wpList_build_to hg t _ ho cells (by simp only [List.map_toArray, List.map_cons, List.map_nil, hx, hy, hf]) h
theorem hash_wide (w : World) (n : Nat) (s t : St) : EngAt .u64 (w.alloc (.cells (hashVals n s t).toArray 91)) w.heap.size 138 t (fun _ => 0) 0 :=
 EngAt.of_range (fun j v hv => by
  have hj : j < 137 := by have := (List.getElem?_eq_some_iff.1 hv).1; rwa [engVals_len] at this
  have : (hashVals n s t)[138 + j]? = some v := by
   rw [show 138 + j = (137 + j) + 1 by omega, hashVals, List.getElem?_cons_succ, List.getElem?_append_right (by rw [engVals_len]; omega), engVals_len, show 137 + j - 137 = j by omega]; exact hv
  simp [this]) (fun j hj => by simp)
theorem hash_bits (w : World) (n : Nat) (s t : St) : (w.alloc (.cells (hashVals n s t).toArray 91)).cell? ⟨w.heap.size, 0, none⟩ = some (.int .i64 n) := by simp [hashVals]
set_option maxHeartbeats 400000 in
theorem new512_any (q : Nat → Nat) (hq : ∀ j, q j < 18446744073709551616) (w : World) (hsq : ∀ j, j < 8 → w.cell? ⟨3, j, none⟩ = some (.int .u64 (q j))) (hru : Rules64 w 0) :
 Calls Tryd.prog 23 #[.int .i64 512] w fun e w' => ∃ g, e = .returned (.pointer (some ⟨g, 0, none⟩)) ∧ w.heap.size ≤ g ∧ w'.cell? ⟨g, 0, none⟩ = some (.int .i64 512) ∧ EngAt .u64 w' g 138 (firstS rw6 q) (fun _ => 0) 0 ∧ Below w.heap.size w w' := by
 obtain ⟨p0, p1, p2, p3, p4, p5, p6, p7, p8, p9, p10, p11, p12, p13⟩ := hru
 go_enter Tryd.func23, Tryd.ntmps23
 go_wp2_with (first
  | (go_at_call 46; refine (start64_any q hq _ hsq).mono ?_; rintro e w' ⟨rfl, hb⟩; clear hsq)
  | (refine wpList_build2 rfl 91 0 2 (.tmp 13) (.tmp 15) rfl (.int .i64 512) (.agg (engVals .u64 (firstS rw6 q) (fun _ => 0) 0).toArray) rfl rfl (hashVals 512 zSt (firstS rw6 q)).toArray (built512 (firstS rw6 q)) ?_))
 go_ret
 have e1 := hash_bits w' 512 zSt (firstS rw6 q)
 have e2 := hash_wide w' 512 zSt (firstS rw6 q)
 exact ⟨w'.heap.size, rfl, hb.size, e1, e2, hb.alloc hb.size _⟩
end Go.Proofs.YtdgkmloabificaaDoor
namespace Go.Proofs.YtdgkmloabificaaDoor
open Go.RowKit
theorem Bytes.below {w w' : World} {b : Nat} {v : Value} {n : Nat} {bs : Nat → Nat} (h : Bytes w b v n bs) (hb : Below w.heap.size w w') : Bytes w' b v n bs := by
 rcases h with h | ⟨bb, ob, cap, rfl, h1, h2, h3⟩
 · exact .inl h
 · refine .inr ⟨bb, ob, cap, rfl, h1, h2, fun j hj => ?_⟩
   have := h3 j hj
   exact (hb.cell (p := ⟨bb, ob + j, none⟩) (block_lt_of_cell this)).trans this
theorem Out.pre {b o n : Nat} {u v w : World} (h : Below u.heap.size u v) (hb : b < u.heap.size) (k : Out b o n v w) : Out b o n u w := (Out.of_below h hb).trans k
/-- A Hash that was made, with these bytes behind it. -/
structure Made256 (w : World) (g : Nat) (n : Nat) (bs : Nat → Nat) : Prop where
 bits : w.cell? ⟨g, 0, none⟩ = some (.int .i64 256)
 eng : ∃ s R, EngAt .u32 w g 1 s R n ∧ Holds rn cubeK (firstS rn squareK) n bs s R ∧ s.lt 4294967296 ∧ ∀ j, R j < 256
theorem Made256.lt {w : World} {g n : Nat} {bs : Nat → Nat} (h : Made256 w g n bs) : g < w.heap.size := block_lt_of_cell h.bits
theorem Made256.below {w w' : World} {g n : Nat} {bs : Nat → Nat} (h : Made256 w g n bs) (hb : Below w.heap.size w w') : Made256 w' g n bs := by
 obtain ⟨s, R, h1, h2, h3, h4⟩ := h.eng
 exact ⟨(hb.cell (p := ⟨g, 0, none⟩) h.lt).trans h.bits, s, R, h1.below hb, h2, h3, h4⟩
theorem Made256.congr {w : World} {g n : Nat} {bs cs : Nat → Nat} (h : Made256 w g n bs) (e : ∀ j, j < n → bs j = cs j) : Made256 w g n cs := by
 obtain ⟨s, R, h1, h2, h3, h4⟩ := h.eng
 exact ⟨h.bits, s, R, h1, h2.congr e, h3, h4⟩
theorem Made256.out {b o m : Nat} {w w' : World} {g n : Nat} {bs : Nat → Nat} (h : Made256 w g n bs) (hb : Out b o m w w') (hne : g ≠ b) : Made256 w' g n bs := by
 obtain ⟨s, R, h1, h2, h3, h4⟩ := h.eng
 exact ⟨(hb.cell' h.lt hne).trans h.bits, s, R, ⟨hb.row h1.st hne, hb.row h1.rest hne, (hb.cell' h.lt hne).trans h1.cnt, (hb.frozen' h.lt hne).trans h1.cntf⟩, h2, h3, h4⟩
/-- A Hash that was made, with these bytes behind it. -/
structure Made512 (w : World) (g : Nat) (n : Nat) (bs : Nat → Nat) : Prop where
 bits : w.cell? ⟨g, 0, none⟩ = some (.int .i64 512)
 eng : ∃ s R, EngAt .u64 w g 138 s R n ∧ Holds rw6 cubeK (firstS rw6 squareK) n bs s R ∧ s.lt 18446744073709551616 ∧ ∀ j, R j < 256
theorem Made512.lt {w : World} {g n : Nat} {bs : Nat → Nat} (h : Made512 w g n bs) : g < w.heap.size := block_lt_of_cell h.bits
theorem Made512.below {w w' : World} {g n : Nat} {bs : Nat → Nat} (h : Made512 w g n bs) (hb : Below w.heap.size w w') : Made512 w' g n bs := by
 obtain ⟨s, R, h1, h2, h3, h4⟩ := h.eng
 exact ⟨(hb.cell (p := ⟨g, 0, none⟩) h.lt).trans h.bits, s, R, h1.below hb, h2, h3, h4⟩
theorem Made512.congr {w : World} {g n : Nat} {bs cs : Nat → Nat} (h : Made512 w g n bs) (e : ∀ j, j < n → bs j = cs j) : Made512 w g n cs := by
 obtain ⟨s, R, h1, h2, h3, h4⟩ := h.eng
 exact ⟨h.bits, s, R, h1, h2.congr e, h3, h4⟩
theorem Made512.out {b o m : Nat} {w w' : World} {g n : Nat} {bs : Nat → Nat} (h : Made512 w g n bs) (hb : Out b o m w w') (hne : g ≠ b) : Made512 w' g n bs := by
 obtain ⟨s, R, h1, h2, h3, h4⟩ := h.eng
 exact ⟨(hb.cell' h.lt hne).trans h.bits, s, R, ⟨hb.row h1.st hne, hb.row h1.rest hne, (hb.cell' h.lt hne).trans h1.cnt, (hb.frozen' h.lt hne).trans h1.cntf⟩, h2, h3, h4⟩
theorem newMade512 (w : World) (hT : HTab w cubeK squareK) (bs : Nat → Nat) : Calls Tryd.prog 23 #[.int .i64 512] w fun e w' => ∃ g, e = .returned (.pointer (some ⟨g, 0, none⟩)) ∧ w.heap.size ≤ g ∧ Made512 w' g 0 bs ∧ Below w.heap.size w w' := by
 refine (new512_any squareK hT.qlt w hT.squares hT.wide).mono ?_
 rintro e w' ⟨g, rfl, hg, h1, h2, hb⟩
 exact ⟨g, rfl, hg, ⟨h1, _, _, h2, Holds.none _ _ _ _ _, firstS_lt rw6 squareK (by decide) hT.qlt, fun _ => Nat.zero_lt_succ _⟩, hb⟩
set_option maxRecDepth 20000 in
set_option maxHeartbeats 1000000 in
theorem hwrite512_any (g c n : Nat) (v : Value) (bs b2 : Nat → Nat) (hb2 : ∀ j, b2 j < 256) (w : World) (hM : Made512 w g c bs) (hT : HTab w cubeK squareK) (h3 : 4 < g) (hv : Bytes w g v n b2) (hcn : c + n < 4611686018427387904) :
 Calls Tryd.prog 24 #[.pointer (some ⟨g, 0, none⟩), v] w fun e w' => e = .returned (.int .i64 0) ∧ Made512 w' g (c + n) (cat c bs b2) ∧ Out g 138 137 w w' := by
 obtain ⟨hbits, s, R, hE, hH, hs, hR⟩ := hM
 have hgl : g < w.heap.size := block_lt_of_cell hbits
 have hd : Below w.heap.size w w.drew := (Below.refl _ _).drew
 have hTd := hT.below hd hT.size
 have hw := write64_any cubeK hT.Klt s hs R hR g 138 c n v b2 hb2 w.drew (hE.below hd) hTd.cubes (by omega) (hv.below hd) hcn
 have hX := writeE_lt (r := rw6) (K := cubeK) (c := c) (n := n) hs hR hb2
 have hHw := hH.write (by decide) n b2
 obtain ⟨X, hXe⟩ : ∃ X, X = writeE rw6 cubeK s R c n b2 := ⟨_, rfl⟩
 rw [← hXe] at hw hX hHw
 have hm := made_yes g 512 (by decide) w hbits
 obtain ⟨p0, p1, p2, p3, p4, p5, p6, p7, p8, p9, p10, p11, p12, p13⟩ := hT.wide
 clear hT hTd hv hE hH hXe
 go_enter Tryd.func24, Tryd.ntmps24
 go_wp2_with (go_at_call 50; refine hm.mono ?_; rintro e w' ⟨rfl, hw'⟩; subst hw')
 go_region_with (go_at_call 47; refine hw.mono ?_; rintro e w5 ⟨rfl, hE5, hO5⟩)
 all_goals
  go_wp2
  go_ret
  have hO : Out g 138 137 _ w5 := Out.pre hd hgl hO5
  exact ⟨rfl, ⟨(hO.cell 0 (by omega)).trans hbits, X.1, X.2, hE5, hHw, hX.1, hX.2⟩, hO⟩
set_option maxRecDepth 20000 in
set_option maxHeartbeats 1000000 in
theorem hsum512_any (g c : Nat) (bs : Nat → Nat) (w : World) (hM : Made512 w g c bs) (hT : HTab w cubeK squareK) (hc : c < 2305843009213693952) :
 Calls Tryd.prog 26 #[.pointer (some ⟨g, 0, none⟩)] w fun e w' => ∃ ga, e = .returned (.slice (some ⟨ga, 0, none⟩) 64 64) ∧ w.heap.size ≤ ga ∧ RowAt .u8 w' ga 0 64 (outB 64 (specS rw6 cubeK squareK c bs)) ∧ Below w.heap.size w w' := by
 obtain ⟨hbits, s, R, hE, hH, hs, hR⟩ := hM
 have hgl : g < w.heap.size := block_lt_of_cell hbits
 have hd : Below w.heap.size w w.drew := (Below.refl _ _).drew
 have hTd := hT.below hd hT.size
 have hsum := sum64_any cubeK hT.Klt s hs R hR c hc w.drew hTd.cubes
 rw [hH.end (by decide)] at hsum
 have hm := made_yes g 512 (by decide) w hbits
 obtain ⟨p0, p1, p2, p3, p4, p5, p6, p7, p8, p9, p10, p11, p12, p13⟩ := hT.wide
 have hr : ∀ w' : World, Below w.heap.size w w' → w'.rangeAt g 138 (engVals .u64 s R c) := fun w' h => (hE.below h).range
 have hS : ∀ w' : World, Below w.heap.size w w' → ∀ b o, b < w.heap.size → w'.cell? ⟨b, o, none⟩ = w.cell? ⟨b, o, none⟩ := fun w' h b o hb => h.cell (p := ⟨b, o, none⟩) hb
 have h0 : 0 < w.heap.size := by have := hT.size; omega
 have hi' : (Tryd.prog.info? 77).map (·.size) = some (engVals .u64 s R c).length := by rw [engVals_len]; kernel_rfl
 obtain ⟨Y, hY⟩ : ∃ Y, Y = specS rw6 cubeK squareK c bs := ⟨_, rfl⟩
 rw [← hY] at hsum ⊢
 clear hT hTd hE hH hY
 go_enter Tryd.func26, Tryd.ntmps26
 go_wp2_with (go_at_call 50; refine hm.mono ?_; rintro e w' ⟨rfl, hw'⟩; subst hw')
 refine wp_region_held_drew (S := fun w2 => Below w'.heap.size w' w2) (by kernel_rfl) hd (fun hHeld => ?_)
 refine wpAnyH_take (i := 0) (v := .pointer (some ⟨g, 0, none⟩)) rfl (by kernel_rfl) (by kernel_rfl) (by kernel_rfl) (fun _ _ _ h => h) (Or.inl ⟨by rfl, fun w2 _ => by go_simp⟩) hHeld ?_
 refine wpAnyH_take (i := 1) (v := .pointer (some ⟨g, 0, none⟩)) rfl (by kernel_rfl) (by kernel_rfl) (by kernel_rfl) (fun _ _ _ h => h) (Or.inl ⟨by rfl, fun w2 _ => by go_simp⟩) hHeld ?_
 refine wpAnyH_take (i := 2) (v := .pointer (some ⟨g, 138, none⟩)) rfl (by kernel_rfl) (by kernel_rfl) (by kernel_rfl) (fun _ _ _ h => h) (Or.inl ⟨by rfl, fun w2 _ => by go_simp⟩) hHeld ?_
 refine wpAnyH_take (i := 3) (v := .agg (engVals .u64 s R c).toArray) rfl (by kernel_rfl) (by kernel_rfl) (by kernel_rfl) (fun _ _ _ h => h) (yieldsIf_load_mid (by rfl) 77 _ rfl g 138 rfl _ _ hr Tryd.underlying77 rfl hi') hHeld ?_
 refine wpAnyH_take (i := 4) (v := (.agg #[.int .i64 64, .int .i64 80, .int .u64 1, .int .u64 8, .int .u64 7, .int .u64 19, .int .u64 61, .int .u64 6, .int .u64 28, .int .u64 34, .int .u64 39, .int .u64 14, .int .u64 18, .int .u64 41])) rfl (by kernel_rfl) (by kernel_rfl) (by kernel_rfl) (fun _ _ _ h => h) (Or.inl ⟨by rfl, fun w2 hSw => by go_simp⟩) hHeld ?_
 refine wpAnyH_ready (rs := [5]) (by kernel_rfl) (by simp) ?_
 refine AllReadyH.cons rfl (fun K hK => ?_) AllReadyH.nil
 go_simp
 go_at_call 48
 refine hsum.mono ?_
 rintro e w5 ⟨ga, rfl, hga, hrow, hb5⟩
 have hbn := below_next hd hb5
 go_simp
 refine hK.out _ _ hbn (fun hHeld2 => ?_)
 refine wpAnyH_take (i := 6) (v := .slice (some ⟨ga, 0, none⟩) 64 64) rfl (by kernel_rfl) (by kernel_rfl) (by kernel_rfl) (fun _ _ _ h => h) (Or.inl ⟨by rfl, fun w2 _ => by go_simp⟩) hHeld2 ?_
 refine wpAnyH_done (by kernel_rfl) ?_ _
 go_simp
 go_wp2
 go_ret
 exact ⟨ga, rfl, hga, hrow, hbn⟩
end Go.Proofs.YtdgkmloabificaaDoor
