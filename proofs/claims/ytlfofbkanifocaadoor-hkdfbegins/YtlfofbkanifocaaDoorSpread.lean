/- What spread does in the model: the words of a block, at both widths; and the laws on rows of numbers in memory that its walk wants. -/
import Derived.Test.YtlfofbkanifocaaDoorSmall
import Derived.Deep.RegionHeld3
import Derived.Deep.MidRow
namespace Go.Proofs.YtlfofbkanifocaaDoor
open Go.RowKit
/-- A function with one place changed. -/
def upd (X : Nat → Nat) (i v : Nat) : Nat → Nat := fun j => if j = i then v else X j
/-- The words of a block, byte by byte: behind i bytes. -/
def fill (m sz : Nat) (bs : Nat → Nat) : Nat → Nat → Nat
  | 0 => fun _ => 0
  | i + 1 => upd (fill m sz bs i) (i / sz) ((fill m sz bs i (i / sz) * 256 % 2 ^ m) ||| bs i)
def nextW (r : Ru) (X : Nat → Nat) (k : Nat) : Nat := (lo3 r.m (X (k + 14)) r.s1 + X (k + 9) + lo3 r.m (X (k + 1)) r.s0 + X k) % 2 ^ r.m
/-- The words of a block: k more than sixteen. -/
def sch (r : Ru) (X : Nat → Nat) : Nat → Nat → Nat
  | 0 => X
  | k + 1 => upd (sch r X k) (k + 16) (nextW r (sch r X k) k)
theorem fill_lt {m sz : Nat} {bs : Nat → Nat} (hb : ∀ j, bs j < 2 ^ m) : ∀ i j, fill m sz bs i j < 2 ^ m
  | 0, _ => Nat.two_pow_pos m
  | i + 1, j => by
    unfold fill upd
    split
    · exact Nat.or_lt_two_pow (Nat.mod_lt _ (Nat.two_pow_pos m)) (hb i)
    · exact fill_lt hb i j
theorem sch_lt {r : Ru} {X : Nat → Nat} (hX : ∀ j, X j < 2 ^ r.m) : ∀ k j, sch r X k j < 2 ^ r.m
  | 0, j => hX j
  | k + 1, j => by
    unfold sch upd
    split
    · exact Nat.mod_lt _ (Nat.two_pow_pos _)
    · exact sch_lt hX k j
theorem bcell {W w1 : World} (hb : Below W.heap.size W w1) : (∀ b o, b < W.heap.size → w1.cell? ⟨b, o, none⟩ = W.cell? ⟨b, o, none⟩) ∧ (∀ b o, b < W.heap.size → w1.frozen? ⟨b, o, none⟩ = W.frozen? ⟨b, o, none⟩) :=
  ⟨fun b o h => hb.cell (p := ⟨b, o, none⟩) h, fun b o h => hb.frozen (p := ⟨b, o, none⟩) h⟩

/-- Eighty zeros. -/
def zs32 : Array Value := Array.replicate 80 (.int .u32 0)
theorem zero85 (w : World) : Sem.run Tryd.prog (zeroValue 85) w = .ok (.agg zs32) w := by kernel_rfl
theorem zs32_at (j : Nat) (h : j < 80) : zs32[j]? = some (.int .u32 0) := by simp [zs32, h]
theorem zs32_size : zs32.size = 80 := by simp [zs32]
/-- Eighty zeros. -/
def zs64 : Array Value := Array.replicate 80 (.int .u64 0)
theorem zero88 (w : World) : Sem.run Tryd.prog (zeroValue 88) w = .ok (.agg zs64) w := by kernel_rfl
theorem zs64_at (j : Nat) (h : j < 80) : zs64[j]? = some (.int .u64 0) := by simp [zs64, h]
theorem zs64_size : zs64.size = 80 := by simp [zs64]
/-- n cells from o on of block b hold the numbers X, and may be written. -/
def RowAt (K : IntKind) (w : World) (b o n : Nat) (X : Nat → Nat) : Prop := ∀ j, j < n → w.cell? ⟨b, o + j, none⟩ = some (.int K (X j)) ∧ w.frozen? ⟨b, o + j, none⟩ = false
theorem RowAt.drew {K : IntKind} {w : World} {b o n : Nat} {X : Nat → Nat} (h : RowAt K w b o n X) : RowAt K w.drew b o n X := fun j hj => h j hj
theorem RowAt.set {K : IntKind} {w : World} {b o n : Nat} {X : Nat → Nat} (h : RowAt K w b o n X) {i : Nat} (hi : i < n) {v : Int} {u : Nat} (hv : v = (u : Int)) : RowAt K (w.setCell ⟨b, o + i, none⟩ (.int K v)) b o n (upd X i u) := fun j hj => by
  refine ⟨?_, by rw [World.frozen?_setCell]; exact (h j hj).2⟩
  by_cases e : j = i
  · subst e; rw [World.cell?_setCell_same _ _ _ (h j hj).1]; simp [upd, hv]
  · have hne : (⟨b, o + i, none⟩ : Addr) ≠ ⟨b, o + j, none⟩ := fun h => by injection h; omega
    rw [World.cell?_setCell_other _ _ _ _ hne]; simp [upd, e, (h j hj).1]
theorem RowAt.far {K : IntKind} {w : World} {b o n : Nat} {X : Nat → Nat} (h : RowAt K w b o n X) {a : Addr} (ha : a.block ≠ b) (v : Value) : RowAt K (w.setCell a v) b o n X := fun j hj => by
  refine ⟨?_, by rw [World.frozen?_setCell]; exact (h j hj).2⟩
  rw [World.cell?_setCell_other _ _ _ _ (fun e => ha (by rw [e]))]; exact (h j hj).1
theorem RowAt.below {K : IntKind} {B : Nat} {w w' : World} {b o n : Nat} {X : Nat → Nat} (h : RowAt K w b o n X) (hb : Below B w w') (hB : b < B) : RowAt K w' b o n X := fun j hj =>
  ⟨(hb.cell (p := ⟨b, o + j, none⟩) hB).trans (h j hj).1, (hb.frozen (p := ⟨b, o + j, none⟩) hB).trans (h j hj).2⟩
theorem RowAt.fresh {K : IntKind} {w : World} {cs : Array Value} {t : TypeId} {n : Nat} {X : Nat → Nat} (h : ∀ j, j < n → cs[j]? = some (.int K (X j))) : RowAt K (w.alloc (.cells cs t)) w.heap.size 0 n X := fun j hj => by
  constructor
  · simp [h j hj]
  · simp
theorem RowAt.alloc {K : IntKind} {w : World} {b o n : Nat} {X : Nat → Nat} (h : RowAt K w b o n X) (hb : b < w.heap.size) (ob : Obj) : RowAt K (w.alloc ob) b o n X :=
  h.below ((Below.refl w.heap.size w).alloc (Nat.le_refl _) ob) hb
/-- The numbers as cells. -/
def ints (K : IntKind) (n : Nat) (X : Nat → Nat) : List Value := (List.range n).map fun j => .int K (X j)
theorem ints_len (K : IntKind) (n : Nat) (X : Nat → Nat) : (ints K n X).length = n := by simp [ints]
theorem ints_at (K : IntKind) (n : Nat) (X : Nat → Nat) (j : Nat) (h : j < n) : (ints K n X)[j]? = some (.int K (X j)) := by simp [ints, h]
theorem ints_one (K : IntKind) (n : Nat) (X : Nat → Nat) : ∀ v ∈ ints K n X, v.oneCell' = true := fun v hv => by
  simp only [ints, List.mem_map] at hv
  obtain ⟨_, _, rfl⟩ := hv
  rfl
theorem RowAt.range {K : IntKind} {w : World} {b o n : Nat} {X : Nat → Nat} (h : RowAt K w b o n X) : w.rangeAt b o (ints K n X) := fun j v hv => by
  have hj : j < n := by have := (List.getElem?_eq_some_iff.1 hv).1; rwa [ints_len] at this
  rw [ints_at K n X j hj] at hv
  rw [← hv]; exact (h j hj).1
theorem RowAt.there {K : IntKind} {w : World} {b o n : Nat} {X : Nat → Nat} (h : RowAt K w b o n X) : w.there b o n := fun j hj => by
  rw [(h j hj).1]; exact ⟨rfl, (h j hj).2⟩
theorem results_cell_mid {P : Program} {fn : Func} {p : Tmp} {ty : TypeId} (h : fn.results = #[.cell p ty]) (tmps : Array Value) (w : World) (g o : Nat) (cs : List Value) (d : TypeDesc)
    (hp : tmps.getD p undef = .pointer (some ⟨g, o, none⟩)) (hc : w.rangeAt g o cs)
    (hu : P.underlying ty = some d) (hd : d.isRow = true) (hi : (P.info? ty).map (·.size) = some cs.length) :
    (results fn tmps).run P w = .ok (.agg cs.toArray) w := by
  have hp' : tmps[p]?.getD undef = .pointer (some ⟨g, o, none⟩) := by simpa using hp
  simp [results, h, hp', asAddr, run_loadVar_mid w g o ty cs d hc hu hd hi]
theorem below_setCells {B : Nat} {a : World} {b : Nat} (hb : B ≤ b) : ∀ (vs : List Value) (o : Nat) (w : World), Below B a w → Below B a (w.setCells b o vs)
  | [], _, _, h => h
  | v :: r, o, w, h => by rw [World.setCells]; exact below_setCells hb r (o + 1) _ (h.setCell hb v)
theorem below_next {W a b : World} (h : Below W.heap.size W a) (hb : Below a.heap.size a b) : Below W.heap.size W b := h.trans (hb.mono h.size)
/-- A world that is as W was but for new blocks, and perhaps for one cell. -/
def Near (b o : Nat) (W w' : World) : Prop := ∃ w0, Below W.heap.size W w0 ∧ (w' = w0 ∨ ∃ u, w' = w0.setCell ⟨b, o, none⟩ u)
theorem Near.of_below {b o : Nat} {W w' : World} (h : Below W.heap.size W w') : Near b o W w' := ⟨w', h, .inl rfl⟩
theorem Near.set {b o : Nat} {W w' : World} (h : Below W.heap.size W w') (u : Value) : Near b o W (w'.setCell ⟨b, o, none⟩ u) := ⟨w', h, .inr ⟨u, rfl⟩⟩
theorem Near.cell {b o : Nat} {W w' : World} (h : Near b o W w') (p q : Nat) (hp : p < W.heap.size) (hne : p = b → q ≠ o) : w'.cell? ⟨p, q, none⟩ = W.cell? ⟨p, q, none⟩ := by
  obtain ⟨w0, hb, rfl | ⟨u, rfl⟩⟩ := h
  · exact hb.cell (p := ⟨p, q, none⟩) hp
  · rw [World.cell?_setCell_other _ _ _ _ (fun e => by injection e with e1 e2; exact hne e1.symm e2.symm)]; exact hb.cell (p := ⟨p, q, none⟩) hp
theorem Near.frozen {b o : Nat} {W w' : World} (h : Near b o W w') (p q : Nat) (hp : p < W.heap.size) : w'.frozen? ⟨p, q, none⟩ = W.frozen? ⟨p, q, none⟩ := by
  obtain ⟨w0, hb, rfl | ⟨u, rfl⟩⟩ := h
  · exact hb.frozen (p := ⟨p, q, none⟩) hp
  · rw [World.frozen?_setCell]; exact hb.frozen (p := ⟨p, q, none⟩) hp
theorem Near.some {b o : Nat} {W w' : World} (h : Near b o W w') {v : Value} (hv : W.cell? ⟨b, o, none⟩ = .some v) : ∃ u, w'.cell? ⟨b, o, none⟩ = .some u := by
  obtain ⟨w0, hb, rfl | ⟨u, rfl⟩⟩ := h
  · exact ⟨v, (hb.cell (p := ⟨b, o, none⟩) (block_lt_of_cell hv)).trans hv⟩
  · exact ⟨u, World.cell?_setCell_same _ _ _ ((hb.cell (p := ⟨b, o, none⟩) (block_lt_of_cell hv)).trans hv)⟩
theorem rbox32 {W w1 : World} (h : Below (W.heap.size + 1) (W.alloc (.cells #[.int .i64 32, .int .i64 64, .int .u64 7, .int .u64 18, .int .u64 3, .int .u64 17, .int .u64 19, .int .u64 10, .int .u64 2, .int .u64 13, .int .u64 22, .int .u64 6, .int .u64 11, .int .u64 25] 59)) w1) (B : Nat) (hB : B = W.heap.size) : w1.cell? ⟨B, 0, none⟩ = some (.int .i64 32) ∧ w1.cell? ⟨B, 1, none⟩ = some (.int .i64 64) ∧ w1.cell? ⟨B, 2, none⟩ = some (.int .u64 7) ∧ w1.cell? ⟨B, 3, none⟩ = some (.int .u64 18) ∧ w1.cell? ⟨B, 4, none⟩ = some (.int .u64 3) ∧ w1.cell? ⟨B, 5, none⟩ = some (.int .u64 17) ∧ w1.cell? ⟨B, 6, none⟩ = some (.int .u64 19) ∧ w1.cell? ⟨B, 7, none⟩ = some (.int .u64 10) ∧ w1.cell? ⟨B, 8, none⟩ = some (.int .u64 2) ∧ w1.cell? ⟨B, 9, none⟩ = some (.int .u64 13) ∧ w1.cell? ⟨B, 10, none⟩ = some (.int .u64 22) ∧ w1.cell? ⟨B, 11, none⟩ = some (.int .u64 6) ∧ w1.cell? ⟨B, 12, none⟩ = some (.int .u64 11) ∧ w1.cell? ⟨B, 13, none⟩ = some (.int .u64 25) := by
  subst hB
  have hc : ∀ j, w1.cell? ⟨W.heap.size, j, none⟩ = (W.alloc (.cells #[.int .i64 32, .int .i64 64, .int .u64 7, .int .u64 18, .int .u64 3, .int .u64 17, .int .u64 19, .int .u64 10, .int .u64 2, .int .u64 13, .int .u64 22, .int .u64 6, .int .u64 11, .int .u64 25] 59)).cell? ⟨W.heap.size, j, none⟩ := fun j => h.cell (p := ⟨W.heap.size, j, none⟩) (Nat.lt_succ_self _)
  simp only [hc]
  simp
theorem rbox64 {W w1 : World} (h : Below (W.heap.size + 1) (W.alloc (.cells #[.int .i64 64, .int .i64 80, .int .u64 1, .int .u64 8, .int .u64 7, .int .u64 19, .int .u64 61, .int .u64 6, .int .u64 28, .int .u64 34, .int .u64 39, .int .u64 14, .int .u64 18, .int .u64 41] 59)) w1) (B : Nat) (hB : B = W.heap.size) : w1.cell? ⟨B, 0, none⟩ = some (.int .i64 64) ∧ w1.cell? ⟨B, 1, none⟩ = some (.int .i64 80) ∧ w1.cell? ⟨B, 2, none⟩ = some (.int .u64 1) ∧ w1.cell? ⟨B, 3, none⟩ = some (.int .u64 8) ∧ w1.cell? ⟨B, 4, none⟩ = some (.int .u64 7) ∧ w1.cell? ⟨B, 5, none⟩ = some (.int .u64 19) ∧ w1.cell? ⟨B, 6, none⟩ = some (.int .u64 61) ∧ w1.cell? ⟨B, 7, none⟩ = some (.int .u64 6) ∧ w1.cell? ⟨B, 8, none⟩ = some (.int .u64 28) ∧ w1.cell? ⟨B, 9, none⟩ = some (.int .u64 34) ∧ w1.cell? ⟨B, 10, none⟩ = some (.int .u64 39) ∧ w1.cell? ⟨B, 11, none⟩ = some (.int .u64 14) ∧ w1.cell? ⟨B, 12, none⟩ = some (.int .u64 18) ∧ w1.cell? ⟨B, 13, none⟩ = some (.int .u64 41) := by
  subst hB
  have hc : ∀ j, w1.cell? ⟨W.heap.size, j, none⟩ = (W.alloc (.cells #[.int .i64 64, .int .i64 80, .int .u64 1, .int .u64 8, .int .u64 7, .int .u64 19, .int .u64 61, .int .u64 6, .int .u64 28, .int .u64 34, .int .u64 39, .int .u64 14, .int .u64 18, .int .u64 41] 59)).cell? ⟨W.heap.size, j, none⟩ := fun j => h.cell (p := ⟨W.heap.size, j, none⟩) (Nat.lt_succ_self _)
  simp only [hc]
  simp
theorem sum4_32 (a b c d : Nat) : ((((a : Int) + b) % 4294967296 + c) % 4294967296 + d) % 4294967296 = (((a + b + c + d) % 2 ^ 32 : Nat) : Int) := by
  have e : (2 : Nat) ^ 32 = 4294967296 := rfl
  rw [e]; omega
theorem nextW_32 (X : Nat → Nat) (k : Nat) : ((((lo3 32 (X (k + 14)) (17, 19, 10) : Int) + X (k + 9)) % 4294967296 + lo3 32 (X (k + 1)) (7, 18, 3)) % 4294967296 + X k) % 4294967296 = ((nextW rn X k : Nat) : Int) :=
  sum4_32 _ _ _ _
theorem sum4_64 (a b c d : Nat) : ((((a : Int) + b) % 18446744073709551616 + c) % 18446744073709551616 + d) % 18446744073709551616 = (((a + b + c + d) % 2 ^ 64 : Nat) : Int) := by
  have e : (2 : Nat) ^ 64 = 18446744073709551616 := rfl
  rw [e]; omega
theorem nextW_64 (X : Nat → Nat) (k : Nat) : ((((lo3 64 (X (k + 14)) (19, 61, 6) : Int) + X (k + 9)) % 18446744073709551616 + lo3 64 (X (k + 1)) (1, 8, 7)) % 18446744073709551616 + X k) % 18446744073709551616 = ((nextW rw6 X k : Nat) : Int) :=
  sum4_64 _ _ _ _
theorem or8_32 (x b : Nat) (hb : b < 256) : bits .or .u32 ((x : Int) * 256 % 4294967296) ((b : Int) % 4294967296) = ((x * 256 % 2 ^ 32 ||| b : Nat) : Int) := by
  have e1 : (x : Int) * 256 % 4294967296 = ((x * 256 % 4294967296 : Nat) : Int) := by simp
  have e2 : (b : Int) % 4294967296 = ((b : Nat) : Int) := by omega
  rw [e1, e2, u32_or_nat _ _ (Nat.mod_lt _ (by decide)) (by omega)]
set_option maxRecDepth 20000 in
set_option maxHeartbeats 1000000 in
theorem spread32_any (bb ob cap : Nat) (bs : Nat → Nat) (hbs : ∀ j, bs j < 256) (w : World) (hcell : ∀ j, j < 64 → w.cell? ⟨bb, ob + j, none⟩ = some (.int .u8 (bs j))) :
    Calls Tryd.prog 59 #[(.agg #[.int .i64 32, .int .i64 64, .int .u64 7, .int .u64 18, .int .u64 3, .int .u64 17, .int .u64 19, .int .u64 10, .int .u64 2, .int .u64 13, .int .u64 22, .int .u64 6, .int .u64 11, .int .u64 25]), .slice (some ⟨bb, ob, none⟩) 64 cap] w fun e w' => e = .returned (.agg (ints .u32 80 (sch rn (fill 32 4 bs 64) (64 - 16))).toArray) ∧ Below w.heap.size w w' := by
  have hz := zero85
  have hbb : bb < w.heap.size := block_lt_of_cell (hcell 0 (by decide))
  go_enter Tryd.func59, Tryd.ntmps59
  go_wp2
  clear hz
  go_loopw [19] (fun i wr => ∃ k : Nat, k ≤ 64 ∧ i = .int .i64 k ∧ RowAt .u32 wr (w.heap.size + 1 + 1) 0 80 (fill 32 4 bs k) ∧ RowAt .u32 wr (w.heap.size + 1) 0 80 (fun _ => 0) ∧ Below (w.heap.size + 1) (w.alloc (.cells #[.int .i64 32, .int .i64 64, .int .u64 7, .int .u64 18, .int .u64 3, .int .u64 17, .int .u64 19, .int .u64 10, .int .u64 2, .int .u64 13, .int .u64 22, .int .u64 6, .int .u64 11, .int .u64 25] 59)) wr) (fun i _ => 64 - (intOf i).toNat)
  case atStart =>
    refine ⟨0, Nat.zero_le _, rfl, ?_, ?_, ?_⟩
    · have := RowAt.fresh (K := .u32) (w := (w.alloc (.cells #[.int .i64 32, .int .i64 64, .int .u64 7, .int .u64 18, .int .u64 3, .int .u64 17, .int .u64 19, .int .u64 10, .int .u64 2, .int .u64 13, .int .u64 22, .int .u64 6, .int .u64 11, .int .u64 25] 59)).alloc (.cells zs32 85)) (t := 85) (X := fill 32 4 bs 0) (n := 80) (fun j hj => zs32_at j hj)
      simpa using this
    · have := (RowAt.fresh (K := .u32) (w := w.alloc (.cells #[.int .i64 32, .int .i64 64, .int .u64 7, .int .u64 18, .int .u64 3, .int .u64 17, .int .u64 19, .int .u64 10, .int .u64 2, .int .u64 13, .int .u64 22, .int .u64 6, .int .u64 11, .int .u64 25] 59)) (t := 85) (X := fun _ => 0) (n := 80) (fun j hj => zs32_at j hj)).alloc (by simp) (.cells zs32 85)
      simpa using this
    · exact ((Below.refl _ _).alloc (by simp) _).alloc (by simp) _
  case round =>
    obtain ⟨k, hk, rfl, hrow, hres, hbel⟩ := hrel
    by_cases hlt : k < 64
    · have hc := (hbel.cell (p := ⟨bb, ob + k, none⟩) (Nat.lt_succ_of_lt hbb)).trans ((World.cell?_alloc_lt _ _ _ hbb).trans (hcell k hlt))
      have hr := hrow (k / 4) (by omega)
      obtain ⟨hr1, hr2⟩ := hr
      rw [Nat.zero_add] at hr1 hr2
      have hq : k / 4 < 80 := by omega
      clear hcell
      go_wp2
      go_region
      go_wp2
      go_roundw
      case rel =>
        have h1 := hrow.set hq (or8_32 (fill 32 4 bs k (k / 4)) (bs k) (hbs k))
        rw [Nat.zero_add] at h1
        exact ⟨k + 1, hlt, by go_num, h1.drew, (hres.far (by simp) _).drew, (hbel.setCell (by simp) _).drew⟩
      case measure => simp [intOf]; omega
    · have hke : k = 64 := by omega
      subst hke
      clear hcell hlt hk
      have hu : ∀ j, fill 32 4 bs 64 j < 2 ^ 32 := fill_lt (fun j => Nat.lt_of_lt_of_le (hbs j) (by decide)) 64
      obtain ⟨X, hX⟩ : ∃ X, X = fill 32 4 bs 64 := ⟨_, rfl⟩
      have HX : Hid (X = fill 32 4 bs 64) := hX
      rw [← hX] at hrow hu
      clear hX
      have hr1 := (rbox32 hbel _ rfl).2.1
      go_wp2
      clear hr1
      go_loopw [10] (fun t w2 => ∃ k : Nat, k ≤ 64 - 16 ∧ t = .int .i64 ((k : Int) + 16) ∧ RowAt .u32 w2 (w.heap.size + 1 + 1) 0 80 (sch rn X k) ∧ RowAt .u32 w2 (w.heap.size + 1) 0 80 (fun _ => 0) ∧ Below (w.heap.size + 1) (w.alloc (.cells #[.int .i64 32, .int .i64 64, .int .u64 7, .int .u64 18, .int .u64 3, .int .u64 17, .int .u64 19, .int .u64 10, .int .u64 2, .int .u64 13, .int .u64 22, .int .u64 6, .int .u64 11, .int .u64 25] 59)) w2) (fun t _ => 64 - (intOf t).toNat)
      case atStart => exact ⟨0, Nat.zero_le _, rfl, hrow, hres, hbel⟩
      case round =>
        clear hrow hres hbel
        obtain ⟨k, hk, rfl, hrow, hres, hbel⟩ := hrel
        have hsz := hbel.size
        rw [World.size_alloc] at hsz
        by_cases hlt : k < 64 - 16
        · obtain ⟨c0, c1, c2, c3, c4, c5, c6, c7, -⟩ := rbox32 hbel _ rfl
          have hN : w.heap.size + 1 + 1 < wr.heap.size := block_lt_of_cell (hrow 0 (by decide)).1
          have q0 : w.heap.size < wr.heap.size := by omega
          have hS : ∀ w' : World, Near (w.heap.size + 1 + 1) (k + 16) wr w' → ∀ q, q < k + 16 → w'.cell? ⟨w.heap.size + 1 + 1, q, none⟩ = wr.cell? ⟨w.heap.size + 1 + 1, q, none⟩ := fun w' h q hq => h.cell _ _ hN (fun _ => by omega)
          have hS' : ∀ w' : World, Near (w.heap.size + 1 + 1) (k + 16) wr w' → ∀ q, w'.cell? ⟨w.heap.size, q, none⟩ = wr.cell? ⟨w.heap.size, q, none⟩ := fun w' h q => h.cell _ _ q0 (fun e => by omega)
          have hF : ∀ w' : World, Near (w.heap.size + 1 + 1) (k + 16) wr w' → ∀ q, w'.frozen? ⟨w.heap.size + 1 + 1, q, none⟩ = wr.frozen? ⟨w.heap.size + 1 + 1, q, none⟩ := fun w' h q => h.frozen _ _ hN
          have hb0 : Below wr.heap.size wr wr.drew := (Below.refl _ _).drew
          have r14 := (hrow (k + 14) (by omega)).1
          have r9 := (hrow (k + 9) (by omega)).1
          have r1 := (hrow (k + 1) (by omega)).1
          have r0 := (hrow k (by omega)).1
          have rf := (hrow (k + 16) (by omega)).2
          have rg := (hrow (k + 16) (by omega)).1
          rw [Nat.zero_add] at r14 r9 r1 r0 rf rg
          have u14 : sch rn X k (k + 14) < 4294967296 := sch_lt (r := rn) hu k (k + 14)
          have u1 : sch rn X k (k + 1) < 4294967296 := sch_lt (r := rn) hu k (k + 1)
          have hki : (k : Int) < 64 - 16 := by omega
          have x14 : IntKind.i64.wrap ((k : Int) + 16 - 2) = (k : Int) + 14 := by simp only [IntKind.wrap_i64]; omega
          have x9 : IntKind.i64.wrap ((k : Int) + 16 - 7) = (k : Int) + 9 := by simp only [IntKind.wrap_i64]; omega
          have x1 : IntKind.i64.wrap ((k : Int) + 16 - 15) = (k : Int) + 1 := by simp only [IntKind.wrap_i64]; omega
          have k80 : k < 80 := by omega
          have x0 : IntKind.i64.wrap (k : Int) = (k : Int) := by simp only [IntKind.wrap_i64]; omega
          have y14 : ((k : Int) + 14).toNat = k + 14 := by omega
          have y9 : ((k : Int) + 9).toNat = k + 9 := by omega
          have y1 : ((k : Int) + 1).toNat = k + 1 := by omega
          have y16 : ((k : Int) + 16).toNat = k + 16 := by omega
          have l14 : (0 : Int) ≤ (k : Int) + 14 ∧ (k : Int) + 14 < 80 := by omega
          have l9 : (0 : Int) ≤ (k : Int) + 9 ∧ (k : Int) + 9 < 80 := by omega
          have l1 : (0 : Int) ≤ (k : Int) + 1 ∧ (k : Int) + 1 < 80 := by omega
          have l0 : (0 : Int) ≤ (k : Int) ∧ (k : Int) < 80 := by omega
          have l16 : (0 : Int) ≤ (k : Int) + 16 ∧ (k : Int) + 16 < 80 := by omega
          go_wp2
          go_region_held3 (fun w' => Near (w.heap.size + 1 + 1) (k + 16) wr w') (first | exact Near.of_below (by assumption) | exact Near.set (by assumption) _) (first
            | (go_at_call 66; refine (turnShift32_any _ _ _ _ (by assumption) (by decide) (by decide) (by decide) _).mono ?_; rintro e w' ⟨rfl, hb⟩; have hbn := below_next (W := wr) (by assumption) hb; have rgn := (hbn.cell (p := ⟨w.heap.size + 1 + 1, k + 16, none⟩) hN).trans rg))
          clear hS hS' hF hb0 r14 r9 r1 r0 x14 x9 x1 x0 y14 y9 y1 y16 l14 l9 l1 l0 l16
          go_wp2
          go_roundw
          case rel =>
            repeat apply Exists.intro
            refine ⟨?_, rfl⟩
            have h1 := (hrow.below hbn hN).set (i := k + 16) (by omega) (nextW_32 (sch rn X k) k)
            rw [Nat.zero_add] at h1
            exact ⟨k + 1, by omega, by go_num, h1, (hres.below hbn (by omega)).far (by simp) _, (hbel.trans (hbn.mono (by omega))).setCell (by simp) _⟩
          case measure => simp [intOf]; omega
        · have hke : k = 64 - 16 := by omega
          subst hke
          have c1 := (rbox32 hbel _ rfl).2.1
          have ht : wr.there (w.heap.size + 1) 0 (ints .u32 80 (sch rn X (64 - 16))).toArray.size := by simp only [List.size_toArray, ints_len]; exact hres.there
          have hi : (Tryd.prog.info? 85).map (·.size) = some (ints .u32 80 (sch rn X (64 - 16))).toArray.size := by simp only [List.size_toArray, ints_len]; kernel_rfl
          have hi' : (Tryd.prog.info? 85).map (·.size) = some (ints .u32 80 (sch rn X (64 - 16))).length := by rw [ints_len]; kernel_rfl
          have hone := all_oneCell_toArray (ints_one .u32 80 (sch rn X (64 - 16)))
          go_wp2_with (first
            | (refine wpList_load_mid rfl 85 _ rfl _ 0 rfl _ _ hrow.range Tryd.underlying85 rfl hi' ?_)
            | (refine wpList_store_mid rfl 85 _ _ rfl _ 0 _ rfl rfl ht hi hone ?_))
          refine bodyPost_ret (v := .agg (ints .u32 80 (sch rn X (64 - 16))).toArray) (results_cell_mid Tryd.results59 _ _ (w.heap.size + 1) 0 _ _ rfl (World.rangeAt_setCells_same _ _ _ _ (by rw [ints_len]; exact hres.there)) Tryd.underlying85 rfl hi') rfl ⟨by rw [HX.out], ?_⟩
          exact below_setCells (by omega) _ _ _ (((Below.refl _ _).alloc (Nat.le_refl _) _).trans (hbel.mono (by omega)))
theorem or8_64 (x b : Nat) (hb : b < 256) : bits .or .u64 ((x : Int) * 256 % 18446744073709551616) ((b : Int) % 18446744073709551616) = ((x * 256 % 2 ^ 64 ||| b : Nat) : Int) := by
  have e1 : (x : Int) * 256 % 18446744073709551616 = ((x * 256 % 18446744073709551616 : Nat) : Int) := by simp
  have e2 : (b : Int) % 18446744073709551616 = ((b : Nat) : Int) := by omega
  rw [e1, e2, u64_or_nat _ _ (Nat.mod_lt _ (by decide)) (by omega)]
set_option maxRecDepth 20000 in
set_option maxHeartbeats 1000000 in
theorem spread64_any (bb ob cap : Nat) (bs : Nat → Nat) (hbs : ∀ j, bs j < 256) (w : World) (hcell : ∀ j, j < 128 → w.cell? ⟨bb, ob + j, none⟩ = some (.int .u8 (bs j))) :
    Calls Tryd.prog 64 #[(.agg #[.int .i64 64, .int .i64 80, .int .u64 1, .int .u64 8, .int .u64 7, .int .u64 19, .int .u64 61, .int .u64 6, .int .u64 28, .int .u64 34, .int .u64 39, .int .u64 14, .int .u64 18, .int .u64 41]), .slice (some ⟨bb, ob, none⟩) 128 cap] w fun e w' => e = .returned (.agg (ints .u64 80 (sch rw6 (fill 64 8 bs 128) (80 - 16))).toArray) ∧ Below w.heap.size w w' := by
  have hz := zero88
  have hbb : bb < w.heap.size := block_lt_of_cell (hcell 0 (by decide))
  go_enter Tryd.func64, Tryd.ntmps64
  go_wp2
  clear hz
  go_loopw [19] (fun i wr => ∃ k : Nat, k ≤ 128 ∧ i = .int .i64 k ∧ RowAt .u64 wr (w.heap.size + 1 + 1) 0 80 (fill 64 8 bs k) ∧ RowAt .u64 wr (w.heap.size + 1) 0 80 (fun _ => 0) ∧ Below (w.heap.size + 1) (w.alloc (.cells #[.int .i64 64, .int .i64 80, .int .u64 1, .int .u64 8, .int .u64 7, .int .u64 19, .int .u64 61, .int .u64 6, .int .u64 28, .int .u64 34, .int .u64 39, .int .u64 14, .int .u64 18, .int .u64 41] 59)) wr) (fun i _ => 128 - (intOf i).toNat)
  case atStart =>
    refine ⟨0, Nat.zero_le _, rfl, ?_, ?_, ?_⟩
    · have := RowAt.fresh (K := .u64) (w := (w.alloc (.cells #[.int .i64 64, .int .i64 80, .int .u64 1, .int .u64 8, .int .u64 7, .int .u64 19, .int .u64 61, .int .u64 6, .int .u64 28, .int .u64 34, .int .u64 39, .int .u64 14, .int .u64 18, .int .u64 41] 59)).alloc (.cells zs64 88)) (t := 88) (X := fill 64 8 bs 0) (n := 80) (fun j hj => zs64_at j hj)
      simpa using this
    · have := (RowAt.fresh (K := .u64) (w := w.alloc (.cells #[.int .i64 64, .int .i64 80, .int .u64 1, .int .u64 8, .int .u64 7, .int .u64 19, .int .u64 61, .int .u64 6, .int .u64 28, .int .u64 34, .int .u64 39, .int .u64 14, .int .u64 18, .int .u64 41] 59)) (t := 88) (X := fun _ => 0) (n := 80) (fun j hj => zs64_at j hj)).alloc (by simp) (.cells zs64 88)
      simpa using this
    · exact ((Below.refl _ _).alloc (by simp) _).alloc (by simp) _
  case round =>
    obtain ⟨k, hk, rfl, hrow, hres, hbel⟩ := hrel
    by_cases hlt : k < 128
    · have hc := (hbel.cell (p := ⟨bb, ob + k, none⟩) (Nat.lt_succ_of_lt hbb)).trans ((World.cell?_alloc_lt _ _ _ hbb).trans (hcell k hlt))
      have hr := hrow (k / 8) (by omega)
      obtain ⟨hr1, hr2⟩ := hr
      rw [Nat.zero_add] at hr1 hr2
      have hq : k / 8 < 80 := by omega
      clear hcell
      go_wp2
      go_region
      go_wp2
      go_roundw
      case rel =>
        have h1 := hrow.set hq (or8_64 (fill 64 8 bs k (k / 8)) (bs k) (hbs k))
        rw [Nat.zero_add] at h1
        exact ⟨k + 1, hlt, by go_num, h1.drew, (hres.far (by simp) _).drew, (hbel.setCell (by simp) _).drew⟩
      case measure => simp [intOf]; omega
    · have hke : k = 128 := by omega
      subst hke
      clear hcell hlt hk
      have hu : ∀ j, fill 64 8 bs 128 j < 2 ^ 64 := fill_lt (fun j => Nat.lt_of_lt_of_le (hbs j) (by decide)) 128
      obtain ⟨X, hX⟩ : ∃ X, X = fill 64 8 bs 128 := ⟨_, rfl⟩
      have HX : Hid (X = fill 64 8 bs 128) := hX
      rw [← hX] at hrow hu
      clear hX
      have hr1 := (rbox64 hbel _ rfl).2.1
      go_wp2
      clear hr1
      go_loopw [10] (fun t w2 => ∃ k : Nat, k ≤ 80 - 16 ∧ t = .int .i64 ((k : Int) + 16) ∧ RowAt .u64 w2 (w.heap.size + 1 + 1) 0 80 (sch rw6 X k) ∧ RowAt .u64 w2 (w.heap.size + 1) 0 80 (fun _ => 0) ∧ Below (w.heap.size + 1) (w.alloc (.cells #[.int .i64 64, .int .i64 80, .int .u64 1, .int .u64 8, .int .u64 7, .int .u64 19, .int .u64 61, .int .u64 6, .int .u64 28, .int .u64 34, .int .u64 39, .int .u64 14, .int .u64 18, .int .u64 41] 59)) w2) (fun t _ => 80 - (intOf t).toNat)
      case atStart => exact ⟨0, Nat.zero_le _, rfl, hrow, hres, hbel⟩
      case round =>
        clear hrow hres hbel
        obtain ⟨k, hk, rfl, hrow, hres, hbel⟩ := hrel
        have hsz := hbel.size
        rw [World.size_alloc] at hsz
        by_cases hlt : k < 80 - 16
        · obtain ⟨c0, c1, c2, c3, c4, c5, c6, c7, -⟩ := rbox64 hbel _ rfl
          have hN : w.heap.size + 1 + 1 < wr.heap.size := block_lt_of_cell (hrow 0 (by decide)).1
          have q0 : w.heap.size < wr.heap.size := by omega
          have hS : ∀ w' : World, Near (w.heap.size + 1 + 1) (k + 16) wr w' → ∀ q, q < k + 16 → w'.cell? ⟨w.heap.size + 1 + 1, q, none⟩ = wr.cell? ⟨w.heap.size + 1 + 1, q, none⟩ := fun w' h q hq => h.cell _ _ hN (fun _ => by omega)
          have hS' : ∀ w' : World, Near (w.heap.size + 1 + 1) (k + 16) wr w' → ∀ q, w'.cell? ⟨w.heap.size, q, none⟩ = wr.cell? ⟨w.heap.size, q, none⟩ := fun w' h q => h.cell _ _ q0 (fun e => by omega)
          have hF : ∀ w' : World, Near (w.heap.size + 1 + 1) (k + 16) wr w' → ∀ q, w'.frozen? ⟨w.heap.size + 1 + 1, q, none⟩ = wr.frozen? ⟨w.heap.size + 1 + 1, q, none⟩ := fun w' h q => h.frozen _ _ hN
          have hb0 : Below wr.heap.size wr wr.drew := (Below.refl _ _).drew
          have r14 := (hrow (k + 14) (by omega)).1
          have r9 := (hrow (k + 9) (by omega)).1
          have r1 := (hrow (k + 1) (by omega)).1
          have r0 := (hrow k (by omega)).1
          have rf := (hrow (k + 16) (by omega)).2
          have rg := (hrow (k + 16) (by omega)).1
          rw [Nat.zero_add] at r14 r9 r1 r0 rf rg
          have u14 : sch rw6 X k (k + 14) < 18446744073709551616 := sch_lt (r := rw6) hu k (k + 14)
          have u1 : sch rw6 X k (k + 1) < 18446744073709551616 := sch_lt (r := rw6) hu k (k + 1)
          have hki : (k : Int) < 80 - 16 := by omega
          have x14 : IntKind.i64.wrap ((k : Int) + 16 - 2) = (k : Int) + 14 := by simp only [IntKind.wrap_i64]; omega
          have x9 : IntKind.i64.wrap ((k : Int) + 16 - 7) = (k : Int) + 9 := by simp only [IntKind.wrap_i64]; omega
          have x1 : IntKind.i64.wrap ((k : Int) + 16 - 15) = (k : Int) + 1 := by simp only [IntKind.wrap_i64]; omega
          have k80 : k < 80 := by omega
          have x0 : IntKind.i64.wrap (k : Int) = (k : Int) := by simp only [IntKind.wrap_i64]; omega
          have y14 : ((k : Int) + 14).toNat = k + 14 := by omega
          have y9 : ((k : Int) + 9).toNat = k + 9 := by omega
          have y1 : ((k : Int) + 1).toNat = k + 1 := by omega
          have y16 : ((k : Int) + 16).toNat = k + 16 := by omega
          have l14 : (0 : Int) ≤ (k : Int) + 14 ∧ (k : Int) + 14 < 80 := by omega
          have l9 : (0 : Int) ≤ (k : Int) + 9 ∧ (k : Int) + 9 < 80 := by omega
          have l1 : (0 : Int) ≤ (k : Int) + 1 ∧ (k : Int) + 1 < 80 := by omega
          have l0 : (0 : Int) ≤ (k : Int) ∧ (k : Int) < 80 := by omega
          have l16 : (0 : Int) ≤ (k : Int) + 16 ∧ (k : Int) + 16 < 80 := by omega
          go_wp2
          go_region_held3 (fun w' => Near (w.heap.size + 1 + 1) (k + 16) wr w') (first | exact Near.of_below (by assumption) | exact Near.set (by assumption) _) (first
            | (go_at_call 70; refine (turnShift64_any _ _ _ _ (by assumption) (by decide) (by decide) (by decide) _).mono ?_; rintro e w' ⟨rfl, hb⟩; have hbn := below_next (W := wr) (by assumption) hb; have rgn := (hbn.cell (p := ⟨w.heap.size + 1 + 1, k + 16, none⟩) hN).trans rg))
          clear hS hS' hF hb0 r14 r9 r1 r0 x14 x9 x1 x0 y14 y9 y1 y16 l14 l9 l1 l0 l16
          go_wp2
          go_roundw
          case rel =>
            repeat apply Exists.intro
            refine ⟨?_, rfl⟩
            have h1 := (hrow.below hbn hN).set (i := k + 16) (by omega) (nextW_64 (sch rw6 X k) k)
            rw [Nat.zero_add] at h1
            exact ⟨k + 1, by omega, by go_num, h1, (hres.below hbn (by omega)).far (by simp) _, (hbel.trans (hbn.mono (by omega))).setCell (by simp) _⟩
          case measure => simp [intOf]; omega
        · have hke : k = 80 - 16 := by omega
          subst hke
          have c1 := (rbox64 hbel _ rfl).2.1
          have ht : wr.there (w.heap.size + 1) 0 (ints .u64 80 (sch rw6 X (80 - 16))).toArray.size := by simp only [List.size_toArray, ints_len]; exact hres.there
          have hi : (Tryd.prog.info? 88).map (·.size) = some (ints .u64 80 (sch rw6 X (80 - 16))).toArray.size := by simp only [List.size_toArray, ints_len]; kernel_rfl
          have hi' : (Tryd.prog.info? 88).map (·.size) = some (ints .u64 80 (sch rw6 X (80 - 16))).length := by rw [ints_len]; kernel_rfl
          have hone := all_oneCell_toArray (ints_one .u64 80 (sch rw6 X (80 - 16)))
          go_wp2_with (first
            | (refine wpList_load_mid rfl 88 _ rfl _ 0 rfl _ _ hrow.range Tryd.underlying88 rfl hi' ?_)
            | (refine wpList_store_mid rfl 88 _ _ rfl _ 0 _ rfl rfl ht hi hone ?_))
          refine bodyPost_ret (v := .agg (ints .u64 80 (sch rw6 X (80 - 16))).toArray) (results_cell_mid Tryd.results64 _ _ (w.heap.size + 1) 0 _ _ rfl (World.rangeAt_setCells_same _ _ _ _ (by rw [ints_len]; exact hres.there)) Tryd.underlying88 rfl hi') rfl ⟨by rw [HX.out], ?_⟩
          exact below_setCells (by omega) _ _ _ (((Below.refl _ _).alloc (Nat.le_refl _) _).trans (hbel.mono (by omega)))
end Go.Proofs.YtlfofbkanifocaaDoor
