/- What padding does in the model, at both widths. -/
import Derived.Test.YtlfofbkanifocaaDoorEng
namespace Go.Proofs.YtlfofbkanifocaaDoor
open Go.RowKit
/-- How many bytes come behind c bytes. -/
def padN (r : Ru) (c : Nat) : Nat := 1 + (4 * r.m - 1 - r.m / 4 - c % (2 * r.m)) % (2 * r.m) + r.m / 4
/-- These bytes: the number at the end, byte by byte. -/
def padG (N c : Nat) : Nat → Nat → Nat
  | 0 => upd (fun _ => 0) 0 128
  | i + 1 => upd (padG N c i) (N - 1 - i) (c * 8 / 2 ^ (8 * i) % 256)
def padF (r : Ru) (c : Nat) : Nat → Nat := padG (padN r c) c 8
theorem RowAt.congr {K : IntKind} {w : World} {b o n : Nat} {X Y : Nat → Nat} (h : RowAt K w b o n X) (e : ∀ j, j < n → X j = Y j) : RowAt K w b o n Y := fun j hj => by rw [← e j hj]; exact h j hj
/-- So many zero bytes. -/
def zb (n : Nat) : Array Value := Array.replicate n (.int .u8 0)
theorem zb_at (n j : Nat) (h : j < n) : (zb n)[j]? = some (.int .u8 0) := by simp [zb, h]
theorem made_zb (n : Nat) : madeCells (Value.int .u8 0).cells (n * 1) = zb n := by
  apply Array.ext_getElem?
  intro j
  by_cases h : j < n
  · rw [zb_at n j h]; simp [madeCells, Value.cells, h, Nat.mod_one]
  · simp [madeCells, zb, Value.cells, h]
theorem make_bytes (W : World) (n : Nat) (l : Int) (hl : l = (n : Int)) (hn : n ≤ 1000000) : (Instr.makeSlice 22 (.int .i64 l) (.int .i64 l)).run Tryd.prog W = .ok (.slice (some ⟨W.heap.size, 0, none⟩) n n) (W.alloc (.cells (zb n) 5)) := by
  subst hl
  obtain ⟨i0, hi, hz0, hz1, hz2⟩ := info_parts (show (Tryd.prog.info? 5).map (fun i => (i.zero, i.size, i.bytes)) = some (some (.int .u8 0), 1, 1) by kernel_rfl)
  have := run_makeSlice (P := Tryd.prog) W 22 5 i0 (.int .u8 0) Tryd.underlying22 hi hz0 .i64 .i64 n n (by omega) (Int.le_refl _) (by rw [hz1]; simp; omega) (by rw [hz2]; omega) (by omega)
  rw [this, hz1]
  simp only [Int.toNat_natCast, made_zb]
set_option maxRecDepth 20000 in
set_option maxHeartbeats 1000000 in
theorem padding32_any (c : Nat) (hc : c < 2305843009213693952) (w : World) :
    Calls Tryd.prog 50 #[(.agg #[.int .i64 32, .int .i64 64, .int .u64 7, .int .u64 18, .int .u64 3, .int .u64 17, .int .u64 19, .int .u64 10, .int .u64 2, .int .u64 13, .int .u64 22, .int .u64 6, .int .u64 11, .int .u64 25]), .int .i64 c] w fun e w' => ∃ g, e = .returned (.slice (some ⟨g, 0, none⟩) (padN rn c) (padN rn c)) ∧ w.heap.size ≤ g ∧ RowAt .u8 w' g 0 (padN rn c) (padF rn c) ∧ Below w.heap.size w w' := by
  obtain ⟨N, hNe⟩ : ∃ N, N = padN rn c := ⟨_, rfl⟩
  have HN : Hid (N = padN rn c) := hNe
  have hN0 : (1 + (119 - (c : Int)) % 64 + 8) = (N : Int) := by
    have : N = 1 + (119 - c % 64) % 64 + 8 := hNe
    omega
  have hN1 : 8 + 1 ≤ N := by omega
  have hN2 : N ≤ 200 := by omega
  clear hNe
  have hmk := fun W => make_bytes W N _ hN0 (by omega)
  clear hN0
  have hz0 := zb_at N 0 (by omega)
  go_enter Tryd.func50, Tryd.ntmps50
  go_wp2_with (go_at_call 48; refine (blockSize32_any _).mono ?_; rintro e w1 ⟨rfl, hb1⟩; simp only [World.size_alloc] at hb1; have hR : Rules32 w1 w.heap.size := Rules32.of_box hb1; have p0 := hR.1)
  clear hmk p0
  go_loopw [41] (fun i wr => ∃ k : Nat, k ≤ 8 ∧ i = .int .i64 k ∧ RowAt .u8 wr w1.heap.size 0 N (padG N c k) ∧ Below w1.heap.size w1 wr) (fun i _ => 8 - (intOf i).toNat)
  case atStart =>
    refine ⟨0, by decide, rfl, ?_, ?_⟩
    · have h1 := (RowAt.fresh (K := .u8) (w := w1) (cs := zb N) (t := 5) (n := N) (X := fun _ => 0) (fun j hj => zb_at N j hj)).set (i := 0) (by omega) (v := 128) (u := 128) rfl
      rw [Nat.zero_add, World.setCell_alloc_at _ _ _ _ _ rfl] at h1
      exact h1
    · exact (Below.refl _ _).alloc (Nat.le_refl _) _
  case round =>
    obtain ⟨k, hk, rfl, hrow, hbel⟩ := hrel
    by_cases hlt : k < 8
    · obtain ⟨r1, r2⟩ := hrow (N - 1 - k) (by omega)
      rw [Nat.zero_add] at r1 r2
      obtain ⟨q, hq⟩ : ∃ q, q = N - 1 - k := ⟨_, rfl⟩
      rw [← hq] at r1 r2
      have HQ : Hid (q = N - 1 - k) := hq
      have hqi : (N : Int) - 1 - k = (q : Int) := by omega
      have hqn : q < N := by omega
      clear hq
      go_wp2
      go_roundw
      case rel =>
        have h1 := hrow.set (i := q) hqn (v := (c : Int) * 8 / 2 ^ (8 * k) % 256) (u := c * 8 / 2 ^ (8 * k) % 256) (by simp)
        rw [Nat.zero_add, HQ.out] at h1
        rw [HQ.out]
        exact ⟨k + 1, by omega, by go_num, h1, hbel.setCell (Nat.le_refl _) _⟩
      case measure => simp [intOf]; omega
    · have hke : k = 8 := by omega
      subst hke
      have hg : w.heap.size ≤ w1.heap.size := by have := hb1.size; simp only [World.size_alloc] at this; omega
      have hbw : Below w.heap.size w wr := ((Below.refl _ _).alloc (Nat.le_refl _) _).trans ((hb1.mono (by omega)).trans (hbel.mono hg))
      have hrow8 : RowAt .u8 wr w1.heap.size 0 (padN rn c) (padF rn c) := by
        show RowAt .u8 wr w1.heap.size 0 (padN rn c) (padG (padN rn c) c 8)
        rw [← HN.out]; exact hrow
      clear hrow
      go_wp2
      go_ret
      exact ⟨w1.heap.size, by rw [← HN.out]; rfl, hg, hrow8, hbw⟩
set_option maxRecDepth 20000 in
set_option maxHeartbeats 1000000 in
theorem padding64_any (c : Nat) (hc : c < 2305843009213693952) (w : World) :
    Calls Tryd.prog 50 #[(.agg #[.int .i64 64, .int .i64 80, .int .u64 1, .int .u64 8, .int .u64 7, .int .u64 19, .int .u64 61, .int .u64 6, .int .u64 28, .int .u64 34, .int .u64 39, .int .u64 14, .int .u64 18, .int .u64 41]), .int .i64 c] w fun e w' => ∃ g, e = .returned (.slice (some ⟨g, 0, none⟩) (padN rw6 c) (padN rw6 c)) ∧ w.heap.size ≤ g ∧ RowAt .u8 w' g 0 (padN rw6 c) (padF rw6 c) ∧ Below w.heap.size w w' := by
  obtain ⟨N, hNe⟩ : ∃ N, N = padN rw6 c := ⟨_, rfl⟩
  have HN : Hid (N = padN rw6 c) := hNe
  have hN0 : (1 + (239 - (c : Int)) % 128 + 16) = (N : Int) := by
    have : N = 1 + (239 - c % 128) % 128 + 16 := hNe
    omega
  have hN1 : 16 + 1 ≤ N := by omega
  have hN2 : N ≤ 200 := by omega
  clear hNe
  have hmk := fun W => make_bytes W N _ hN0 (by omega)
  clear hN0
  have hz0 := zb_at N 0 (by omega)
  go_enter Tryd.func50, Tryd.ntmps50
  go_wp2_with (go_at_call 48; refine (blockSize64_any _).mono ?_; rintro e w1 ⟨rfl, hb1⟩; simp only [World.size_alloc] at hb1; have hR : Rules64 w1 w.heap.size := Rules64.of_box hb1; have p0 := hR.1)
  clear hmk p0
  go_loopw [41] (fun i wr => ∃ k : Nat, k ≤ 8 ∧ i = .int .i64 k ∧ RowAt .u8 wr w1.heap.size 0 N (padG N c k) ∧ Below w1.heap.size w1 wr) (fun i _ => 8 - (intOf i).toNat)
  case atStart =>
    refine ⟨0, by decide, rfl, ?_, ?_⟩
    · have h1 := (RowAt.fresh (K := .u8) (w := w1) (cs := zb N) (t := 5) (n := N) (X := fun _ => 0) (fun j hj => zb_at N j hj)).set (i := 0) (by omega) (v := 128) (u := 128) rfl
      rw [Nat.zero_add, World.setCell_alloc_at _ _ _ _ _ rfl] at h1
      exact h1
    · exact (Below.refl _ _).alloc (Nat.le_refl _) _
  case round =>
    obtain ⟨k, hk, rfl, hrow, hbel⟩ := hrel
    by_cases hlt : k < 8
    · obtain ⟨r1, r2⟩ := hrow (N - 1 - k) (by omega)
      rw [Nat.zero_add] at r1 r2
      obtain ⟨q, hq⟩ : ∃ q, q = N - 1 - k := ⟨_, rfl⟩
      rw [← hq] at r1 r2
      have HQ : Hid (q = N - 1 - k) := hq
      have hqi : (N : Int) - 1 - k = (q : Int) := by omega
      have hqn : q < N := by omega
      clear hq
      go_wp2
      go_roundw
      case rel =>
        have h1 := hrow.set (i := q) hqn (v := (c : Int) * 8 / 2 ^ (8 * k) % 256) (u := c * 8 / 2 ^ (8 * k) % 256) (by simp)
        rw [Nat.zero_add, HQ.out] at h1
        rw [HQ.out]
        exact ⟨k + 1, by omega, by go_num, h1, hbel.setCell (Nat.le_refl _) _⟩
      case measure => simp [intOf]; omega
    · have hke : k = 8 := by omega
      subst hke
      have hg : w.heap.size ≤ w1.heap.size := by have := hb1.size; simp only [World.size_alloc] at this; omega
      have hbw : Below w.heap.size w wr := ((Below.refl _ _).alloc (Nat.le_refl _) _).trans ((hb1.mono (by omega)).trans (hbel.mono hg))
      obtain ⟨r1, r2⟩ := hrow (N - 9) (by omega)
      rw [Nat.zero_add] at r1 r2
      obtain ⟨q, hq⟩ : ∃ q, q = N - 9 := ⟨_, rfl⟩
      rw [← hq] at r1 r2
      have HQ : Hid (q = N - 9) := hq
      have hqi : (N : Int) - 9 = (q : Int) := by omega
      have hqn : q < N := by omega
      clear hq
      go_wp2
      go_ret
      have key : ∀ v : Int, v = 0 → RowAt .u8 (wr.setCell ⟨w1.heap.size, q, none⟩ (.int .u8 v)) w1.heap.size 0 (padN rw6 c) (padF rw6 c) := fun v hv => by
        have h1 := hrow.set (i := q) hqn (v := v) (u := 0) hv
        rw [Nat.zero_add] at h1
        show RowAt .u8 _ w1.heap.size 0 (padN rw6 c) (padG (padN rw6 c) c 8)
        rw [← HN.out]
        refine h1.congr (fun j hj => ?_)
        by_cases e : j = q
        · have := HQ.out
          simp only [padG, upd, e, if_true]
          repeat rw [if_neg (by omega)]
        · simp [upd, e]
      exact ⟨w1.heap.size, by rw [← HN.out]; rfl, hg, key _ (by omega), hbw.setCell hg _⟩
end Go.Proofs.YtlfofbkanifocaaDoor
