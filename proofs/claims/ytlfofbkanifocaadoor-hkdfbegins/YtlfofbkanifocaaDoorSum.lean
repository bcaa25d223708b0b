/- What sum does in the model, at both widths. -/
import Derived.Test.YtlfofbkanifocaaDoorWrite
import Derived.Test.YtlfofbkanifocaaDoorPad
import Derived.Test.YtlfofbkanifocaaDoorStart
import Derived.Deep.Cut
import Derived.Deep.RegionWith
namespace Go.Proofs.YtlfofbkanifocaaDoor
open Go.RowKit
/-- The state behind the padding. -/
def endS (r : Ru) (K : Nat → Nat) (s : St) (R : Nat → Nat) (c : Nat) : St := (writeE r K s R c (padN r c) (padF r c)).1
/-- A state's bytes. -/
def outB (m : Nat) (s : St) (j : Nat) : Nat := s.at (j / (m / 8)) / 2 ^ (m - 8 - j % (m / 8) * 8) % 256
def outG (m : Nat) (s : St) : Nat → Nat → Nat
  | 0 => fun _ => 0
  | k + 1 => upd (outG m s k) k (outB m s k)
theorem outG_at (m : Nat) (s : St) : ∀ k j, j < k → outG m s k j = outB m s j
  | k + 1, j, h => by
    unfold outG upd
    by_cases e : j = k
    · rw [if_pos e, e]
    · rw [if_neg e]; exact outG_at m s k j (by omega)
theorem padF_lt (r : Ru) (c : Nat) : ∀ j, padF r c j < 256 := by
  suffices h : ∀ N i j, padG N c i j < 256 from h _ _
  intro N i
  induction i with
  | zero =>
    intro j; unfold padG upd; split
    · omega
    · exact Nat.zero_lt_succ _
  | succ i ih =>
    intro j; unfold padG upd; split
    · exact Nat.mod_lt _ (by decide)
    · exact ih j
theorem padN32_le (c : Nat) : padN rn c ≤ 200 := by
  show 1 + (4 * 32 - 1 - 32 / 4 - c % (2 * 32)) % (2 * 32) + 32 / 4 ≤ 200
  omega
set_option maxRecDepth 20000 in
set_option maxHeartbeats 1000000 in
theorem sum32_any (K : Nat → Nat) (hK : ∀ j, K j < 18446744073709551616) (s : St) (hs : s.lt 4294967296) (R : Nat → Nat) (hR : ∀ j, R j < 256) (c : Nat) (hc : c < 2305843009213693952) (w : World)
    (hcub : ∀ j, j < 80 → w.cell? ⟨3, j, none⟩ = some (.int .u64 (K j))) :
    Calls Tryd.prog 35 #[.agg (engVals .u32 s R c).toArray, (.agg #[.int .i64 32, .int .i64 64, .int .u64 7, .int .u64 18, .int .u64 3, .int .u64 17, .int .u64 19, .int .u64 10, .int .u64 2, .int .u64 13, .int .u64 22, .int .u64 6, .int .u64 11, .int .u64 25])] w
      fun e w' => ∃ g, e = .returned (.slice (some ⟨g, 0, none⟩) 32 32) ∧ w.heap.size ≤ g ∧ RowAt .u8 w' g 0 32 (outB 32 (endS rn K s R c)) ∧ Below w.heap.size w w' := by
  have h3 : 3 < w.heap.size := block_lt_of_cell (hcub 0 (by decide))
  obtain ⟨W2, hW2⟩ : ∃ W2, W2 = (w.alloc (.cells (engVals .u32 s R c).toArray 38)).alloc (.cells #[.int .i64 32, .int .i64 64, .int .u64 7, .int .u64 18, .int .u64 3, .int .u64 17, .int .u64 19, .int .u64 10, .int .u64 2, .int .u64 13, .int .u64 22, .int .u64 6, .int .u64 11, .int .u64 25] 59) := ⟨_, rfl⟩
  have hE : EngAt .u32 W2 w.heap.size 0 s R c := by rw [hW2]; exact (EngAt.fresh w s R c 38).below ((Below.refl _ _).alloc (Nat.le_refl _) _)
  have hRu : Rules32 W2 (w.heap.size + 1) := by
    have := Rules32.of_box (W := w.alloc (.cells (engVals .u32 s R c).toArray 38)) (w1 := W2) (by rw [hW2]; exact Below.refl _ _)
    rw [World.size_alloc] at this; exact this
  have hcub2 : ∀ j, j < 80 → W2.cell? ⟨3, j, none⟩ = some (.int .u64 (K j)) := fun j hj => by
    rw [hW2, World.cell?_alloc_lt _ _ _ (by simp; omega), World.cell?_alloc_lt _ _ _ h3]; exact hcub j hj
  have hB2 : Below w.heap.size w W2 := by rw [hW2]; exact ((Below.refl _ _).alloc (Nat.le_refl _) _).alloc (by simp) _
  have hz2 : W2.heap.size = w.heap.size + 1 + 1 := by rw [hW2]; simp
  have HW2 : Hid (W2 = (w.alloc (.cells (engVals .u32 s R c).toArray 38)).alloc (.cells #[.int .i64 32, .int .i64 64, .int .u64 7, .int .u64 18, .int .u64 3, .int .u64 17, .int .u64 19, .int .u64 10, .int .u64 2, .int .u64 13, .int .u64 22, .int .u64 6, .int .u64 11, .int .u64 25] 59)) := hW2
  clear hW2
  go_enter Tryd.func35, Tryd.ntmps35
  go_wp2
  rw [← HW2.out]
  obtain ⟨p0, p1, p2, p3, p4, p5, p6, p7, p8, p9, p10, p11, p12, p13⟩ := id hRu
  have hcn := hE.cnt
  rw [Nat.zero_add] at hcn
  have hb0 : Below W2.heap.size W2 W2.drew := (Below.refl _ _).drew
  have hpad := padding32_any c hc W2.drew
  have HZ2 : Hid (W2.heap.size = w.heap.size + 1 + 1) := hz2
  clear hz2 hcub
  have hw : ∀ (w1 : World) (g : Nat), W2.drew.heap.size ≤ g → RowAt .u8 w1 g 0 (padN rn c) (padF rn c) → Below W2.drew.heap.size W2.drew w1 →
      Rules32 w1 (w.heap.size + 1) ∧ Calls Tryd.prog 34 #[.pointer (some ⟨w.heap.size, 0, none⟩), (.agg #[.int .i64 32, .int .i64 64, .int .u64 7, .int .u64 18, .int .u64 3, .int .u64 17, .int .u64 19, .int .u64 10, .int .u64 2, .int .u64 13, .int .u64 22, .int .u64 6, .int .u64 11, .int .u64 25]), .slice (some ⟨g, 0, none⟩) (padN rn c) (padN rn c)] w1
        fun e w' => e = .returned (.tuple #[]) ∧ EngAt .u32 w' w.heap.size 0 (writeE rn K s R c (padN rn c) (padF rn c)).1 (writeE rn K s R c (padN rn c) (padF rn c)).2 (c + padN rn c) ∧ Rules32 w' (w.heap.size + 1) ∧ Below w.heap.size w w' := fun w1 g hg hrow hb => by
    have hb' := below_next hb0 hb
    have hz := HZ2.out
    have hg' : w.heap.size + 1 + 1 ≤ g := by simp only [World.size_drew] at hg; omega
    have hR1 := hRu.below hb' (by omega)
    refine ⟨hR1, (write32_any K hK s hs R hR w.heap.size 0 c (padN rn c) _ (padF rn c) (padF_lt _ _) w1 (hE.below hb') (fun j hj => (hb'.cell (p := ⟨3, j, none⟩) (by show 3 < _; omega)).trans (hcub2 j hj)) (by omega) (.inr ⟨g, 0, _, rfl, by omega, Nat.le_refl _, fun j hj => (hrow j hj).1⟩) (by have := padN32_le c; omega)).mono ?_⟩
    rintro e w' ⟨rfl, hE', hO'⟩
    have hs' := hb'.size
    exact ⟨rfl, hE', hR1.same (fun q => hO'.cell' (by omega) (by omega)), hB2.trans ((hb'.mono (by omega)).trans (hO'.below (Nat.le_refl _) (by omega)))⟩
  go_cut [] from 8 (fun wc => EngAt .u32 wc w.heap.size 0 (writeE rn K s R c (padN rn c) (padF rn c)).1 (writeE rn K s R c (padN rn c) (padF rn c)).2 (c + padN rn c) ∧ Rules32 wc (w.heap.size + 1) ∧ Below w.heap.size w wc)
  case first =>
    go_region_with (first
      | (go_at_call 50; refine hpad.mono ?_; rintro e w1 ⟨g, rfl, hg, hrow, hb1⟩; obtain ⟨⟨r0, r1, r2, r3, r4, r5, r6, r7, r8, r9, r10, r11, r12, r13⟩, hwc⟩ := hw w1 g hg hrow hb1)
      | (go_at_call 34; refine hwc.mono ?_; rintro e w5 ⟨rfl, hE5, hR5, hB5⟩))
    all_goals
      go_wp2
      go_meet
      case rel => exact ⟨hE5, hR5, hB5⟩
  case rest =>
    obtain ⟨hE5, hR5, hB5⟩ := hcut
    have hs5 : (writeE rn K s R c (padN rn c) (padF rn c)).1.lt 4294967296 := (writeE_lt (r := rn) hs hR (padF_lt _ _)).1
    have HS5 : Hid (endS rn K s R c = (writeE rn K s R c (padN rn c) (padF rn c)).1) := (rfl : endS rn K s R c = (writeE rn K s R c (padN rn c) (padF rn c)).1)
    have hst := hE5.st
    obtain ⟨x, hx⟩ : ∃ x, x = (writeE rn K s R c (padN rn c) (padF rn c)).1 := ⟨_, rfl⟩
    have HX : Hid (x = (writeE rn K s R c (padN rn c) (padF rn c)).1) := hx
    rw [← hx] at hs5 hst
    clear hx
    have c0 := hR5.1
    have hmk := fun W => make_bytes W 32 32 rfl (by decide)
    clear hw hpad hb0 hcn p0 p1 p2 p3 p4 p5 p6 p7 p8 p9 p10 p11 p12 p13 hRu hcub2 hE hB2 HW2 HZ2 hE5
    have hwl : w.heap.size < wc.heap.size := block_lt_of_cell (hst 0 (by decide)).1
    have hwl1 : w.heap.size + 1 < wc.heap.size := block_lt_of_cell c0
    go_wp2
    clear hmk
    go_loopw [22] (fun i wr => ∃ k : Nat, k ≤ 32 ∧ i = .int .i64 k ∧ RowAt .u8 wr wc.heap.size 0 32 (outG 32 x k) ∧ Below wc.heap.size wc wr) (fun i _ => 32 - (intOf i).toNat)
    case atStart => exact ⟨0, Nat.zero_le _, rfl, RowAt.fresh (fun j hj => zb_at 32 j hj), (Below.refl _ _).alloc (Nat.le_refl _) _⟩
    case round =>
      obtain ⟨k, hk, rfl, hrow, hbel⟩ := hrel
      by_cases hlt : k < 32
      · have rs : wr.cell? ⟨w.heap.size, k / 4, none⟩ = some (.int .u32 (x.at (k / 4))) := by
          have := (hst (k / 4) (by omega)).1
          rw [Nat.zero_add] at this
          exact (hbel.cell (p := ⟨w.heap.size, k / 4, none⟩) hwl).trans this
        have rr : wr.cell? ⟨w.heap.size + 1, 0, none⟩ = some (.int .i64 32) := (hbel.cell (p := ⟨w.heap.size + 1, 0, none⟩) hwl1).trans c0
        obtain ⟨rg, rf⟩ := hrow k hlt
        rw [Nat.zero_add] at rg rf
        have hq : k / 4 < 8 := by omega
        go_wp2
        go_region
        go_wp2
        go_roundw
        case rel =>
          have h1 := hrow.set (i := k) hlt (v := (x.at (k / 4) : Int) / 2 ^ (32 - 8 - k % 4 * 8) % 256) (u := outB 32 x k) (by show _ = ((x.at (k / (32 / 8)) / 2 ^ (32 - 8 - k % (32 / 8) * 8) % 256 : Nat) : Int); simp)
          rw [Nat.zero_add] at h1
          exact ⟨k + 1, by omega, by go_num, h1.drew, (hbel.setCell (Nat.le_refl _) _).drew⟩
        case measure => simp [intOf]; omega
      · have hke : k = 32 := by omega
        subst hke
        go_wp2
        go_ret
        refine ⟨wc.heap.size, rfl, hB5.size, hrow.cong (fun j hj => ?_), hB5.trans (hbel.mono hB5.size)⟩
        rw [outG_at _ _ _ _ hj, HS5.out, ← HX.out]
theorem padN64_le (c : Nat) : padN rw6 c ≤ 200 := by
  show 1 + (4 * 64 - 1 - 64 / 4 - c % (2 * 64)) % (2 * 64) + 64 / 4 ≤ 200
  omega
set_option maxRecDepth 20000 in
set_option maxHeartbeats 1000000 in
theorem sum64_any (K : Nat → Nat) (hK : ∀ j, K j < 18446744073709551616) (s : St) (hs : s.lt 18446744073709551616) (R : Nat → Nat) (hR : ∀ j, R j < 256) (c : Nat) (hc : c < 2305843009213693952) (w : World)
    (hcub : ∀ j, j < 80 → w.cell? ⟨3, j, none⟩ = some (.int .u64 (K j))) :
    Calls Tryd.prog 40 #[.agg (engVals .u64 s R c).toArray, (.agg #[.int .i64 64, .int .i64 80, .int .u64 1, .int .u64 8, .int .u64 7, .int .u64 19, .int .u64 61, .int .u64 6, .int .u64 28, .int .u64 34, .int .u64 39, .int .u64 14, .int .u64 18, .int .u64 41])] w
      fun e w' => ∃ g, e = .returned (.slice (some ⟨g, 0, none⟩) 64 64) ∧ w.heap.size ≤ g ∧ RowAt .u8 w' g 0 64 (outB 64 (endS rw6 K s R c)) ∧ Below w.heap.size w w' := by
  have h3 : 3 < w.heap.size := block_lt_of_cell (hcub 0 (by decide))
  obtain ⟨W2, hW2⟩ : ∃ W2, W2 = (w.alloc (.cells (engVals .u64 s R c).toArray 42)).alloc (.cells #[.int .i64 64, .int .i64 80, .int .u64 1, .int .u64 8, .int .u64 7, .int .u64 19, .int .u64 61, .int .u64 6, .int .u64 28, .int .u64 34, .int .u64 39, .int .u64 14, .int .u64 18, .int .u64 41] 59) := ⟨_, rfl⟩
  have hE : EngAt .u64 W2 w.heap.size 0 s R c := by rw [hW2]; exact (EngAt.fresh w s R c 42).below ((Below.refl _ _).alloc (Nat.le_refl _) _)
  have hRu : Rules64 W2 (w.heap.size + 1) := by
    have := Rules64.of_box (W := w.alloc (.cells (engVals .u64 s R c).toArray 42)) (w1 := W2) (by rw [hW2]; exact Below.refl _ _)
    rw [World.size_alloc] at this; exact this
  have hcub2 : ∀ j, j < 80 → W2.cell? ⟨3, j, none⟩ = some (.int .u64 (K j)) := fun j hj => by
    rw [hW2, World.cell?_alloc_lt _ _ _ (by simp; omega), World.cell?_alloc_lt _ _ _ h3]; exact hcub j hj
  have hB2 : Below w.heap.size w W2 := by rw [hW2]; exact ((Below.refl _ _).alloc (Nat.le_refl _) _).alloc (by simp) _
  have hz2 : W2.heap.size = w.heap.size + 1 + 1 := by rw [hW2]; simp
  have HW2 : Hid (W2 = (w.alloc (.cells (engVals .u64 s R c).toArray 42)).alloc (.cells #[.int .i64 64, .int .i64 80, .int .u64 1, .int .u64 8, .int .u64 7, .int .u64 19, .int .u64 61, .int .u64 6, .int .u64 28, .int .u64 34, .int .u64 39, .int .u64 14, .int .u64 18, .int .u64 41] 59)) := hW2
  clear hW2
  go_enter Tryd.func40, Tryd.ntmps40
  go_wp2
  rw [← HW2.out]
  obtain ⟨p0, p1, p2, p3, p4, p5, p6, p7, p8, p9, p10, p11, p12, p13⟩ := id hRu
  have hcn := hE.cnt
  rw [Nat.zero_add] at hcn
  have hb0 : Below W2.heap.size W2 W2.drew := (Below.refl _ _).drew
  have hpad := padding64_any c hc W2.drew
  have HZ2 : Hid (W2.heap.size = w.heap.size + 1 + 1) := hz2
  clear hz2 hcub
  have hw : ∀ (w1 : World) (g : Nat), W2.drew.heap.size ≤ g → RowAt .u8 w1 g 0 (padN rw6 c) (padF rw6 c) → Below W2.drew.heap.size W2.drew w1 →
      Rules64 w1 (w.heap.size + 1) ∧ Calls Tryd.prog 39 #[.pointer (some ⟨w.heap.size, 0, none⟩), (.agg #[.int .i64 64, .int .i64 80, .int .u64 1, .int .u64 8, .int .u64 7, .int .u64 19, .int .u64 61, .int .u64 6, .int .u64 28, .int .u64 34, .int .u64 39, .int .u64 14, .int .u64 18, .int .u64 41]), .slice (some ⟨g, 0, none⟩) (padN rw6 c) (padN rw6 c)] w1
        fun e w' => e = .returned (.tuple #[]) ∧ EngAt .u64 w' w.heap.size 0 (writeE rw6 K s R c (padN rw6 c) (padF rw6 c)).1 (writeE rw6 K s R c (padN rw6 c) (padF rw6 c)).2 (c + padN rw6 c) ∧ Rules64 w' (w.heap.size + 1) ∧ Below w.heap.size w w' := fun w1 g hg hrow hb => by
    have hb' := below_next hb0 hb
    have hz := HZ2.out
    have hg' : w.heap.size + 1 + 1 ≤ g := by simp only [World.size_drew] at hg; omega
    have hR1 := hRu.below hb' (by omega)
    refine ⟨hR1, (write64_any K hK s hs R hR w.heap.size 0 c (padN rw6 c) _ (padF rw6 c) (padF_lt _ _) w1 (hE.below hb') (fun j hj => (hb'.cell (p := ⟨3, j, none⟩) (by show 3 < _; omega)).trans (hcub2 j hj)) (by omega) (.inr ⟨g, 0, _, rfl, by omega, Nat.le_refl _, fun j hj => (hrow j hj).1⟩) (by have := padN64_le c; omega)).mono ?_⟩
    rintro e w' ⟨rfl, hE', hO'⟩
    have hs' := hb'.size
    exact ⟨rfl, hE', hR1.same (fun q => hO'.cell' (by omega) (by omega)), hB2.trans ((hb'.mono (by omega)).trans (hO'.below (Nat.le_refl _) (by omega)))⟩
  go_cut [] from 8 (fun wc => EngAt .u64 wc w.heap.size 0 (writeE rw6 K s R c (padN rw6 c) (padF rw6 c)).1 (writeE rw6 K s R c (padN rw6 c) (padF rw6 c)).2 (c + padN rw6 c) ∧ Rules64 wc (w.heap.size + 1) ∧ Below w.heap.size w wc)
  case first =>
    go_region_with (first
      | (go_at_call 50; refine hpad.mono ?_; rintro e w1 ⟨g, rfl, hg, hrow, hb1⟩; obtain ⟨⟨r0, r1, r2, r3, r4, r5, r6, r7, r8, r9, r10, r11, r12, r13⟩, hwc⟩ := hw w1 g hg hrow hb1)
      | (go_at_call 39; refine hwc.mono ?_; rintro e w5 ⟨rfl, hE5, hR5, hB5⟩))
    all_goals
      go_wp2
      go_meet
      case rel => exact ⟨hE5, hR5, hB5⟩
  case rest =>
    obtain ⟨hE5, hR5, hB5⟩ := hcut
    have hs5 : (writeE rw6 K s R c (padN rw6 c) (padF rw6 c)).1.lt 18446744073709551616 := (writeE_lt (r := rw6) hs hR (padF_lt _ _)).1
    have HS5 : Hid (endS rw6 K s R c = (writeE rw6 K s R c (padN rw6 c) (padF rw6 c)).1) := (rfl : endS rw6 K s R c = (writeE rw6 K s R c (padN rw6 c) (padF rw6 c)).1)
    have hst := hE5.st
    obtain ⟨x, hx⟩ : ∃ x, x = (writeE rw6 K s R c (padN rw6 c) (padF rw6 c)).1 := ⟨_, rfl⟩
    have HX : Hid (x = (writeE rw6 K s R c (padN rw6 c) (padF rw6 c)).1) := hx
    rw [← hx] at hs5 hst
    clear hx
    have c0 := hR5.1
    have hmk := fun W => make_bytes W 64 64 rfl (by decide)
    clear hw hpad hb0 hcn p0 p1 p2 p3 p4 p5 p6 p7 p8 p9 p10 p11 p12 p13 hRu hcub2 hE hB2 HW2 HZ2 hE5
    have hwl : w.heap.size < wc.heap.size := block_lt_of_cell (hst 0 (by decide)).1
    have hwl1 : w.heap.size + 1 < wc.heap.size := block_lt_of_cell c0
    go_wp2
    clear hmk
    go_loopw [22] (fun i wr => ∃ k : Nat, k ≤ 64 ∧ i = .int .i64 k ∧ RowAt .u8 wr wc.heap.size 0 64 (outG 64 x k) ∧ Below wc.heap.size wc wr) (fun i _ => 64 - (intOf i).toNat)
    case atStart => exact ⟨0, Nat.zero_le _, rfl, RowAt.fresh (fun j hj => zb_at 64 j hj), (Below.refl _ _).alloc (Nat.le_refl _) _⟩
    case round =>
      obtain ⟨k, hk, rfl, hrow, hbel⟩ := hrel
      by_cases hlt : k < 64
      · have rs : wr.cell? ⟨w.heap.size, k / 8, none⟩ = some (.int .u64 (x.at (k / 8))) := by
          have := (hst (k / 8) (by omega)).1
          rw [Nat.zero_add] at this
          exact (hbel.cell (p := ⟨w.heap.size, k / 8, none⟩) hwl).trans this
        have rr : wr.cell? ⟨w.heap.size + 1, 0, none⟩ = some (.int .i64 64) := (hbel.cell (p := ⟨w.heap.size + 1, 0, none⟩) hwl1).trans c0
        obtain ⟨rg, rf⟩ := hrow k hlt
        rw [Nat.zero_add] at rg rf
        have hq : k / 8 < 8 := by omega
        go_wp2
        go_region
        go_wp2
        go_roundw
        case rel =>
          have h1 := hrow.set (i := k) hlt (v := (x.at (k / 8) : Int) / 2 ^ (64 - 8 - k % 8 * 8) % 256) (u := outB 64 x k) (by show _ = ((x.at (k / (64 / 8)) / 2 ^ (64 - 8 - k % (64 / 8) * 8) % 256 : Nat) : Int); simp)
          rw [Nat.zero_add] at h1
          exact ⟨k + 1, by omega, by go_num, h1.drew, (hbel.setCell (Nat.le_refl _) _).drew⟩
        case measure => simp [intOf]; omega
      · have hke : k = 64 := by omega
        subst hke
        go_wp2
        go_ret
        refine ⟨wc.heap.size, rfl, hB5.size, hrow.cong (fun j hj => ?_), hB5.trans (hbel.mono hB5.size)⟩
        rw [outG_at _ _ _ _ hj, HS5.out, ← HX.out]
end Go.Proofs.YtlfofbkanifocaaDoor
