/- What Sum256 and Sum512 do in the model, of any bytes in memory. -/
import Derived.Test.YtlfofbkanifocaaDoorSum
namespace Go.Proofs.YtlfofbkanifocaaDoor
open Go.RowKit
/-- The tables and the rules as the program's variables hold them. -/
structure Tab (w : World) (K q : Nat → Nat) : Prop where
  cubes : ∀ j, j < 80 → w.cell? ⟨3, j, none⟩ = some (.int .u64 (K j))
  squares : ∀ j, j < 8 → w.cell? ⟨2, j, none⟩ = some (.int .u64 (q j))
  narrow : Rules32 w 0
  wide : Rules64 w 1
  Klt : ∀ j, K j < 18446744073709551616
  qlt : ∀ j, q j < 18446744073709551616
theorem Tab.size {w : World} {K q : Nat → Nat} (h : Tab w K q) : 3 < w.heap.size := block_lt_of_cell (h.cubes 0 (by decide))
theorem Tab.below {w w' : World} {K q : Nat → Nat} (h : Tab w K q) {n : Nat} (hb : Below n w w') (hn : 3 < n) : Tab w' K q :=
  ⟨fun j hj => (hb.cell (p := ⟨3, j, none⟩) hn).trans (h.cubes j hj), fun j hj => (hb.cell (p := ⟨2, j, none⟩) (by show 2 < n; omega)).trans (h.squares j hj), h.narrow.below hb (by omega), h.wide.below hb (by omega), h.Klt, h.qlt⟩
theorem firstS_lt (r : Ru) (q : Nat → Nat) (hm : r.m ≤ 64) (hq : ∀ j, q j < 18446744073709551616) : (firstS r q).lt (2 ^ r.m) := by
  have h : ∀ j, q j / 2 ^ (64 - r.m) < 2 ^ r.m := fun j => by
    rw [Nat.div_lt_iff_lt_mul (Nat.two_pow_pos _), ← Nat.pow_add, show r.m + (64 - r.m) = 64 by omega]; exact hq j
  exact ⟨h 0, h 1, h 2, h 3, h 4, h 5, h 6, h 7⟩
/-- The state behind all blocks of n bytes and their padding, as the engine comes to it. -/
def hashS (r : Ru) (K q : Nat → Nat) (n : Nat) (bs : Nat → Nat) : St := endS r K (writeE r K (firstS r q) (fun _ => 0) 0 n bs).1 (writeE r K (firstS r q) (fun _ => 0) 0 n bs).2 n
/-- A slice of n bytes in what is there. -/
def BytesIn (w : World) (v : Value) (n : Nat) (bs : Nat → Nat) : Prop := (∃ xo, v = .slice xo 0 0 ∧ n = 0) ∨ ∃ bb ob cap, v = .slice (some ⟨bb, ob, none⟩) n cap ∧ bb < w.heap.size ∧ n ≤ cap ∧ ∀ j, j < n → w.cell? ⟨bb, ob + j, none⟩ = some (.int .u8 (bs j))
theorem BytesIn.away {w w' : World} {v : Value} {n : Nat} {bs : Nat → Nat} (h : BytesIn w v n bs) (hb : Below w.heap.size w w') {b : Nat} (hn : w.heap.size ≤ b) : Bytes w' b v n bs := by
  rcases h with h | ⟨bb, ob, cap, rfl, h1, h2, h3⟩
  · exact .inl h
  · exact .inr ⟨bb, ob, cap, rfl, by omega, h2, fun j hj => (hb.cell (p := ⟨bb, ob + j, none⟩) h1).trans (h3 j hj)⟩
theorem there_new32 (w : World) : (w.alloc (.cells zeng32 38)).there w.heap.size 0 137 := (EngAt.fresh (K := .u32) w zSt (fun _ => 0) 0 38).there
set_option maxRecDepth 20000 in
set_option maxHeartbeats 1000000 in
theorem Sum256_any (K q : Nat → Nat) (v : Value) (n : Nat) (bs : Nat → Nat) (hbs : ∀ j, bs j < 256) (w : World) (hT : Tab w K q) (hv : BytesIn w v n bs) (hn : n < 2305843009213693952) :
    Calls Tryd.prog 13 #[v] w
      fun e w' => ∃ g, e = .returned (.slice (some ⟨g, 0, none⟩) 32 32) ∧ w.heap.size ≤ g ∧ RowAt .u8 w' g 0 32 (outB 32 (hashS rn K q n bs)) ∧ Below w.heap.size w w' := by
  have hz := zero38
  obtain ⟨p0, p1, p2, p3, p4, p5, p6, p7, p8, p9, p10, p11, p12, p13⟩ := id hT.narrow
  have hst := start32_any q hT.qlt w hT.squares
  have hi := isz38 .u32 (firstS rn q) (fun _ => 0) 0
  have hone := all_oneCell_toArray (engVals_one .u32 (firstS rn q) (fun _ => 0) 0)
  have hF : (firstS rn q).lt 4294967296 := firstS_lt rn q (by decide) hT.qlt
  have hkey : ∀ w1 : World, Below w.heap.size w w1 → (w1.alloc (.cells zeng32 38)).there w1.heap.size 0 (engVals .u32 (firstS rn q) (fun _ => 0) 0).toArray.size ∧ ∀ w2, w2 = (w1.alloc (.cells zeng32 38)).setCells w1.heap.size 0 (engVals .u32 (firstS rn q) (fun _ => 0) 0) → Rules32 w2 0 ∧ Calls Tryd.prog 34 #[.pointer (some ⟨w1.heap.size, 0, none⟩), (.agg #[.int .i64 32, .int .i64 64, .int .u64 7, .int .u64 18, .int .u64 3, .int .u64 17, .int .u64 19, .int .u64 10, .int .u64 2, .int .u64 13, .int .u64 22, .int .u64 6, .int .u64 11, .int .u64 25]), v] w2 fun e w' => e = .returned (.tuple #[]) ∧ Rules32 w' 0 ∧ EngAt .u32 w' w1.heap.size 0 (writeE rn K (firstS rn q) (fun _ => 0) 0 n bs).1 (writeE rn K (firstS rn q) (fun _ => 0) 0 n bs).2 n ∧ Below w.heap.size w w' ∧ ∀ j, j < 80 → w'.cell? ⟨3, j, none⟩ = some (.int .u64 (K j)) := fun w1 hb1 => by
    refine ⟨by simp only [List.size_toArray, engVals_len]; exact there_new32 w1, fun w2 hw2 => ?_⟩
    have h3 := hT.size
    have hs1 := hb1.size
    have hE : EngAt .u32 w2 w1.heap.size 0 (firstS rn q) (fun _ => 0) 0 := by rw [hw2]; exact EngAt.stored (there_new32 w1) _ _ _
    have hb2 : Below w1.heap.size w1 w2 := by rw [hw2]; exact below_setCells (Nat.le_refl _) _ _ _ ((Below.refl _ _).alloc (Nat.le_refl _) _)
    have hb3 : Below w.heap.size w w2 := hb1.trans (hb2.mono hs1)
    have hT2 := hT.below hb3 h3
    refine ⟨hT2.narrow, (write32_any K hT.Klt (firstS rn q) hF (fun _ => 0) (fun _ => by decide) w1.heap.size 0 0 n v bs hbs w2 hE hT2.cubes (by omega) (hv.away hb3 hs1) (by omega)).mono ?_⟩
    rintro e w' ⟨rfl, hE', hO'⟩
    have hl : w1.heap.size < w2.heap.size := block_lt_of_cell hE.cnt
    have hb4 : Below w.heap.size w w' := hb3.trans (hO'.below hs1 (by omega))
    have hT3 := hT.below hb4 h3
    rw [Nat.zero_add] at hE'
    exact ⟨rfl, hT3.narrow, hE', hb4, hT3.cubes⟩
  have hX := writeE_lt (r := rn) (K := K) (c := 0) (n := n) hF (fun _ => (by decide : (0 : Nat) < 256)) hbs
  obtain ⟨X, hXe⟩ : ∃ X, X = writeE rn K (firstS rn q) (fun _ => 0) 0 n bs := ⟨_, rfl⟩
  have HX : Hid (X = writeE rn K (firstS rn q) (fun _ => 0) 0 n bs) := hXe
  rw [← hXe] at hkey hX
  have hsum := fun w' h => sum32_any K hT.Klt X.1 hX.1 X.2 hX.2 n hn w' h
  clear hXe hv hT hF
  go_enter Tryd.func13, Tryd.ntmps13
  go_wp2_with (first
    | (go_at_call 33; refine hst.mono ?_; clear hst; rintro e w1 ⟨rfl, hb1⟩; obtain ⟨ht, hk2⟩ := hkey w1 hb1; clear hkey)
    | (refine wpList_store_mid rfl 38 _ _ rfl _ 0 _ rfl rfl ht hi hone ?_; rw [List.toList_toArray]; obtain ⟨w2, hw2⟩ : ∃ w2, w2 = (w1.alloc (.cells zeng32 38)).setCells w1.heap.size 0 (engVals .u32 (firstS rn q) (fun _ => 0) 0) := ⟨_, rfl⟩; obtain ⟨⟨r0, r1, r2, r3, r4, r5, r6, r7, r8, r9, r10, r11, r12, r13⟩, hwr⟩ := hk2 w2 hw2; rw [← hw2]; clear hw2 hk2 ht hi hone hz)
    | (go_at_call 34; refine hwr.mono ?_; clear hwr; rintro e w5 ⟨rfl, ⟨t0, t1, t2, t3, t4, t5, t6, t7, t8, t9, t10, t11, t12, t13⟩, hE5, hB5, hc5⟩)
    | (refine wpList_load_mid rfl 38 _ rfl _ 0 rfl _ _ hE5.range Tryd.underlying38 rfl (by rw [engVals_len]; kernel_rfl) ?_)
    | (go_at_call 35; refine (hsum w5 hc5).mono ?_; rintro e w6 ⟨g, rfl, hg, hrow, hb6⟩))
  go_ret
  have e : hashS rn K q n bs = endS rn K X.1 X.2 n := by rw [HX.out]; rfl
  rw [e]
  exact ⟨g, rfl, Nat.le_trans hB5.size hg, hrow, hB5.trans (hb6.mono hB5.size)⟩
theorem there_new64 (w : World) : (w.alloc (.cells zeng64 42)).there w.heap.size 0 137 := (EngAt.fresh (K := .u64) w zSt (fun _ => 0) 0 42).there
set_option maxRecDepth 20000 in
set_option maxHeartbeats 1000000 in
theorem Sum512_any (K q : Nat → Nat) (v : Value) (n : Nat) (bs : Nat → Nat) (hbs : ∀ j, bs j < 256) (w : World) (hT : Tab w K q) (hv : BytesIn w v n bs) (hn : n < 2305843009213693952) :
    Calls Tryd.prog 17 #[v] w
      fun e w' => ∃ g, e = .returned (.slice (some ⟨g, 0, none⟩) 64 64) ∧ w.heap.size ≤ g ∧ RowAt .u8 w' g 0 64 (outB 64 (hashS rw6 K q n bs)) ∧ Below w.heap.size w w' := by
  have hz := zero42
  obtain ⟨p0, p1, p2, p3, p4, p5, p6, p7, p8, p9, p10, p11, p12, p13⟩ := id hT.wide
  have hst := start64_any q hT.qlt w hT.squares
  have hi := isz42 .u64 (firstS rw6 q) (fun _ => 0) 0
  have hone := all_oneCell_toArray (engVals_one .u64 (firstS rw6 q) (fun _ => 0) 0)
  have hF : (firstS rw6 q).lt 18446744073709551616 := firstS_lt rw6 q (by decide) hT.qlt
  have hkey : ∀ w1 : World, Below w.heap.size w w1 → (w1.alloc (.cells zeng64 42)).there w1.heap.size 0 (engVals .u64 (firstS rw6 q) (fun _ => 0) 0).toArray.size ∧ ∀ w2, w2 = (w1.alloc (.cells zeng64 42)).setCells w1.heap.size 0 (engVals .u64 (firstS rw6 q) (fun _ => 0) 0) → Rules64 w2 1 ∧ Calls Tryd.prog 39 #[.pointer (some ⟨w1.heap.size, 0, none⟩), (.agg #[.int .i64 64, .int .i64 80, .int .u64 1, .int .u64 8, .int .u64 7, .int .u64 19, .int .u64 61, .int .u64 6, .int .u64 28, .int .u64 34, .int .u64 39, .int .u64 14, .int .u64 18, .int .u64 41]), v] w2 fun e w' => e = .returned (.tuple #[]) ∧ Rules64 w' 1 ∧ EngAt .u64 w' w1.heap.size 0 (writeE rw6 K (firstS rw6 q) (fun _ => 0) 0 n bs).1 (writeE rw6 K (firstS rw6 q) (fun _ => 0) 0 n bs).2 n ∧ Below w.heap.size w w' ∧ ∀ j, j < 80 → w'.cell? ⟨3, j, none⟩ = some (.int .u64 (K j)) := fun w1 hb1 => by
    refine ⟨by simp only [List.size_toArray, engVals_len]; exact there_new64 w1, fun w2 hw2 => ?_⟩
    have h3 := hT.size
    have hs1 := hb1.size
    have hE : EngAt .u64 w2 w1.heap.size 0 (firstS rw6 q) (fun _ => 0) 0 := by rw [hw2]; exact EngAt.stored (there_new64 w1) _ _ _
    have hb2 : Below w1.heap.size w1 w2 := by rw [hw2]; exact below_setCells (Nat.le_refl _) _ _ _ ((Below.refl _ _).alloc (Nat.le_refl _) _)
    have hb3 : Below w.heap.size w w2 := hb1.trans (hb2.mono hs1)
    have hT2 := hT.below hb3 h3
    refine ⟨hT2.wide, (write64_any K hT.Klt (firstS rw6 q) hF (fun _ => 0) (fun _ => by decide) w1.heap.size 0 0 n v bs hbs w2 hE hT2.cubes (by omega) (hv.away hb3 hs1) (by omega)).mono ?_⟩
    rintro e w' ⟨rfl, hE', hO'⟩
    have hl : w1.heap.size < w2.heap.size := block_lt_of_cell hE.cnt
    have hb4 : Below w.heap.size w w' := hb3.trans (hO'.below hs1 (by omega))
    have hT3 := hT.below hb4 h3
    rw [Nat.zero_add] at hE'
    exact ⟨rfl, hT3.wide, hE', hb4, hT3.cubes⟩
  have hX := writeE_lt (r := rw6) (K := K) (c := 0) (n := n) hF (fun _ => (by decide : (0 : Nat) < 256)) hbs
  obtain ⟨X, hXe⟩ : ∃ X, X = writeE rw6 K (firstS rw6 q) (fun _ => 0) 0 n bs := ⟨_, rfl⟩
  have HX : Hid (X = writeE rw6 K (firstS rw6 q) (fun _ => 0) 0 n bs) := hXe
  rw [← hXe] at hkey hX
  have hsum := fun w' h => sum64_any K hT.Klt X.1 hX.1 X.2 hX.2 n hn w' h
  clear hXe hv hT hF
  go_enter Tryd.func17, Tryd.ntmps17
  go_wp2_with (first
    | (go_at_call 38; refine hst.mono ?_; clear hst; rintro e w1 ⟨rfl, hb1⟩; obtain ⟨ht, hk2⟩ := hkey w1 hb1; clear hkey)
    | (refine wpList_store_mid rfl 42 _ _ rfl _ 0 _ rfl rfl ht hi hone ?_; rw [List.toList_toArray]; obtain ⟨w2, hw2⟩ : ∃ w2, w2 = (w1.alloc (.cells zeng64 42)).setCells w1.heap.size 0 (engVals .u64 (firstS rw6 q) (fun _ => 0) 0) := ⟨_, rfl⟩; obtain ⟨⟨r0, r1, r2, r3, r4, r5, r6, r7, r8, r9, r10, r11, r12, r13⟩, hwr⟩ := hk2 w2 hw2; rw [← hw2]; clear hw2 hk2 ht hi hone hz)
    | (go_at_call 39; refine hwr.mono ?_; clear hwr; rintro e w5 ⟨rfl, ⟨t0, t1, t2, t3, t4, t5, t6, t7, t8, t9, t10, t11, t12, t13⟩, hE5, hB5, hc5⟩)
    | (refine wpList_load_mid rfl 42 _ rfl _ 0 rfl _ _ hE5.range Tryd.underlying42 rfl (by rw [engVals_len]; kernel_rfl) ?_)
    | (go_at_call 40; refine (hsum w5 hc5).mono ?_; rintro e w6 ⟨g, rfl, hg, hrow, hb6⟩))
  go_ret
  have e : hashS rw6 K q n bs = endS rw6 K X.1 X.2 n := by rw [HX.out]; rfl
  rw [e]
  exact ⟨g, rfl, Nat.le_trans hB5.size hg, hrow, hB5.trans (hb6.mono hB5.size)⟩
end Go.Proofs.YtlfofbkanifocaaDoor
