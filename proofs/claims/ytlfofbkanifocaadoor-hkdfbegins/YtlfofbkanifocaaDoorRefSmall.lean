/- What the small functions of the reference do in the model: cut, rot, high and low, at both widths. -/
import Derived.Test.YtlfofbkanifocaaDoorSpread
namespace Go.Proofs.YtlfofbkanifocaaDoor
open Go.RowKit
/-- The three numbers of each of the four lists. -/
structure Lists32 (w : World) (g0 g1 g2 g3 : Nat) : Prop where
  a0 : w.cell? ⟨g0, 0, none⟩ = some (.int .i64 7)
  a1 : w.cell? ⟨g0, 1, none⟩ = some (.int .i64 18)
  a2 : w.cell? ⟨g0, 2, none⟩ = some (.int .i64 3)
  b0 : w.cell? ⟨g1, 0, none⟩ = some (.int .i64 17)
  b1 : w.cell? ⟨g1, 1, none⟩ = some (.int .i64 19)
  b2 : w.cell? ⟨g1, 2, none⟩ = some (.int .i64 10)
  c0 : w.cell? ⟨g2, 0, none⟩ = some (.int .i64 2)
  c1 : w.cell? ⟨g2, 1, none⟩ = some (.int .i64 13)
  c2 : w.cell? ⟨g2, 2, none⟩ = some (.int .i64 22)
  d0 : w.cell? ⟨g3, 0, none⟩ = some (.int .i64 6)
  d1 : w.cell? ⟨g3, 1, none⟩ = some (.int .i64 11)
  d2 : w.cell? ⟨g3, 2, none⟩ = some (.int .i64 25)
theorem Lists32.below {w w' : World} {g0 g1 g2 g3 : Nat} (h : Lists32 w g0 g1 g2 g3) (hb : Below w.heap.size w w') : Lists32 w' g0 g1 g2 g3 := by
  have k : ∀ {g j : Nat} {v : Value}, w.cell? ⟨g, j, none⟩ = some v → w'.cell? ⟨g, j, none⟩ = some v := fun {g j v} e => (hb.cell (p := ⟨g, j, none⟩) (block_lt_of_cell e)).trans e
  exact ⟨k h.a0, k h.a1, k h.a2, k h.b0, k h.b1, k h.b2, k h.c0, k h.c1, k h.c2, k h.d0, k h.d1, k h.d2⟩
theorem cut32_any (g0 g1 g2 g3 x : Nat) (hx : x < 18446744073709551616) (w : World) :
    Calls Tryd.prog 62 #[(.agg #[.int .i64 32, .int .i64 64, .int .i64 64, .slice (some ⟨g0, 0, none⟩) 3 3, .slice (some ⟨g1, 0, none⟩) 3 3, .slice (some ⟨g2, 0, none⟩) 3 3, .slice (some ⟨g3, 0, none⟩) 3 3]), .int .u64 x] w fun e w' => e = .returned (.int .u64 ((x % 2 ^ 32 : Nat) : Int)) ∧ Below w.heap.size w w' := by
  go_enter Tryd.func62, Tryd.ntmps62
  go_wp2
  go_ret
  refine ⟨retInt ?_, (Below.refl _ _).alloc (Nat.le_refl _) _⟩
  have e1 : (4294967295 : Int) = ((4294967295 : Nat) : Int) := rfl
  rw [e1, u64_and_nat _ _ hx (by decide)]
  have := Nat.and_two_pow_sub_one_eq_mod x 32
  rw [← this]
theorem rotR_32 (x n : Nat) (hx : x < 2 ^ 32) : ((x / 2 ^ n) ||| (x * 2 ^ (32 - n) % 18446744073709551616)) % 2 ^ 32 = rot 32 x n := by
  unfold rot
  rw [Nat.or_mod_two_pow, Nat.mod_eq_of_lt (Nat.lt_of_le_of_lt (Nat.div_le_self _ _) hx), show (18446744073709551616 : Nat) = 2 ^ 64 from rfl, Nat.mod_mod_of_dvd _ (Nat.pow_dvd_pow 2 (by decide))]
theorem rotL_32 (x n : Nat) (hx : x < 2 ^ 32) : rot 32 x n < 18446744073709551616 := Nat.lt_of_lt_of_le (rot_lt 32 x n hx) (by decide)
theorem rotB_32 (x n : Nat) (hx : x < 2 ^ 32) : ((x / 2 ^ n) ||| (x * 2 ^ (32 - n) % 18446744073709551616)) < 18446744073709551616 :=
  Nat.or_lt_two_pow (n := 64) (Nat.lt_of_le_of_lt (Nat.div_le_self _ _) (Nat.lt_of_lt_of_le hx (by decide))) (Nat.mod_lt _ (by decide))
set_option maxHeartbeats 400000 in
theorem rotr32_any (g0 g1 g2 g3 x n : Nat) (hx : x < 2 ^ 32) (hn : n ≤ 32) (w : World) :
    Calls Tryd.prog 69 #[(.agg #[.int .i64 32, .int .i64 64, .int .i64 64, .slice (some ⟨g0, 0, none⟩) 3 3, .slice (some ⟨g1, 0, none⟩) 3 3, .slice (some ⟨g2, 0, none⟩) 3 3, .slice (some ⟨g3, 0, none⟩) 3 3]), .int .u64 x, .int .i64 n] w fun e w' => e = .returned (.int .u64 ((rot 32 x n : Nat) : Int)) ∧ Below w.heap.size w w' := by
  have hx' : x < 18446744073709551616 := Nat.lt_of_lt_of_le hx (by decide)
  have hb := rotB_32 x n hx
  have hc := fun W => cut32_any g0 g1 g2 g3 _ hb W
  have e1 : bits .or .u64 ((x : Int) / 2 ^ n) ((x : Int) * 2 ^ (32 - n) % 18446744073709551616) = (((x / 2 ^ n) ||| (x * 2 ^ (32 - n) % 18446744073709551616) : Nat) : Int) := by
    have f1 : (x : Int) / 2 ^ n = ((x / 2 ^ n : Nat) : Int) := by simp
    have f2 : (x : Int) * 2 ^ (32 - n) % 18446744073709551616 = ((x * 2 ^ (32 - n) % 18446744073709551616 : Nat) : Int) := by simp
    rw [f1, f2, u64_or_nat _ _ (Nat.lt_of_le_of_lt (Nat.div_le_self _ _) hx') (Nat.mod_lt _ (by decide))]
  rw [rotR_32 x n hx, ← e1] at hc
  clear hx hb e1
  go_enter Tryd.func69, Tryd.ntmps69
  go_wp2_with (go_at_call 62; refine (hc _).mono ?_; rintro e w' ⟨rfl, hb⟩)
  go_ret
  exact ⟨rfl, ((Below.refl _ _).alloc (Nat.le_refl _) _).trans (hb.mono (by simp))⟩
/-- The cells of a box that holds the sizes. -/
def ZBox32 (W : World) (B g0 g1 g2 g3 : Nat) : Prop := W.cell? ⟨B, 0, none⟩ = some (.int .i64 32) ∧ W.cell? ⟨B, 1, none⟩ = some (.int .i64 64) ∧ W.cell? ⟨B, 2, none⟩ = some (.int .i64 64) ∧ W.cell? ⟨B, 3, none⟩ = some (.slice (some ⟨g0, 0, none⟩) 3 3) ∧ W.cell? ⟨B, 4, none⟩ = some (.slice (some ⟨g1, 0, none⟩) 3 3) ∧ W.cell? ⟨B, 5, none⟩ = some (.slice (some ⟨g2, 0, none⟩) 3 3) ∧ W.cell? ⟨B, 6, none⟩ = some (.slice (some ⟨g3, 0, none⟩) 3 3)
theorem ZBox32.below {w w' : World} {B g0 g1 g2 g3 : Nat} (h : ZBox32 w B g0 g1 g2 g3) (hb : Below w.heap.size w w') : ZBox32 w' B g0 g1 g2 g3 := by
  have k : ∀ {g j : Nat} {v : Value}, w.cell? ⟨g, j, none⟩ = some v → w'.cell? ⟨g, j, none⟩ = some v := fun {g j v} e => (hb.cell (p := ⟨g, j, none⟩) (block_lt_of_cell e)).trans e
  obtain ⟨h0, h1, h2, h3, h4, h5, h6⟩ := h
  exact ⟨k h0, k h1, k h2, k h3, k h4, k h5, k h6⟩
theorem zbox32 (w : World) (g0 g1 g2 g3 : Nat) : ZBox32 (w.alloc (.cells #[.int .i64 32, .int .i64 64, .int .i64 64, .slice (some ⟨g0, 0, none⟩) 3 3, .slice (some ⟨g1, 0, none⟩) 3 3, .slice (some ⟨g2, 0, none⟩) 3 3, .slice (some ⟨g3, 0, none⟩) 3 3] 64)) w.heap.size g0 g1 g2 g3 := by simp [ZBox32]
set_option maxHeartbeats 1000000 in
theorem high32_any (g0 g1 g2 g3 g x a b c : Nat) (hx : x < 2 ^ 32) (ha : a ≤ 32) (hb : b ≤ 32) (hc : c ≤ 32) (w : World) (h0 : w.cell? ⟨g, 0, none⟩ = some (.int .i64 a)) (h1 : w.cell? ⟨g, 1, none⟩ = some (.int .i64 b)) (h2 : w.cell? ⟨g, 2, none⟩ = some (.int .i64 c)) :
    Calls Tryd.prog 63 #[(.agg #[.int .i64 32, .int .i64 64, .int .i64 64, .slice (some ⟨g0, 0, none⟩) 3 3, .slice (some ⟨g1, 0, none⟩) 3 3, .slice (some ⟨g2, 0, none⟩) 3 3, .slice (some ⟨g3, 0, none⟩) 3 3]), .int .u64 x, .slice (some ⟨g, 0, none⟩) 3 3] w fun e w' => e = .returned (.int .u64 ((hi3 32 x (a, b, c) : Nat) : Int)) ∧ Below w.heap.size w w' := by
  have hg : g < w.heap.size := block_lt_of_cell h0
  obtain ⟨W, hW⟩ : ∃ W, W = w.alloc (.cells #[.int .i64 32, .int .i64 64, .int .i64 64, .slice (some ⟨g0, 0, none⟩) 3 3, .slice (some ⟨g1, 0, none⟩) 3 3, .slice (some ⟨g2, 0, none⟩) 3 3, .slice (some ⟨g3, 0, none⟩) 3 3] 64) := ⟨_, rfl⟩
  have HW : Hid (W = w.alloc (.cells #[.int .i64 32, .int .i64 64, .int .i64 64, .slice (some ⟨g0, 0, none⟩) 3 3, .slice (some ⟨g1, 0, none⟩) 3 3, .slice (some ⟨g2, 0, none⟩) 3 3, .slice (some ⟨g3, 0, none⟩) 3 3] 64)) := hW
  obtain ⟨c0, c1, c2, c3, c4, c5, c6⟩ : ZBox32 W w.heap.size g0 g1 g2 g3 := by rw [hW]; exact zbox32 w g0 g1 g2 g3
  have hbW : Below w.heap.size w W := by rw [hW]; exact (Below.refl _ _).alloc (Nat.le_refl _) _
  have k0 := (hbW.cell (p := ⟨g, 0, none⟩) hg).trans h0
  have k1 := (hbW.cell (p := ⟨g, 1, none⟩) hg).trans h1
  have k2 := (hbW.cell (p := ⟨g, 2, none⟩) hg).trans h2
  have q0 : w.heap.size < W.heap.size := by rw [hW]; simp
  have q1 : g < W.heap.size := by omega
  have hS : ∀ w' : World, Below W.heap.size W w' → ∀ b o, b < W.heap.size → w'.cell? ⟨b, o, none⟩ = W.cell? ⟨b, o, none⟩ := fun w' h b o hb => h.cell (p := ⟨b, o, none⟩) hb
  have hb0 : Below W.heap.size W W.drew := (Below.refl _ _).drew
  clear hW
  go_enter Tryd.func63, Tryd.ntmps63
  go_wp2
  rw [← HW.out]
  go_region_held3 (fun w' => Below W.heap.size W w') (assumption) (first
    | (go_at_call 69; refine (rotr32_any g0 g1 g2 g3 _ _ hx (by assumption) _).mono ?_; rintro e w' ⟨rfl, hb⟩; have hbn := below_next (W := W) (by assumption) hb))
  go_wp2
  go_ret
  refine ⟨retInt ?_, hbW.trans (hbn.mono (by omega))⟩
  rw [u64_xor_nat _ _ (rotL_32 x a hx) (rotL_32 x b hx), u64_xor_nat _ _ (Nat.xor_lt_two_pow (n := 64) (rotL_32 x a hx) (rotL_32 x b hx)) (rotL_32 x c hx)]
  rfl
set_option maxHeartbeats 1000000 in
theorem low32_any (g0 g1 g2 g3 g x a b c : Nat) (hx : x < 2 ^ 32) (ha : a ≤ 32) (hb : b ≤ 32) (hc : c ≤ 32) (w : World) (h0 : w.cell? ⟨g, 0, none⟩ = some (.int .i64 a)) (h1 : w.cell? ⟨g, 1, none⟩ = some (.int .i64 b)) (h2 : w.cell? ⟨g, 2, none⟩ = some (.int .i64 c)) :
    Calls Tryd.prog 68 #[(.agg #[.int .i64 32, .int .i64 64, .int .i64 64, .slice (some ⟨g0, 0, none⟩) 3 3, .slice (some ⟨g1, 0, none⟩) 3 3, .slice (some ⟨g2, 0, none⟩) 3 3, .slice (some ⟨g3, 0, none⟩) 3 3]), .int .u64 x, .slice (some ⟨g, 0, none⟩) 3 3] w fun e w' => e = .returned (.int .u64 ((lo3 32 x (a, b, c) : Nat) : Int)) ∧ Below w.heap.size w w' := by
  have hcc : IntKind.u64.wrap (c : Int) = (c : Int) := by simp only [IntKind.wrap_u64]; omega
  have hxl : x < 18446744073709551616 := Nat.lt_of_lt_of_le hx (by decide)
  have hg : g < w.heap.size := block_lt_of_cell h0
  obtain ⟨W, hW⟩ : ∃ W, W = w.alloc (.cells #[.int .i64 32, .int .i64 64, .int .i64 64, .slice (some ⟨g0, 0, none⟩) 3 3, .slice (some ⟨g1, 0, none⟩) 3 3, .slice (some ⟨g2, 0, none⟩) 3 3, .slice (some ⟨g3, 0, none⟩) 3 3] 64) := ⟨_, rfl⟩
  have HW : Hid (W = w.alloc (.cells #[.int .i64 32, .int .i64 64, .int .i64 64, .slice (some ⟨g0, 0, none⟩) 3 3, .slice (some ⟨g1, 0, none⟩) 3 3, .slice (some ⟨g2, 0, none⟩) 3 3, .slice (some ⟨g3, 0, none⟩) 3 3] 64)) := hW
  obtain ⟨c0, c1, c2, c3, c4, c5, c6⟩ : ZBox32 W w.heap.size g0 g1 g2 g3 := by rw [hW]; exact zbox32 w g0 g1 g2 g3
  have hbW : Below w.heap.size w W := by rw [hW]; exact (Below.refl _ _).alloc (Nat.le_refl _) _
  have k0 := (hbW.cell (p := ⟨g, 0, none⟩) hg).trans h0
  have k1 := (hbW.cell (p := ⟨g, 1, none⟩) hg).trans h1
  have k2 := (hbW.cell (p := ⟨g, 2, none⟩) hg).trans h2
  have q0 : w.heap.size < W.heap.size := by rw [hW]; simp
  have q1 : g < W.heap.size := by omega
  have hS : ∀ w' : World, Below W.heap.size W w' → ∀ b o, b < W.heap.size → w'.cell? ⟨b, o, none⟩ = W.cell? ⟨b, o, none⟩ := fun w' h b o hb => h.cell (p := ⟨b, o, none⟩) hb
  have hb0 : Below W.heap.size W W.drew := (Below.refl _ _).drew
  clear hW
  go_enter Tryd.func68, Tryd.ntmps68
  go_wp2
  rw [← HW.out]
  go_region_held3 (fun w' => Below W.heap.size W w') (assumption) (first
    | (go_at_call 69; refine (rotr32_any g0 g1 g2 g3 _ _ hx (by assumption) _).mono ?_; rintro e w' ⟨rfl, hb⟩; have hbn := below_next (W := W) (by assumption) hb))
  go_wp2
  go_ret
  refine ⟨retInt ?_, hbW.trans (hbn.mono (by omega))⟩
  have e1 : (x : Int) / 2 ^ c = ((x / 2 ^ c : Nat) : Int) := by simp
  rw [e1, u64_xor_nat _ _ (rotL_32 x a hx) (rotL_32 x b hx), u64_xor_nat _ _ (Nat.xor_lt_two_pow (n := 64) (rotL_32 x a hx) (rotL_32 x b hx)) (Nat.lt_of_le_of_lt (Nat.div_le_self _ _) hxl)]
  rfl
/-- The three numbers of each of the four lists. -/
structure Lists64 (w : World) (g0 g1 g2 g3 : Nat) : Prop where
  a0 : w.cell? ⟨g0, 0, none⟩ = some (.int .i64 1)
  a1 : w.cell? ⟨g0, 1, none⟩ = some (.int .i64 8)
  a2 : w.cell? ⟨g0, 2, none⟩ = some (.int .i64 7)
  b0 : w.cell? ⟨g1, 0, none⟩ = some (.int .i64 19)
  b1 : w.cell? ⟨g1, 1, none⟩ = some (.int .i64 61)
  b2 : w.cell? ⟨g1, 2, none⟩ = some (.int .i64 6)
  c0 : w.cell? ⟨g2, 0, none⟩ = some (.int .i64 28)
  c1 : w.cell? ⟨g2, 1, none⟩ = some (.int .i64 34)
  c2 : w.cell? ⟨g2, 2, none⟩ = some (.int .i64 39)
  d0 : w.cell? ⟨g3, 0, none⟩ = some (.int .i64 14)
  d1 : w.cell? ⟨g3, 1, none⟩ = some (.int .i64 18)
  d2 : w.cell? ⟨g3, 2, none⟩ = some (.int .i64 41)
theorem Lists64.below {w w' : World} {g0 g1 g2 g3 : Nat} (h : Lists64 w g0 g1 g2 g3) (hb : Below w.heap.size w w') : Lists64 w' g0 g1 g2 g3 := by
  have k : ∀ {g j : Nat} {v : Value}, w.cell? ⟨g, j, none⟩ = some v → w'.cell? ⟨g, j, none⟩ = some v := fun {g j v} e => (hb.cell (p := ⟨g, j, none⟩) (block_lt_of_cell e)).trans e
  exact ⟨k h.a0, k h.a1, k h.a2, k h.b0, k h.b1, k h.b2, k h.c0, k h.c1, k h.c2, k h.d0, k h.d1, k h.d2⟩
theorem cut64_any (g0 g1 g2 g3 x : Nat) (hx : x < 18446744073709551616) (w : World) :
    Calls Tryd.prog 62 #[(.agg #[.int .i64 64, .int .i64 128, .int .i64 80, .slice (some ⟨g0, 0, none⟩) 3 3, .slice (some ⟨g1, 0, none⟩) 3 3, .slice (some ⟨g2, 0, none⟩) 3 3, .slice (some ⟨g3, 0, none⟩) 3 3]), .int .u64 x] w fun e w' => e = .returned (.int .u64 ((x % 2 ^ 64 : Nat) : Int)) ∧ Below w.heap.size w w' := by
  go_enter Tryd.func62, Tryd.ntmps62
  go_wp2
  go_ret
  refine ⟨retInt ?_, (Below.refl _ _).alloc (Nat.le_refl _) _⟩
  rw [show (2 : Nat) ^ 64 = 18446744073709551616 from rfl, Nat.mod_eq_of_lt hx]
theorem rotR_64 (x n : Nat) (hx : x < 2 ^ 64) : ((x / 2 ^ n) ||| (x * 2 ^ (64 - n) % 18446744073709551616)) % 2 ^ 64 = rot 64 x n := by
  unfold rot
  rw [Nat.or_mod_two_pow, Nat.mod_eq_of_lt (Nat.lt_of_le_of_lt (Nat.div_le_self _ _) hx), show (18446744073709551616 : Nat) = 2 ^ 64 from rfl, Nat.mod_mod_of_dvd _ (Nat.pow_dvd_pow 2 (by decide))]
theorem rotL_64 (x n : Nat) (hx : x < 2 ^ 64) : rot 64 x n < 18446744073709551616 := Nat.lt_of_lt_of_le (rot_lt 64 x n hx) (by decide)
theorem rotB_64 (x n : Nat) (hx : x < 2 ^ 64) : ((x / 2 ^ n) ||| (x * 2 ^ (64 - n) % 18446744073709551616)) < 18446744073709551616 :=
  Nat.or_lt_two_pow (n := 64) (Nat.lt_of_le_of_lt (Nat.div_le_self _ _) (Nat.lt_of_lt_of_le hx (by decide))) (Nat.mod_lt _ (by decide))
set_option maxHeartbeats 400000 in
theorem rotr64_any (g0 g1 g2 g3 x n : Nat) (hx : x < 2 ^ 64) (hn : n ≤ 64) (w : World) :
    Calls Tryd.prog 69 #[(.agg #[.int .i64 64, .int .i64 128, .int .i64 80, .slice (some ⟨g0, 0, none⟩) 3 3, .slice (some ⟨g1, 0, none⟩) 3 3, .slice (some ⟨g2, 0, none⟩) 3 3, .slice (some ⟨g3, 0, none⟩) 3 3]), .int .u64 x, .int .i64 n] w fun e w' => e = .returned (.int .u64 ((rot 64 x n : Nat) : Int)) ∧ Below w.heap.size w w' := by
  have hx' : x < 18446744073709551616 := Nat.lt_of_lt_of_le hx (by decide)
  have hb := rotB_64 x n hx
  have hc := fun W => cut64_any g0 g1 g2 g3 _ hb W
  have e1 : bits .or .u64 ((x : Int) / 2 ^ n) ((x : Int) * 2 ^ (64 - n) % 18446744073709551616) = (((x / 2 ^ n) ||| (x * 2 ^ (64 - n) % 18446744073709551616) : Nat) : Int) := by
    have f1 : (x : Int) / 2 ^ n = ((x / 2 ^ n : Nat) : Int) := by simp
    have f2 : (x : Int) * 2 ^ (64 - n) % 18446744073709551616 = ((x * 2 ^ (64 - n) % 18446744073709551616 : Nat) : Int) := by simp
    rw [f1, f2, u64_or_nat _ _ (Nat.lt_of_le_of_lt (Nat.div_le_self _ _) hx') (Nat.mod_lt _ (by decide))]
  rw [rotR_64 x n hx, ← e1] at hc
  clear hx hb e1
  go_enter Tryd.func69, Tryd.ntmps69
  go_wp2_with (go_at_call 62; refine (hc _).mono ?_; rintro e w' ⟨rfl, hb⟩)
  go_ret
  exact ⟨rfl, ((Below.refl _ _).alloc (Nat.le_refl _) _).trans (hb.mono (by simp))⟩
/-- The cells of a box that holds the sizes. -/
def ZBox64 (W : World) (B g0 g1 g2 g3 : Nat) : Prop := W.cell? ⟨B, 0, none⟩ = some (.int .i64 64) ∧ W.cell? ⟨B, 1, none⟩ = some (.int .i64 128) ∧ W.cell? ⟨B, 2, none⟩ = some (.int .i64 80) ∧ W.cell? ⟨B, 3, none⟩ = some (.slice (some ⟨g0, 0, none⟩) 3 3) ∧ W.cell? ⟨B, 4, none⟩ = some (.slice (some ⟨g1, 0, none⟩) 3 3) ∧ W.cell? ⟨B, 5, none⟩ = some (.slice (some ⟨g2, 0, none⟩) 3 3) ∧ W.cell? ⟨B, 6, none⟩ = some (.slice (some ⟨g3, 0, none⟩) 3 3)
theorem ZBox64.below {w w' : World} {B g0 g1 g2 g3 : Nat} (h : ZBox64 w B g0 g1 g2 g3) (hb : Below w.heap.size w w') : ZBox64 w' B g0 g1 g2 g3 := by
  have k : ∀ {g j : Nat} {v : Value}, w.cell? ⟨g, j, none⟩ = some v → w'.cell? ⟨g, j, none⟩ = some v := fun {g j v} e => (hb.cell (p := ⟨g, j, none⟩) (block_lt_of_cell e)).trans e
  obtain ⟨h0, h1, h2, h3, h4, h5, h6⟩ := h
  exact ⟨k h0, k h1, k h2, k h3, k h4, k h5, k h6⟩
theorem zbox64 (w : World) (g0 g1 g2 g3 : Nat) : ZBox64 (w.alloc (.cells #[.int .i64 64, .int .i64 128, .int .i64 80, .slice (some ⟨g0, 0, none⟩) 3 3, .slice (some ⟨g1, 0, none⟩) 3 3, .slice (some ⟨g2, 0, none⟩) 3 3, .slice (some ⟨g3, 0, none⟩) 3 3] 64)) w.heap.size g0 g1 g2 g3 := by simp [ZBox64]
set_option maxHeartbeats 1000000 in
theorem high64_any (g0 g1 g2 g3 g x a b c : Nat) (hx : x < 2 ^ 64) (ha : a ≤ 64) (hb : b ≤ 64) (hc : c ≤ 64) (w : World) (h0 : w.cell? ⟨g, 0, none⟩ = some (.int .i64 a)) (h1 : w.cell? ⟨g, 1, none⟩ = some (.int .i64 b)) (h2 : w.cell? ⟨g, 2, none⟩ = some (.int .i64 c)) :
    Calls Tryd.prog 63 #[(.agg #[.int .i64 64, .int .i64 128, .int .i64 80, .slice (some ⟨g0, 0, none⟩) 3 3, .slice (some ⟨g1, 0, none⟩) 3 3, .slice (some ⟨g2, 0, none⟩) 3 3, .slice (some ⟨g3, 0, none⟩) 3 3]), .int .u64 x, .slice (some ⟨g, 0, none⟩) 3 3] w fun e w' => e = .returned (.int .u64 ((hi3 64 x (a, b, c) : Nat) : Int)) ∧ Below w.heap.size w w' := by
  have hg : g < w.heap.size := block_lt_of_cell h0
  obtain ⟨W, hW⟩ : ∃ W, W = w.alloc (.cells #[.int .i64 64, .int .i64 128, .int .i64 80, .slice (some ⟨g0, 0, none⟩) 3 3, .slice (some ⟨g1, 0, none⟩) 3 3, .slice (some ⟨g2, 0, none⟩) 3 3, .slice (some ⟨g3, 0, none⟩) 3 3] 64) := ⟨_, rfl⟩
  have HW : Hid (W = w.alloc (.cells #[.int .i64 64, .int .i64 128, .int .i64 80, .slice (some ⟨g0, 0, none⟩) 3 3, .slice (some ⟨g1, 0, none⟩) 3 3, .slice (some ⟨g2, 0, none⟩) 3 3, .slice (some ⟨g3, 0, none⟩) 3 3] 64)) := hW
  obtain ⟨c0, c1, c2, c3, c4, c5, c6⟩ : ZBox64 W w.heap.size g0 g1 g2 g3 := by rw [hW]; exact zbox64 w g0 g1 g2 g3
  have hbW : Below w.heap.size w W := by rw [hW]; exact (Below.refl _ _).alloc (Nat.le_refl _) _
  have k0 := (hbW.cell (p := ⟨g, 0, none⟩) hg).trans h0
  have k1 := (hbW.cell (p := ⟨g, 1, none⟩) hg).trans h1
  have k2 := (hbW.cell (p := ⟨g, 2, none⟩) hg).trans h2
  have q0 : w.heap.size < W.heap.size := by rw [hW]; simp
  have q1 : g < W.heap.size := by omega
  have hS : ∀ w' : World, Below W.heap.size W w' → ∀ b o, b < W.heap.size → w'.cell? ⟨b, o, none⟩ = W.cell? ⟨b, o, none⟩ := fun w' h b o hb => h.cell (p := ⟨b, o, none⟩) hb
  have hb0 : Below W.heap.size W W.drew := (Below.refl _ _).drew
  clear hW
  go_enter Tryd.func63, Tryd.ntmps63
  go_wp2
  rw [← HW.out]
  go_region_held3 (fun w' => Below W.heap.size W w') (assumption) (first
    | (go_at_call 69; refine (rotr64_any g0 g1 g2 g3 _ _ hx (by assumption) _).mono ?_; rintro e w' ⟨rfl, hb⟩; have hbn := below_next (W := W) (by assumption) hb))
  go_wp2
  go_ret
  refine ⟨retInt ?_, hbW.trans (hbn.mono (by omega))⟩
  rw [u64_xor_nat _ _ (rotL_64 x a hx) (rotL_64 x b hx), u64_xor_nat _ _ (Nat.xor_lt_two_pow (n := 64) (rotL_64 x a hx) (rotL_64 x b hx)) (rotL_64 x c hx)]
  rfl
set_option maxHeartbeats 1000000 in
theorem low64_any (g0 g1 g2 g3 g x a b c : Nat) (hx : x < 2 ^ 64) (ha : a ≤ 64) (hb : b ≤ 64) (hc : c ≤ 64) (w : World) (h0 : w.cell? ⟨g, 0, none⟩ = some (.int .i64 a)) (h1 : w.cell? ⟨g, 1, none⟩ = some (.int .i64 b)) (h2 : w.cell? ⟨g, 2, none⟩ = some (.int .i64 c)) :
    Calls Tryd.prog 68 #[(.agg #[.int .i64 64, .int .i64 128, .int .i64 80, .slice (some ⟨g0, 0, none⟩) 3 3, .slice (some ⟨g1, 0, none⟩) 3 3, .slice (some ⟨g2, 0, none⟩) 3 3, .slice (some ⟨g3, 0, none⟩) 3 3]), .int .u64 x, .slice (some ⟨g, 0, none⟩) 3 3] w fun e w' => e = .returned (.int .u64 ((lo3 64 x (a, b, c) : Nat) : Int)) ∧ Below w.heap.size w w' := by
  have hcc : IntKind.u64.wrap (c : Int) = (c : Int) := by simp only [IntKind.wrap_u64]; omega
  have hxl : x < 18446744073709551616 := Nat.lt_of_lt_of_le hx (by decide)
  have hg : g < w.heap.size := block_lt_of_cell h0
  obtain ⟨W, hW⟩ : ∃ W, W = w.alloc (.cells #[.int .i64 64, .int .i64 128, .int .i64 80, .slice (some ⟨g0, 0, none⟩) 3 3, .slice (some ⟨g1, 0, none⟩) 3 3, .slice (some ⟨g2, 0, none⟩) 3 3, .slice (some ⟨g3, 0, none⟩) 3 3] 64) := ⟨_, rfl⟩
  have HW : Hid (W = w.alloc (.cells #[.int .i64 64, .int .i64 128, .int .i64 80, .slice (some ⟨g0, 0, none⟩) 3 3, .slice (some ⟨g1, 0, none⟩) 3 3, .slice (some ⟨g2, 0, none⟩) 3 3, .slice (some ⟨g3, 0, none⟩) 3 3] 64)) := hW
  obtain ⟨c0, c1, c2, c3, c4, c5, c6⟩ : ZBox64 W w.heap.size g0 g1 g2 g3 := by rw [hW]; exact zbox64 w g0 g1 g2 g3
  have hbW : Below w.heap.size w W := by rw [hW]; exact (Below.refl _ _).alloc (Nat.le_refl _) _
  have k0 := (hbW.cell (p := ⟨g, 0, none⟩) hg).trans h0
  have k1 := (hbW.cell (p := ⟨g, 1, none⟩) hg).trans h1
  have k2 := (hbW.cell (p := ⟨g, 2, none⟩) hg).trans h2
  have q0 : w.heap.size < W.heap.size := by rw [hW]; simp
  have q1 : g < W.heap.size := by omega
  have hS : ∀ w' : World, Below W.heap.size W w' → ∀ b o, b < W.heap.size → w'.cell? ⟨b, o, none⟩ = W.cell? ⟨b, o, none⟩ := fun w' h b o hb => h.cell (p := ⟨b, o, none⟩) hb
  have hb0 : Below W.heap.size W W.drew := (Below.refl _ _).drew
  clear hW
  go_enter Tryd.func68, Tryd.ntmps68
  go_wp2
  rw [← HW.out]
  go_region_held3 (fun w' => Below W.heap.size W w') (assumption) (first
    | (go_at_call 69; refine (rotr64_any g0 g1 g2 g3 _ _ hx (by assumption) _).mono ?_; rintro e w' ⟨rfl, hb⟩; have hbn := below_next (W := W) (by assumption) hb))
  go_wp2
  go_ret
  refine ⟨retInt ?_, hbW.trans (hbn.mono (by omega))⟩
  have e1 : (x : Int) / 2 ^ c = ((x / 2 ^ c : Nat) : Int) := by simp
  rw [e1, u64_xor_nat _ _ (rotL_64 x a hx) (rotL_64 x b hx), u64_xor_nat _ _ (Nat.xor_lt_two_pow (n := 64) (rotL_64 x a hx) (rotL_64 x b hx)) (Nat.lt_of_le_of_lt (Nat.div_le_self _ _) hxl)]
  rfl
end Go.Proofs.YtlfofbkanifocaaDoor
