/- What write does in the model where bytes are held, at both widths. -/
import Derived.Test.YtlfofbkanifocaaDoorWriteA
import Derived.Deep.Cut
namespace Go.Proofs.YtlfofbkanifocaaDoor
open Go.RowKit
theorem sliceFrom (W : World) (bb ob n cap d : Nat) (hd : d ≤ n) : (Instr.sliceAt 22 (.slice (some ⟨bb, ob, none⟩) n cap) (some (.int .i64 d)) none none).run Tryd.prog W = .ok (.slice (some ⟨bb, (if cap = d then ob else ob + d), none⟩) (n - d) (cap - d)) W := by
  have h1 : Tryd.prog.underlying 22 = some (.slice (Tryd.prog.elem 22)) := by kernel_rfl
  have h2 : Tryd.prog.elem 22 = 5 := by kernel_rfl
  have h3 : ((sizeOf 5).run Tryd.prog W) = .ok 1 W := by kernel_rfl
  rw [run_sliceAt_slice W 22 _ _ _ _ h1, run_slice_l W 22 _ n cap h1 .i64 d (by omega) (by omega), h2, h3]
  simp only [Result.andThen_ok, sliced, Int.toNat_natCast, Nat.mul_one, Addr.add_mid, Option.map]
  by_cases h : cap = d
  · simp [h]
  · simp [h]
theorem sliceRest_32 (W : World) (b o h : Nat) (hh : h ≤ 64) (_hz : h < 128) : (Instr.sliceAt 36 (.pointer (some ⟨b, o + 8, none⟩)) (some (.int .i64 h)) (some (.int .i64 64)) none).run Tryd.prog W = .ok (.slice (some ⟨b, o + 8 + h, none⟩) (64 - h) (128 - h)) W := by
  have h1 : Tryd.prog.arrayLen 36 = 128 := by kernel_rfl
  have h2 : Tryd.prog.elem 36 = 5 := by kernel_rfl
  have h3 : ((sizeOf 5).run Tryd.prog W) = .ok 1 W := by kernel_rfl
  rw [run_sliceAt_array_lh W 36 ⟨b, o + 8, none⟩ (by kernel_rfl) .i64 .i64 h 64 (by omega) (by omega) (by rw [h1]; decide), h2, h3, h1]
  simp only [Result.andThen_ok, slicedAt, Int.toNat_natCast, Nat.mul_one, Addr.add_mid]
  rw [if_neg (by omega)]
  rfl
set_option maxRecDepth 20000 in
set_option maxHeartbeats 1000000 in
theorem write32_B (s : St) (R : Nat → Nat) (b o c n bb ob cap h : Nat) (bs : Nat → Nat) (w : World)
    (hE : EngAt .u32 w b o s R c) (hbb : bb ≠ b) (hcn : c + n < 4611686018427387904)
    (hcell : ∀ j, j < n → w.cell? ⟨bb, ob + j, none⟩ = some (.int .u8 (bs j))) (hmod : (c : Int) % 64 = (h : Int)) (h0 : 0 < h) (hlt : h + n < 64) :
    Calls Tryd.prog 34 #[.pointer (some ⟨b, o, none⟩), (.agg #[.int .i64 32, .int .i64 64, .int .u64 7, .int .u64 18, .int .u64 3, .int .u64 17, .int .u64 19, .int .u64 10, .int .u64 2, .int .u64 13, .int .u64 22, .int .u64 6, .int .u64 11, .int .u64 25]), .slice (some ⟨bb, ob, none⟩) n cap] w
      fun e w' => e = .returned (.tuple #[]) ∧ EngAt .u32 w' b o s (over R h n bs) (c + n) ∧ Out b o 137 w w' := by
  have hmi : Hid (n = Nat.min n (64 - h)) := (Nat.min_eq_left (by omega)).symm
  have hmi' : ((h : Int) + n) < 64 := by omega
  have hsl := fun W => sliceRest_32 W b o h (by omega) (by omega)
  go_enter Tryd.func34, Tryd.ntmps34
  go_wp2_with (first
    | (go_at_call 48; refine (blockSize32_any _).mono ?_; rintro e w1 ⟨rfl, hb1⟩; obtain ⟨hE1, hO1, hR1, hsz1, hc1, hf1⟩ := begun32 (n := n) hE hb1; have hsrc : Src (w1.setCell ⟨b, o + 136, none⟩ (.int .i64 ((c : Int) + n))) (some ⟨bb, ob, none⟩) n bs := .inr ⟨bb, ob, rfl, fun j hj => (hO1.cell' (block_lt_of_cell (hcell j hj)) hbb).trans (hcell j hj)⟩; have hth : (w1.setCell ⟨b, o + 136, none⟩ (.int .i64 ((c : Int) + n))).there b (o + 8 + h) (64 - h) := RowAt.there_part hE1.rest (by omega); clear hb1 hR1)
    | (refine wpList_copy_bytes rfl _ _ 22 22 rfl 5 Tryd.underlying22 (by kernel_rfl) b (o + 8 + h) (64 - h) _ (some ⟨bb, ob, none⟩) n cap rfl rfl n bs hsrc hmi.out hth ?_))
  exact bodyPost_ret (results_none Tryd.results34 _ _ _) rfl ⟨rfl, hE1.bytes h n bs (by omega), hO1.trans (Out.setCells _ _ (by omega) (by rw [ints_len]; omega))⟩
set_option maxRecDepth 20000 in
set_option maxHeartbeats 2000000 in
theorem write32_C (K : Nat → Nat) (hK : ∀ j, K j < 18446744073709551616) (s : St) (hs : s.lt 4294967296) (R : Nat → Nat) (hR : ∀ j, R j < 256) (b o c n bb ob cap h : Nat) (bs : Nat → Nat) (hbs : ∀ j, bs j < 256) (w : World)
    (hE : EngAt .u32 w b o s R c) (hcub : ∀ j, j < 80 → w.cell? ⟨3, j, none⟩ = some (.int .u64 (K j))) (hb3 : 3 ≠ b) (hbb : bb ≠ b) (hcap : n ≤ cap) (hcn : c + n < 4611686018427387904)
    (hcell : ∀ j, j < n → w.cell? ⟨bb, ob + j, none⟩ = some (.int .u8 (bs j))) (hmod : (c : Int) % 64 = (h : Int)) (h0 : 0 < h) (_hhz : h < 64) (hge : 64 ≤ h + n) :
    Calls Tryd.prog 34 #[.pointer (some ⟨b, o, none⟩), (.agg #[.int .i64 32, .int .i64 64, .int .u64 7, .int .u64 18, .int .u64 3, .int .u64 17, .int .u64 19, .int .u64 10, .int .u64 2, .int .u64 13, .int .u64 22, .int .u64 6, .int .u64 11, .int .u64 25]), .slice (some ⟨bb, ob, none⟩) n cap] w
      fun e w' => e = .returned (.tuple #[]) ∧ EngAt .u32 w' b o (tailE rn K (blockS rn K (over R h (64 - h) bs) s) (over R h (64 - h) bs) (n - (64 - h)) (fun j => bs (64 - h + j))).1 (tailE rn K (blockS rn K (over R h (64 - h) bs) s) (over R h (64 - h) bs) (n - (64 - h)) (fun j => bs (64 - h + j))).2 (c + n) ∧ Out b o 137 w w' := by
  obtain ⟨d, hd⟩ : ∃ d, d = 64 - h := ⟨_, rfl⟩
  rw [← hd]
  have Hd : Hid (d = 64 - h) := hd
  have hdn : d ≤ n := by omega
  have hdZ : d ≤ 128 := by omega
  have hd1 : 0 < d := by omega
  have hhd : (h : Int) + d = 64 := by omega
  clear hd
  have hmi : Hid (d = Nat.min n d) := (Nat.min_eq_right hdn).symm
  have hsl : ∀ W : World, (Instr.sliceAt 36 (.pointer (some ⟨b, o + 8, none⟩)) (some (.int .i64 h)) (some (.int .i64 64)) none).run Tryd.prog W = .ok (.slice (some ⟨b, o + 8 + h, none⟩) d (128 - h)) W := fun W => by rw [Hd.out]; exact sliceRest_32 W b o h (by omega) (by omega)
  obtain ⟨R1, hR1e⟩ : ∃ R1, R1 = over R h d bs := ⟨_, rfl⟩
  have hR1l : ∀ j, R1 j < 256 := by rw [hR1e]; exact over_lt hR hbs
  have HR1 : Hid (R1 = over R h d bs) := hR1e
  rw [← hR1e]
  clear hR1e
  go_enter Tryd.func34, Tryd.ntmps34
  go_wp2_with (first
    | (go_at_call 48; refine (blockSize32_any _).mono ?_; rintro e w1 ⟨rfl, hb1⟩; obtain ⟨hE1, hO1, hR1, hsz1, hc1, hf1⟩ := begun32 (n := n) hE hb1; have hsrc : Src (w1.setCell ⟨b, o + 136, none⟩ (.int .i64 ((c : Int) + n))) (some ⟨bb, ob, none⟩) n bs := .inr ⟨bb, ob, rfl, fun j hj => (hO1.cell' (block_lt_of_cell (hcell j hj)) hbb).trans (hcell j hj)⟩; have hth : (w1.setCell ⟨b, o + 136, none⟩ (.int .i64 ((c : Int) + n))).there b (o + 8 + h) d := RowAt.there_part hE1.rest (by have := Hd.out; omega); clear hb1)
    | (refine wpList_copy_bytes rfl _ _ 22 22 rfl 5 Tryd.underlying22 (by kernel_rfl) b (o + 8 + h) d _ (some ⟨bb, ob, none⟩) n cap rfl rfl d bs hsrc hmi.out hth ?_; clear hsrc hth hmi hc1 hf1 hsl))
  obtain ⟨w2, hw2⟩ : ∃ w2, w2 = (w1.setCell ⟨b, o + 136, none⟩ (.int .i64 ((c : Int) + n))).setCells b (o + 8 + h) (ints .u8 d bs) := ⟨_, rfl⟩
  have hE2 : EngAt .u32 w2 b o s R1 (c + n) := by rw [hw2, HR1.out]; exact hE1.bytes h d bs (by have := Hd.out; omega)
  have hO2 : Out b o 137 w w2 := by rw [hw2]; exact hO1.trans (Out.setCells _ _ (by omega) (by rw [ints_len]; have := Hd.out; omega))
  have hR2 : Rules32 w2 w.heap.size := by rw [hw2]; exact hR1.same (fun q => World.cell?_of_block (heap_setCells_other b _ _ _ _ (Nat.ne_of_gt (block_lt_of_cell hE.cnt))))
  have hsz2 : w.heap.size < w2.heap.size := by rw [hw2, (setCells_same b _ _ _).2.2.2]; simpa using hsz1
  rw [← hw2]
  clear hw2 hE1 hO1 hR1 hsz1 hR
  obtain ⟨ct, hct⟩ : ∃ ct, ct = c + n := ⟨_, rfl⟩
  have HCT : Hid (ct = c + n) := hct
  rw [← hct] at hE2
  clear hct
  have hcw : ∀ j, j < 80 → w2.drew.cell? ⟨3, j, none⟩ = some (.int .u64 (K j)) := fun j hj => (hO2.cell' (block_lt_of_cell (hcub j hj)) hb3).trans (hcub j hj)
  have hmix := mix32_any K hK s hs b (o + 8) 128 R1 hR1l w2.drew hcw (fun j hj => (hE2.rest j (by omega)).1)
  obtain ⟨q0, q1, q2, q3, q4, q5, q6, q7⟩ := hE2.st.st'
  obtain ⟨p0, p1, p2, p3, p4, p5, p6, p7, p8, p9, p10, p11, p12, p13⟩ := id hR2
  have hbw : Below w2.heap.size w2 w2.drew := (Below.refl _ _).drew
  obtain ⟨s1, hs1e⟩ : ∃ s1, s1 = blockS rn K R1 s := ⟨_, rfl⟩
  have hs1 : s1.lt 4294967296 := by rw [hs1e]; exact addS_lt (r := rn)
  have HS1 : Hid (s1 = blockS rn K R1 s) := hs1e
  rw [← hs1e] at hmix
  clear hcw hs1e
  go_cut [2] from 41 (fun v wc => v = .slice (some ⟨bb, ob, none⟩) n cap ∧ EngAt .u32 wc b o s1 R1 ct ∧ Out b o 137 w wc ∧ Rules32 wc w.heap.size ∧ w.heap.size < wc.heap.size)
  case first =>
    clear hcell hcub
    go_region_with ((go_at_call 49; refine hmix.mono ?_; rintro e w' ⟨rfl, hbm⟩; have hE5 := hE2.below (below_next hbw hbm); have hst := store8_32 w' b o s1 hE5.st.there))
    all_goals
      have hE6 := hE5.state s1
      have hO6 : Out b o 137 w (w'.setCells b o (St.vals .u32 s1).toList) := hO2.trans ((Out.of_below (below_next hbw hbm) (block_lt_of_cell hE2.cnt)).trans (Out.setCells _ _ (Nat.le_refl _) (by rw [vals_ints, ints_len]; omega)))
      have hR6 : Rules32 (w'.setCells b o (St.vals .u32 s1).toList) w.heap.size := (hR2.below (below_next hbw hbm) hsz2).same (fun q => World.cell?_of_block (heap_setCells_other b _ _ _ _ (Nat.ne_of_gt (block_lt_of_cell hE.cnt))))
      have hZ6 : w.heap.size < (w'.setCells b o (St.vals .u32 s1).toList).heap.size := by rw [(setCells_same b _ _ _).2.2.2]; have := hbm.size; simp only [World.size_drew] at this; omega
      clear hst hE5 p0 p1 p2 p3 p4 p5 p6 p7 p8 p9 p10 p11 p12 p13 q0 q1 q2 q3 q4 q5 q6 q7 hmix hbw hbm
      go_wp2
      go_meet
      case rel => exact ⟨rfl, hE6, hO6, hR6, hZ6⟩
  case rest =>
    obtain ⟨rfl, hE1, hO1, hR1, hsz1⟩ := hcut
    clear hmix q0 q1 q2 q3 q4 q5 q6 q7 p0 p1 p2 p3 p4 p5 p6 p7 p8 p9 p10 p11 p12 p13 hbw hE2 hO2 hR2 hsz2
    obtain ⟨n1, hn1⟩ : ∃ n1, n1 = n - d := ⟨_, rfl⟩
    obtain ⟨ob1, hob1⟩ : ∃ ob1, ob1 = ob + d := ⟨_, rfl⟩
    obtain ⟨bs1, hbs1e⟩ : ∃ bs1 : Nat → Nat, bs1 = fun j => bs (d + j) := ⟨_, rfl⟩
    have hbs1 : ∀ j, bs1 j < 256 := by rw [hbs1e]; exact fun j => hbs _
    have hcell1 : ∀ j, j < n1 → w.cell? ⟨bb, ob1 + j, none⟩ = some (.int .u8 (bs1 j)) := fun j hj => by
      rw [hob1, hbs1e, Nat.add_assoc]; exact hcell (d + j) (by omega)
    have HN1 : Hid (n1 = n - d) := hn1
    have HO1 : Hid (ob1 = ob + d) := hob1
    have HB1 : Hid (bs1 = fun j => bs (d + j)) := hbs1e
    obtain ⟨p1, hp1⟩ : ∃ p1, p1 = (if cap = d then ob else ob + d) := ⟨_, rfl⟩
    have hslb : ∀ W : World, (Instr.sliceAt 22 (.slice (some ⟨bb, ob, none⟩) n cap) (some (.int .i64 d)) none none).run Tryd.prog W = .ok (.slice (some ⟨bb, p1, none⟩) (n - d) (cap - d)) W := fun W => by rw [hp1]; exact sliceFrom W bb ob n cap d hdn
    have HP1 : Hid (p1 = (if cap = d then ob else ob + d)) := hp1
    clear hn1 hob1 hbs1e hcell hp1
    go_wp2
    clear hslb
    go_loopw [2] (fun v wr => ∃ i m p cp : Nat, v = .slice (some ⟨bb, p, none⟩) m cp ∧ Hid (n1 = i * 64 + m) ∧ Hid (m = 0 ∨ p = ob1 + i * 64) ∧ m ≤ cp ∧ EngAt .u32 wr b o (loopS rn K s1 bs1 i) R1 ct ∧ Out b o 137 w wr ∧ Rules32 wr w.heap.size ∧ w.heap.size < wr.heap.size) (fun v _ => lenV v)
    case atStart =>
      refine ⟨0, n - d, p1, cap - d, rfl, (by rw [HN1.out, Nat.zero_mul, Nat.zero_add] : n1 = 0 * 64 + (n - d)), ?_, by omega, hE1, hO1, hR1, hsz1⟩
      show n - d = 0 ∨ p1 = ob1 + 0 * 64
      rw [HO1.out, Nat.zero_mul, Nat.add_zero]
      by_cases hq : cap = d
      · left; omega
      · right; rw [HP1.out, if_neg hq]
    case round =>
      clear hE1 hO1 hR1 hsz1
      obtain ⟨i, m, p, cp, rfl, Hn, Hp, hm, hE1, hO1, hR1, hsz1⟩ := hrel
      have hmn : m ≤ n1 := by have := Hn.out; omega
      by_cases hlt : 64 ≤ m
      · have hsi : (loopS rn K s1 bs1 i).lt 4294967296 := loopS_lt (r := rn) hs1 i
        have hcw : ∀ j, j < 80 → wr.drew.cell? ⟨3, j, none⟩ = some (.int .u64 (K j)) := fun j hj => (hO1.cell' (block_lt_of_cell (hcub j hj)) hb3).trans (hcub j hj)
        have hcl : ∀ j, j < 64 → wr.drew.cell? ⟨bb, p + j, none⟩ = some (.int .u8 (bs1 (i * (2 * Ru.m rn) + j))) := fun j hj => by
          have h1 := hcell1 (i * 64 + j) (by have := Hn.out; omega)
          have h2 := (hO1.cell' (q := ob1 + (i * 64 + j)) (block_lt_of_cell h1) hbb).trans h1
          rw [← Nat.add_assoc, ← Hp.out.resolve_left (by omega)] at h2
          exact h2
        have hmix := mix32_any K hK (loopS rn K s1 bs1 i) hsi bb p cp (fun j => bs1 (i * (2 * Ru.m rn) + j)) (fun j => hbs1 _) wr.drew hcw hcl
        obtain ⟨q0, q1, q2, q3, q4, q5, q6, q7⟩ := hE1.st.st'
        obtain ⟨x, hx⟩ : ∃ x, x = loopS rn K s1 bs1 i := ⟨_, rfl⟩
        have HX : Hid (x = loopS rn K s1 bs1 i) := hx
        rw [← hx] at hmix q0 q1 q2 q3 q4 q5 q6 q7
        clear hx hcl hcw hcell1 hcub
        obtain ⟨p0, p1, p2, p3, p4, p5, p6, p7, p8, p9, p10, p11, p12, p13⟩ := hR1
        have hbw : Below wr.heap.size wr wr.drew := (Below.refl _ _).drew
        go_wp2
        go_region_with ((go_at_call 49; refine hmix.mono ?_; rintro e w' ⟨rfl, hbm⟩; have hE5 := hE1.below (below_next hbw hbm); have hst := store8_32 w' b o (blockS rn K (fun j => bs1 (i * (2 * Ru.m rn) + j)) x) hE5.st.there))
        all_goals
          have hE6 := hE5.state (blockS rn K (fun j => bs1 (i * (2 * Ru.m rn) + j)) x)
          have hO6 : Out b o 137 w (w'.setCells b o (St.vals .u32 (blockS rn K (fun j => bs1 (i * (2 * Ru.m rn) + j)) x)).toList) := hO1.trans ((Out.of_below (below_next hbw hbm) (block_lt_of_cell hE1.cnt)).trans (Out.setCells _ _ (Nat.le_refl _) (by rw [vals_ints, ints_len]; omega)))
          have hR6 : Rules32 (w'.setCells b o (St.vals .u32 (blockS rn K (fun j => bs1 (i * (2 * Ru.m rn) + j)) x)).toList) w.heap.size := (Rules32.below ⟨p0, p1, p2, p3, p4, p5, p6, p7, p8, p9, p10, p11, p12, p13⟩ (below_next hbw hbm) hsz1).same (fun q => World.cell?_of_block (heap_setCells_other b _ _ _ _ (Nat.ne_of_gt (block_lt_of_cell hE.cnt))))
          have hZ6 : w.heap.size < (w'.setCells b o (St.vals .u32 (blockS rn K (fun j => bs1 (i * (2 * Ru.m rn) + j)) x)).toList).heap.size := by rw [(setCells_same b _ _ _).2.2.2]; have := hbm.size; simp only [World.size_drew] at this; omega
          clear hst hE5 p0 p1 p2 p3 p4 p5 p6 p7 p8 p9 p10 p11 p12 p13 q0 q1 q2 q3 q4 q5 q6 q7 hmix hbw hbm
          go_wp2
          go_roundw
          case rel =>
            have hn' : n1 = (i + 1) * 64 + (m - 64) := by have := Hn.out; omega
            have hE7 : EngAt .u32 (w'.setCells b o (St.vals .u32 (blockS rn K (fun j => bs1 (i * (2 * Ru.m rn) + j)) x)).toList) b o (loopS rn K s1 bs1 (i + 1)) R1 ct := by
              show EngAt _ _ _ _ (blockS rn K (fun j => bs1 (i * (2 * Ru.m rn) + j)) (loopS rn K s1 bs1 i)) _ _
              rw [← HX.out]; exact hE6
            by_cases hcp : cp = 64
            · exact ⟨i + 1, m - 64, p, cp - 64, by rw [if_pos hcp], hn', .inl (by omega), by omega, hE7, hO6, hR6, hZ6⟩
            · exact ⟨i + 1, m - 64, p + 64, cp - 64, by rw [if_neg hcp], hn', .inr (by have := Hp.out; omega), by omega, hE7, hO6, hR6, hZ6⟩
          case measure => simp [lenV]; omega
      · have hi : i = n1 / 64 ∧ m = n1 % 64 := by have := Hn.out; omega
        have hsrc : Src wr (some ⟨bb, p, none⟩) m (fun j => bs1 (n1 / (2 * Ru.m rn) * (2 * Ru.m rn) + j)) := by
          by_cases h0 : m = 0
          · exact .inl h0
          · refine .inr ⟨bb, p, rfl, fun j hj => ?_⟩
            have h1 := hcell1 (i * 64 + j) (by have := Hn.out; omega)
            have h2 := (hO1.cell' (q := ob1 + (i * 64 + j)) (block_lt_of_cell h1) hbb).trans h1
            rw [← Nat.add_assoc, ← Hp.out.resolve_left h0, hi.1] at h2
            exact h2
        have hE8 := hE1.bytes 0 m (fun j => bs1 (n1 / (2 * Ru.m rn) * (2 * Ru.m rn) + j)) (by omega)
        have hth := hE1.rest.there
        have hO8 : Out b o 137 w (wr.setCells b (o + 8) (ints .u8 m (fun j => bs1 (n1 / (2 * Ru.m rn) * (2 * Ru.m rn) + j)))) := hO1.trans (Out.setCells _ _ (by omega) (by rw [ints_len]; omega))
        have hmin : m = Nat.min m 128 := (Nat.min_eq_left (by omega)).symm
        have HI : Hid (i = n1 / 64 ∧ m = n1 % 64) := hi
        have HE : Hid (EngAt .u32 (wr.setCells b (o + 8) (ints .u8 m (fun j => bs1 (n1 / (2 * Ru.m rn) * (2 * Ru.m rn) + j)))) b o (loopS rn K s1 bs1 i) (over R1 0 m (fun j => bs1 (n1 / (2 * Ru.m rn) * (2 * Ru.m rn) + j))) ct) := hE8
        have HO : Hid (Out b o 137 w (wr.setCells b (o + 8) (ints .u8 m (fun j => bs1 (n1 / (2 * Ru.m rn) * (2 * Ru.m rn) + j))))) := hO8
        have hmi : Hid (m = Nat.min m 128) := hmin
        clear hi hE8 hO8 hcell1 hcub hmin
        go_wp2_with (refine wpList_copy_bytes rfl _ _ 22 22 rfl 5 Tryd.underlying22 (by kernel_rfl) b (o + 8) 128 128 (some ⟨bb, p, none⟩) m cp rfl rfl m (fun j => bs1 (n1 / (2 * Ru.m rn) * (2 * Ru.m rn) + j)) hsrc hmi.out hth ?_)
        go_end0
        refine ⟨rfl, ?_, HO.out⟩
        have e : tailE rn K s1 R1 n1 bs1 = (loopS rn K s1 bs1 i, over R1 0 m (fun j => bs1 (n1 / (2 * Ru.m rn) * (2 * Ru.m rn) + j))) := by rw [HI.out.1, HI.out.2]; rfl
        rw [← HS1.out, ← HN1.out, ← HB1.out, ← HCT.out, e]
        exact HE.out
theorem sliceRest_64 (W : World) (b o h : Nat) (hh : h ≤ 128) (_hz : h < 128) : (Instr.sliceAt 36 (.pointer (some ⟨b, o + 8, none⟩)) (some (.int .i64 h)) (some (.int .i64 128)) none).run Tryd.prog W = .ok (.slice (some ⟨b, o + 8 + h, none⟩) (128 - h) (128 - h)) W := by
  have h1 : Tryd.prog.arrayLen 36 = 128 := by kernel_rfl
  have h2 : Tryd.prog.elem 36 = 5 := by kernel_rfl
  have h3 : ((sizeOf 5).run Tryd.prog W) = .ok 1 W := by kernel_rfl
  rw [run_sliceAt_array_lh W 36 ⟨b, o + 8, none⟩ (by kernel_rfl) .i64 .i64 h 128 (by omega) (by omega) (by rw [h1]; decide), h2, h3, h1]
  simp only [Result.andThen_ok, slicedAt, Int.toNat_natCast, Nat.mul_one, Addr.add_mid]
  rw [if_neg (by omega)]
  rfl
set_option maxRecDepth 20000 in
set_option maxHeartbeats 1000000 in
theorem write64_B (s : St) (R : Nat → Nat) (b o c n bb ob cap h : Nat) (bs : Nat → Nat) (w : World)
    (hE : EngAt .u64 w b o s R c) (hbb : bb ≠ b) (hcn : c + n < 4611686018427387904)
    (hcell : ∀ j, j < n → w.cell? ⟨bb, ob + j, none⟩ = some (.int .u8 (bs j))) (hmod : (c : Int) % 128 = (h : Int)) (h0 : 0 < h) (hlt : h + n < 128) :
    Calls Tryd.prog 39 #[.pointer (some ⟨b, o, none⟩), (.agg #[.int .i64 64, .int .i64 80, .int .u64 1, .int .u64 8, .int .u64 7, .int .u64 19, .int .u64 61, .int .u64 6, .int .u64 28, .int .u64 34, .int .u64 39, .int .u64 14, .int .u64 18, .int .u64 41]), .slice (some ⟨bb, ob, none⟩) n cap] w
      fun e w' => e = .returned (.tuple #[]) ∧ EngAt .u64 w' b o s (over R h n bs) (c + n) ∧ Out b o 137 w w' := by
  have hmi : Hid (n = Nat.min n (128 - h)) := (Nat.min_eq_left (by omega)).symm
  have hmi' : ((h : Int) + n) < 128 := by omega
  have hsl := fun W => sliceRest_64 W b o h (by omega) (by omega)
  go_enter Tryd.func39, Tryd.ntmps39
  go_wp2_with (first
    | (go_at_call 48; refine (blockSize64_any _).mono ?_; rintro e w1 ⟨rfl, hb1⟩; obtain ⟨hE1, hO1, hR1, hsz1, hc1, hf1⟩ := begun64 (n := n) hE hb1; have hsrc : Src (w1.setCell ⟨b, o + 136, none⟩ (.int .i64 ((c : Int) + n))) (some ⟨bb, ob, none⟩) n bs := .inr ⟨bb, ob, rfl, fun j hj => (hO1.cell' (block_lt_of_cell (hcell j hj)) hbb).trans (hcell j hj)⟩; have hth : (w1.setCell ⟨b, o + 136, none⟩ (.int .i64 ((c : Int) + n))).there b (o + 8 + h) (128 - h) := RowAt.there_part hE1.rest (by omega); clear hb1 hR1)
    | (refine wpList_copy_bytes rfl _ _ 22 22 rfl 5 Tryd.underlying22 (by kernel_rfl) b (o + 8 + h) (128 - h) _ (some ⟨bb, ob, none⟩) n cap rfl rfl n bs hsrc hmi.out hth ?_))
  exact bodyPost_ret (results_none Tryd.results39 _ _ _) rfl ⟨rfl, hE1.bytes h n bs (by omega), hO1.trans (Out.setCells _ _ (by omega) (by rw [ints_len]; omega))⟩
set_option maxRecDepth 20000 in
set_option maxHeartbeats 2000000 in
theorem write64_C (K : Nat → Nat) (hK : ∀ j, K j < 18446744073709551616) (s : St) (hs : s.lt 18446744073709551616) (R : Nat → Nat) (hR : ∀ j, R j < 256) (b o c n bb ob cap h : Nat) (bs : Nat → Nat) (hbs : ∀ j, bs j < 256) (w : World)
    (hE : EngAt .u64 w b o s R c) (hcub : ∀ j, j < 80 → w.cell? ⟨3, j, none⟩ = some (.int .u64 (K j))) (hb3 : 3 ≠ b) (hbb : bb ≠ b) (hcap : n ≤ cap) (hcn : c + n < 4611686018427387904)
    (hcell : ∀ j, j < n → w.cell? ⟨bb, ob + j, none⟩ = some (.int .u8 (bs j))) (hmod : (c : Int) % 128 = (h : Int)) (h0 : 0 < h) (_hhz : h < 128) (hge : 128 ≤ h + n) :
    Calls Tryd.prog 39 #[.pointer (some ⟨b, o, none⟩), (.agg #[.int .i64 64, .int .i64 80, .int .u64 1, .int .u64 8, .int .u64 7, .int .u64 19, .int .u64 61, .int .u64 6, .int .u64 28, .int .u64 34, .int .u64 39, .int .u64 14, .int .u64 18, .int .u64 41]), .slice (some ⟨bb, ob, none⟩) n cap] w
      fun e w' => e = .returned (.tuple #[]) ∧ EngAt .u64 w' b o (tailE rw6 K (blockS rw6 K (over R h (128 - h) bs) s) (over R h (128 - h) bs) (n - (128 - h)) (fun j => bs (128 - h + j))).1 (tailE rw6 K (blockS rw6 K (over R h (128 - h) bs) s) (over R h (128 - h) bs) (n - (128 - h)) (fun j => bs (128 - h + j))).2 (c + n) ∧ Out b o 137 w w' := by
  obtain ⟨d, hd⟩ : ∃ d, d = 128 - h := ⟨_, rfl⟩
  rw [← hd]
  have Hd : Hid (d = 128 - h) := hd
  have hdn : d ≤ n := by omega
  have hdZ : d ≤ 128 := by omega
  have hd1 : 0 < d := by omega
  have hhd : (h : Int) + d = 128 := by omega
  clear hd
  have hmi : Hid (d = Nat.min n d) := (Nat.min_eq_right hdn).symm
  have hsl : ∀ W : World, (Instr.sliceAt 36 (.pointer (some ⟨b, o + 8, none⟩)) (some (.int .i64 h)) (some (.int .i64 128)) none).run Tryd.prog W = .ok (.slice (some ⟨b, o + 8 + h, none⟩) d (128 - h)) W := fun W => by rw [Hd.out]; exact sliceRest_64 W b o h (by omega) (by omega)
  obtain ⟨R1, hR1e⟩ : ∃ R1, R1 = over R h d bs := ⟨_, rfl⟩
  have hR1l : ∀ j, R1 j < 256 := by rw [hR1e]; exact over_lt hR hbs
  have HR1 : Hid (R1 = over R h d bs) := hR1e
  rw [← hR1e]
  clear hR1e
  go_enter Tryd.func39, Tryd.ntmps39
  go_wp2_with (first
    | (go_at_call 48; refine (blockSize64_any _).mono ?_; rintro e w1 ⟨rfl, hb1⟩; obtain ⟨hE1, hO1, hR1, hsz1, hc1, hf1⟩ := begun64 (n := n) hE hb1; have hsrc : Src (w1.setCell ⟨b, o + 136, none⟩ (.int .i64 ((c : Int) + n))) (some ⟨bb, ob, none⟩) n bs := .inr ⟨bb, ob, rfl, fun j hj => (hO1.cell' (block_lt_of_cell (hcell j hj)) hbb).trans (hcell j hj)⟩; have hth : (w1.setCell ⟨b, o + 136, none⟩ (.int .i64 ((c : Int) + n))).there b (o + 8 + h) d := RowAt.there_part hE1.rest (by have := Hd.out; omega); clear hb1)
    | (refine wpList_copy_bytes rfl _ _ 22 22 rfl 5 Tryd.underlying22 (by kernel_rfl) b (o + 8 + h) d _ (some ⟨bb, ob, none⟩) n cap rfl rfl d bs hsrc hmi.out hth ?_; clear hsrc hth hmi hc1 hf1 hsl))
  obtain ⟨w2, hw2⟩ : ∃ w2, w2 = (w1.setCell ⟨b, o + 136, none⟩ (.int .i64 ((c : Int) + n))).setCells b (o + 8 + h) (ints .u8 d bs) := ⟨_, rfl⟩
  have hE2 : EngAt .u64 w2 b o s R1 (c + n) := by rw [hw2, HR1.out]; exact hE1.bytes h d bs (by have := Hd.out; omega)
  have hO2 : Out b o 137 w w2 := by rw [hw2]; exact hO1.trans (Out.setCells _ _ (by omega) (by rw [ints_len]; have := Hd.out; omega))
  have hR2 : Rules64 w2 w.heap.size := by rw [hw2]; exact hR1.same (fun q => World.cell?_of_block (heap_setCells_other b _ _ _ _ (Nat.ne_of_gt (block_lt_of_cell hE.cnt))))
  have hsz2 : w.heap.size < w2.heap.size := by rw [hw2, (setCells_same b _ _ _).2.2.2]; simpa using hsz1
  rw [← hw2]
  clear hw2 hE1 hO1 hR1 hsz1 hR
  obtain ⟨ct, hct⟩ : ∃ ct, ct = c + n := ⟨_, rfl⟩
  have HCT : Hid (ct = c + n) := hct
  rw [← hct] at hE2
  clear hct
  have hcw : ∀ j, j < 80 → w2.drew.cell? ⟨3, j, none⟩ = some (.int .u64 (K j)) := fun j hj => (hO2.cell' (block_lt_of_cell (hcub j hj)) hb3).trans (hcub j hj)
  have hmix := mix64_any K hK s hs b (o + 8) 128 R1 hR1l w2.drew hcw (fun j hj => (hE2.rest j (by omega)).1)
  obtain ⟨q0, q1, q2, q3, q4, q5, q6, q7⟩ := hE2.st.st'
  obtain ⟨p0, p1, p2, p3, p4, p5, p6, p7, p8, p9, p10, p11, p12, p13⟩ := id hR2
  have hbw : Below w2.heap.size w2 w2.drew := (Below.refl _ _).drew
  obtain ⟨s1, hs1e⟩ : ∃ s1, s1 = blockS rw6 K R1 s := ⟨_, rfl⟩
  have hs1 : s1.lt 18446744073709551616 := by rw [hs1e]; exact addS_lt (r := rw6)
  have HS1 : Hid (s1 = blockS rw6 K R1 s) := hs1e
  rw [← hs1e] at hmix
  clear hcw hs1e
  go_cut [2] from 41 (fun v wc => v = .slice (some ⟨bb, ob, none⟩) n cap ∧ EngAt .u64 wc b o s1 R1 ct ∧ Out b o 137 w wc ∧ Rules64 wc w.heap.size ∧ w.heap.size < wc.heap.size)
  case first =>
    clear hcell hcub
    go_region_with ((go_at_call 56; refine hmix.mono ?_; rintro e w' ⟨rfl, hbm⟩; have hE5 := hE2.below (below_next hbw hbm); have hst := store8_64 w' b o s1 hE5.st.there))
    all_goals
      have hE6 := hE5.state s1
      have hO6 : Out b o 137 w (w'.setCells b o (St.vals .u64 s1).toList) := hO2.trans ((Out.of_below (below_next hbw hbm) (block_lt_of_cell hE2.cnt)).trans (Out.setCells _ _ (Nat.le_refl _) (by rw [vals_ints, ints_len]; omega)))
      have hR6 : Rules64 (w'.setCells b o (St.vals .u64 s1).toList) w.heap.size := (hR2.below (below_next hbw hbm) hsz2).same (fun q => World.cell?_of_block (heap_setCells_other b _ _ _ _ (Nat.ne_of_gt (block_lt_of_cell hE.cnt))))
      have hZ6 : w.heap.size < (w'.setCells b o (St.vals .u64 s1).toList).heap.size := by rw [(setCells_same b _ _ _).2.2.2]; have := hbm.size; simp only [World.size_drew] at this; omega
      clear hst hE5 p0 p1 p2 p3 p4 p5 p6 p7 p8 p9 p10 p11 p12 p13 q0 q1 q2 q3 q4 q5 q6 q7 hmix hbw hbm
      go_wp2
      go_meet
      case rel => exact ⟨rfl, hE6, hO6, hR6, hZ6⟩
  case rest =>
    obtain ⟨rfl, hE1, hO1, hR1, hsz1⟩ := hcut
    clear hmix q0 q1 q2 q3 q4 q5 q6 q7 p0 p1 p2 p3 p4 p5 p6 p7 p8 p9 p10 p11 p12 p13 hbw hE2 hO2 hR2 hsz2
    obtain ⟨n1, hn1⟩ : ∃ n1, n1 = n - d := ⟨_, rfl⟩
    obtain ⟨ob1, hob1⟩ : ∃ ob1, ob1 = ob + d := ⟨_, rfl⟩
    obtain ⟨bs1, hbs1e⟩ : ∃ bs1 : Nat → Nat, bs1 = fun j => bs (d + j) := ⟨_, rfl⟩
    have hbs1 : ∀ j, bs1 j < 256 := by rw [hbs1e]; exact fun j => hbs _
    have hcell1 : ∀ j, j < n1 → w.cell? ⟨bb, ob1 + j, none⟩ = some (.int .u8 (bs1 j)) := fun j hj => by
      rw [hob1, hbs1e, Nat.add_assoc]; exact hcell (d + j) (by omega)
    have HN1 : Hid (n1 = n - d) := hn1
    have HO1 : Hid (ob1 = ob + d) := hob1
    have HB1 : Hid (bs1 = fun j => bs (d + j)) := hbs1e
    obtain ⟨p1, hp1⟩ : ∃ p1, p1 = (if cap = d then ob else ob + d) := ⟨_, rfl⟩
    have hslb : ∀ W : World, (Instr.sliceAt 22 (.slice (some ⟨bb, ob, none⟩) n cap) (some (.int .i64 d)) none none).run Tryd.prog W = .ok (.slice (some ⟨bb, p1, none⟩) (n - d) (cap - d)) W := fun W => by rw [hp1]; exact sliceFrom W bb ob n cap d hdn
    have HP1 : Hid (p1 = (if cap = d then ob else ob + d)) := hp1
    clear hn1 hob1 hbs1e hcell hp1
    go_wp2
    clear hslb
    go_loopw [2] (fun v wr => ∃ i m p cp : Nat, v = .slice (some ⟨bb, p, none⟩) m cp ∧ Hid (n1 = i * 128 + m) ∧ Hid (m = 0 ∨ p = ob1 + i * 128) ∧ m ≤ cp ∧ EngAt .u64 wr b o (loopS rw6 K s1 bs1 i) R1 ct ∧ Out b o 137 w wr ∧ Rules64 wr w.heap.size ∧ w.heap.size < wr.heap.size) (fun v _ => lenV v)
    case atStart =>
      refine ⟨0, n - d, p1, cap - d, rfl, (by rw [HN1.out, Nat.zero_mul, Nat.zero_add] : n1 = 0 * 128 + (n - d)), ?_, by omega, hE1, hO1, hR1, hsz1⟩
      show n - d = 0 ∨ p1 = ob1 + 0 * 128
      rw [HO1.out, Nat.zero_mul, Nat.add_zero]
      by_cases hq : cap = d
      · left; omega
      · right; rw [HP1.out, if_neg hq]
    case round =>
      clear hE1 hO1 hR1 hsz1
      obtain ⟨i, m, p, cp, rfl, Hn, Hp, hm, hE1, hO1, hR1, hsz1⟩ := hrel
      have hmn : m ≤ n1 := by have := Hn.out; omega
      by_cases hlt : 128 ≤ m
      · have hsi : (loopS rw6 K s1 bs1 i).lt 18446744073709551616 := loopS_lt (r := rw6) hs1 i
        have hcw : ∀ j, j < 80 → wr.drew.cell? ⟨3, j, none⟩ = some (.int .u64 (K j)) := fun j hj => (hO1.cell' (block_lt_of_cell (hcub j hj)) hb3).trans (hcub j hj)
        have hcl : ∀ j, j < 128 → wr.drew.cell? ⟨bb, p + j, none⟩ = some (.int .u8 (bs1 (i * (2 * Ru.m rw6) + j))) := fun j hj => by
          have h1 := hcell1 (i * 128 + j) (by have := Hn.out; omega)
          have h2 := (hO1.cell' (q := ob1 + (i * 128 + j)) (block_lt_of_cell h1) hbb).trans h1
          rw [← Nat.add_assoc, ← Hp.out.resolve_left (by omega)] at h2
          exact h2
        have hmix := mix64_any K hK (loopS rw6 K s1 bs1 i) hsi bb p cp (fun j => bs1 (i * (2 * Ru.m rw6) + j)) (fun j => hbs1 _) wr.drew hcw hcl
        obtain ⟨q0, q1, q2, q3, q4, q5, q6, q7⟩ := hE1.st.st'
        obtain ⟨x, hx⟩ : ∃ x, x = loopS rw6 K s1 bs1 i := ⟨_, rfl⟩
        have HX : Hid (x = loopS rw6 K s1 bs1 i) := hx
        rw [← hx] at hmix q0 q1 q2 q3 q4 q5 q6 q7
        clear hx hcl hcw hcell1 hcub
        obtain ⟨p0, p1, p2, p3, p4, p5, p6, p7, p8, p9, p10, p11, p12, p13⟩ := hR1
        have hbw : Below wr.heap.size wr wr.drew := (Below.refl _ _).drew
        go_wp2
        go_region_with ((go_at_call 56; refine hmix.mono ?_; rintro e w' ⟨rfl, hbm⟩; have hE5 := hE1.below (below_next hbw hbm); have hst := store8_64 w' b o (blockS rw6 K (fun j => bs1 (i * (2 * Ru.m rw6) + j)) x) hE5.st.there))
        all_goals
          have hE6 := hE5.state (blockS rw6 K (fun j => bs1 (i * (2 * Ru.m rw6) + j)) x)
          have hO6 : Out b o 137 w (w'.setCells b o (St.vals .u64 (blockS rw6 K (fun j => bs1 (i * (2 * Ru.m rw6) + j)) x)).toList) := hO1.trans ((Out.of_below (below_next hbw hbm) (block_lt_of_cell hE1.cnt)).trans (Out.setCells _ _ (Nat.le_refl _) (by rw [vals_ints, ints_len]; omega)))
          have hR6 : Rules64 (w'.setCells b o (St.vals .u64 (blockS rw6 K (fun j => bs1 (i * (2 * Ru.m rw6) + j)) x)).toList) w.heap.size := (Rules64.below ⟨p0, p1, p2, p3, p4, p5, p6, p7, p8, p9, p10, p11, p12, p13⟩ (below_next hbw hbm) hsz1).same (fun q => World.cell?_of_block (heap_setCells_other b _ _ _ _ (Nat.ne_of_gt (block_lt_of_cell hE.cnt))))
          have hZ6 : w.heap.size < (w'.setCells b o (St.vals .u64 (blockS rw6 K (fun j => bs1 (i * (2 * Ru.m rw6) + j)) x)).toList).heap.size := by rw [(setCells_same b _ _ _).2.2.2]; have := hbm.size; simp only [World.size_drew] at this; omega
          clear hst hE5 p0 p1 p2 p3 p4 p5 p6 p7 p8 p9 p10 p11 p12 p13 q0 q1 q2 q3 q4 q5 q6 q7 hmix hbw hbm
          go_wp2
          go_roundw
          case rel =>
            have hn' : n1 = (i + 1) * 128 + (m - 128) := by have := Hn.out; omega
            have hE7 : EngAt .u64 (w'.setCells b o (St.vals .u64 (blockS rw6 K (fun j => bs1 (i * (2 * Ru.m rw6) + j)) x)).toList) b o (loopS rw6 K s1 bs1 (i + 1)) R1 ct := by
              show EngAt _ _ _ _ (blockS rw6 K (fun j => bs1 (i * (2 * Ru.m rw6) + j)) (loopS rw6 K s1 bs1 i)) _ _
              rw [← HX.out]; exact hE6
            by_cases hcp : cp = 128
            · exact ⟨i + 1, m - 128, p, cp - 128, by rw [if_pos hcp], hn', .inl (by omega), by omega, hE7, hO6, hR6, hZ6⟩
            · exact ⟨i + 1, m - 128, p + 128, cp - 128, by rw [if_neg hcp], hn', .inr (by have := Hp.out; omega), by omega, hE7, hO6, hR6, hZ6⟩
          case measure => simp [lenV]; omega
      · have hi : i = n1 / 128 ∧ m = n1 % 128 := by have := Hn.out; omega
        have hsrc : Src wr (some ⟨bb, p, none⟩) m (fun j => bs1 (n1 / (2 * Ru.m rw6) * (2 * Ru.m rw6) + j)) := by
          by_cases h0 : m = 0
          · exact .inl h0
          · refine .inr ⟨bb, p, rfl, fun j hj => ?_⟩
            have h1 := hcell1 (i * 128 + j) (by have := Hn.out; omega)
            have h2 := (hO1.cell' (q := ob1 + (i * 128 + j)) (block_lt_of_cell h1) hbb).trans h1
            rw [← Nat.add_assoc, ← Hp.out.resolve_left h0, hi.1] at h2
            exact h2
        have hE8 := hE1.bytes 0 m (fun j => bs1 (n1 / (2 * Ru.m rw6) * (2 * Ru.m rw6) + j)) (by omega)
        have hth := hE1.rest.there
        have hO8 : Out b o 137 w (wr.setCells b (o + 8) (ints .u8 m (fun j => bs1 (n1 / (2 * Ru.m rw6) * (2 * Ru.m rw6) + j)))) := hO1.trans (Out.setCells _ _ (by omega) (by rw [ints_len]; omega))
        have hmin : m = Nat.min m 128 := (Nat.min_eq_left (by omega)).symm
        have HI : Hid (i = n1 / 128 ∧ m = n1 % 128) := hi
        have HE : Hid (EngAt .u64 (wr.setCells b (o + 8) (ints .u8 m (fun j => bs1 (n1 / (2 * Ru.m rw6) * (2 * Ru.m rw6) + j)))) b o (loopS rw6 K s1 bs1 i) (over R1 0 m (fun j => bs1 (n1 / (2 * Ru.m rw6) * (2 * Ru.m rw6) + j))) ct) := hE8
        have HO : Hid (Out b o 137 w (wr.setCells b (o + 8) (ints .u8 m (fun j => bs1 (n1 / (2 * Ru.m rw6) * (2 * Ru.m rw6) + j))))) := hO8
        have hmi : Hid (m = Nat.min m 128) := hmin
        clear hi hE8 hO8 hcell1 hcub hmin
        go_wp2_with (refine wpList_copy_bytes rfl _ _ 22 22 rfl 5 Tryd.underlying22 (by kernel_rfl) b (o + 8) 128 128 (some ⟨bb, p, none⟩) m cp rfl rfl m (fun j => bs1 (n1 / (2 * Ru.m rw6) * (2 * Ru.m rw6) + j)) hsrc hmi.out hth ?_)
        go_end0
        refine ⟨rfl, ?_, HO.out⟩
        have e : tailE rw6 K s1 R1 n1 bs1 = (loopS rw6 K s1 bs1 i, over R1 0 m (fun j => bs1 (n1 / (2 * Ru.m rw6) * (2 * Ru.m rw6) + j))) := by rw [HI.out.1, HI.out.2]; rfl
        rw [← HS1.out, ← HN1.out, ← HB1.out, ← HCT.out, e]
        exact HE.out
end Go.Proofs.YtlfofbkanifocaaDoor
