/- What From, Plus and Minus of the reference do in the model. -/
import Derived.Test.YtinigkpidhbgcaaRefCarry
namespace Go.Proofs.Ytinigkpidhbgcaa
open Go.RowKit
/-- Limbs of bytes. -/
def fromL (bs : Nat → Nat) : Nat → Int := fun j => (bs (2 * j) : Int) + (bs (2 * j + 1) : Int) * 256
theorem valR_from (bs : Nat → Nat) : ∀ n, valR (fromL bs) n = ((ofB bs (2 * n) : Nat) : Int)
  | 0 => rfl
  | n + 1 => by
    rw [valR, valR_from bs n, show 2 * (n + 1) = 2 * n + 1 + 1 by omega, ofB, ofB]
    unfold fromL
    have e1 : (65536 : Int) ^ n = ((256 ^ (2 * n) : Nat) : Int) := by
      rw [Nat.pow_mul, show (256 : Nat) ^ 2 = 65536 from rfl]; simp
    rw [e1, Nat.pow_succ]
    generalize 256 ^ (2 * n) = P
    rw [Int.natCast_add, Int.natCast_add, Int.natCast_mul, Int.natCast_mul, Int.natCast_mul, Int.add_mul, Int.mul_comm (bs (2 * n) : Int), Int.mul_assoc (P : Int), Int.mul_comm ((bs (2 * n + 1) : Int) * 256) (P : Int), Int.mul_comm (bs (2 * n + 1) : Int) 256, ← Int.add_assoc]
    rfl
theorem fromL_dig (bs : Nat → Nat) (hb : ∀ j, bs j < 256) (j : Nat) : 0 ≤ fromL bs j ∧ fromL bs j ≤ 65535 := by
  have h1 := hb (2 * j)
  have h2 := hb (2 * j + 1)
  unfold fromL; omega
set_option maxRecDepth 20000 in
set_option maxHeartbeats 2000000 in
theorem rfrom_any (bb ob c : Nat) (bs : Nat → Nat) (hbs : ∀ j, bs j < 256) (w : World) (hbl : bb < w.heap.size) (hc : ∀ j, j < 32 → w.cell? ⟨bb, ob + j, none⟩ = some (.int .u8 (bs j))) :
    Calls Try.prog 32 #[.slice (some ⟨bb, ob, none⟩) 32 c] w fun e w' => e = .returned (refV (fromL bs)) ∧ Below w.heap.size w w' := by
  have hz := zeroR
  obtain ⟨W, hW⟩ : ∃ W, W = (w.alloc (.cells zI 52)).alloc (.cells zI 52) := ⟨_, rfl⟩
  have HW := Hid.mk' hW
  have hWs : W.heap.size = w.heap.size + 1 + 1 := by rw [hW]; simp
  have hbW : Below w.heap.size w W := by rw [hW]; exact ((Below.refl _ _).alloc (Nat.le_refl _) _).alloc (by simp) _
  have hres : IRow W w.heap.size 16 (fun _ => 0) := by rw [hW]; exact (IRow.fresh w zI _ (fun j hj => zI_at j hj)).below ((Below.refl _ _).alloc (Nat.le_refl _) _) (by simp)
  have hrow0 : IRow W (w.heap.size + 1) 16 (fun _ => 0) := by
    have := IRow.fresh (w.alloc (.cells zI 52)) zI 52 (n := 16) (L := fun _ => 0) (fun j hj => zI_at j hj)
    rw [World.size_alloc] at this
    rw [hW]; exact this
  unfold refV
  clear hW
  go_enter Try.func32, Try.ntmps32
  go_wp2
  rw [← HW.out]
  go_loopw [4] (fun i wr => ∃ k : Nat, k ≤ 16 ∧ i = .int .i64 k ∧ IRow wr (w.heap.size + 1) 16 (fun j => if j < k then fromL bs j else 0) ∧ IRow wr w.heap.size 16 (fun _ => 0) ∧ Below w.heap.size w wr) (fun i _ => 16 - (intOf i).toNat)
  case atStart => exact ⟨0, Nat.zero_le _, rfl, hrow0.congr (fun j _ => by simp), hres, hbW⟩
  case round =>
    clear hrow0 hres hbW hz
    obtain ⟨k, hk, rfl, hrow, hre, hb⟩ := hrel
    by_cases hlt : k < 16
    · obtain ⟨rk, fk⟩ := hrow k hlt
      have rk0 : wr.cell? ⟨w.heap.size + 1, k, none⟩ = some (.int .i64 0) := by simpa using rk
      have d0 : wr.cell? ⟨bb, ob + 2 * k, none⟩ = some (.int .u8 (bs (2 * k))) := (hb.cell (p := ⟨bb, ob + 2 * k, none⟩) hbl).trans (hc (2 * k) (by omega))
      have d1 : wr.cell? ⟨bb, ob + (2 * k + 1), none⟩ = some (.int .u8 (bs (2 * k + 1))) := (hb.cell (p := ⟨bb, ob + (2 * k + 1), none⟩) hbl).trans (hc (2 * k + 1) (by omega))
      have b0 := hbs (2 * k)
      have b1 := hbs (2 * k + 1)
      have q1 : (2 * (k : Int)).toNat = 2 * k := by omega
      have q2 : (2 * (k : Int) + 1).toNat = 2 * k + 1 := by omega
      have q3 : (0 : Int) ≤ 2 * (k : Int) ∧ 2 * (k : Int) < 32 := by omega
      have q4 : (0 : Int) ≤ 2 * (k : Int) + 1 ∧ 2 * (k : Int) + 1 < 32 := by omega
      clear rk
      go_wp2
      go_region
      go_wp2
      go_roundw
      case rel =>
        refine ⟨k + 1, by omega, by go_num, ?_, (hre.far (by show w.heap.size + 1 ≠ w.heap.size; omega) _).drew, (hb.setCell (by show w.heap.size ≤ w.heap.size + 1; omega) _).drew⟩
        have h1 := (hrow.set (i := k) hlt ((bs (2 * k) : Int) + (bs (2 * k + 1) : Int) * 256)).drew
        refine h1.congr (fun j hj => ?_)
        unfold updI
        by_cases e1 : j = k
        · rw [if_pos e1, if_pos (by omega), e1]; rfl
        · rw [if_neg e1]
          show (if j < k then fromL bs j else 0) = _
          by_cases e2 : j < k
          · rw [if_pos e2, if_pos (by omega)]
          · rw [if_neg e2, if_neg (by omega)]
      case measure => simp [intOf]; omega
    · have hke : k = 16 := by omega
      subst hke
      have hrow2 : IRow wr (w.heap.size + 1) 16 (fromL bs) := hrow.congr (fun j hj => by rw [if_pos hj])
      have hi1 := infoRL (fromL bs)
      have hi2 := infoRA (fromL bs)
      have ho := oneR (fromL bs)
      have hth : wr.there w.heap.size 0 (intsI 16 (fromL bs)).toArray.size := by rw [intsI_size]; exact hre.there
      go_wp2_with (first
        | (refine wpList_load_mid rfl 52 _ rfl (w.heap.size + 1) 0 rfl (intsI 16 (fromL bs)) _ hrow2.range Try.underlying52 rfl hi1 ?_)
        | (refine wpList_store_mid rfl 52 _ _ rfl w.heap.size 0 (intsI 16 (fromL bs)).toArray rfl rfl hth hi2 ho ?_))
      (try simp only [Exit.inBlock, Exit.then])
      refine bodyPost_ret (results_cell_mid Try.results32 _ _ w.heap.size 0 (intsI 16 (fromL bs)) _ rfl (World.rangeAt_setCells_same _ _ _ _ (by rw [intsI_len]; exact hre.there)) Try.underlying52 rfl hi1) rfl ⟨rfl, ?_⟩
      exact below_setCells (Nat.le_refl _) _ _ _ hb
theorem rfrom (v : Value) (bs : Nat → Nat) (hbs : ∀ j, bs j < 256) (w : World) (hv : BytesIn w v 32 bs) : Calls Try.prog 32 #[v] w fun e w' => e = .returned (refV (fromL bs)) ∧ Below w.heap.size w w' := by
  rcases hv with ⟨_, _, h0⟩ | ⟨bb, ob, cap, rfl, h1, h2, h3⟩
  · omega
  · exact rfrom_any bb ob cap bs hbs w h1 h3
set_option maxRecDepth 20000 in
set_option maxHeartbeats 2000000 in
theorem rplus_any (L M : Nat → Int) (hL : ∀ j, j < 16 → -1073741824 ≤ L j ∧ L j ≤ 1073741824) (hM : ∀ j, j < 16 → -1073741824 ≤ M j ∧ M j ≤ 1073741824) (w : World) :
    Calls Try.prog 36 #[refV L, refV M] w fun e w' => e = .returned (refV (carryL (fun j => L j + M j))) ∧ Below w.heap.size w w' := by
  have hz := zeroR
  have hcar : ∀ W, Calls Try.prog 47 #[.agg (intsI 16 (fun j => L j + M j)).toArray] W fun e w' => e = .returned (.agg (intsI 16 (carryL (fun j => L j + M j))).toArray) ∧ Below W.heap.size W w' := fun W => carry_any (fun j => L j + M j) (fun j hj => by have := hL j hj; have := hM j hj; omega) W
  obtain ⟨W, hW⟩ : ∃ W, W = ((w.alloc (.cells (intsI 16 L).toArray 52)).alloc (.cells (intsI 16 M).toArray 52)).alloc (.cells zI 52) := ⟨_, rfl⟩
  have HW := Hid.mk' hW
  have hWs : W.heap.size = w.heap.size + 1 + 1 + 1 := by rw [hW]; simp
  have hbW : Below w.heap.size w W := by rw [hW]; exact (((Below.refl _ _).alloc (Nat.le_refl _) _).alloc (by simp) _).alloc (by simp; omega) _
  have hA : IRow W w.heap.size 16 L := by rw [hW]; exact ((IRow.box w 16 L _).below ((Below.refl _ _).alloc (Nat.le_refl _) _) (by simp)).below ((Below.refl _ _).alloc (Nat.le_refl _) _) (by simp; omega)
  have hB : IRow W (w.heap.size + 1) 16 M := by
    have h1 := IRow.box (w.alloc (.cells (intsI 16 L).toArray 52)) 16 M 52
    rw [World.size_alloc] at h1
    rw [hW]; exact h1.below ((Below.refl _ _).alloc (Nat.le_refl _) _) (by simp)
  have hC : IRow W (w.heap.size + 1 + 1) 16 (fun _ => 0) := by
    have := IRow.fresh ((w.alloc (.cells (intsI 16 L).toArray 52)).alloc (.cells (intsI 16 M).toArray 52)) zI 52 (n := 16) (L := fun _ => 0) (fun j hj => zI_at j hj)
    rw [World.size_alloc, World.size_alloc] at this
    rw [hW]; exact this
  unfold refV
  clear hW
  go_enter Try.func36, Try.ntmps36
  go_wp2
  rw [← HW.out]
  go_loopw [5] (fun i wr => ∃ k : Nat, k ≤ 16 ∧ i = .int .i64 k ∧ IRow wr w.heap.size 16 (fun j => if j < k then L j + M j else L j) ∧ IRow wr (w.heap.size + 1) 16 M ∧ IRow wr (w.heap.size + 1 + 1) 16 (fun _ => 0) ∧ Below w.heap.size w wr ∧ w.heap.size + 1 + 1 < wr.heap.size) (fun i _ => 16 - (intOf i).toNat)
  case atStart => exact ⟨0, Nat.zero_le _, rfl, hA.congr (fun j _ => by simp), hB, hC, hbW, by omega⟩
  case round =>
    clear hA hB hC hbW hz
    obtain ⟨k, hk, rfl, hA, hB, hC, hb, hsz⟩ := hrel
    by_cases hlt : k < 16
    · obtain ⟨ra, fa⟩ := hA k hlt
      obtain ⟨rb, fb⟩ := hB k hlt
      have ra0 : wr.cell? ⟨w.heap.size, k, none⟩ = some (.int .i64 (L k)) := by simpa using ra
      have b0 := hL k hlt
      have b1 := hM k hlt
      clear ra hcar
      go_wp2
      go_region
      go_wp2
      go_roundw
      case rel =>
        refine ⟨k + 1, by omega, by go_num, ?_, (hB.far (by show w.heap.size ≠ w.heap.size + 1; omega) _).drew, (hC.far (by show w.heap.size ≠ w.heap.size + 1 + 1; omega) _).drew, (hb.setCell (Nat.le_refl _) _).drew, by simpa using hsz⟩
        have h1 := (hA.set (i := k) hlt (L k + M k)).drew
        refine h1.congr (fun j hj => ?_)
        unfold updI
        by_cases e1 : j = k
        · rw [if_pos e1, if_pos (by omega), e1]
        · rw [if_neg e1]
          show (if j < k then L j + M j else L j) = _
          by_cases e2 : j < k
          · rw [if_pos e2, if_pos (by omega)]
          · rw [if_neg e2, if_neg (by omega)]
      case measure => simp [intOf]; omega
    · have hke : k = 16 := by omega
      subst hke
      have hA2 : IRow wr w.heap.size 16 (fun j => L j + M j) := hA.congr (fun j hj => by rw [if_pos hj])
      obtain ⟨X, hX⟩ : ∃ X, X = fun j => L j + M j := ⟨_, rfl⟩
      obtain ⟨Y, hY⟩ : ∃ Y, Y = carryL X := ⟨_, rfl⟩
      have HY := Hid.mk' (show carryL (fun j => L j + M j) = Y by rw [hY, hX])
      have hcr := hcar wr
      rw [← hX] at hA2 hcr
      rw [← hY] at hcr
      clear hX hY hcar hA hL hM
      have hi1 := infoRL X
      have hj1 := infoRL Y
      have hi2 := infoRA Y
      have ho := oneR Y
      go_wp2_with (first
        | (refine wpList_load_mid rfl 52 _ rfl w.heap.size 0 rfl (intsI 16 X) _ hA2.range Try.underlying52 rfl hi1 ?_)
        | (go_at_call 47; refine hcr.mono ?_; clear hcr; rintro e w1 ⟨rfl, hb1⟩; (have hC1 := hC.below hb1 hsz); (have hth : w1.there (w.heap.size + 1 + 1) 0 (intsI 16 Y).toArray.size := by rw [intsI_size]; exact hC1.there); (have hbw1 : Below w.heap.size w w1 := hb.trans (hb1.mono hb.size)))
        | (refine wpList_store_mid rfl 52 _ _ rfl (w.heap.size + 1 + 1) 0 (intsI 16 Y).toArray rfl rfl hth hi2 ho ?_))
      (try simp only [Exit.inBlock, Exit.then])
      refine bodyPost_ret (results_cell_mid Try.results36 _ _ (w.heap.size + 1 + 1) 0 (intsI 16 Y) _ rfl (World.rangeAt_setCells_same _ _ _ _ (by rw [intsI_len]; exact hC1.there)) Try.underlying52 rfl hj1) rfl ⟨by rw [HY.out], ?_⟩
      exact below_setCells (by omega) _ _ _ hbw1
set_option maxRecDepth 20000 in
set_option maxHeartbeats 2000000 in
theorem rminus_any (L M : Nat → Int) (hL : ∀ j, j < 16 → -1073741824 ≤ L j ∧ L j ≤ 1073741824) (hM : ∀ j, j < 16 → -1073741824 ≤ M j ∧ M j ≤ 1073741824) (w : World) :
    Calls Try.prog 38 #[refV L, refV M] w fun e w' => e = .returned (refV (carryL (fun j => L j - M j))) ∧ Below w.heap.size w w' := by
  have hz := zeroR
  have hcar : ∀ W, Calls Try.prog 47 #[.agg (intsI 16 (fun j => L j - M j)).toArray] W fun e w' => e = .returned (.agg (intsI 16 (carryL (fun j => L j - M j))).toArray) ∧ Below W.heap.size W w' := fun W => carry_any (fun j => L j - M j) (fun j hj => by have := hL j hj; have := hM j hj; omega) W
  obtain ⟨W, hW⟩ : ∃ W, W = ((w.alloc (.cells (intsI 16 L).toArray 52)).alloc (.cells (intsI 16 M).toArray 52)).alloc (.cells zI 52) := ⟨_, rfl⟩
  have HW := Hid.mk' hW
  have hWs : W.heap.size = w.heap.size + 1 + 1 + 1 := by rw [hW]; simp
  have hbW : Below w.heap.size w W := by rw [hW]; exact (((Below.refl _ _).alloc (Nat.le_refl _) _).alloc (by simp) _).alloc (by simp; omega) _
  have hA : IRow W w.heap.size 16 L := by rw [hW]; exact ((IRow.box w 16 L _).below ((Below.refl _ _).alloc (Nat.le_refl _) _) (by simp)).below ((Below.refl _ _).alloc (Nat.le_refl _) _) (by simp; omega)
  have hB : IRow W (w.heap.size + 1) 16 M := by
    have h1 := IRow.box (w.alloc (.cells (intsI 16 L).toArray 52)) 16 M 52
    rw [World.size_alloc] at h1
    rw [hW]; exact h1.below ((Below.refl _ _).alloc (Nat.le_refl _) _) (by simp)
  have hC : IRow W (w.heap.size + 1 + 1) 16 (fun _ => 0) := by
    have := IRow.fresh ((w.alloc (.cells (intsI 16 L).toArray 52)).alloc (.cells (intsI 16 M).toArray 52)) zI 52 (n := 16) (L := fun _ => 0) (fun j hj => zI_at j hj)
    rw [World.size_alloc, World.size_alloc] at this
    rw [hW]; exact this
  unfold refV
  clear hW
  go_enter Try.func38, Try.ntmps38
  go_wp2
  rw [← HW.out]
  go_loopw [5] (fun i wr => ∃ k : Nat, k ≤ 16 ∧ i = .int .i64 k ∧ IRow wr w.heap.size 16 (fun j => if j < k then L j - M j else L j) ∧ IRow wr (w.heap.size + 1) 16 M ∧ IRow wr (w.heap.size + 1 + 1) 16 (fun _ => 0) ∧ Below w.heap.size w wr ∧ w.heap.size + 1 + 1 < wr.heap.size) (fun i _ => 16 - (intOf i).toNat)
  case atStart => exact ⟨0, Nat.zero_le _, rfl, hA.congr (fun j _ => by simp), hB, hC, hbW, by omega⟩
  case round =>
    clear hA hB hC hbW hz
    obtain ⟨k, hk, rfl, hA, hB, hC, hb, hsz⟩ := hrel
    by_cases hlt : k < 16
    · obtain ⟨ra, fa⟩ := hA k hlt
      obtain ⟨rb, fb⟩ := hB k hlt
      have ra0 : wr.cell? ⟨w.heap.size, k, none⟩ = some (.int .i64 (L k)) := by simpa using ra
      have b0 := hL k hlt
      have b1 := hM k hlt
      clear ra hcar
      go_wp2
      go_region
      go_wp2
      go_roundw
      case rel =>
        refine ⟨k + 1, by omega, by go_num, ?_, (hB.far (by show w.heap.size ≠ w.heap.size + 1; omega) _).drew, (hC.far (by show w.heap.size ≠ w.heap.size + 1 + 1; omega) _).drew, (hb.setCell (Nat.le_refl _) _).drew, by simpa using hsz⟩
        have h1 := (hA.set (i := k) hlt (L k - M k)).drew
        refine h1.congr (fun j hj => ?_)
        unfold updI
        by_cases e1 : j = k
        · rw [if_pos e1, if_pos (by omega), e1]
        · rw [if_neg e1]
          show (if j < k then L j - M j else L j) = _
          by_cases e2 : j < k
          · rw [if_pos e2, if_pos (by omega)]
          · rw [if_neg e2, if_neg (by omega)]
      case measure => simp [intOf]; omega
    · have hke : k = 16 := by omega
      subst hke
      have hA2 : IRow wr w.heap.size 16 (fun j => L j - M j) := hA.congr (fun j hj => by rw [if_pos hj])
      obtain ⟨X, hX⟩ : ∃ X, X = fun j => L j - M j := ⟨_, rfl⟩
      obtain ⟨Y, hY⟩ : ∃ Y, Y = carryL X := ⟨_, rfl⟩
      have HY := Hid.mk' (show carryL (fun j => L j - M j) = Y by rw [hY, hX])
      have hcr := hcar wr
      rw [← hX] at hA2 hcr
      rw [← hY] at hcr
      clear hX hY hcar hA hL hM
      have hi1 := infoRL X
      have hj1 := infoRL Y
      have hi2 := infoRA Y
      have ho := oneR Y
      go_wp2_with (first
        | (refine wpList_load_mid rfl 52 _ rfl w.heap.size 0 rfl (intsI 16 X) _ hA2.range Try.underlying52 rfl hi1 ?_)
        | (go_at_call 47; refine hcr.mono ?_; clear hcr; rintro e w1 ⟨rfl, hb1⟩; (have hC1 := hC.below hb1 hsz); (have hth : w1.there (w.heap.size + 1 + 1) 0 (intsI 16 Y).toArray.size := by rw [intsI_size]; exact hC1.there); (have hbw1 : Below w.heap.size w w1 := hb.trans (hb1.mono hb.size)))
        | (refine wpList_store_mid rfl 52 _ _ rfl (w.heap.size + 1 + 1) 0 (intsI 16 Y).toArray rfl rfl hth hi2 ho ?_))
      (try simp only [Exit.inBlock, Exit.then])
      refine bodyPost_ret (results_cell_mid Try.results38 _ _ (w.heap.size + 1 + 1) 0 (intsI 16 Y) _ rfl (World.rangeAt_setCells_same _ _ _ _ (by rw [intsI_len]; exact hC1.there)) Try.underlying52 rfl hj1) rfl ⟨by rw [HY.out], ?_⟩
      exact below_setCells (by omega) _ _ _ hbw1
end Go.Proofs.Ytinigkpidhbgcaa
