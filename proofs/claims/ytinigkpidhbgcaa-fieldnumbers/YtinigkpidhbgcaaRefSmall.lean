/- What Small of the reference does in the model, of any number. -/
import Derived.Test.YtinigkpidhbgcaaRefCarry
namespace Go.Proofs.Ytinigkpidhbgcaa
open Go.RowKit
/-- The limbs of a number. -/
def smL (x : Int) : Nat → Int := fun j => if j < 3 then x / 65536 ^ j % 65536 else if j = 3 then x / 65536 ^ 3 else 0
def smK (x : Int) (k : Nat) : Nat → Int := fun j => if j < k then x / 65536 ^ j % 65536 else 0
theorem smL_val (x : Int) : valR (smL x) 16 = x := by
  have e : ∀ j, 4 ≤ j → smL x j = 0 := fun j h => by unfold smL; rw [if_neg (by omega), if_neg (by omega)]
  simp only [valR]
  rw [e 4 (by decide), e 5 (by decide), e 6 (by decide), e 7 (by decide), e 8 (by decide), e 9 (by decide), e 10 (by decide), e 11 (by decide), e 12 (by decide), e 13 (by decide), e 14 (by decide), e 15 (by decide)]
  simp only [smL]
  simp
  omega
theorem and_mask (x : Int) : bits .and .i64 x 65535 = x % 65536 := by
  show IntKind.i64.wrap ((BitVec.ofInt 64 x &&& BitVec.ofInt 64 65535).toNat : Int) = _
  rw [BitVec.toNat_and, BitVec.toNat_ofInt, show (BitVec.ofInt 64 65535).toNat = 65535 by decide, Nat.and_two_pow_sub_one_eq_mod _ 16, IntKind.wrap_i64]
  have : ((2 : Nat) ^ 64 : Int) = 18446744073709551616 := by decide
  omega
set_option maxRecDepth 20000 in
set_option maxHeartbeats 2000000 in
theorem rsmall_any (x : Int) (h1 : -9223372036854775808 ≤ x) (h2 : x ≤ 9223372036854775807) (w : World) :
    Calls Try.prog 34 #[.int .i64 x] w fun e w' => e = .returned (refV (carryL (smL x))) ∧ Below w.heap.size w w' := by
  have hz := zeroR
  have hcar := fun W => carry_any (smL x) (fun j _ => by
    unfold smL
    split
    · omega
    · split
      · have : (65536 : Int) ^ 3 = 281474976710656 := by decide
        rw [this]; omega
      · decide) W
  obtain ⟨W, hW⟩ : ∃ W, W = (w.alloc (.cells zI 52)).alloc (.cells zI 52) := ⟨_, rfl⟩
  have HW := Hid.mk' hW
  have hWs : W.heap.size = w.heap.size + 1 + 1 := by rw [hW]; simp
  have hbW : Below w.heap.size w W := by rw [hW]; exact ((Below.refl _ _).alloc (Nat.le_refl _) _).alloc (by simp) _
  have hres : IRow W w.heap.size 16 (fun _ => 0) := by rw [hW]; exact (IRow.fresh w zI _ (fun j hj => zI_at j hj)).below ((Below.refl _ _).alloc (Nat.le_refl _) _) (by simp)
  have hrow0 : IRow W (w.heap.size + 1) 16 (smK x 0) := by
    have := IRow.fresh (w.alloc (.cells zI 52)) zI 52 (n := 16) (L := fun _ => 0) (fun j hj => zI_at j hj)
    rw [World.size_alloc] at this
    rw [hW]; exact this.congr (fun j _ => by unfold smK; rw [if_neg (by omega)])
  obtain ⟨X, hX⟩ : ∃ X, X = carryL (smL x) := ⟨_, rfl⟩
  rw [← hX] at hcar ⊢
  unfold refV at hcar ⊢
  clear hW hX
  go_enter Try.func34, Try.ntmps34
  go_wp2
  rw [← HW.out]
  go_loopw [0, 4] (fun y i wr => ∃ k : Nat, k ≤ 3 ∧ y = .int .i64 (x / 65536 ^ k) ∧ i = .int .i64 k ∧ IRow wr (w.heap.size + 1) 16 (smK x k) ∧ IRow wr w.heap.size 16 (fun _ => 0) ∧ Below w.heap.size w wr ∧ w.heap.size + 1 < wr.heap.size) (fun _ i _ => 3 - (intOf i).toNat)
  case atStart => exact ⟨0, Nat.zero_le _, by simp, rfl, hrow0, hres, hbW, by omega⟩
  case round =>
    clear hrow0 hres hbW hz
    obtain ⟨k, hk, rfl, rfl, hrow, hre, hb, hs⟩ := hrel
    by_cases hlt : k < 3
    · obtain ⟨rk, fk⟩ := hrow k (by omega)
      obtain ⟨y, hy⟩ : ∃ y, y = x / 65536 ^ k := ⟨_, rfl⟩
      have hyd : y / 65536 = x / 65536 ^ (k + 1) := by rw [hy, Int.pow_succ, Int.ediv_ediv_of_nonneg (by exact Int.le_of_lt (Int.pow_pos (by decide)))]
      have hset := (hrow.set (i := k) (by omega) (y % 65536)).congr (M := smK x (k + 1)) (fun j hj => by
        unfold updI smK
        by_cases e : j = k
        · rw [if_pos e, if_pos (by omega), e, hy]
        · rw [if_neg e]
          by_cases e2 : j < k
          · rw [if_pos e2, if_pos (by omega)]
          · rw [if_neg e2, if_neg (by omega)])
      have hma := and_mask y
      have hyb : -9223372036854775808 ≤ y ∧ y ≤ 9223372036854775807 := by
        have h3 : k = 0 ∨ k = 1 ∨ k = 2 := by omega
        rcases h3 with rfl | rfl | rfl <;> simp at hy <;> omega
      rw [← hy]
      have HS := Hid.mk' hset
      have HD := Hid.mk' hyd
      clear hcar hset hyd hy
      go_wp2
      go_roundw
      case rel => exact ⟨k + 1, by omega, by rw [HD.out], by go_num, HS.out, hre.far (by show w.heap.size + 1 ≠ w.heap.size; omega) _, hb.setCell (by show _ ≤ w.heap.size + 1; omega) _, by simpa using hs⟩
      case measure => simp [intOf]; omega
    · have hke : k = 3 := by omega
      subst hke
      obtain ⟨rk, fk⟩ := hrow 3 (by decide)
      obtain ⟨y, hy⟩ : ∃ y, y = x / 65536 ^ 3 := ⟨_, rfl⟩
      rw [← hy]
      have hst : IRow (wr.setCell ⟨w.heap.size + 1, 3, none⟩ (.int .i64 y)) (w.heap.size + 1) 16 (smL x) := (hrow.set (i := 3) (by decide) y).congr (fun j hj => by
        unfold updI smK smL
        by_cases e : j = 3
        · rw [if_pos e, if_neg (by omega), if_pos e, hy]
        · rw [if_neg e]
          by_cases e2 : j < 3
          · rw [if_pos e2, if_pos e2]
          · rw [if_neg e2, if_neg e2, if_neg e])
      have hre2 : IRow (wr.setCell ⟨w.heap.size + 1, 3, none⟩ (.int .i64 y)) w.heap.size 16 (fun _ => 0) := hre.far (by show w.heap.size + 1 ≠ w.heap.size; omega) _
      have hb2 : Below w.heap.size w (wr.setCell ⟨w.heap.size + 1, 3, none⟩ (.int .i64 y)) := hb.setCell (by show _ ≤ w.heap.size + 1; omega) _
      have hs2 : w.heap.size + 1 < (wr.setCell ⟨w.heap.size + 1, 3, none⟩ (.int .i64 y)).heap.size := by simpa using hs
      obtain ⟨V, hV⟩ : ∃ V, V = wr.setCell ⟨w.heap.size + 1, 3, none⟩ (.int .i64 y) := ⟨_, rfl⟩
      have HV := Hid.mk' hV
      rw [← hV] at hst hre2 hb2 hs2
      have hcr := hcar V
      have hi1 := infoRL (smL x)
      have hj1 := infoRL X
      have hi2 := infoRA X
      have ho := oneR X
      have hstr := hst.range
      clear hV hcar hrow hre hb hy
      go_wp2_with (first
        | (rw [← HV.out]; refine wpList_load_mid rfl 52 _ rfl (w.heap.size + 1) 0 rfl (intsI 16 (smL x)) _ hstr Try.underlying52 rfl hi1 ?_)
        | (go_at_call 47; refine hcr.mono ?_; clear hcr; rintro e w1 ⟨rfl, hb1⟩; (have hC1 := hre2.below hb1 (by omega)); (have hth : w1.there w.heap.size 0 (intsI 16 X).toArray.size := by rw [intsI_size]; exact hC1.there); (have hbw1 : Below w.heap.size w w1 := hb2.trans (hb1.mono hb2.size)))
        | (refine wpList_store_mid rfl 52 _ _ rfl w.heap.size 0 (intsI 16 X).toArray rfl rfl hth hi2 ho ?_))
      (try simp only [Exit.inBlock, Exit.then])
      refine bodyPost_ret (results_cell_mid Try.results34 _ _ w.heap.size 0 (intsI 16 X) _ rfl (World.rangeAt_setCells_same _ _ _ _ (by rw [intsI_len]; exact hC1.there)) Try.underlying52 rfl hj1) rfl ⟨rfl, ?_⟩
      exact below_setCells (Nat.le_refl _) _ _ _ hbw1
end Go.Proofs.Ytinigkpidhbgcaa
