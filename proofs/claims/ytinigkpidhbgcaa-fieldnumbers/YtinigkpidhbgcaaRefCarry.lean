/- What carry of the reference does in the model. -/
import Derived.Test.YtinigkpidhbgcaaICar
namespace Go.Proofs.Ytinigkpidhbgcaa
open Go.RowKit
/-- Sixteen zeros. -/
def zI : Array Value := Array.replicate 16 (.int .i64 0)
theorem zI_at (j : Nat) (h : j < 16) : zI[j]? = some (.int .i64 0) := by simp [zI, h]
theorem zeroR (w : World) : Sem.run Try.prog (zeroValue 52) w = .ok (.agg zI) w := by kernel_rfl
theorem infoR : (Try.prog.info? 52).map (·.size) = some 16 := by kernel_rfl
theorem infoRL (L : Nat → Int) : (Try.prog.info? 52).map (·.size) = some (intsI 16 L).length := by rw [intsI_len]; exact infoR
theorem infoRA (L : Nat → Int) : (Try.prog.info? 52).map (·.size) = some (intsI 16 L).toArray.size := by rw [intsI_size]; exact infoR
theorem oneR (L : Nat → Int) : (intsI 16 L).toArray.all (·.oneCell') = true := all_oneCell_toArray (intsI_one 16 L)
theorem stC_zero (L : Nat → Int) (j : Nat) : (if 0 = 16 then carryL L else stC L 0) j = L j := by
  rw [if_neg (by decide)]
  unfold stC
  rw [if_neg (Nat.not_lt_zero j)]
  by_cases e : j = 0
  · rw [if_pos e, e]; show L 0 + 0 = L 0; omega
  · rw [if_neg e]
set_option maxRecDepth 20000 in
set_option maxHeartbeats 2000000 in
theorem carry_any (L : Nat → Int) (hL : ∀ j, j < 16 → -4611686018427387904 ≤ L j ∧ L j ≤ 4611686018427387904) (w : World) :
    Calls Try.prog 47 #[refV L] w fun e w' => e = .returned (refV (carryL L)) ∧ Below w.heap.size w w' := by
  have hz := zeroR
  have hcb := cr_bd2 L 4611686018427387904 (by decide) hL
  obtain ⟨W, hW⟩ : ∃ W, W = (w.alloc (.cells (intsI 16 L).toArray 52)).alloc (.cells zI 52) := ⟨_, rfl⟩
  have HW := Hid.mk' hW
  have hWs : W.heap.size = w.heap.size + 1 + 1 := by rw [hW]; simp
  have hbW : Below w.heap.size w W := by rw [hW]; exact ((Below.refl _ _).alloc (Nat.le_refl _) _).alloc (by simp) _
  have hrow0 : IRow W w.heap.size 16 L := by rw [hW]; exact (IRow.box w 16 L _).below ((Below.refl _ _).alloc (Nat.le_refl _) _) (by simp)
  have hres : IRow W (w.heap.size + 1) 16 (fun _ => 0) := by
    have := IRow.fresh (w.alloc (.cells (intsI 16 L).toArray 52)) zI 52 (n := 16) (L := fun _ => 0) (fun j hj => zI_at j hj)
    rw [World.size_alloc] at this
    rw [hW]; exact this
  unfold refV
  clear hW
  go_enter Try.func47, Try.ntmps47
  go_wp2
  rw [← HW.out]
  go_loopw [3] (fun i wr => ∃ k : Nat, k ≤ 16 ∧ i = .int .i64 k ∧ IRow wr w.heap.size 16 (if k = 16 then carryL L else stC L k) ∧ IRow wr (w.heap.size + 1) 16 (fun _ => 0) ∧ Below w.heap.size w wr) (fun i _ => 16 - (intOf i).toNat)
  case atStart => exact ⟨0, Nat.zero_le _, rfl, hrow0.congr (fun j _ => (stC_zero L j).symm), hres, hbW⟩
  case round =>
    clear hrow0 hres hbW hz
    obtain ⟨k, hk, rfl, hrow, hre, hb⟩ := hrel
    by_cases hlt : k < 16
    · rw [if_neg (by omega)] at hrow
      obtain ⟨rk, fk⟩ := hrow k hlt
      have ek : stC L k k = L k + cr L k := by simp [stC]
      rw [ek] at rk
      have hc1 := hcb k (by omega)
      have hc2 := hcb (k + 1) (by omega)
      have hl1 := hL k hlt
      have ec : (L k + cr L k) / 65536 = cr L (k + 1) := rfl
      have hab : -4611826755915743233 ≤ L k + cr L k ∧ L k + cr L k ≤ 4611826755915743233 := by omega
      have hcb2 : -140737488355329 ≤ cr L (k + 1) ∧ cr L (k + 1) ≤ 140737488355329 := by omega
      by_cases h15 : k < 15
      · obtain ⟨rn, fn⟩ := hrow (k + 1) (by omega)
        have en : stC L k (k + 1) = L (k + 1) := by unfold stC; rw [if_neg (by omega), if_neg (by omega)]
        rw [en] at rn
        have hl2 := hL (k + 1) (by omega)
        clear hcb hL hc1 hc2 ek en
        go_wp2
        go_roundw
        case rel =>
          refine ⟨k + 1, by omega, by go_num, ?_, (hre.far (by show w.heap.size ≠ w.heap.size + 1; omega) _).far (by show w.heap.size ≠ w.heap.size + 1; omega) _, (hb.setCell (Nat.le_refl _) _).setCell (Nat.le_refl _) _⟩
          have h1 := (hrow.set (i := k) hlt (L k + cr L k - cr L (k + 1) * 65536)).set (i := k + 1) (by omega) (L (k + 1) + cr L (k + 1))
          refine h1.congr (fun j hj => ?_)
          rw [if_neg (by omega)]
          unfold updI stC
          by_cases e1 : j = k + 1
          · subst e1; rw [if_pos rfl, if_neg (by omega), if_pos rfl]
          · rw [if_neg e1]
            by_cases e2 : j = k
            · subst e2
              rw [if_pos rfl, if_pos (by omega)]
              rw [← ec]; omega
            · rw [if_neg e2]
              by_cases e3 : j < k
              · rw [if_pos e3, if_pos (by omega)]
              · rw [if_neg e3, if_neg e2, if_neg (by omega), if_neg e1]
        case measure => simp [intOf]; omega
      · have hke : k = 15 := by omega
        subst hke
        obtain ⟨rn, fn⟩ := hrow 0 (by decide)
        have en : stC L 15 0 = L 0 % 65536 := by unfold stC; rw [if_pos (by decide)]; show (L 0 + 0) % 65536 = _; rw [Int.add_zero]
        rw [en] at rn
        clear hcb hL hc1 hc2 ek en
        have hm0 : 0 ≤ L 0 % 65536 ∧ L 0 % 65536 < 65536 := by omega
        have hcb3 : -140737488355329 ≤ cr L 16 ∧ cr L 16 ≤ 140737488355329 := hcb2
        have ec3 : (L 15 + cr L 15) / 65536 = cr L 16 := rfl
        clear hcb2 ec
        go_wp2
        go_roundw
        case rel =>
          refine ⟨16, by omega, by go_num, ?_, (hre.far (by show w.heap.size ≠ w.heap.size + 1; omega) _).far (by show w.heap.size ≠ w.heap.size + 1; omega) _, (hb.setCell (Nat.le_refl _) _).setCell (Nat.le_refl _) _⟩
          have h1 := (hrow.set (i := 15) (by decide) (L 15 + cr L 15 - cr L 16 * 65536)).set (i := 0) (by decide) (L 0 % 65536 + 38 * cr L 16)
          refine h1.congr (fun j hj => ?_)
          rw [if_pos rfl]
          unfold updI stC carryL
          by_cases e1 : j = 0
          · rw [if_pos e1, if_pos e1]
          · rw [if_neg e1, if_neg e1]
            by_cases e2 : j = 15
            · subst e2
              rw [if_pos rfl]
              show L 15 + cr L 15 - (L 15 + cr L 15) / 65536 * 65536 = _
              omega
            · rw [if_neg e2, if_pos (by omega)]
        case measure => simp [intOf]
    · have hke : k = 16 := by omega
      subst hke
      rw [if_pos rfl] at hrow
      obtain ⟨X, hX⟩ : ∃ X, X = carryL L := ⟨_, rfl⟩
      rw [← hX] at hrow
      have HX := Hid.mk' hX
      clear hX hcb hL
      have hi1 := infoRL X
      have hi2 := infoRA X
      have ho := oneR X
      have hth : wr.there (w.heap.size + 1) 0 (intsI 16 X).toArray.size := by rw [intsI_size]; exact hre.there
      go_wp2_with (first
        | (refine wpList_load_mid rfl 52 _ rfl w.heap.size 0 rfl (intsI 16 X) _ hrow.range Try.underlying52 rfl hi1 ?_)
        | (refine wpList_store_mid rfl 52 _ _ rfl (w.heap.size + 1) 0 (intsI 16 X).toArray rfl rfl hth hi2 ho ?_))
      (try simp only [Exit.inBlock, Exit.then])
      refine bodyPost_ret (results_cell_mid Try.results47 _ _ (w.heap.size + 1) 0 (intsI 16 X) _ rfl (World.rangeAt_setCells_same _ _ _ _ (by rw [intsI_len]; exact hre.there)) Try.underlying52 rfl hi1) rfl ⟨by rw [HX.out], ?_⟩
      exact below_setCells (by omega) _ _ _ hb
end Go.Proofs.Ytinigkpidhbgcaa
