/- What Small of the reference does in the model, of 1. -/
import Derived.Test.YtinigkpidhbgcaaRefApi
namespace Go.Proofs.Ytinigkpidhbgcaa
open Go.RowKit
/-- The limbs of 1. -/
def oneL : Nat → Int := fun j => if j = 0 then 1 else 0
def oneK (k : Nat) : Nat → Int := fun j => if j = 0 ∧ 0 < k then 1 else 0
set_option maxRecDepth 20000 in
set_option maxHeartbeats 2000000 in
theorem rone_any (w : World) :
    Calls Try.prog 34 #[.int .i64 1] w fun e w' => e = .returned (refV (carryL oneL)) ∧ Below w.heap.size w w' := by
  have hz := zeroR
  have hcar := fun W => carry_any oneL (fun j _ => by unfold oneL; split <;> decide) W
  obtain ⟨W, hW⟩ : ∃ W, W = (w.alloc (.cells zI 52)).alloc (.cells zI 52) := ⟨_, rfl⟩
  have HW := Hid.mk' hW
  have hWs : W.heap.size = w.heap.size + 1 + 1 := by rw [hW]; simp
  have hbW : Below w.heap.size w W := by rw [hW]; exact ((Below.refl _ _).alloc (Nat.le_refl _) _).alloc (by simp) _
  have hres : IRow W w.heap.size 16 (fun _ => 0) := by rw [hW]; exact (IRow.fresh w zI _ (fun j hj => zI_at j hj)).below ((Below.refl _ _).alloc (Nat.le_refl _) _) (by simp)
  have hrow0 : IRow W (w.heap.size + 1) 16 (oneK 0) := by
    have := IRow.fresh (w.alloc (.cells zI 52)) zI 52 (n := 16) (L := fun _ => 0) (fun j hj => zI_at j hj)
    rw [World.size_alloc] at this
    rw [hW]; exact this.congr (fun j _ => by unfold oneK; rw [if_neg (by omega)])
  obtain ⟨X, hX⟩ : ∃ X, X = carryL oneL := ⟨_, rfl⟩
  rw [← hX] at hcar ⊢
  unfold refV at hcar ⊢
  clear hW hX
  go_enter Try.func34, Try.ntmps34
  go_wp2
  rw [← HW.out]
  go_loopw [0, 4] (fun x i wr => ∃ k : Nat, k ≤ 3 ∧ x = .int .i64 (if k = 0 then 1 else 0) ∧ i = .int .i64 k ∧ IRow wr (w.heap.size + 1) 16 (oneK k) ∧ IRow wr w.heap.size 16 (fun _ => 0) ∧ Below w.heap.size w wr ∧ w.heap.size + 1 < wr.heap.size) (fun _ i _ => 3 - (intOf i).toNat)
  case atStart => exact ⟨0, Nat.zero_le _, rfl, rfl, hrow0, hres, hbW, by omega⟩
  case round =>
    clear hrow0 hres hbW hz
    obtain ⟨k, hk, rfl, rfl, hrow, hre, hb, hs⟩ := hrel
    have hsim : ∀ (k : Nat) (v : Int) (wr : World), k < 3 → IRow wr (w.heap.size + 1) 16 (oneK k) → v = (if k = 0 then 1 else 0) → IRow (wr.setCell ⟨w.heap.size + 1, k, none⟩ (.int .i64 v)) (w.heap.size + 1) 16 (oneK (k + 1)) := fun k v wr hk h hv => (h.set (i := k) (by omega) v).congr (fun j hj => by
      unfold updI oneK
      by_cases e : j = k
      · rw [if_pos e, hv]
        by_cases e0 : k = 0
        · rw [if_pos e0, if_pos ⟨by omega, by omega⟩]
        · rw [if_neg e0, if_neg (by omega)]
      · rw [if_neg e]
        by_cases e1 : j = 0 ∧ 0 < k
        · rw [if_pos e1, if_pos ⟨e1.1, by omega⟩]
        · rw [if_neg e1, if_neg (by omega)])
    by_cases hlt : k < 3
    · obtain ⟨rk, fk⟩ := hrow k (by omega)
      have h3 : k = 0 ∨ k = 1 ∨ k = 2 := by omega
      rcases h3 with rfl | rfl | rfl
      all_goals
        clear hcar
        go_wp2
        go_roundw
        case rel => exact ⟨_, by decide, rfl, by go_num, hsim _ _ wr (by decide) hrow (by decide), hre.far (by show w.heap.size + 1 ≠ w.heap.size; omega) _, hb.setCell (by show _ ≤ w.heap.size + 1; omega) _, by simpa using hs⟩
        case measure => simp [intOf]
    · have hke : k = 3 := by omega
      subst hke
      have hrow2 : IRow wr (w.heap.size + 1) 16 oneL := hrow.congr (fun j hj => by
        unfold oneK oneL
        by_cases e : j = 0
        · rw [if_pos ⟨e, by decide⟩, if_pos e]
        · rw [if_neg (by omega), if_neg e])
      obtain ⟨rk, fk⟩ := hrow2 3 (by decide)
      have rk0 : wr.cell? ⟨w.heap.size + 1, 3, none⟩ = some (.int .i64 0) := rk
      have hst : IRow (wr.setCell ⟨w.heap.size + 1, 3, none⟩ (.int .i64 0)) (w.heap.size + 1) 16 oneL := (hrow2.set (i := 3) (by decide) 0).congr (fun j hj => by
        unfold updI oneL
        by_cases e : j = 3
        · rw [if_pos e, if_neg (by omega)]
        · rw [if_neg e])
      have hre2 : IRow (wr.setCell ⟨w.heap.size + 1, 3, none⟩ (.int .i64 0)) w.heap.size 16 (fun _ => 0) := hre.far (by show w.heap.size + 1 ≠ w.heap.size; omega) _
      have hb2 : Below w.heap.size w (wr.setCell ⟨w.heap.size + 1, 3, none⟩ (.int .i64 0)) := hb.setCell (by show _ ≤ w.heap.size + 1; omega) _
      have hs2 : w.heap.size + 1 < (wr.setCell ⟨w.heap.size + 1, 3, none⟩ (.int .i64 0)).heap.size := by simpa using hs
      obtain ⟨V, hV⟩ : ∃ V, V = wr.setCell ⟨w.heap.size + 1, 3, none⟩ (.int .i64 0) := ⟨_, rfl⟩
      have HV := Hid.mk' hV
      rw [← hV] at hst hre2 hb2 hs2
      have hcr := hcar V
      have hi1 := infoRL oneL
      have hj1 := infoRL X
      have hi2 := infoRA X
      have ho := oneR X
      have hstr := hst.range
      clear hV hcar rk hrow hrow2 hsim hre hb
      go_wp2_with (first
        | (rw [← HV.out]; refine wpList_load_mid rfl 52 _ rfl (w.heap.size + 1) 0 rfl (intsI 16 oneL) _ hstr Try.underlying52 rfl hi1 ?_)
        | (go_at_call 47; refine hcr.mono ?_; clear hcr; rintro e w1 ⟨rfl, hb1⟩; (have hC1 := hre2.below hb1 (by omega)); (have hth : w1.there w.heap.size 0 (intsI 16 X).toArray.size := by rw [intsI_size]; exact hC1.there); (have hbw1 : Below w.heap.size w w1 := hb2.trans (hb1.mono hb2.size)))
        | (refine wpList_store_mid rfl 52 _ _ rfl w.heap.size 0 (intsI 16 X).toArray rfl rfl hth hi2 ho ?_))
      (try simp only [Exit.inBlock, Exit.then])
      refine bodyPost_ret (results_cell_mid Try.results34 _ _ w.heap.size 0 (intsI 16 X) _ rfl (World.rangeAt_setCells_same _ _ _ _ (by rw [intsI_len]; exact hC1.there)) Try.underlying52 rfl hj1) rfl ⟨rfl, ?_⟩
      exact below_setCells (Nat.le_refl _) _ _ _ hbw1
end Go.Proofs.Ytinigkpidhbgcaa
