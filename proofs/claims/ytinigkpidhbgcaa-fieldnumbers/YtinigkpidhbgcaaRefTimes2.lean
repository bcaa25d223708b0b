/- The walk of Times of the reference. -/
import Derived.Test.YtinigkpidhbgcaaRefTimes
namespace Go.Proofs.Ytinigkpidhbgcaa
open Go.RowKit
def zI31 : Array Value := Array.replicate 31 (.int .i64 0)
theorem zI31_at (j : Nat) (h : j < 31) : zI31[j]? = some (.int .i64 0) := by simp [zI31, h]
theorem zeroT (w : World) : Sem.run Try.prog (zeroValue 70) w = .ok (.agg zI31) w := by kernel_rfl
theorem mul_bd (a b : Int) (ha : -131072 ≤ a ∧ a ≤ 131072) (hb : -131072 ≤ b ∧ b ≤ 131072) : -17179869184 ≤ a * b ∧ a * b ≤ 17179869184 := by
  have h1 : (a * b).natAbs ≤ 131072 * 131072 := by rw [Int.natAbs_mul]; exact Nat.mul_le_mul (by omega) (by omega)
  omega
set_option maxRecDepth 20000 in
set_option maxHeartbeats 4000000 in
theorem rtimes_any (L M : Nat → Int) (hL : ∀ j, j < 16 → -131072 ≤ L j ∧ L j ≤ 131072) (hM : ∀ j, j < 16 → -131072 ≤ M j ∧ M j ≤ 131072) (w : World) :
    Calls Try.prog 40 #[refV L, refV M] w fun e w' => e = .returned (refV (carryL (carryL (foldT (tP L M 15 16) 16)))) ∧ Below w.heap.size w w' := by
  have hz := zeroR
  have hz2 := zeroT
  obtain ⟨W, hW⟩ : ∃ W, W = (((w.alloc (.cells (intsI 16 L).toArray 52)).alloc (.cells (intsI 16 M).toArray 52)).alloc (.cells zI 52)).alloc (.cells zI31 70) := ⟨_, rfl⟩
  have HW := Hid.mk' hW
  have hWs : W.heap.size = w.heap.size + 1 + 1 + 1 + 1 := by rw [hW]; simp
  have hbW : Below w.heap.size w W := by rw [hW]; exact ((((Below.refl _ _).alloc (Nat.le_refl _) _).alloc (by simp) _).alloc (by simp; omega) _).alloc (by simp; omega) _
  have hA : IRow W w.heap.size 16 L := by rw [hW]; exact (((IRow.box w 16 L _).below ((Below.refl _ _).alloc (Nat.le_refl _) _) (by simp)).below ((Below.refl _ _).alloc (Nat.le_refl _) _) (by simp; omega)).below ((Below.refl _ _).alloc (Nat.le_refl _) _) (by simp; omega)
  have hB : IRow W (w.heap.size + 1) 16 M := by
    have h1 := IRow.box (w.alloc (.cells (intsI 16 L).toArray 52)) 16 M 52
    rw [World.size_alloc] at h1
    rw [hW]; exact (h1.below ((Below.refl _ _).alloc (Nat.le_refl _) _) (by simp)).below ((Below.refl _ _).alloc (Nat.le_refl _) _) (by simp only [World.size_alloc]; omega)
  have hC : IRow W (w.heap.size + 1 + 1) 16 (fun _ => 0) := by
    have h1 := IRow.fresh ((w.alloc (.cells (intsI 16 L).toArray 52)).alloc (.cells (intsI 16 M).toArray 52)) zI 52 (n := 16) (L := fun _ => 0) (fun j hj => zI_at j hj)
    rw [World.size_alloc, World.size_alloc] at h1
    rw [hW]; exact h1.below ((Below.refl _ _).alloc (Nat.le_refl _) _) (by simp)
  have hT : IRow W (w.heap.size + 1 + 1 + 1) 31 (tP L M 0 0) := by
    have h1 := IRow.fresh (((w.alloc (.cells (intsI 16 L).toArray 52)).alloc (.cells (intsI 16 M).toArray 52)).alloc (.cells zI 52)) zI31 70 (n := 31) (L := fun _ => 0) (fun j hj => zI31_at j hj)
    rw [World.size_alloc, World.size_alloc, World.size_alloc] at h1
    rw [hW]; exact h1
  have hbd := tP_bd L M hL hM
  have hTb : ∀ j, -4398046511104 ≤ tP L M 15 16 j ∧ tP L M 15 16 j ≤ 4398046511104 := fun j => by have := hbd 15 16 (by decide) (Nat.le_refl _) j; omega
  have hn15 := tP_next L M 15
  obtain ⟨T, hTe⟩ : ∃ T, T = tP L M 15 16 := ⟨_, rfl⟩
  rw [← hTe] at hTb hn15 ⊢
  have hFb2 : ∀ j, j < 16 → -171523813933056 ≤ foldT T 16 j ∧ foldT T 16 j ≤ 171523813933056 := fun j hj => by
    have h1 := hTb j
    have h2 := hTb (j + 16)
    unfold foldT
    rw [if_pos hj]
    split <;> omega
  have hd := carry_dig (foldT T 16) 171523813933056 (by decide) hFb2
  have c1 := fun W => carry_any (foldT T 16) (fun j hj => by have := hFb2 j hj; omega) W
  have c2 := fun W => carry_any (carryL (foldT T 16)) (fun j hj => by have := hd.all (by decide) j hj; omega) W
  obtain ⟨X, hX⟩ : ∃ X, X = foldT T 16 := ⟨_, rfl⟩
  rw [← hX] at c1 c2 ⊢
  obtain ⟨Y, hY⟩ : ∃ Y, Y = carryL X := ⟨_, rfl⟩
  rw [← hY] at c1 c2 ⊢
  obtain ⟨Z, hZ⟩ : ∃ Z, Z = carryL Y := ⟨_, rfl⟩
  rw [← hZ] at c2 ⊢
  have HX := Hid.mk' hX
  unfold refV
  clear hW hTe hX hY hZ hFb2 hd
  go_enter Try.func40, Try.ntmps40
  go_wp2
  rw [← HW.out]
  go_loopw [6] (fun i wr => ∃ k : Nat, k ≤ 16 ∧ i = .int .i64 k ∧ IRow wr (w.heap.size + 1 + 1 + 1) 31 (tP L M k 0) ∧ IRow wr w.heap.size 16 L ∧ IRow wr (w.heap.size + 1) 16 M ∧ IRow wr (w.heap.size + 1 + 1) 16 (fun _ => 0) ∧ Below w.heap.size w wr ∧ w.heap.size + 1 + 1 + 1 < wr.heap.size) (fun i _ => 16 - (intOf i).toNat)
  case atStart => exact ⟨0, Nat.zero_le _, rfl, hT, hA, hB, hC, hbW, by omega⟩
  case round =>
    clear hA hB hC hT hbW
    obtain ⟨p, hp, rfl, hT, hA, hB, hC, hb, hsz⟩ := hrel
    by_cases hlt : p < 16
    · have hplt : (p : Int) < 16 := by omega
      clear hz hz2
      go_wp2
      go_loopw [7] (fun i wq => ∃ k : Nat, k ≤ 16 ∧ i = .int .i64 k ∧ IRow wq (w.heap.size + 1 + 1 + 1) 31 (tP L M p k) ∧ IRow wq w.heap.size 16 L ∧ IRow wq (w.heap.size + 1) 16 M ∧ IRow wq (w.heap.size + 1 + 1) 16 (fun _ => 0) ∧ Below w.heap.size w wq ∧ w.heap.size + 1 + 1 + 1 < wq.heap.size) (fun i _ => 16 - (intOf i).toNat)
      case atStart => exact ⟨0, Nat.zero_le _, rfl, hT, hA, hB, hC, hb, hsz⟩
      case round =>
        clear hA hB hC hT hb hsz
        obtain ⟨k, hk, rfl, hT, hA, hB, hC, hb, hsz⟩ := hrel
        by_cases hlk : k < 16
        · obtain ⟨ra, fa⟩ := hA p hlt
          obtain ⟨rb, fb⟩ := hB k hlk
          obtain ⟨rt, ft⟩ := hT (p + k) (by omega)
          have b1 := mul_bd _ _ (hL p hlt) (hM k hlk)
          have b2 := hbd p k hlt hk (p + k)
          have b3 : -4398046511104 ≤ tP L M p k (p + k) ∧ tP L M p k (p + k) ≤ 4398046511104 := by omega
          have q1 : ((p : Int) + (k : Int)).toNat = p + k := by omega
          have q2 : (0 : Int) ≤ (p : Int) + (k : Int) ∧ (p : Int) + (k : Int) < 31 := by omega
          obtain ⟨x, hx⟩ : ∃ x, x = tP L M p k (p + k) := ⟨_, rfl⟩
          obtain ⟨a, ha⟩ : ∃ a, a = L p := ⟨_, rfl⟩
          obtain ⟨b, hbb⟩ : ∃ b, b = M k := ⟨_, rfl⟩
          have Hx := Hid.mk' hx
          have Ha := Hid.mk' ha
          have Hb := Hid.mk' hbb
          rw [← hx] at rt b3
          rw [← ha] at ra b1
          rw [← hbb] at rb b1
          clear hx ha hbb b2 hbd hL hM hn15 c1 c2 hTb
          go_wp2
          go_region
          go_wp2
          go_roundw
          case rel =>
            refine ⟨k + 1, by omega, by go_num, ?_, (hA.far (by show w.heap.size + 1 + 1 + 1 ≠ w.heap.size; omega) _).drew, (hB.far (by show w.heap.size + 1 + 1 + 1 ≠ w.heap.size + 1; omega) _).drew, (hC.far (by show w.heap.size + 1 + 1 + 1 ≠ w.heap.size + 1 + 1; omega) _).drew, (hb.setCell (by show w.heap.size ≤ w.heap.size + 1 + 1 + 1; omega) _).drew, by simpa using hsz⟩
            have h1 := (hT.set (i := p + k) (by omega) (x + a * b)).drew
            rw [tP_step, ← Hx.out, ← Ha.out, ← Hb.out]
            exact h1
          case measure => simp [intOf]; omega
        · have hke : k = 16 := by omega
          subst hke
          go_wp2
          go_roundw
          case rel => exact ⟨p + 1, by omega, by go_num, hT, hA, hB, hC, hb, hsz⟩
          case measure => simp [intOf]; omega
    · have hpe : p = 16 := by omega
      subst hpe
      rw [hn15] at hT
      have hr0 : IRow (wr.alloc (.cells zI 52)) wr.heap.size 16 (foldT T 0) := (IRow.fresh wr zI _ (n := 16) (L := fun _ => 0) (fun j hj => zI_at j hj)).congr (fun j _ => by unfold foldT; rw [if_neg (Nat.not_lt_zero j)])
      have hbA : Below wr.heap.size wr (wr.alloc (.cells zI 52)) := (Below.refl _ _).alloc (Nat.le_refl _) _
      have hT0 := hT.below hbA hsz
      have hC0 := hC.below hbA (by omega)
      have hb0 : Below w.heap.size w (wr.alloc (.cells zI 52)) := hb.alloc hb.size _
      have hs0 : wr.heap.size < (wr.alloc (.cells zI 52)).heap.size := by simp
      obtain ⟨N, hN⟩ : ∃ N, N = wr.heap.size := ⟨_, rfl⟩
      rw [← hN] at hr0 hs0
      have hNs : w.heap.size + 1 + 1 + 1 < N := by omega
      have HN := Hid.mk' hN
      clear hT hC hA hB hbA hL hM hbd hb hn15
      go_wp2
      rw [← HN.out]
      clear hN
      go_loopw [9] (fun i wq => ∃ k : Nat, k ≤ 16 ∧ i = .int .i64 k ∧ IRow wq N 16 (foldT T k) ∧ IRow wq (w.heap.size + 1 + 1 + 1) 31 T ∧ IRow wq (w.heap.size + 1 + 1) 16 (fun _ => 0) ∧ Below w.heap.size w wq ∧ N < wq.heap.size) (fun i _ => 16 - (intOf i).toNat)
      case atStart => exact ⟨0, Nat.zero_le _, rfl, hr0, hT0, hC0, hb0, hs0⟩
      case round =>
        clear hr0 hT0 hC0 hb0 hs0 hz hz2
        obtain ⟨k, hk, rfl, hR, hT, hC, hb, hs⟩ := hrel
        by_cases hlk : k < 16
        · obtain ⟨rr, fr⟩ := hR k hlk
          obtain ⟨rt, ft⟩ := hT k (by omega)
          have e : foldT T k k = 0 := by unfold foldT; rw [if_neg (Nat.lt_irrefl _)]
          rw [e] at rr
          have b1 := hTb k
          by_cases h15 : k < 15
          · obtain ⟨ru, fu⟩ := hT (k + 16) (by omega)
            have b2 := hTb (k + 16)
            have q1 : ((k : Int) + 16).toNat = k + 16 := by omega
            have q2 : (0 : Int) ≤ (k : Int) + 16 ∧ (k : Int) + 16 < 31 := by omega
            have hne : ¬N = w.heap.size + 1 + 1 + 1 := by omega
            have hne2 : ¬w.heap.size + 1 + 1 + 1 = N := by omega
            clear hTb e c1 c2
            go_wp2
            go_region
            go_wp2
            go_roundw
            case rel =>
              refine ⟨k + 1, by omega, by go_num, ?_, ((hT.far (by show N ≠ _; omega) _).far (by show N ≠ _; omega) _).drew, ((hC.far (by show N ≠ _; omega) _).far (by show N ≠ _; omega) _).drew, ((hb.setCell (by show _ ≤ N; omega) _).setCell (by show _ ≤ N; omega) _).drew, by simpa using hs⟩
              have h1 := ((hR.set (i := k) hlk (T k)).set (i := k) hlk (T k + 38 * T (k + 16))).drew
              refine h1.congr (fun j hj => ?_)
              unfold updI foldT
              by_cases e1 : j = k
              · subst e1; rw [if_pos rfl, if_pos (by omega), if_pos h15]
              · rw [if_neg e1, if_neg e1]
                by_cases e2 : j < k
                · rw [if_pos e2, if_pos (show j < k + 1 by omega)]
                · rw [if_neg e2, if_neg (show ¬j < k + 1 by omega)]
            case measure => simp [intOf]; omega
          · have hke : k = 15 := by omega
            subst hke
            clear hTb e c1 c2
            go_wp2
            go_roundw
            case rel =>
              refine ⟨16, by omega, by go_num, ?_, hT.far (by show N ≠ _; omega) _, hC.far (by show N ≠ _; omega) _, hb.setCell (by show _ ≤ N; omega) _, by simpa using hs⟩
              have h1 := hR.set (i := 15) hlk (T 15)
              refine h1.congr (fun j hj => ?_)
              unfold updI foldT
              by_cases e1 : j = 15
              · subst e1; rw [if_pos rfl, if_pos (by omega), if_neg (by omega)]
              · rw [if_neg e1, if_pos (by omega), if_pos (by omega), if_pos (by omega)]
            case measure => simp [intOf]
        · have hke : k = 16 := by omega
          subst hke
          rw [← HX.out] at hR
          clear hTb hT
          have hi1 := infoRL X
          have hj1 := infoRL Z
          have hi2 := infoRA Z
          have ho := oneR Z
          have c1' : Calls Try.prog 47 #[.agg (intsI 16 X).toArray] wr fun e w' => e = .returned (.agg (intsI 16 Y).toArray) ∧ Below wr.heap.size wr w' := c1 wr
          have c2' : ∀ W, Calls Try.prog 47 #[.agg (intsI 16 Y).toArray] W fun e w' => e = .returned (.agg (intsI 16 Z).toArray) ∧ Below W.heap.size W w' := c2
          clear c1 c2
          go_wp2_with (first
            | (refine wpList_load_mid rfl 52 _ rfl N 0 rfl (intsI 16 X) _ hR.range Try.underlying52 rfl hi1 ?_)
            | (go_at_call 47; refine c1'.mono ?_; clear c1'; rintro e w1 ⟨rfl, hb1⟩)
            | (go_at_call 47; refine (c2' _).mono ?_; clear c2'; rintro e w2 ⟨rfl, hb2⟩; (have hb12 : Below wr.heap.size wr w2 := hb1.trans (hb2.mono hb1.size)); (have hC1 := hC.below hb12 (by omega)); (have hth : w2.there (w.heap.size + 1 + 1) 0 (intsI 16 Z).toArray.size := by rw [intsI_size]; exact hC1.there); (have hbw1 : Below w.heap.size w w2 := hb.trans (hb12.mono hb.size)))
            | (refine wpList_store_mid rfl 52 _ _ rfl (w.heap.size + 1 + 1) 0 (intsI 16 Z).toArray rfl rfl hth hi2 ho ?_))
          (try simp only [Exit.inBlock, Exit.then])
          refine bodyPost_ret (results_cell_mid Try.results40 _ _ (w.heap.size + 1 + 1) 0 (intsI 16 Z) _ rfl (World.rangeAt_setCells_same _ _ _ _ (by rw [intsI_len]; exact hC1.there)) Try.underlying52 rfl hj1) rfl ⟨rfl, ?_⟩
          exact below_setCells (by omega) _ _ _ hbw1
end Go.Proofs.Ytinigkpidhbgcaa
