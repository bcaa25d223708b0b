/- What Bytes of the reference does in the model. -/
import Derived.Test.YtinigkpidhbgcaaRefSub
namespace Go.Proofs.Ytinigkpidhbgcaa
open Go.RowKit
/-- So often was p taken away. -/
def subN (X : Nat → Int) : Nat → Nat → Int
  | 0 => X
  | k + 1 => subL (subN X k)
theorem subN_nrm {X : Nat → Int} (h : Nrm X) : ∀ k, Nrm (subN X k)
  | 0 => h
  | k + 1 => sub_nrm (subN_nrm h k)
theorem src_two (w : World) (x y : Nat) : Src (w.alloc (.cells #[.int .u8 x, .int .u8 y] 5)) (some ⟨w.heap.size, 0, none⟩) 2 (fun j => if j = 0 then x else y) := by
  refine .inr ⟨w.heap.size, 0, rfl, fun j hj => ?_⟩
  match j, hj with
  | 0, _ => simp
  | 1, _ => simp
/-- Two bytes more, out of a new block, at a step of a region that draws its order. -/
theorem step_append_two {ops : Array Oper} {o : Oper} {a : Act} {w : World} {K : Act → World → Prop} {Q : Exit → Act → World → Prop} {E : Prop} (hgd : o.guard = none) (s x : Operand)
    (ho : o.op = .call { callee := .builtin .append, args := #[s, x], argTypes := #[22, 22] }) (hty : o.type = 22) (base : Nat)
    (v : Value) (n : Nat) (F : Nat → Nat) (y0 y1 : Int) (hs : a.eval s = v) (hown : Own base w v n F) (g : Nat) (hg : w.heap.size = g) (hx : a.eval x = .slice (some ⟨g, 0, none⟩) 2 2) (hF0 : y0 = (F n : Int)) (hF1 : y1 = (F (n + 1) : Int))
    (hl : n + 2 ≤ 1000000) (hbase : base ≤ w.heap.size)
    (h : ∀ v' w', Own base w' v' (n + 2) F → Below base w w' → K (a.put o.dst v') w') :
    if Region.wanted o (yielded ops a.tmps) = true then Oper.wp Try.prog o a (w.alloc (.cells #[.int .u8 y0, .int .u8 y1] 5)) K Q else E := by
  have hw : Region.wanted o (yielded ops a.tmps) = true := by simp [Region.wanted, hgd]
  rw [if_pos hw]
  subst hg
  subst hF0
  subst hF1
  have hz : base ≤ (w.alloc (.cells #[.int .u8 (F n : Int), .int .u8 (F (n + 1) : Int)] 5)).heap.size := by simp only [World.size_alloc]; omega
  obtain ⟨v', w', hrun, h1, h2⟩ := run_append_bytes (w.alloc (.cells #[.int .u8 (F n : Int), .int .u8 (F (n + 1) : Int)] 5)) base v n F (hown.alloc _) _ 2 2 _ (src_two w (F n) (F (n + 1))) (fun h => by cases h) (by omega) hz
  have h3 : Own base w' v' (n + 2) F := h1.congr (fun j hj => by
    by_cases e : j < n
    · rw [cat_left e]
    · unfold cat
      rw [if_neg e]
      show (if j - n = 0 then F n else F (n + 1)) = F j
      by_cases e2 : j - n = 0
      · rw [if_pos e2, show j = n by omega]
      · rw [if_neg e2, show j = n + 1 by omega])
  unfold Oper.wp
  simp [execOp, ho, hty, resolve, invoke, builtin, hs, hx, hrun, Result.andThen]
  exact h v' w' h3 (((Below.refl _ _).alloc hbase _).trans h2)
set_option maxRecDepth 20000 in
set_option maxHeartbeats 4000000 in
theorem rbytes_any (L : Nat → Int) (hL : Dig 9007199254740992 L) (w : World) :
    Calls Try.prog 43 #[refV L] w fun e w' => ∃ v, e = .returned v ∧ Own w.heap.size w' v 32 (bytL (canL L)) ∧ Below w.heap.size w w' := by
  have hz := zeroR
  obtain ⟨hn0, hcn, -⟩ := canL_nrm L hL
  obtain ⟨d1, hd1⟩ := carry_fine L hL
  have hn1 := carry_nrm _ d1 hd1
  have c1 : ∀ W, Calls Try.prog 47 #[.agg (intsI 16 L).toArray] W fun e w' => e = .returned (.agg (intsI 16 (carryL L)).toArray) ∧ Below W.heap.size W w' := fun W => carry_any L (fun j hj => by have := hL.all (by decide) j hj; omega) W
  have c2 : ∀ W, Calls Try.prog 47 #[.agg (intsI 16 (carryL L)).toArray] W fun e w' => e = .returned (.agg (intsI 16 (carryL (carryL L))).toArray) ∧ Below W.heap.size W w' := fun W => carry_any (carryL L) (fun j hj => by have := d1.all (by decide) j hj; omega) W
  have c3 : ∀ W, Calls Try.prog 47 #[.agg (intsI 16 (carryL (carryL L))).toArray] W fun e w' => e = .returned (.agg (intsI 16 (carryL (carryL (carryL L)))).toArray) ∧ Below W.heap.size W w' := fun W => carry_any (carryL (carryL L)) (fun j hj => by have := hn1 j hj; omega) W
  have hcan : canL L = subN (carryL (carryL (carryL L))) 2 := rfl
  rw [hcan] at hcn ⊢
  obtain ⟨X1, hX1⟩ : ∃ X, X = carryL L := ⟨_, rfl⟩
  rw [← hX1] at c1 c2 c3 hn0 hcn ⊢
  obtain ⟨X2, hX2⟩ : ∃ X, X = carryL X1 := ⟨_, rfl⟩
  rw [← hX2] at c2 c3 hn0 hcn ⊢
  obtain ⟨X, hX⟩ : ∃ X, X = carryL X2 := ⟨_, rfl⟩
  rw [← hX] at c3 hn0 hcn ⊢
  obtain ⟨W, hW⟩ : ∃ W, W = w.alloc (.cells (intsI 16 L).toArray 52) := ⟨_, rfl⟩
  have HW := Hid.mk' hW
  have hWs : W.heap.size = w.heap.size + 1 := by rw [hW]; simp
  have hbW : Below w.heap.size w W := by rw [hW]; exact (Below.refl _ _).alloc (Nat.le_refl _) _
  have hA : IRow W w.heap.size 16 L := by rw [hW]; exact IRow.box w 16 L _
  have hi0 := infoRL L
  have hi2 := infoRA X
  have ho := oneR X
  have c1' := c1 W
  unfold refV
  clear hW hX1 hX2 hX hL d1 hd1 hn1 c1 hcan
  go_enter Try.func43, Try.ntmps43
  go_wp2_with (first
    | (rw [← HW.out]; refine wpList_load_mid rfl 52 _ rfl w.heap.size 0 rfl (intsI 16 L) _ hA.range Try.underlying52 rfl hi0 ?_)
    | (go_at_call 47; refine c1'.mono ?_; clear c1'; rintro e w1 ⟨rfl, hb1⟩)
    | (go_at_call 47; refine (c2 _).mono ?_; clear c2; rintro e w2 ⟨rfl, hb2⟩)
    | (go_at_call 47; refine (c3 _).mono ?_; clear c3; rintro e w3 ⟨rfl, hb3⟩; (have hb13 : Below W.heap.size W w3 := hb1.trans ((hb2.mono hb1.size).trans (hb3.mono (Nat.le_trans hb1.size hb2.size)))); (have hA3 := hA.below hb13 (by omega)); (have hth : w3.there w.heap.size 0 (intsI 16 X).toArray.size := by rw [intsI_size]; exact hA3.there); (have hbw3 : Below w.heap.size w w3 := hbW.trans (hb13.mono hbW.size)); (have hw3s := hb13.size); clear hb1 hb2 hb3 hb13)
    | (refine wpList_store_mid rfl 52 _ _ rfl w.heap.size 0 (intsI 16 X).toArray rfl rfl hth hi2 ho ?_))
  have hA4 : IRow (w3.setCells w.heap.size 0 (intsI 16 X).toArray.toList) w.heap.size 16 X := by rw [List.toList_toArray]; exact hA3.stored
  have hb4 : Below w.heap.size w (w3.setCells w.heap.size 0 (intsI 16 X).toArray.toList) := below_setCells (Nat.le_refl _) _ _ _ hbw3
  have hs4 : w.heap.size < (w3.setCells w.heap.size 0 (intsI 16 X).toArray.toList).heap.size := by rw [(setCells_same _ _ _ _).2.2.2]; omega
  clear hA hA3 hth hbw3 hw3s hbW HW hi0 ho hi2
  go_loopw [3] (fun i wr => ∃ k : Nat, k ≤ 2 ∧ i = .int .i64 k ∧ IRow wr w.heap.size 16 (subN X k) ∧ Below w.heap.size w wr ∧ w.heap.size < wr.heap.size) (fun i _ => 2 - (intOf i).toNat)
  case atStart => exact ⟨0, Nat.zero_le _, rfl, hA4, hb4, hs4⟩
  case round =>
    clear hA4 hb4 hs4
    obtain ⟨k, hk, rfl, hA, hb, hs⟩ := hrel
    by_cases hlt : k < 2
    · have hnk := subN_nrm hn0 k
      obtain ⟨Y, hY⟩ : ∃ Y, Y = subN X k := ⟨_, rfl⟩
      have HY := Hid.mk' hY
      rw [← hY] at hA hnk
      clear hY hcn
      have hi0 := infoRL Y
      have hi2 := infoRA Y
      have ho := oneR Y
      obtain ⟨D, hD⟩ : ∃ D, D = wr.heap.size := ⟨_, rfl⟩
      have HD := Hid.mk' hD
      obtain ⟨W1, hW1⟩ : ∃ W1, W1 = wr.alloc (.cells zI 52) := ⟨_, rfl⟩
      have HW1 := Hid.mk' hW1
      have hbA : Below wr.heap.size wr W1 := by rw [hW1]; exact (Below.refl _ _).alloc (Nat.le_refl _) _
      have hA1 := hA.below hbA hs
      have hD1 : IRow W1 D 16 (fun _ => 0) := by rw [hW1, hD]; exact IRow.fresh wr zI _ (fun j hj => zI_at j hj)
      have hb1 : Below w.heap.size w W1 := hb.trans (hbA.mono hb.size)
      have hs1 : D < W1.heap.size := by rw [hW1, hD]; simp
      have hwD : w.heap.size < D := by omega
      have hth : W1.there D 0 (intsI 16 Y).toArray.size := by rw [intsI_size]; exact hD1.there
      have hD2 : IRow (W1.setCells D 0 (intsI 16 Y).toArray.toList) D 16 Y := by rw [List.toList_toArray]; exact hD1.stored
      have hA2 : IRow (W1.setCells D 0 (intsI 16 Y).toArray.toList) w.heap.size 16 Y := hA1.farCells (by omega) _ _
      have hb2 : Below w.heap.size w (W1.setCells D 0 (intsI 16 Y).toArray.toList) := below_setCells (by omega) _ _ _ hb1
      have hs2 : D < (W1.setCells D 0 (intsI 16 Y).toArray.toList).heap.size := by rw [(setCells_same _ _ _ _).2.2.2]; exact hs1
      obtain ⟨W2, hW2⟩ : ∃ W2, W2 = W1.setCells D 0 (intsI 16 Y).toArray.toList := ⟨_, rfl⟩
      have HW2 := Hid.mk' hW2
      rw [← hW2] at hD2 hA2 hb2 hs2
      obtain ⟨r0, f0⟩ := hD2 0 (by decide)
      have hr0 := hnk 0 (by decide)
      have hAr := hA.range
      clear hA1 hb1 hs1 hD1 hbA hW2 hW1 hD
      go_wp2_with (first
        | (refine wpList_load_mid rfl 52 _ rfl w.heap.size 0 rfl (intsI 16 Y) _ hAr Try.underlying52 rfl hi0 ?_)
        | (rw [← HW1.out]; rw [← HD.out]; refine wpList_store_mid rfl 52 _ _ rfl D 0 (intsI 16 Y).toArray rfl rfl hth hi2 ho ?_; rw [← HW2.out]))
      have hR0 : IRow (W2.setCell ⟨D, 0, none⟩ (.int .i64 (Y 0 - 65517))) D 16 (stS Y 1) := (hD2.set (i := 0) (by decide) (Y 0 - 65517)).congr (fun j hj => by
        unfold updI stS
        by_cases e : j = 0
        · rw [if_pos e, if_neg (by omega), if_pos (by omega), e]; show Y 0 - 65517 = Y 0 - 65517 - 0; omega
        · rw [if_neg e, if_neg (by omega), if_neg (by omega)])
      have hA3 : IRow (W2.setCell ⟨D, 0, none⟩ (.int .i64 (Y 0 - 65517))) w.heap.size 16 Y := hA2.far (by show D ≠ _; omega) _
      have hb3 : Below w.heap.size w (W2.setCell ⟨D, 0, none⟩ (.int .i64 (Y 0 - 65517))) := hb2.setCell (by show _ ≤ D; omega) _
      have hs3 : D < (W2.setCell ⟨D, 0, none⟩ (.int .i64 (Y 0 - 65517))).heap.size := by simpa using hs2
      clear r0 f0 hr0 hAr hth hD2 hA2 hb2 hs2
      go_loopw [5] (fun i wq => ∃ q : Nat, q ≤ 15 ∧ i = .int .i64 ((q : Int) + 1) ∧ IRow wq D 16 (stS Y (q + 1)) ∧ IRow wq w.heap.size 16 Y ∧ Below w.heap.size w wq ∧ D < wq.heap.size) (fun i _ => 16 - (intOf i).toNat)
      case atStart => exact ⟨0, Nat.zero_le _, by go_num, hR0, hA3, hb3, hs3⟩
      case round =>
        clear hR0 hA3 hb3 hs3 hz hA hb hs
        obtain ⟨q, hq, rfl, hR, hA, hb, hs⟩ := hrel
        by_cases hlq : q < 15
        · obtain ⟨r1, f1⟩ := hR q (by omega)
          obtain ⟨r2, f2⟩ := hR (q + 1) (by omega)
          have e1 : stS Y (q + 1) q = rS Y q := by unfold stS; rw [if_neg (by omega), if_pos rfl]
          have e2 : stS Y (q + 1) (q + 1) = Y (q + 1) := by unfold stS; rw [if_neg (by omega), if_neg (by omega)]
          rw [e1] at r1
          rw [e2] at r2
          have hbd1 := rS_bd hnk (i := q) (by omega)
          have hbd2 := hnk (q + 1) (by omega)
          have hbq : bw Y (q + 1) = if rS Y q < 0 then 1 else 0 := rfl
          have hrq : rS Y (q + 1) = Y (q + 1) - pl (q + 1) - bw Y (q + 1) := rfl
          have Hfin : ∀ (v1 v2 : Int), v1 = rS Y q + 65536 * bw Y (q + 1) → v2 = rS Y (q + 1) → ∀ wq : World, IRow wq D 16 (updI (updI (stS Y (q + 1)) q v1) (q + 1) v2) → IRow wq D 16 (stS Y (q + 1 + 1)) := fun v1 v2 h1 h2 wq h => h.congr (fun j hj => by
            unfold updI stS
            by_cases c1 : j = q + 1
            · rw [if_pos c1, if_neg (by omega), if_pos (by omega), c1, h2]
            · rw [if_neg c1]
              by_cases c2 : j = q
              · rw [if_pos c2, if_pos (by omega), c2, h1]
              · rw [if_neg c2]
                by_cases c3 : j + 1 < q + 1
                · rw [if_pos c3, if_pos (by omega)]
                · rw [if_neg c3, if_neg (by omega), if_neg (by omega), if_neg (by omega)])
          obtain ⟨a, ha⟩ : ∃ a, a = rS Y q := ⟨_, rfl⟩
          obtain ⟨b, hbe⟩ : ∃ b, b = Y (q + 1) := ⟨_, rfl⟩
          rw [← ha] at r1 hbd1 hbq
          rw [← hbe] at r2 hbd2 hrq
          have Ha := Hid.mk' ha
          have hq1 : ((q : Int) + 1).toNat = q + 1 := by omega
          have hq2 : (0 : Int) ≤ (q : Int) + 1 ∧ (q : Int) + 1 < 16 := by omega
          clear e1 e2 ha hbe hnk
          by_cases h14 : q = 14
          · subst h14
            by_cases hneg : a < 0
            · rw [if_pos hneg] at hbq
              have hpl : pl (14 + 1) = 32767 := rfl
              have Hbq := Hid.mk' hbq
              have Hrq := Hid.mk' hrq
              have Hpl := Hid.mk' hpl
              clear hbq hrq hpl
              go_wp2
              go_roundw
              case rel =>
                refine ⟨14 + 1, by omega, by go_num, Hfin (a + 65536) (b - 32767 - 1) (by rw [Hbq.out, ← Ha.out]; omega) (by rw [Hrq.out, Hpl.out, Hbq.out]) _ ((hR.set (i := 14) (by omega) _).set (i := 14 + 1) (by omega) _), (hA.far (by show D ≠ _; omega) _).far (by show D ≠ _; omega) _, (hb.setCell (by show _ ≤ D; omega) _).setCell (by show _ ≤ D; omega) _, by simpa using hs⟩
              case measure => simp [intOf]
            · rw [if_neg hneg] at hbq
              have hpl : pl (14 + 1) = 32767 := rfl
              have Hbq := Hid.mk' hbq
              have Hrq := Hid.mk' hrq
              have Hpl := Hid.mk' hpl
              clear hbq hrq hpl
              go_wp2
              go_roundw
              case rel =>
                refine ⟨14 + 1, by omega, by go_num, Hfin a (b - 32767) (by rw [Hbq.out, ← Ha.out]; omega) (by rw [Hrq.out, Hpl.out, Hbq.out]; omega) _ ((hR.set (i := 14 + 1) (by omega) _).congr (fun j hj => ?_)), hA.far (by show D ≠ _; omega) _, hb.setCell (by show _ ≤ D; omega) _, by simpa using hs⟩
                unfold updI
                by_cases c1 : j = 14 + 1
                · rw [if_pos c1, if_pos c1]
                · rw [if_neg c1, if_neg c1]
                  by_cases c2 : j = 14
                  · rw [if_pos c2, c2, Ha.out]; unfold stS; rw [if_neg (by omega), if_pos rfl]
                  · rw [if_neg c2]
              case measure => simp [intOf]
          · by_cases hneg : a < 0
            · rw [if_pos hneg] at hbq
              have hpl : pl (q + 1) = 65535 := by unfold pl; rw [if_neg (by omega), if_neg (by omega)]
              have Hbq := Hid.mk' hbq
              have Hrq := Hid.mk' hrq
              have Hpl := Hid.mk' hpl
              clear hbq hrq hpl
              go_wp2
              go_roundw
              case rel =>
                refine ⟨q + 1, by omega, by go_num, Hfin (a + 65536) (b - 65535 - 1) (by rw [Hbq.out, ← Ha.out]; omega) (by rw [Hrq.out, Hpl.out, Hbq.out]) _ ((hR.set (i := q) (by omega) _).set (i := q + 1) (by omega) _), (hA.far (by show D ≠ _; omega) _).far (by show D ≠ _; omega) _, (hb.setCell (by show _ ≤ D; omega) _).setCell (by show _ ≤ D; omega) _, by simpa using hs⟩
              case measure => simp [intOf]; omega
            · rw [if_neg hneg] at hbq
              have hpl : pl (q + 1) = 65535 := by unfold pl; rw [if_neg (by omega), if_neg (by omega)]
              have Hbq := Hid.mk' hbq
              have Hrq := Hid.mk' hrq
              have Hpl := Hid.mk' hpl
              clear hbq hrq hpl
              go_wp2
              go_roundw
              case rel =>
                refine ⟨q + 1, by omega, by go_num, Hfin a (b - 65535) (by rw [Hbq.out, ← Ha.out]; omega) (by rw [Hrq.out, Hpl.out, Hbq.out]; omega) _ ((hR.set (i := q + 1) (by omega) _).congr (fun j hj => ?_)), hA.far (by show D ≠ _; omega) _, hb.setCell (by show _ ≤ D; omega) _, by simpa using hs⟩
                unfold updI
                by_cases c1 : j = q + 1
                · rw [if_pos c1, if_pos c1]
                · rw [if_neg c1, if_neg c1]
                  by_cases c2 : j = q
                  · rw [if_pos c2, c2, Ha.out]; unfold stS; rw [if_neg (by omega), if_pos rfl]
                  · rw [if_neg c2]
              case measure => simp [intOf]; omega
        · have hqe : q = 15 := by omega
          subst hqe
          replace hR : IRow wr D 16 (stS Y 16) := hR
          obtain ⟨r1, f1⟩ := hR 15 (by decide)
          have e1 : stS Y 16 15 = rS Y 15 := by unfold stS; rw [if_neg (by decide), if_pos (by decide)]
          rw [e1] at r1
          obtain ⟨x, hx⟩ : ∃ x, x = rS Y 15 := ⟨_, rfl⟩
          rw [← hx] at r1
          have Hx := Hid.mk' hx
          have hsub : subN X (k + 1) = subL Y := by rw [HY.out]; rfl
          have Hsub := Hid.mk' hsub
          clear hsub e1 hx hnk
          by_cases hneg : 0 ≤ x
          · have hY2 : subL Y = stS Y 16 := by unfold subL; rw [if_pos (by rw [← Hx.out]; exact hneg)]
            have HY2 := Hid.mk' hY2
            obtain ⟨V, hV⟩ : ∃ V, V = stS Y 16 := ⟨_, rfl⟩
            have HV := Hid.mk' hV
            rw [← hV] at hR
            have hi0 := infoRL V
            have hi2 := infoRA V
            have ho := oneR V
            have hth : wr.there w.heap.size 0 (intsI 16 V).toArray.size := by rw [intsI_size]; exact hA.there
            have hRr := hR.range
            have hst : IRow (wr.setCells w.heap.size 0 (intsI 16 V).toArray.toList) w.heap.size 16 V := by rw [List.toList_toArray]; exact hA.stored
            have hbs : Below w.heap.size w (wr.setCells w.heap.size 0 (intsI 16 V).toArray.toList) := below_setCells (Nat.le_refl _) _ _ _ hb
            have hss : w.heap.size < (wr.setCells w.heap.size 0 (intsI 16 V).toArray.toList).heap.size := by rw [(setCells_same _ _ _ _).2.2.2]; omega
            obtain ⟨W9, hW9⟩ : ∃ W9, W9 = wr.setCells w.heap.size 0 (intsI 16 V).toArray.toList := ⟨_, rfl⟩
            have HW9 := Hid.mk' hW9
            rw [← hW9] at hst hbs hss
            clear hY2 hV hW9 hR
            go_wp2_with (first
              | (refine wpList_load_mid rfl 52 _ rfl D 0 rfl (intsI 16 V) _ hRr Try.underlying52 rfl hi0 ?_)
              | (refine wpList_store_mid rfl 52 _ _ rfl w.heap.size 0 (intsI 16 V).toArray rfl rfl hth hi2 ho ?_; rw [← HW9.out]))
            go_roundw
            case rel =>
              refine ⟨k + 1, by omega, by go_num, ?_, hbs, hss⟩
              rw [Hsub.out, HY2.out, ← HV.out]
              exact hst
            case measure => simp [intOf]; omega
          · have hY2 : subL Y = Y := by unfold subL; rw [if_neg (by rw [← Hx.out]; exact hneg)]
            have HY2 := Hid.mk' hY2
            have hneg' : x < 0 := by omega
            clear hY2
            go_wp2
            go_roundw
            case rel =>
              refine ⟨k + 1, by omega, by go_num, ?_, hb, by omega⟩
              rw [Hsub.out, HY2.out]
              exact hA
            case measure => simp [intOf]; omega
    · have hke : k = 2 := by omega
      subst hke
      clear hz
      obtain ⟨Z, hZ⟩ : ∃ Z, Z = subN X 2 := ⟨_, rfl⟩
      have HZ := Hid.mk' hZ
      rw [← hZ] at hA hcn
      clear hZ
      go_wp2
      go_loopw [8, 9] (fun v i wq => ∃ k : Nat, k ≤ 16 ∧ i = .int .i64 k ∧ Own (w.heap.size + 1) wq v (2 * k) (bytL Z) ∧ IRow wq w.heap.size 16 Z ∧ Below w.heap.size w wq ∧ w.heap.size < wq.heap.size) (fun _ i _ => 16 - (intOf i).toNat)
      case atStart => exact ⟨0, Nat.zero_le _, rfl, Own.nil _ _ _, hA, hb, hs⟩
      case round =>
        clear hA hb hs
        obtain ⟨k, hk, rfl, own, hA, hb, hs⟩ := hrel
        by_cases hlk : k < 16
        · obtain ⟨ra, fa⟩ := hA k hlk
          have hzb := hcn k hlk
          have hS : ∀ w' : World, Below (w.heap.size + 1) wr w' → ∀ b o, b < w.heap.size + 1 → w'.cell? ⟨b, o, none⟩ = wr.cell? ⟨b, o, none⟩ := fun w' h b o hb => h.cell (p := ⟨b, o, none⟩) hb
          have hb0 : Below (w.heap.size + 1) wr wr.drew := (Below.refl _ _).drew
          have own0 : Own (w.heap.size + 1) wr.drew _ (2 * k) (bytL Z) := own.below (Below.refl _ _).drew
          have hs0 : w.heap.size + 1 ≤ wr.drew.heap.size := hs
          have hki : (0 : Int) ≤ (k : Int) ∧ (k : Int) < 16 := by omega
          have y0 : IntKind.u8.wrap (Z k) = ((bytL Z (2 * k) : Nat) : Int) := by rw [IntKind.wrap_u8]; unfold bytL; rw [show 2 * k % 2 = 0 by omega, show 2 * k / 2 = k by omega, if_pos rfl]; omega
          have y1 : IntKind.u8.wrap (Z k / 256) = ((bytL Z (2 * k + 1) : Nat) : Int) := by rw [IntKind.wrap_u8]; unfold bytL; rw [show (2 * k + 1) % 2 = 1 by omega, show (2 * k + 1) / 2 = k by omega, if_neg (by decide)]; omega
          have Hy0 := Hid.mk' y0
          have Hy1 := Hid.mk' y1
          clear y0 y1
          go_wp2
          go_region_held3 (fun w' => Below (w.heap.size + 1) wr w') (first | assumption | exact Below.alloc (by assumption) (by assumption) _) (first | (refine step_append_two rfl (.tmp 67) (.tmp 79) rfl rfl (w.heap.size + 1) _ (2 * k) (bytL Z) _ _ rfl own0 _ rfl rfl Hy0.out Hy1.out (by omega) hs0 ?_; intro v' w' hown1 hbx; have hbn : Below (w.heap.size + 1) wr w' := hb0.trans hbx))
          go_wp2
          go_roundw
          case rel =>
            have hsn := hbn.size
            have own2 : Own (w.heap.size + 1) w' v' (2 * (k + 1)) (bytL Z) := hown1.start (by omega)
            have hA2 := hA.below hbn (by omega)
            have hb2 : Below w.heap.size w w' := hb.trans (hbn.mono (by omega))
            first
              | exact ⟨k + 1, by omega, by go_num, own2, hA2, hb2, by omega⟩
              | (repeat apply Exists.intro
                 refine ⟨?_, rfl⟩
                 exact ⟨k + 1, by omega, by go_num, own2, hA2, hb2, by omega⟩)
          case measure => simp [intOf]; omega
        · have hke : k = 16 := by omega
          subst hke
          go_wp2
          go_ret
          rw [← HZ.out]
          exact ⟨_, rfl, own_base own (by omega), hb⟩
end Go.Proofs.Ytinigkpidhbgcaa
