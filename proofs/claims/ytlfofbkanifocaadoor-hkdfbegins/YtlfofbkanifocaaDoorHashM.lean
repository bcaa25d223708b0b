/- What Write and Sum of a made Hash do in the model, at both widths. -/
import Derived.Test.YtlfofbkanifocaaDoorHash
import Derived.Test.YtlfofbkanifocaaDoorPlain
import Derived.Test.YtlfofbkanifocaaDoorConsts
import Derived.Test.YtlfofbkanifocaaDoorTop
namespace Go.Proofs.YtlfofbkanifocaaDoor
open Go.RowKit
theorem Bytes.below {w w' : World} {b : Nat} {v : Value} {n : Nat} {bs : Nat → Nat} (h : Bytes w b v n bs) (hb : Below w.heap.size w w') : Bytes w' b v n bs := by
  rcases h with h | ⟨bb, ob, cap, rfl, h1, h2, h3⟩
  · exact .inl h
  · refine .inr ⟨bb, ob, cap, rfl, h1, h2, fun j hj => ?_⟩
    have := h3 j hj
    exact (hb.cell (p := ⟨bb, ob + j, none⟩) (block_lt_of_cell this)).trans this
theorem Out.pre {b o n : Nat} {u v w : World} (h : Below u.heap.size u v) (hb : b < u.heap.size) (k : Out b o n v w) : Out b o n u w := (Out.of_below h hb).trans k
theorem step_load_mid {P : Program} {ops : Array Oper} {op : Oper} {a : Act} {w : World} {K : Act → World → Prop} {Q : Exit → Act → World → Prop} {E : Prop} (hgd : op.guard = none) (ty : TypeId) (x : Operand) (ho : op.op = .load ty x)
    (b o : Nat) (hx : a.eval x = .pointer (some ⟨b, o, none⟩)) (cs : List Value) (d : TypeDesc) (hc : w.rangeAt b o cs)
    (hu : P.underlying ty = some d) (hd : d.isRow = true) (hi : (P.info? ty).map (·.size) = some cs.length)
    (h : K (a.put op.dst (.agg cs.toArray)) w) : if Region.wanted op (yielded ops a.tmps) = true then op.wp P a w K Q else E := by
  have hw : Region.wanted op (yielded ops a.tmps) = true := by simp [Region.wanted, hgd]
  rw [if_pos hw]
  exact wp_load_mid ty x ho b o hx cs d hc hu hd hi h
/-- A Hash that was made, with these bytes behind it. -/
structure Made256 (w : World) (g : Nat) (n : Nat) (bs : Nat → Nat) : Prop where
  bits : w.cell? ⟨g, 0, none⟩ = some (.int .i64 256)
  eng : ∃ s R, EngAt .u32 w g 1 s R n ∧ Holds rn cubeK (firstS rn squareK) n bs s R ∧ s.lt 4294967296 ∧ ∀ j, R j < 256
theorem Made256.lt {w : World} {g n : Nat} {bs : Nat → Nat} (h : Made256 w g n bs) : g < w.heap.size := block_lt_of_cell h.bits
theorem Made256.below {w w' : World} {g n : Nat} {bs : Nat → Nat} (h : Made256 w g n bs) (hb : Below w.heap.size w w') : Made256 w' g n bs := by
  obtain ⟨s, R, h1, h2, h3, h4⟩ := h.eng
  exact ⟨(hb.cell (p := ⟨g, 0, none⟩) h.lt).trans h.bits, s, R, h1.below hb, h2, h3, h4⟩
theorem Made256.congr {w : World} {g n : Nat} {bs cs : Nat → Nat} (h : Made256 w g n bs) (e : ∀ j, j < n → bs j = cs j) : Made256 w g n cs := by
  obtain ⟨s, R, h1, h2, h3, h4⟩ := h.eng
  exact ⟨h.bits, s, R, h1, h2.congr e, h3, h4⟩
theorem Made256.out {b o m : Nat} {w w' : World} {g n : Nat} {bs : Nat → Nat} (h : Made256 w g n bs) (hb : Out b o m w w') (hne : g ≠ b) : Made256 w' g n bs := by
  obtain ⟨s, R, h1, h2, h3, h4⟩ := h.eng
  exact ⟨(hb.cell' h.lt hne).trans h.bits, s, R, ⟨hb.row h1.st hne, hb.row h1.rest hne, (hb.cell' h.lt hne).trans h1.cnt, (hb.frozen' h.lt hne).trans h1.cntf⟩, h2, h3, h4⟩
theorem newMade256 (w : World) (hT : Tab w cubeK squareK) (bs : Nat → Nat) : Calls Tryd.prog 19 #[.int .i64 256] w fun e w' => ∃ g, e = .returned (.pointer (some ⟨g, 0, none⟩)) ∧ w.heap.size ≤ g ∧ Made256 w' g 0 bs ∧ Below w.heap.size w w' := by
  refine (new256_any squareK hT.qlt w hT.squares hT.narrow).mono ?_
  rintro e w' ⟨g, rfl, hg, h1, h2, hb⟩
  exact ⟨g, rfl, hg, ⟨h1, _, _, h2, Holds.none _ _ _ _ _, firstS_lt rn squareK (by decide) hT.qlt, fun _ => Nat.zero_lt_succ _⟩, hb⟩
set_option maxRecDepth 20000 in
set_option maxHeartbeats 1000000 in
theorem hwrite256_any (g c n : Nat) (v : Value) (bs b2 : Nat → Nat) (hb2 : ∀ j, b2 j < 256) (w : World) (hM : Made256 w g c bs) (hT : Tab w cubeK squareK) (h3 : 3 < g) (hv : Bytes w g v n b2) (hcn : c + n < 4611686018427387904) :
    Calls Tryd.prog 22 #[.pointer (some ⟨g, 0, none⟩), v] w fun e w' => e = .returned (.int .i64 0) ∧ Made256 w' g (c + n) (cat c bs b2) ∧ Out g 1 137 w w' := by
  obtain ⟨hbits, s, R, hE, hH, hs, hR⟩ := hM
  have hgl : g < w.heap.size := block_lt_of_cell hbits
  have hd : Below w.heap.size w w.drew := (Below.refl _ _).drew
  have hTd := hT.below hd hT.size
  have hw := write32_any cubeK hT.Klt s hs R hR g 1 c n v b2 hb2 w.drew (hE.below hd) hTd.cubes (by omega) (hv.below hd) hcn
  have hX := writeE_lt (r := rn) (K := cubeK) (c := c) (n := n) hs hR hb2
  have hHw := hH.write (by decide) n b2
  obtain ⟨X, hXe⟩ : ∃ X, X = writeE rn cubeK s R c n b2 := ⟨_, rfl⟩
  rw [← hXe] at hw hX hHw
  have hm := made_yes g 256 (by decide) w hbits
  obtain ⟨p0, p1, p2, p3, p4, p5, p6, p7, p8, p9, p10, p11, p12, p13⟩ := hT.narrow
  clear hT hTd hv hE hH hXe
  go_enter Tryd.func22, Tryd.ntmps22
  go_wp2_with (go_at_call 42; refine hm.mono ?_; rintro e w' ⟨rfl, hw'⟩; subst hw')
  go_region_with (go_at_call 34; refine hw.mono ?_; rintro e w5 ⟨rfl, hE5, hO5⟩)
  all_goals
    go_wp2
    go_ret
    have hO : Out g 1 137 _ w5 := Out.pre hd hgl hO5
    exact ⟨rfl, ⟨(hO.cell 0 (by omega)).trans hbits, X.1, X.2, hE5, hHw, hX.1, hX.2⟩, hO⟩
set_option maxRecDepth 20000 in
set_option maxHeartbeats 1000000 in
theorem hsum256_any (g c : Nat) (bs : Nat → Nat) (w : World) (hM : Made256 w g c bs) (hT : Tab w cubeK squareK) (hc : c < 2305843009213693952) :
    Calls Tryd.prog 23 #[.pointer (some ⟨g, 0, none⟩)] w fun e w' => ∃ ga, e = .returned (.slice (some ⟨ga, 0, none⟩) 32 32) ∧ w.heap.size ≤ ga ∧ RowAt .u8 w' ga 0 32 (outB 32 (specS rn cubeK squareK c bs)) ∧ Below w.heap.size w w' := by
  obtain ⟨hbits, s, R, hE, hH, hs, hR⟩ := hM
  have hgl : g < w.heap.size := block_lt_of_cell hbits
  have hd : Below w.heap.size w w.drew := (Below.refl _ _).drew
  have hTd := hT.below hd hT.size
  have hsum := sum32_any cubeK hT.Klt s hs R hR c hc w.drew hTd.cubes
  rw [hH.end (by decide)] at hsum
  have hm := made_yes g 256 (by decide) w hbits
  obtain ⟨p0, p1, p2, p3, p4, p5, p6, p7, p8, p9, p10, p11, p12, p13⟩ := hT.narrow
  have hr : ∀ w' : World, Below w.heap.size w w' → w'.rangeAt g 1 (engVals .u32 s R c) := fun w' h => (hE.below h).range
  have hS : ∀ w' : World, Below w.heap.size w w' → ∀ b o, b < w.heap.size → w'.cell? ⟨b, o, none⟩ = w.cell? ⟨b, o, none⟩ := fun w' h b o hb => h.cell (p := ⟨b, o, none⟩) hb
  have h0 : 0 < w.heap.size := by have := hT.size; omega
  have hi' : (Tryd.prog.info? 38).map (·.size) = some (engVals .u32 s R c).length := by rw [engVals_len]; kernel_rfl
  obtain ⟨Y, hY⟩ : ∃ Y, Y = specS rn cubeK squareK c bs := ⟨_, rfl⟩
  rw [← hY] at hsum ⊢
  clear hT hTd hE hH hY
  go_enter Tryd.func23, Tryd.ntmps23
  go_wp2_with (go_at_call 42; refine hm.mono ?_; rintro e w' ⟨rfl, hw'⟩; subst hw')
  refine wp_region_held_drew (S := fun w2 => Below w'.heap.size w' w2) (by kernel_rfl) hd (fun hHeld => ?_)
  refine wpAnyH_take (i := 0) (v := .pointer (some ⟨g, 0, none⟩)) rfl (by kernel_rfl) (by kernel_rfl) (by kernel_rfl) (fun _ _ _ h => h) (Or.inl ⟨by rfl, fun w2 _ => by go_simp⟩) hHeld ?_
  refine wpAnyH_take (i := 1) (v := .pointer (some ⟨g, 0, none⟩)) rfl (by kernel_rfl) (by kernel_rfl) (by kernel_rfl) (fun _ _ _ h => h) (Or.inl ⟨by rfl, fun w2 _ => by go_simp⟩) hHeld ?_
  refine wpAnyH_take (i := 2) (v := .pointer (some ⟨g, 1, none⟩)) rfl (by kernel_rfl) (by kernel_rfl) (by kernel_rfl) (fun _ _ _ h => h) (Or.inl ⟨by rfl, fun w2 _ => by go_simp⟩) hHeld ?_
  refine wpAnyH_take (i := 3) (v := .agg (engVals .u32 s R c).toArray) rfl (by kernel_rfl) (by kernel_rfl) (by kernel_rfl) (fun _ _ _ h => h) (yieldsIf_load_mid (by rfl) 38 _ rfl g 1 rfl _ _ hr Tryd.underlying38 rfl hi') hHeld ?_
  refine wpAnyH_take (i := 4) (v := (.agg #[.int .i64 32, .int .i64 64, .int .u64 7, .int .u64 18, .int .u64 3, .int .u64 17, .int .u64 19, .int .u64 10, .int .u64 2, .int .u64 13, .int .u64 22, .int .u64 6, .int .u64 11, .int .u64 25])) rfl (by kernel_rfl) (by kernel_rfl) (by kernel_rfl) (fun _ _ _ h => h) (Or.inl ⟨by rfl, fun w2 hSw => by go_simp⟩) hHeld ?_
  refine wpAnyH_ready (rs := [5]) (by kernel_rfl) (by simp) ?_
  refine AllReadyH.cons rfl (fun K hK => ?_) AllReadyH.nil
  go_simp
  go_at_call 35
  refine hsum.mono ?_
  rintro e w5 ⟨ga, rfl, hga, hrow, hb5⟩
  have hbn := below_next hd hb5
  go_simp
  refine hK.out _ _ hbn (fun hHeld2 => ?_)
  refine wpAnyH_take (i := 6) (v := .slice (some ⟨ga, 0, none⟩) 32 32) rfl (by kernel_rfl) (by kernel_rfl) (by kernel_rfl) (fun _ _ _ h => h) (Or.inl ⟨by rfl, fun w2 _ => by go_simp⟩) hHeld2 ?_
  refine wpAnyH_done (by kernel_rfl) ?_ _
  go_simp
  go_wp2
  go_ret
  exact ⟨ga, rfl, hga, hrow, hbn⟩
/-- A Hash that was made, with these bytes behind it. -/
structure Made512 (w : World) (g : Nat) (n : Nat) (bs : Nat → Nat) : Prop where
  bits : w.cell? ⟨g, 0, none⟩ = some (.int .i64 512)
  eng : ∃ s R, EngAt .u64 w g 138 s R n ∧ Holds rw6 cubeK (firstS rw6 squareK) n bs s R ∧ s.lt 18446744073709551616 ∧ ∀ j, R j < 256
theorem Made512.lt {w : World} {g n : Nat} {bs : Nat → Nat} (h : Made512 w g n bs) : g < w.heap.size := block_lt_of_cell h.bits
theorem Made512.below {w w' : World} {g n : Nat} {bs : Nat → Nat} (h : Made512 w g n bs) (hb : Below w.heap.size w w') : Made512 w' g n bs := by
  obtain ⟨s, R, h1, h2, h3, h4⟩ := h.eng
  exact ⟨(hb.cell (p := ⟨g, 0, none⟩) h.lt).trans h.bits, s, R, h1.below hb, h2, h3, h4⟩
theorem Made512.congr {w : World} {g n : Nat} {bs cs : Nat → Nat} (h : Made512 w g n bs) (e : ∀ j, j < n → bs j = cs j) : Made512 w g n cs := by
  obtain ⟨s, R, h1, h2, h3, h4⟩ := h.eng
  exact ⟨h.bits, s, R, h1, h2.congr e, h3, h4⟩
theorem Made512.out {b o m : Nat} {w w' : World} {g n : Nat} {bs : Nat → Nat} (h : Made512 w g n bs) (hb : Out b o m w w') (hne : g ≠ b) : Made512 w' g n bs := by
  obtain ⟨s, R, h1, h2, h3, h4⟩ := h.eng
  exact ⟨(hb.cell' h.lt hne).trans h.bits, s, R, ⟨hb.row h1.st hne, hb.row h1.rest hne, (hb.cell' h.lt hne).trans h1.cnt, (hb.frozen' h.lt hne).trans h1.cntf⟩, h2, h3, h4⟩
theorem newMade512 (w : World) (hT : Tab w cubeK squareK) (bs : Nat → Nat) : Calls Tryd.prog 19 #[.int .i64 512] w fun e w' => ∃ g, e = .returned (.pointer (some ⟨g, 0, none⟩)) ∧ w.heap.size ≤ g ∧ Made512 w' g 0 bs ∧ Below w.heap.size w w' := by
  refine (new512_any squareK hT.qlt w hT.squares hT.wide).mono ?_
  rintro e w' ⟨g, rfl, hg, h1, h2, hb⟩
  exact ⟨g, rfl, hg, ⟨h1, _, _, h2, Holds.none _ _ _ _ _, firstS_lt rw6 squareK (by decide) hT.qlt, fun _ => Nat.zero_lt_succ _⟩, hb⟩
set_option maxRecDepth 20000 in
set_option maxHeartbeats 1000000 in
theorem hwrite512_any (g c n : Nat) (v : Value) (bs b2 : Nat → Nat) (hb2 : ∀ j, b2 j < 256) (w : World) (hM : Made512 w g c bs) (hT : Tab w cubeK squareK) (h3 : 3 < g) (hv : Bytes w g v n b2) (hcn : c + n < 4611686018427387904) :
    Calls Tryd.prog 22 #[.pointer (some ⟨g, 0, none⟩), v] w fun e w' => e = .returned (.int .i64 0) ∧ Made512 w' g (c + n) (cat c bs b2) ∧ Out g 138 137 w w' := by
  obtain ⟨hbits, s, R, hE, hH, hs, hR⟩ := hM
  have hgl : g < w.heap.size := block_lt_of_cell hbits
  have hd : Below w.heap.size w w.drew := (Below.refl _ _).drew
  have hTd := hT.below hd hT.size
  have hw := write64_any cubeK hT.Klt s hs R hR g 138 c n v b2 hb2 w.drew (hE.below hd) hTd.cubes (by omega) (hv.below hd) hcn
  have hX := writeE_lt (r := rw6) (K := cubeK) (c := c) (n := n) hs hR hb2
  have hHw := hH.write (by decide) n b2
  obtain ⟨X, hXe⟩ : ∃ X, X = writeE rw6 cubeK s R c n b2 := ⟨_, rfl⟩
  rw [← hXe] at hw hX hHw
  have hm := made_yes g 512 (by decide) w hbits
  obtain ⟨p0, p1, p2, p3, p4, p5, p6, p7, p8, p9, p10, p11, p12, p13⟩ := hT.wide
  clear hT hTd hv hE hH hXe
  go_enter Tryd.func22, Tryd.ntmps22
  go_wp2_with (go_at_call 42; refine hm.mono ?_; rintro e w' ⟨rfl, hw'⟩; subst hw')
  go_region_with (go_at_call 39; refine hw.mono ?_; rintro e w5 ⟨rfl, hE5, hO5⟩)
  all_goals
    go_wp2
    go_ret
    have hO : Out g 138 137 _ w5 := Out.pre hd hgl hO5
    exact ⟨rfl, ⟨(hO.cell 0 (by omega)).trans hbits, X.1, X.2, hE5, hHw, hX.1, hX.2⟩, hO⟩
set_option maxRecDepth 20000 in
set_option maxHeartbeats 1000000 in
theorem hsum512_any (g c : Nat) (bs : Nat → Nat) (w : World) (hM : Made512 w g c bs) (hT : Tab w cubeK squareK) (hc : c < 2305843009213693952) :
    Calls Tryd.prog 23 #[.pointer (some ⟨g, 0, none⟩)] w fun e w' => ∃ ga, e = .returned (.slice (some ⟨ga, 0, none⟩) 64 64) ∧ w.heap.size ≤ ga ∧ RowAt .u8 w' ga 0 64 (outB 64 (specS rw6 cubeK squareK c bs)) ∧ Below w.heap.size w w' := by
  obtain ⟨hbits, s, R, hE, hH, hs, hR⟩ := hM
  have hgl : g < w.heap.size := block_lt_of_cell hbits
  have hd : Below w.heap.size w w.drew := (Below.refl _ _).drew
  have hTd := hT.below hd hT.size
  have hsum := sum64_any cubeK hT.Klt s hs R hR c hc w.drew hTd.cubes
  rw [hH.end (by decide)] at hsum
  have hm := made_yes g 512 (by decide) w hbits
  obtain ⟨p0, p1, p2, p3, p4, p5, p6, p7, p8, p9, p10, p11, p12, p13⟩ := hT.wide
  have hr : ∀ w' : World, Below w.heap.size w w' → w'.rangeAt g 138 (engVals .u64 s R c) := fun w' h => (hE.below h).range
  have hS : ∀ w' : World, Below w.heap.size w w' → ∀ b o, b < w.heap.size → w'.cell? ⟨b, o, none⟩ = w.cell? ⟨b, o, none⟩ := fun w' h b o hb => h.cell (p := ⟨b, o, none⟩) hb
  have h0 : 1 < w.heap.size := by have := hT.size; omega
  have hi' : (Tryd.prog.info? 42).map (·.size) = some (engVals .u64 s R c).length := by rw [engVals_len]; kernel_rfl
  obtain ⟨Y, hY⟩ : ∃ Y, Y = specS rw6 cubeK squareK c bs := ⟨_, rfl⟩
  rw [← hY] at hsum ⊢
  clear hT hTd hE hH hY
  go_enter Tryd.func23, Tryd.ntmps23
  go_wp2_with (go_at_call 42; refine hm.mono ?_; rintro e w' ⟨rfl, hw'⟩; subst hw')
  refine wp_region_held_drew (S := fun w2 => Below w'.heap.size w' w2) (by kernel_rfl) hd (fun hHeld => ?_)
  refine wpAnyH_take (i := 0) (v := .pointer (some ⟨g, 0, none⟩)) rfl (by kernel_rfl) (by kernel_rfl) (by kernel_rfl) (fun _ _ _ h => h) (Or.inl ⟨by rfl, fun w2 _ => by go_simp⟩) hHeld ?_
  refine wpAnyH_take (i := 1) (v := .pointer (some ⟨g, 0, none⟩)) rfl (by kernel_rfl) (by kernel_rfl) (by kernel_rfl) (fun _ _ _ h => h) (Or.inl ⟨by rfl, fun w2 _ => by go_simp⟩) hHeld ?_
  refine wpAnyH_take (i := 2) (v := .pointer (some ⟨g, 138, none⟩)) rfl (by kernel_rfl) (by kernel_rfl) (by kernel_rfl) (fun _ _ _ h => h) (Or.inl ⟨by rfl, fun w2 _ => by go_simp⟩) hHeld ?_
  refine wpAnyH_take (i := 3) (v := .agg (engVals .u64 s R c).toArray) rfl (by kernel_rfl) (by kernel_rfl) (by kernel_rfl) (fun _ _ _ h => h) (yieldsIf_load_mid (by rfl) 42 _ rfl g 138 rfl _ _ hr Tryd.underlying42 rfl hi') hHeld ?_
  refine wpAnyH_take (i := 4) (v := (.agg #[.int .i64 64, .int .i64 80, .int .u64 1, .int .u64 8, .int .u64 7, .int .u64 19, .int .u64 61, .int .u64 6, .int .u64 28, .int .u64 34, .int .u64 39, .int .u64 14, .int .u64 18, .int .u64 41])) rfl (by kernel_rfl) (by kernel_rfl) (by kernel_rfl) (fun _ _ _ h => h) (Or.inl ⟨by rfl, fun w2 hSw => by go_simp⟩) hHeld ?_
  refine wpAnyH_ready (rs := [5]) (by kernel_rfl) (by simp) ?_
  refine AllReadyH.cons rfl (fun K hK => ?_) AllReadyH.nil
  go_simp
  go_at_call 40
  refine hsum.mono ?_
  rintro e w5 ⟨ga, rfl, hga, hrow, hb5⟩
  have hbn := below_next hd hb5
  go_simp
  refine hK.out _ _ hbn (fun hHeld2 => ?_)
  refine wpAnyH_take (i := 6) (v := .slice (some ⟨ga, 0, none⟩) 64 64) rfl (by kernel_rfl) (by kernel_rfl) (by kernel_rfl) (fun _ _ _ h => h) (Or.inl ⟨by rfl, fun w2 _ => by go_simp⟩) hHeld2 ?_
  refine wpAnyH_done (by kernel_rfl) ?_ _
  go_simp
  go_wp2
  go_ret
  exact ⟨ga, rfl, hga, hrow, hbn⟩
end Go.Proofs.YtlfofbkanifocaaDoor
