/- What Mul of the reference does in the model. -/
import Derived.Test.YtjbjbnooocbleaaRAny
import Derived.Test.YtjbjbnooocbleaaLIgnores
namespace Go.Proofs.Ytjbjbnooocbleaa
open Go.RowKit
theorem wpList_build_to {P : Program} {ops : Array Oper} {rest : List Oper} {o : Oper} {a : Act} {w : World} {Q : Exit → Act → World → Prop} (hg : o.guard = none) (t : TypeId) (parts : Array (Nat × Operand)) (ho : o.op = .build t parts) (cells : Array Value)
    (hf : P.built t (parts.map fun (i, x) => (i, a.eval x)).toList = some cells) (h : wpList P ops Q rest (a.put o.dst (.agg cells)) w) : wpList P ops Q (o :: rest) a w :=
  wpList_build hg t parts ho (by rw [hf]; rfl) (by rw [hf]; exact h)
theorem wpList_build2 {P : Program} {ops : Array Oper} {rest : List Oper} {o : Oper} {a : Act} {w : World} {Q : Exit → Act → World → Prop} (hg : o.guard = none) (t : TypeId) (i j : Nat) (x y : Operand) (ho : o.op = .build t #[(i, x), (j, y)]) (u v : Value) (hx : a.eval x = u) (hy : a.eval y = v) (cells : Array Value)
    (hf : P.built t [(i, u), (j, v)] = some cells) (h : wpList P ops Q rest (a.put o.dst (.agg cells)) w) : wpList P ops Q (o :: rest) a w :=
  wpList_build_to hg t _ ho cells (by simp only [List.map_toArray, List.map_cons, List.map_nil, hx, hy, hf]) h
theorem RowAt.far_block {K : IntKind} {w : World} {b o n : Nat} {X : Nat → Nat} (h : RowAt K w b o n X) (k p : Nat) (vs : List Value) (hk : b ≠ k) : RowAt K (w.setCells k p vs) b o n X := fun j hj => by
  have hb : (w.setCells k p vs).heap[b]? = w.heap[b]? := heap_setCells_other k vs p w b hk
  exact ⟨(World.cell?_of_block (w := w) hb).trans (h j hj).1, (World.frozen?_of_block (w := w) hb).trans (h j hj).2⟩
theorem freshP' (w : World) : RW (w.alloc (.cells zP 52)) w.heap.size 0 (i32 (fun _ => 0) (fun _ => 0)) := by rw [zP_eq]; exact RW.fresh w _ _
theorem inv_mulE (x z e : Nat) (h : pF - 2 = e) : fmul x (z ^ e) % pF = fmul x (finv z) := by
  unfold fmul finv
  rw [h, Nat.mod_mod, Nat.mul_mod_mod]
theorem rlmul_key (v : Value) (n : Nat) (bs : Nat → Nat) (u : Value) (w : World) (hv : BytesIn w v n bs) (hn : n ≠ 32) : Calls Try.prog 15 #[v, u] w fun e w' => e = .returned (.tuple #[.slice none 0 0, .int .i64 1]) ∧ Below w.heap.size w w' := by
  have hC := rclamp_bad v n bs w hv hn
  go_enter Try.func15, Try.ntmps15
  go_wp2_with (go_at_call 10; refine hC.mono ?_; clear hC; rintro e w1 ⟨rfl, rfl⟩)
  exact bodyPost_ret (results_tmp2 rfl _ _ _) rfl ⟨rfl, Below.refl _ _⟩
theorem rlmul_point (v u : Value) (m : Nat) (bs cs : Nat → Nat) (hbs : ∀ j, bs j < 256) (w : World) (hv : BytesIn w v 32 bs) (hu : BytesIn w u m cs) (hm : m ≠ 32) : Calls Try.prog 15 #[v, u] w fun e w' => e = .returned (.tuple #[.slice none 0 0, .int .i64 1]) ∧ Below w.heap.size w w' := by
  have hC := rclamp_good v bs hbs w hv
  obtain ⟨xu, cu, rfl, -, -, -⟩ := hu.src
  have h1 : ¬((m : Int) = 32) := by omega
  go_enter Try.func15, Try.ntmps15
  go_wp2_with (go_at_call 10; refine hC.mono ?_; clear hC; rintro e w1 ⟨s, rfl, hs, hb1⟩)
  exact bodyPost_ret (results_tmp2 rfl _ _ _) rfl ⟨rfl, hb1⟩
abbrev qz8x3 : Oper := { dst := some 11, op := Op.alloc 52, type := 0, pos := "ref.go:54", after := #[], guard := none }
abbrev qz8x1 : Oper := { dst := some 40, op := Op.call { callee := Callee.value (Operand.func 27), args := #[Operand.const (Value.int IntKind.i64 1)], argTypes := #[3] }, type := 48, pos := "ref.go:54", after := #[], guard := none }
abbrev qz8x4 : Oper := { dst := none, op := Op.store 52 (Operand.tmp 11) (Operand.tmp 41), type := 0, pos := "ref.go:54", after := #[{ on := 3, ground := Ground.data }, { on := 2, ground := Ground.data }, { on := 1, ground := Ground.chain }, { on := 0, ground := Ground.phase }, { on := 1, ground := Ground.phase }, { on := 2, ground := Ground.phase }, { on := 3, ground := Ground.phase }], guard := none }
abbrev qz15x4 : Oper := { dst := some 75, op := Op.call { callee := Callee.value (Operand.func 31), args := #[Operand.tmp 74], argTypes := #[48] }, type := 48, pos := "ref.go:62", after := #[{ on := 3, ground := Ground.data }], guard := none }
abbrev qz15x5 : Oper := { dst := some 76, op := Op.call { callee := Callee.value (Operand.func 30), args := #[Operand.tmp 72, Operand.tmp 75], argTypes := #[48, 48] }, type := 48, pos := "ref.go:62", after := #[{ on := 1, ground := Ground.data }, { on := 4, ground := Ground.data }, { on := 4, ground := Ground.chain }], guard := none }
abbrev qz15x6 : Oper := { dst := some 77, op := Op.call { callee := Callee.value (Operand.func 29), args := #[Operand.tmp 76], argTypes := #[48] }, type := 22, pos := "ref.go:62", after := #[{ on := 5, ground := Ground.data }, { on := 5, ground := Ground.chain }], guard := none }
set_option maxRecDepth 20000 in
set_option maxHeartbeats 16000000 in
theorem rlmul_good (v u : Value) (bs cs : Nat → Nat) (hbs : ∀ j, bs j < 256) (hcs : ∀ j, cs j < 256) (w : World) (hv : BytesIn w v 32 bs) (hu : BytesIn w u 32 cs) : Calls Try.prog 15 #[v, u] w fun e w' => ∃ s, e = .returned (.tuple #[s, .int .i64 0]) ∧ BytesIn w' s 32 (byt (mulL (clB bs) (ofB (loB cs) 32 % pF))) ∧ Below w.heap.size w w' := by
  have hz := zeroR
  have hzp := zeroP
  have hC := rclamp_good v bs hbs w hv
  have hKl := clB_lt hbs
  generalize clB bs = K at *
  obtain ⟨NN, hNN⟩ : ∃ N, N = ofB (loB cs) 32 % pF := ⟨_, rfl⟩
  have hNl : NN < pF := by rw [hNN]; exact Nat.mod_lt _ (by decide)
  obtain ⟨q1, hq1⟩ : ∃ q, q = cs 31 % 128 := ⟨_, rfl⟩
  have eq1 : bits .and .u8 (cs 31 : Int) 127 = (q1 : Int) := by rw [hq1]; exact and_127 _ (hcs 31)
  have hq3 : ∀ j, j < 32 → upd cs 31 q1 j = loB cs j := fun j _ => by
    unfold loB upd; rw [hq1]
  have hul3 : ∀ j, upd cs 31 q1 j < 256 := fun j => by
    unfold upd; rw [hq1]
    have := hcs 31
    split
    · omega
    · exact hcs j
  obtain ⟨X1, hX1⟩ : ∃ X, X = fromL (upd cs 31 q1) := ⟨_, rfl⟩
  have hX : Rep X1 NN := by
    rw [hX1, hNN, ← ofB_congr 32 hq3]
    exact (rep_from _ hul3).cast (by rw [Nat.mod_mod])
  have hF : ∀ s W, BytesIn W s 32 (upd cs 31 q1) → Calls Try.prog 26 #[s] W fun e w' => e = .returned (.agg (i16 X1).toArray) ∧ Below W.heap.size W w' := fun s W h => by
    rw [hX1]; exact rfrom s _ hul3 W h
  rw [← hNN]
  clear hX1 hNN hq1 hq3 hul3
  obtain ⟨A1, hA1⟩ : ∃ A, A = carryL (smL 1) := ⟨_, rfl⟩
  obtain ⟨A0, hA0⟩ : ∃ A, A = carryL (smL 0) := ⟨_, rfl⟩
  have hS1 : ∀ W, Calls Try.prog 27 #[.int .i64 1] W fun e w' => e = .returned (.agg (i16 A1).toArray) ∧ Below W.heap.size W w' := fun W => by rw [hA1]; exact rsmall_any 1 (by decide) (by decide) W
  have hS0 : ∀ W, Calls Try.prog 27 #[.int .i64 0] W fun e w' => e = .returned (.agg (i16 A0).toArray) ∧ Below W.heap.size W w' := fun W => by rw [hA0]; exact rsmall_any 0 (by decide) (by decide) W
  have hS2 := hS1
  have hc0 : Hid (climbR X1 K 0 = ⟨A1, A0, X1, A1⟩) := Hid.mk' (by rw [hA1, hA0]; rfl)
  clear hA1 hA0
  obtain ⟨xu, cu, rfl, hun, -, hsrc⟩ := hu.src
  clear hu hv hbs hcs
  have z0 := put1 q1
  obtain ⟨M, hM⟩ : ∃ M, M = mulL K NN := ⟨_, rfl⟩
  rw [← hM]
  have HM : Hid (fmul (climbL NN K 255).xl (finv (climbL NN K 255).zl) = M) := Hid.mk' hM.symm
  clear hM
  go_enter Try.func15, Try.ntmps15
  go_upto_region 8 with (first
    | (go_at_call 10; refine hC.mono ?_; clear hC; rintro e w1 ⟨s1, rfl, ⟨g0, cap0, rfl, hcap0, hg0, r0⟩, hb1⟩; (have src0 := hsrc (w1.alloc (.cells #[] 5)) (hb1.alloc hb1.size _)); clear hsrc)
    | (at_builtin; refine wpList_append_empty rfl (.tmp 25) (.tmp 26) rfl w1.heap.size cs _ rfl rfl xu 32 cu rfl src0 hun (by omega) (Nat.le_refl _) ?_; intro v4 w4 own4 hb4; clear src0; (obtain ⟨g4, cap4, hv4, hg4, hgl4, hcap4, row4⟩ : ∃ g cap, v4 = .slice (some ⟨g, 0, none⟩) 32 cap ∧ w1.heap.size ≤ g ∧ g < w4.heap.size ∧ 32 ≤ cap ∧ RowAt .u8 w4 g 0 32 cs := own4.form.resolve_left (fun h => by omega)); subst hv4; clear own4; (have c31 := (row4 31 (by decide)).1); (have f31 := (row4 31 (by decide)).2); rw [Nat.zero_add] at c31 f31; (obtain ⟨V4, hV4, rz, hbV4⟩ := z0 _ _ _ _ row4 hb4 hg4); (have HV4 := Hid.mk' hV4); clear hV4 z0 row4 hb4; (replace r0 := r0.below hbV4 (block_lt_of_cell (r0 0 (by decide)).1)); (have hbw4 := below_next hb1 hbV4); clear hb1 hbV4)
    | (go_at_call 26; rw [← HV4.out]; refine (hF _ _ (cap_src rz hcap4)).mono ?_; clear hF HV4 rz c31 f31; rintro e w5 ⟨rfl, hb5⟩; (replace r0 := r0.below hb5 (block_lt_of_cell (r0 0 (by decide)).1)); (have hbw5 := below_next hbw4 hb5); clear hbw4 hb5; (have t5 := freshRt w5 X1); (have z5 := freshR' w5); (obtain ⟨V6, hV6⟩ : ∃ V, V = (w5.alloc (.cells zI 48)).setCells w5.heap.size 0 (i16 X1) := ⟨_, rfl⟩); (have hx : RW V6 w5.heap.size 0 (i16 X1) := by rw [hV6]; exact z5.stored (i16 X1) (by rw [i16_len, i16_len])); (have bV6 : Below w5.heap.size w5 V6 := by rw [hV6]; exact below_setCells (Nat.le_refl _) _ _ _ ((Below.refl _ _).alloc (Nat.le_refl _) _)); (have HV6 := Hid.mk' hV6); clear hV6 z5)
    | (go_at_call 27; refine (hS1 _).mono ?_; clear hS1; rintro e w7 ⟨rfl, hb7⟩; (replace hx := (hx.still hb7)); (have hbw7 := below_next (below_next hbw5 bV6) hb7); (replace r0 := (r0.below bV6 (block_lt_of_cell (r0 0 (by decide)).1)).below hb7 (Nat.lt_of_lt_of_le (block_lt_of_cell (r0 0 (by decide)).1) bV6.size)); clear hbw5 bV6 hb7)
    | (go_at_call 27; refine (hS0 _).mono ?_; clear hS0; rintro e w8 ⟨rfl, hb8⟩; (replace hx := (hx.still hb8)); (have hbw8 := below_next hbw7 hb8); (replace r0 := r0.below hb8 (block_lt_of_cell (r0 0 (by decide)).1)); (have k010 : g0 ≠ w8.heap.size := Nat.ne_of_lt (block_lt_of_cell (r0 0 (by decide)).1)); (have n910 : w5.heap.size ≠ w8.heap.size := Nat.ne_of_lt hx.lt); clear hbw7 hb8; (have z8 := freshP' w8); (have t8 : (w8.alloc (.cells zP 52)).there w8.heap.size 0 (i32 A1 A0).toArray.size := there32 z8); (obtain ⟨V9, hV9⟩ : ∃ V, V = (w8.alloc (.cells zP 52)).setCells w8.heap.size 0 (i32 A1 A0) := ⟨_, rfl⟩); (have hp : RW V9 w8.heap.size 0 (i32 A1 A0) := by rw [hV9]; exact z8.stored (i32 A1 A0) (by rw [i32_len, i32_len])); (have bV9 : Below w8.heap.size w8 V9 := by rw [hV9]; exact below_setCells (Nat.le_refl _) _ _ _ ((Below.refl _ _).alloc (Nat.le_refl _) _)); (have HV9 := Hid.mk' hV9); clear hV9 z8)
    | (refine wpList_build2 rfl 52 0 1 _ _ rfl (rV A1) (rV A0) rfl rfl (i32 A1 A0).toArray (builtP A1 A0) ?_)
    | (with_reducible (refine id (?_ : wpList _ _ _ _ _ _)); refine wpList_store_mid rfl 48 _ _ rfl w5.heap.size 0 (i16 X1).toArray rfl rfl t5 (infoIA X1) (oneI X1) ?_; rw [List.toList_toArray, ← HV6.out]; clear t5 HV6)
    | (with_reducible (refine id (?_ : wpList _ _ _ _ _ _)); refine wpList_store_mid rfl 52 _ _ rfl w8.heap.size 0 (i32 A1 A0).toArray rfl rfl t8 (infoQA _ _) (oneQ _ _) ?_; rw [List.toList_toArray, ← HV9.out]; clear t8 HV9))
  dsimp only [Act.put]
  replace hx := hx.still bV9
  have hbw9 := below_next hbw8 bV9
  replace r0 := r0.below bV9 (block_lt_of_cell (r0 0 (by decide)).1)
  have w10 : w.heap.size ≤ w8.heap.size := hbw8.size
  generalize w5.heap.size = g9 at *
  generalize w8.heap.size = g10 at *
  clear hbw8 bV9 hg4 hgl4
  go_cut [11] from 13 (fun s11 wc => ∃ g11, s11 = .pointer (some ⟨g11, 0, none⟩) ∧ Below V9.heap.size V9 wc ∧ V9.heap.size ≤ g11 ∧ RW wc g11 0 (i32 X1 A1))
  case first =>
    have hdrew : Below V9.heap.size V9 V9.drew := (Below.refl _ _).drew
    replace hx := hx.still hdrew
    refine wp_region_noPanic ?_
    refine wp_region_held_drew (S := fun w' => Below V9.drew.heap.size V9.drew w') (by kernel_rfl) (Below.refl _ _) (fun hS => ?_)
    generalize V9.drew = Vz8_ at *
    refine wpAnyH_take (i := 0) (oi := { dst := some 39, op := Op.load 48 (Operand.tmp 9), type := 48, pos := "ref.go:54", after := #[], guard := none }) (v := rV X1) rfl (by kernel_rfl) (by kernel_rfl) (by kernel_rfl) (fun _ _ _ h => h) (yieldsIf_load_mid (by rfl) 48 _ rfl g9 0 rfl (i16 X1) _ (fun _ h => (hx.still h).range) Try.underlying48 rfl (infoI _)) hS ?_
    (try simp only [Act.put, List.setIfInBounds_toArray, List.set_cons_zero, List.set_cons_succ])
    refine wpAnyH_ready (rs := [1, 3]) (by kernel_rfl) (by simp) ?_
    refine AllReadyH.cons (o := qz8x1) rfl (fun K hK => ?_) (AllReadyH.cons (o := qz8x3) rfl (fun K hK => ?_) (AllReadyH.nil))
    · unfold qz8x1
      go_simp
      (go_at_call 27; refine (hS2 _).mono ?_; rintro e wz8_1 ⟨rfl, hbz8_1⟩)
      (try go_simp)
      have hSz8_1 := below_next hS hbz8_1
      refine hK.out _ _ hSz8_1 (fun h => ?_)
      clear h hK K hbz8_1
      (try simp only [Act.put, List.setIfInBounds_toArray, List.set_cons_zero, List.set_cons_succ])
      refine wpAnyH_take (i := 2) (oi := { dst := some 41, op := Op.build 52 #[(0, Operand.tmp 39), (1, Operand.tmp 40)], type := 52, pos := "ref.go:54", after := #[{ on := 0, ground := Ground.data }, { on := 1, ground := Ground.data }], guard := none }) (v := pV X1 A1) rfl (by kernel_rfl) (by kernel_rfl) (by kernel_rfl) (fun _ _ _ h => h) (yields_build2 (by rfl) 52 0 1 _ _ rfl (rV X1) (rV A1) rfl rfl _ (builtP X1 A1)) hSz8_1 ?_
      (try simp only [Act.put, List.setIfInBounds_toArray, List.set_cons_zero, List.set_cons_succ])
      refine wpAnyH_ready (rs := [3]) (by kernel_rfl) (by simp) ?_
      refine AllReadyH.cons (o := qz8x3) rfl (fun K hK => ?_) (AllReadyH.nil)
      unfold qz8x3
      go_simp
      obtain ⟨wz8_2, gz8_2, hwz8_2, hgz8_2, hbz8_2, rz8_2⟩ := freshP wz8_1
      rw [hwz8_2, hgz8_2]
      have hSz8_2 := below_next hSz8_1 hbz8_2
      have Gz8_2 : Vz8_.heap.size ≤ gz8_2 := by have := hSz8_1.size; omega
      refine hK.out _ _ hSz8_2 (fun h => ?_)
      clear h hK K hbz8_2 hwz8_2 hgz8_2
      (try simp only [Act.put, List.setIfInBounds_toArray, List.set_cons_zero, List.set_cons_succ])
      refine wpAnyH_ready (rs := [4]) (by kernel_rfl) (by simp) ?_
      refine AllReadyH.cons (o := qz8x4) rfl (fun K hK => ?_) (AllReadyH.nil)
      unfold qz8x4
      rw [if_pos (by rfl)]
      refine pair_store _ _ rfl gz8_2 (fun _ => 0) (fun _ => 0) X1 A1 rfl rfl rz8_2 hSz8_2 Gz8_2 (fun wz8_3 r0 hSz8_3 far => ?_)
      refine hK.out _ _ hSz8_3 (fun h => ?_)
      clear h hK K rz8_2 far
      have rz8_2 := r0
      clear r0
      (try dsimp only [Act.put])
      refine wpAnyH_done (by kernel_rfl) ?_ _
      refine NoPanic.normal ?_
      go_wp2
      go_meet
      case rel => exact ⟨gz8_2, rfl, below_next hdrew hSz8_3, Nat.le_trans hdrew.size Gz8_2, rz8_2⟩
    · unfold qz8x3
      go_simp
      obtain ⟨wz8_4, gz8_4, hwz8_4, hgz8_4, hbz8_4, rz8_4⟩ := freshP Vz8_
      rw [hwz8_4, hgz8_4]
      have hSz8_4 := below_next hS hbz8_4
      have Gz8_4 : Vz8_.heap.size ≤ gz8_4 := by have := hS.size; omega
      refine hK.out _ _ hSz8_4 (fun h => ?_)
      clear h hK K hbz8_4 hwz8_4 hgz8_4
      (try simp only [Act.put, List.setIfInBounds_toArray, List.set_cons_zero, List.set_cons_succ])
      refine wpAnyH_ready (rs := [1]) (by kernel_rfl) (by simp) ?_
      refine AllReadyH.cons (o := qz8x1) rfl (fun K hK => ?_) (AllReadyH.nil)
      unfold qz8x1
      go_simp
      (go_at_call 27; refine (hS2 _).mono ?_; rintro e wz8_5 ⟨rfl, hbz8_5⟩)
      (try go_simp)
      have hSz8_5 := below_next hSz8_4 hbz8_5
      replace rz8_4 := rz8_4.still hbz8_5
      refine hK.out _ _ hSz8_5 (fun h => ?_)
      clear h hK K hbz8_5
      (try simp only [Act.put, List.setIfInBounds_toArray, List.set_cons_zero, List.set_cons_succ])
      refine wpAnyH_take (i := 2) (oi := { dst := some 41, op := Op.build 52 #[(0, Operand.tmp 39), (1, Operand.tmp 40)], type := 52, pos := "ref.go:54", after := #[{ on := 0, ground := Ground.data }, { on := 1, ground := Ground.data }], guard := none }) (v := pV X1 A1) rfl (by kernel_rfl) (by kernel_rfl) (by kernel_rfl) (fun _ _ _ h => h) (yields_build2 (by rfl) 52 0 1 _ _ rfl (rV X1) (rV A1) rfl rfl _ (builtP X1 A1)) hSz8_5 ?_
      (try simp only [Act.put, List.setIfInBounds_toArray, List.set_cons_zero, List.set_cons_succ])
      refine wpAnyH_ready (rs := [4]) (by kernel_rfl) (by simp) ?_
      refine AllReadyH.cons (o := qz8x4) rfl (fun K hK => ?_) (AllReadyH.nil)
      unfold qz8x4
      rw [if_pos (by rfl)]
      refine pair_store _ _ rfl gz8_4 (fun _ => 0) (fun _ => 0) X1 A1 rfl rfl rz8_4 hSz8_5 Gz8_4 (fun wz8_6 r0 hSz8_6 far => ?_)
      refine hK.out _ _ hSz8_6 (fun h => ?_)
      clear h hK K rz8_4 far
      have rz8_4 := r0
      clear r0
      (try dsimp only [Act.put])
      refine wpAnyH_done (by kernel_rfl) ?_ _
      refine NoPanic.normal ?_
      go_wp2
      go_meet
      case rel => exact ⟨gz8_4, rfl, below_next hdrew hSz8_6, Nat.le_trans hdrew.size Gz8_4, rz8_4⟩
  case rest =>
  obtain ⟨g11, rfl, hb11, hg11, hq⟩ := hcut
  have l9 := hx.lt
  have l10 := hp.lt
  have n911 : g9 ≠ g11 := by omega
  have n1011 : g10 ≠ g11 := by omega
  have k011 : g0 ≠ g11 := Nat.ne_of_lt (Nat.lt_of_lt_of_le (block_lt_of_cell (r0 0 (by decide)).1) hg11)
  have w11 : w.heap.size ≤ g11 := Nat.le_trans hbw9.size hg11
  clear l9 l10
  replace hx := hx.still hb11
  replace hp := hp.still hb11
  replace r0 := r0.below hb11 (block_lt_of_cell (r0 0 (by decide)).1)
  have hbw := below_next hbw9 hb11
  clear hb11 hg11 hbw9 hS2
  go_wp2
  go_loopw [12] (fun i wr => ∃ j : Nat, j ≤ 255 ∧ i = .int .i64 (254 - (j : Int)) ∧ RW wr g9 0 (i16 X1) ∧ RW wr g10 0 (i32 (climbR X1 K j).xl (climbR X1 K j).zl) ∧ RW wr g11 0 (i32 (climbR X1 K j).xh (climbR X1 K j).zh) ∧ RowAt .u8 wr g0 0 32 K ∧ Below w.heap.size w wr) (fun i _ => 256 - (255 - (intOf i + 1)).toNat)
  case atStart => exact ⟨0, Nat.zero_le _, by go_num, hx, by rw [hc0.out]; exact hp, by rw [hc0.out]; exact hq, r0, hbw⟩
  case round =>
    obtain ⟨j, hj, rfl, kx, kp, kq, kr, kb⟩ := hrel
    clear hx hp hq r0 hbw hc0
    have hrep := climbR_rep hNl hX K j
    have hok := climbL_ok NN hNl K j
    by_cases hj2 : j < 255
    · have hnext : climbR X1 K (j + 1) = if bitN K (254 - j) then (stepR X1 (climbR X1 K j).flip).flip else stepR X1 (climbR X1 K j) := rfl
      obtain ⟨r, hr⟩ : ∃ r, r = climbR X1 K j := ⟨_, rfl⟩
      rw [← hr] at kp kq hrep hnext
      clear hr
      obtain ⟨s4, hs4⟩ : ∃ s, s = climbL NN K j := ⟨_, rfl⟩
      rw [← hs4] at hrep hok
      clear hs4
      have cc := (kr ((254 - j) / 8) (by omega)).1
      rw [Nat.zero_add] at cc
      have hi8 : (254 - (j : Int)).toNat = 254 - j := by omega
      have hge : ¬(254 - (j : Int) < 0) := by omega
      have hbit : (bits .and .u8 ((K ((254 - j) / 8) : Int) / 2 ^ ((254 - j) % 8)) 1 == 1) = bitN K (254 - j) := bit_eq K hKl (254 - j)
      cases hb : bitN K (254 - j) with
      | true =>
        rw [hb] at hbit hnext
        rw [if_pos rfl] at hnext
        have kk : ∀ W, Calls Try.prog 28 #[.agg (i16 X1).toArray, .agg (i32 r.xh r.zh).toArray, .agg (i32 r.xl r.zl).toArray] W fun e w' => e = .returned (.tuple #[.agg (i32 (stepR X1 r.flip).xl (stepR X1 r.flip).zl).toArray, .agg (i32 (stepR X1 r.flip).xh (stepR X1 r.flip).zh).toArray]) ∧ Below W.heap.size W w' := fun W => rstep_any X1 NN r.flip s4.flip hX hrep.flip ⟨hok.xh, hok.zh, hok.xl, hok.zl⟩ W
        have hn := Hid.mk' hnext
        clear hnext hrep hok hb
        obtain ⟨R, hR⟩ : ∃ R, R = stepR X1 r.flip := ⟨_, rfl⟩
        rw [← hR] at kk
        have HR := Hid.mk' hR
        clear hR
        go_wp2_with (first
          | (refine wpList_load_mid rfl 48 _ rfl g9 0 rfl (i16 X1) _ kx.range Try.underlying48 rfl (infoI X1) ?_)
          | (refine wpList_load_mid rfl 52 _ rfl g11 0 rfl (i32 r.xh r.zh) _ kq.range Try.underlying52 rfl (infoQ _ _) ?_)
          | (refine wpList_load_mid rfl 52 _ rfl g10 0 rfl (i32 r.xl r.zl) _ kp.range Try.underlying52 rfl (infoQ _ _) ?_)
          | (go_at_call 28; refine (kk _).mono ?_; clear kk; rintro e w9 ⟨rfl, hb9⟩; clear cc hbit; (replace kx := kx.still hb9); (replace kp := kp.still hb9); (replace kq := kq.still hb9); (replace kr := kr.below hb9 (block_lt_of_cell (kr 0 (by decide)).1)); (replace kb := below_next kb hb9); clear hb9; (have tA : w9.there g11 0 (i32 R.xl R.zl).toArray.size := there32 kq); (obtain ⟨V1, hV1⟩ : ∃ V, V = w9.setCells g11 0 (i32 R.xl R.zl) := ⟨_, rfl⟩); (replace kq := kq.stored (i32 R.xl R.zl) (by rw [i32_len, i32_len])); (replace kp := kp.far g11 0 (i32 R.xl R.zl) (.inl n1011)); (replace kx := kx.far g11 0 (i32 R.xl R.zl) (.inl n911)); (replace kr := RowAt.far_block kr g11 0 (i32 R.xl R.zl) k011); (replace kb := below_setCells w11 (i32 R.xl R.zl) 0 _ kb); rw [← hV1] at kx kp kq kr kb; (have H1 := Hid.mk' hV1); clear hV1; (have tB : V1.there g10 0 (i32 R.xh R.zh).toArray.size := there32 kp); (obtain ⟨V2, hV2⟩ : ∃ V, V = V1.setCells g10 0 (i32 R.xh R.zh) := ⟨_, rfl⟩); (replace kp := kp.stored (i32 R.xh R.zh) (by rw [i32_len, i32_len])); (replace kq := kq.far g10 0 (i32 R.xh R.zh) (.inl n1011.symm)); (replace kx := kx.far g10 0 (i32 R.xh R.zh) (.inl n910)); (replace kr := RowAt.far_block kr g10 0 (i32 R.xh R.zh) k010); (replace kb := below_setCells w10 (i32 R.xh R.zh) 0 _ kb); rw [← hV2] at kx kp kq kr kb; (have H2 := Hid.mk' hV2); clear hV2)
          | (with_reducible (refine id (?_ : wpList _ _ _ _ _ _)); refine wpList_store_mid rfl 52 _ _ rfl g11 0 (i32 R.xl R.zl).toArray rfl rfl tA (infoQA _ _) (oneQ _ _) ?_; rw [List.toList_toArray, ← H1.out]; clear tA)
          | (with_reducible (refine id (?_ : wpList _ _ _ _ _ _)); refine wpList_store_mid rfl 52 _ _ rfl g10 0 (i32 R.xh R.zh).toArray rfl rfl tB (infoQA _ _) (oneQ _ _) ?_; rw [List.toList_toArray, ← H2.out]; clear tB))
        go_roundw
        case rel => exact ⟨j + 1, by omega, by go_num, kx, by rw [hn.out, ← HR.out]; exact kp, by rw [hn.out, ← HR.out]; exact kq, kr, kb⟩
        case measure => simp [intOf]; omega
      | false =>
        rw [hb] at hbit hnext
        rw [if_neg (by decide)] at hnext
        have kk : ∀ W, Calls Try.prog 28 #[.agg (i16 X1).toArray, .agg (i32 r.xl r.zl).toArray, .agg (i32 r.xh r.zh).toArray] W fun e w' => e = .returned (.tuple #[.agg (i32 (stepR X1 r).xl (stepR X1 r).zl).toArray, .agg (i32 (stepR X1 r).xh (stepR X1 r).zh).toArray]) ∧ Below W.heap.size W w' := fun W => rstep_any X1 NN r s4 hX hrep hok W
        have hn := Hid.mk' hnext
        clear hnext hrep hok hb
        obtain ⟨R, hR⟩ : ∃ R, R = stepR X1 r := ⟨_, rfl⟩
        rw [← hR] at kk
        have HR := Hid.mk' hR
        clear hR
        go_wp2_with (first
          | (refine wpList_load_mid rfl 48 _ rfl g9 0 rfl (i16 X1) _ kx.range Try.underlying48 rfl (infoI X1) ?_)
          | (refine wpList_load_mid rfl 52 _ rfl g10 0 rfl (i32 r.xl r.zl) _ kp.range Try.underlying52 rfl (infoQ _ _) ?_)
          | (refine wpList_load_mid rfl 52 _ rfl g11 0 rfl (i32 r.xh r.zh) _ kq.range Try.underlying52 rfl (infoQ _ _) ?_)
          | (go_at_call 28; refine (kk _).mono ?_; clear kk; rintro e w9 ⟨rfl, hb9⟩; clear cc hbit; (replace kx := kx.still hb9); (replace kp := kp.still hb9); (replace kq := kq.still hb9); (replace kr := kr.below hb9 (block_lt_of_cell (kr 0 (by decide)).1)); (replace kb := below_next kb hb9); clear hb9; (have tA : w9.there g10 0 (i32 R.xl R.zl).toArray.size := there32 kp); (obtain ⟨V1, hV1⟩ : ∃ V, V = w9.setCells g10 0 (i32 R.xl R.zl) := ⟨_, rfl⟩); (replace kp := kp.stored (i32 R.xl R.zl) (by rw [i32_len, i32_len])); (replace kq := kq.far g10 0 (i32 R.xl R.zl) (.inl n1011.symm)); (replace kx := kx.far g10 0 (i32 R.xl R.zl) (.inl n910)); (replace kr := RowAt.far_block kr g10 0 (i32 R.xl R.zl) k010); (replace kb := below_setCells w10 (i32 R.xl R.zl) 0 _ kb); rw [← hV1] at kx kp kq kr kb; (have H1 := Hid.mk' hV1); clear hV1; (have tB : V1.there g11 0 (i32 R.xh R.zh).toArray.size := there32 kq); (obtain ⟨V2, hV2⟩ : ∃ V, V = V1.setCells g11 0 (i32 R.xh R.zh) := ⟨_, rfl⟩); (replace kq := kq.stored (i32 R.xh R.zh) (by rw [i32_len, i32_len])); (replace kp := kp.far g11 0 (i32 R.xh R.zh) (.inl n1011)); (replace kx := kx.far g11 0 (i32 R.xh R.zh) (.inl n911)); (replace kr := RowAt.far_block kr g11 0 (i32 R.xh R.zh) k011); (replace kb := below_setCells w11 (i32 R.xh R.zh) 0 _ kb); rw [← hV2] at kx kp kq kr kb; (have H2 := Hid.mk' hV2); clear hV2)
          | (with_reducible (refine id (?_ : wpList _ _ _ _ _ _)); refine wpList_store_mid rfl 52 _ _ rfl g10 0 (i32 R.xl R.zl).toArray rfl rfl tA (infoQA _ _) (oneQ _ _) ?_; rw [List.toList_toArray, ← H1.out]; clear tA)
          | (with_reducible (refine id (?_ : wpList _ _ _ _ _ _)); refine wpList_store_mid rfl 52 _ _ rfl g11 0 (i32 R.xh R.zh).toArray rfl rfl tB (infoQA _ _) (oneQ _ _) ?_; rw [List.toList_toArray, ← H2.out]; clear tB))
        go_roundw
        case rel => exact ⟨j + 1, by omega, by go_num, kx, by rw [hn.out, ← HR.out]; exact kp, by rw [hn.out, ← HR.out]; exact kq, kr, kb⟩
        case measure => simp [intOf]; omega
    · obtain rfl : j = 255 := by omega
      have kpX : RW wr g10 0 (i16 (climbR X1 K 255).xl) := kp.left
      have kpZ : RW wr g10 16 (i16 (climbR X1 K 255).zl) := by have := kp.right; rwa [i16_len] at this
      have hm := HM.out
      clear HM
      have hrx := hrep.xl
      have hrz := hrep.zl
      clear hrep kp
      generalize (climbR X1 K 255).xl = XX at *
      generalize (climbR X1 K 255).zl = ZZ at *
      generalize (climbL NN K 255).xl = xx at *
      generalize (climbL NN K 255).zl = zz at *
      clear kq kx kr hok hj hj2
      obtain ⟨E, hE⟩ : ∃ E : Nat, 57896044618658097711785492504343953926634992332820282019728792003956564819947 = E := ⟨_, rfl⟩
      have hE2 : pF - 2 = E := by rw [← hE]; decide
      have hI := fun W => rinverse_any ZZ zz hrz W
      rw [hE] at hI
      clear hE
      go_upto_region 15 with (fail)

      have hdrew : Below wr.heap.size wr wr.drew := (Below.refl _ _).drew
      replace kpX := kpX.still hdrew
      replace kpZ := kpZ.still hdrew
      refine wp_region_noPanic ?_
      refine wp_region_held_drew (S := fun w' => Below wr.drew.heap.size wr.drew w') (by kernel_rfl) (Below.refl _ _) (fun hS => ?_)
      generalize wr.drew = Vz15_ at *
      refine wpAnyH_take (i := 0) (oi := { dst := some 71, op := Op.fieldAddr 52 (Operand.tmp 10) 0, type := 0, pos := "ref.go:62", after := #[], guard := none }) (v := ?vz15_1) rfl (by kernel_rfl) (by kernel_rfl) (by kernel_rfl) (fun _ _ _ h => h) (Or.inl ⟨by rfl, ?hz15_1⟩) hS ?rz15_1
      case hz15_1 =>
        intro w hSw
        go_simp
        try with_reducible rfl
      (try simp only [Act.put, List.setIfInBounds_toArray, List.set_cons_zero, List.set_cons_succ])
      refine wpAnyH_take (i := 1) (oi := { dst := some 72, op := Op.load 48 (Operand.tmp 71), type := 48, pos := "ref.go:62", after := #[{ on := 0, ground := Ground.data }], guard := none }) (v := rV XX) rfl (by kernel_rfl) (by kernel_rfl) (by kernel_rfl) (fun _ _ _ h => h) (yieldsIf_load_mid (by rfl) 48 _ rfl g10 0 rfl (i16 XX) _ (fun _ h => (kpX.still h).range) Try.underlying48 rfl (infoI _)) hS ?_
      (try simp only [Act.put, List.setIfInBounds_toArray, List.set_cons_zero, List.set_cons_succ])
      refine wpAnyH_take (i := 2) (oi := { dst := some 73, op := Op.fieldAddr 52 (Operand.tmp 10) 1, type := 0, pos := "ref.go:62", after := #[], guard := none }) (v := ?vz15_2) rfl (by kernel_rfl) (by kernel_rfl) (by kernel_rfl) (fun _ _ _ h => h) (Or.inl ⟨by rfl, ?hz15_2⟩) hS ?rz15_2
      case hz15_2 =>
        intro w hSw
        go_simp
        try with_reducible rfl
      (try simp only [Act.put, List.setIfInBounds_toArray, List.set_cons_zero, List.set_cons_succ])
      refine wpAnyH_take (i := 3) (oi := { dst := some 74, op := Op.load 48 (Operand.tmp 73), type := 48, pos := "ref.go:62", after := #[{ on := 2, ground := Ground.data }], guard := none }) (v := rV ZZ) rfl (by kernel_rfl) (by kernel_rfl) (by kernel_rfl) (fun _ _ _ h => h) (yieldsIf_load_mid (by rfl) 48 _ rfl g10 16 rfl (i16 ZZ) _ (fun _ h => (kpZ.still h).range) Try.underlying48 rfl (infoI _)) hS ?_
      (try simp only [Act.put, List.setIfInBounds_toArray, List.set_cons_zero, List.set_cons_succ])
      refine wpAnyH_ready (rs := [4]) (by kernel_rfl) (by simp) ?_
      refine AllReadyH.cons (o := qz15x4) rfl (fun K hK => ?_) (AllReadyH.nil)
      unfold qz15x4
      go_simp
      (go_at_call 31; refine (hI _).mono ?_; clear hI; rintro e wz15_3 ⟨RR, rfl, hRR, hbz15_3⟩)
      (try go_simp)
      have hSz15_3 := below_next hS hbz15_3
      refine hK.out _ _ hSz15_3 (fun h => ?_)
      clear h hK K hbz15_3
      (try simp only [Act.put, List.setIfInBounds_toArray, List.set_cons_zero, List.set_cons_succ])
      refine wpAnyH_ready (rs := [5]) (by kernel_rfl) (by simp) ?_
      refine AllReadyH.cons (o := qz15x5) rfl (fun K hK => ?_) (AllReadyH.nil)
      unfold qz15x5
      go_simp
      (go_at_call 30; refine (rtimes_any XX RR hrx.bd hRR.bd _).mono ?_; rintro e wz15_4 ⟨rfl, hbz15_4⟩)
      (try go_simp)
      have hSz15_4 := below_next hSz15_3 hbz15_4
      refine hK.out _ _ hSz15_4 (fun h => ?_)
      clear h hK K hbz15_4
      (try simp only [Act.put, List.setIfInBounds_toArray, List.set_cons_zero, List.set_cons_succ])
      refine wpAnyH_ready (rs := [6]) (by kernel_rfl) (by simp) ?_
      refine AllReadyH.cons (o := qz15x6) rfl (fun K hK => ?_) (AllReadyH.nil)
      unfold qz15x6
      go_simp
      (go_at_call 29; refine (rbytes (timesL XX RR) ((rw_times hrx.wide hRR.wide).dig.mono (by decide)) _ (rw_times hrx.wide hRR.wide).val _).mono ?_; rintro e wz15_5 ⟨vv, rfl, own, hbz15_5⟩)
      (try go_simp)
      have hSz15_5 := below_next hSz15_4 hbz15_5
      refine hK.out _ _ hSz15_5 (fun h => ?_)
      clear h hK K hbz15_5
      (try simp only [Act.put, List.setIfInBounds_toArray, List.set_cons_zero, List.set_cons_succ])
      refine wpAnyH_take (i := 7) (oi := { dst := some 4, op := Op.assign (Operand.tmp 77), type := 22, pos := "ref.go:62", after := #[{ on := 6, ground := Ground.data }, { on := 6, ground := Ground.chain }, { on := 0, ground := Ground.phase }, { on := 1, ground := Ground.phase }, { on := 2, ground := Ground.phase }, { on := 3, ground := Ground.phase }, { on := 4, ground := Ground.phase }, { on := 5, ground := Ground.phase }, { on := 6, ground := Ground.phase }], guard := none }) (v := ?vz15_6) rfl (by kernel_rfl) (by kernel_rfl) (by kernel_rfl) (fun _ _ _ h => h) (Or.inl ⟨by rfl, ?hz15_6⟩) hSz15_5 ?rz15_6
      case hz15_6 =>
        intro w hSw
        go_simp
        try with_reducible rfl
      (try simp only [Act.put, List.setIfInBounds_toArray, List.set_cons_zero, List.set_cons_succ])
      refine wpAnyH_take (i := 8) (oi := { dst := some 5, op := Op.assign (Operand.const (Value.int IntKind.i64 0)), type := 3, pos := "ref.go:62", after := #[{ on := 7, ground := Ground.chain }, { on := 0, ground := Ground.phase }, { on := 1, ground := Ground.phase }, { on := 2, ground := Ground.phase }, { on := 3, ground := Ground.phase }, { on := 4, ground := Ground.phase }, { on := 5, ground := Ground.phase }, { on := 6, ground := Ground.phase }, { on := 7, ground := Ground.phase }], guard := none }) (v := ?vz15_7) rfl (by kernel_rfl) (by kernel_rfl) (by kernel_rfl) (fun _ _ _ h => h) (Or.inl ⟨by rfl, ?hz15_7⟩) hSz15_5 ?rz15_7
      case hz15_7 =>
        intro w hSw
        go_simp
        try with_reducible rfl
      (try simp only [Act.put, List.setIfInBounds_toArray, List.set_cons_zero, List.set_cons_succ])
      refine wpAnyH_done (by kernel_rfl) ?_ _
      refine NoPanic.normal ?_
      rw [inv_mulE _ _ _ hE2, hm] at own
      go_wp2
      exact bodyPost_ret (results_tmp2 rfl _ _ _) rfl ⟨_, rfl, BytesIn.of_own own, (kb.trans (hdrew.mono kb.size)).trans (hSz15_5.mono (Nat.le_trans kb.size hdrew.size))⟩
end Go.Proofs.Ytjbjbnooocbleaa
