/- What tags, its iterator and Expand of package hkdf do in the model. -/
import Derived.Test.YtlfofbkanifocaaDoorBlock
import Derived.RangeFuncNested
import Derived.RangeFuncBound
import Derived.RangeFuncCalls
import Derived.RangeFuncLeaves
import Derived.Shelf.Abstract
import Derived.Shelf.RegionOpen
import Derived.OwnWalkIn
import Derived.TacticsInMore
import Derived.LoopNIn
import Derived.LoopIn
namespace Go.Proofs.YtlfofbkanifocaaDoor
open Go.RowKit Go.Shelf
attribute [local go_sem] Oper.semAt_some
theorem tags_any (x1 x2 : Option Addr) (n1 n2 c1 c2 : Nat) (w : World) : Calls Tryd.prog 46 #[.slice x1 n1 c1, .slice x2 n2 c2] w fun e w' => e = .returned (.func (.func 58) #[] #[.pointer (some ⟨w.heap.size, 0, none⟩), .pointer (some ⟨w.heap.size + 1, 0, none⟩)]) ∧ w' = (w.alloc (.cells #[.slice x1 n1 c1] 22)).alloc (.cells #[.slice x2 n2 c2] 22) := by
  go_enter Tryd.func46, Tryd.ntmps46
  go_wp2
  go_ret
  exact ⟨rfl, rfl⟩
/-- T(i), of a key's block and of info: i bytes behind. -/
def tE (kv : Nat → Nat) (m : Nat) (info : Nat → Nat) : Nat → Nat → Nat
  | 0 => fun _ => 0
  | i + 1 => tagH kv ((if i = 0 then 0 else 32) + m + 1) (cat (if i = 0 then 0 else 32) (tE kv m info i) (cat m info (fun _ => i + 1)))
theorem tE_lt (kv : Nat → Nat) (m : Nat) (info : Nat → Nat) : ∀ i j, tE kv m info i j < 256
  | 0, _ => Nat.zero_lt_succ _
  | _ + 1, j => tagH_lt _ _ _ j
/-- All but some blocks of what was there is as it was. -/
structure But (bad : Nat → Prop) (W W' : World) : Prop where
  os : W'.os = W.os
  tape : W'.tape = W.tape
  output : W'.output = W.output
  size : W.heap.size ≤ W'.heap.size
  block : ∀ k, k < W.heap.size → ¬bad k → W'.heap[k]? = W.heap[k]?
theorem But.refl (bad : Nat → Prop) (W : World) : But bad W W := ⟨rfl, rfl, rfl, Nat.le_refl _, fun _ _ _ => rfl⟩
theorem But.trans {bad : Nat → Prop} {A B C : World} (h : But bad A B) (k : But bad B C) : But bad A C := ⟨k.os.trans h.os, k.tape.trans h.tape, k.output.trans h.output, Nat.le_trans h.size k.size, fun i hi hb => (k.block i (Nat.lt_of_lt_of_le hi h.size) hb).trans (h.block i hi hb)⟩
theorem But.row {bad : Nat → Prop} {W W' : World} (h : But bad W W') {K : IntKind} {b o n : Nat} {X : Nat → Nat} (hr : RowAt K W b o n X) (hb : ¬bad b) : RowAt K W' b o n X := fun j hj => by
  have hl : b < W.heap.size := block_lt_of_cell (hr j hj).1
  exact ⟨(World.cell?_of_block (w := W) (h.block b hl hb)).trans (hr j hj).1, (World.frozen?_of_block (w := W) (h.block b hl hb)).trans (hr j hj).2⟩
theorem But.cell {bad : Nat → Prop} {W W' : World} (h : But bad W W') {b o : Nat} {v : Value} (hc : W.cell? ⟨b, o, none⟩ = some v) (hb : ¬bad b) : W'.cell? ⟨b, o, none⟩ = some v :=
  (World.cell?_of_block (w := W) (h.block b (block_lt_of_cell hc) hb)).trans hc
theorem wpListIn_load_mid {P : Program} {n : Nat} {ops : Array Oper} {rest : List Oper} {op : Oper} {a : Act} {w : World} {Q : Exit → Act → World → Prop} (hgd : op.guard = none) (ty : TypeId) (x : Operand) (ho : op.op = .load ty x)
    (b o : Nat) (hx : a.eval x = .pointer (some ⟨b, o, none⟩)) (cs : List Value) (d : TypeDesc) (hc : w.rangeAt b o cs)
    (hu : P.underlying ty = some d) (hd : d.isRow = true) (hi : (P.info? ty).map (·.size) = some cs.length)
    (h : wpListIn Fence.wide n P ops Q rest (a.put op.dst (.agg cs.toArray)) w) : wpListIn Fence.wide n P ops Q (op :: rest) a w :=
  wpListIn_plain hgd fun _ hK => ⟨fun _ _ => trivial, by
    have hsem : (op.semAt Fence.wide.round a.eval) = execOp a.eval op := rfl
    rw [hsem]
    unfold execOp
    simp only [ho, hx, Instr.loadAt, Instr.sureAddr, Sem.run_bind, Sem.run_pure, Result.andThen_ok, run_loadVar_mid w b o ty cs d hc hu hd hi]
    exact hK _ _ h⟩
theorem wpListIn_store_mid {P : Program} {n : Nat} {ops : Array Oper} {rest : List Oper} {op : Oper} {a : Act} {w : World} {Q : Exit → Act → World → Prop} (hgd : op.guard = none) (ty : TypeId) (x y : Operand) (ho : op.op = .store ty x y)
    (b o : Nat) (cells : Array Value) (hx : a.eval x = .pointer (some ⟨b, o, none⟩)) (hy : a.eval y = .agg cells) (ht : w.there b o cells.size) (hi : (P.info? ty).map (·.size) = some cells.size) (h1 : cells.all (·.oneCell') = true)
    (h : wpListIn Fence.wide n P ops Q rest (a.put op.dst undef) (w.setCells b o cells.toList)) : wpListIn Fence.wide n P ops Q (op :: rest) a w :=
  wpListIn_plain hgd fun _ hK => ⟨fun _ _ => trivial, by
    have hsem : (op.semAt Fence.wide.round a.eval) = execOp a.eval op := rfl
    rw [hsem]
    unfold execOp
    simp only [ho, hx, hy, Instr.storeAt, Instr.sureAddr, Sem.run_bind, Sem.run_pure, Result.andThen_ok, run_storeVar_mid w b o ty cells ht hi h1]
    exact hK _ _ h⟩
theorem But.below {bad : Nat → Prop} {W W' : World} (h : But bad W W') {B : Nat} (hB : B ≤ W.heap.size) (hb : ∀ k, bad k → B ≤ k) : Below B W W' := ⟨h.os, h.tape, h.output, h.size, fun k hk => h.block k (by omega) (fun hk' => by have := hb k hk'; omega)⟩
/-- Three lists, one behind the other. -/
theorem parts_three (w : World) (v0 v1 v2 : Value) (a m c : Nat) (b0 b1 b2 : Nat → Nat) (ty : TypeId) (h0 : BytesIn w v0 a b0) (h1 : BytesIn w v1 m b1) (h2 : BytesIn w v2 c b2) : Parts (w.alloc (.cells #[v0, v1, v2] ty)) w.heap.size 3 (a + m + c) (cat a b0 (cat m b1 b2)) := by
  have hb : Below w.heap.size w (w.alloc (.cells #[v0, v1, v2] ty)) := (Below.refl _ _).alloc (Nat.le_refl _) _
  have key : ∀ {v : Value} {n : Nat} {b c : Nat → Nat}, BytesIn w v n b → (∀ j, j < n → b j = c j) → BytesIn (w.alloc (.cells #[v0, v1, v2] ty)) v n c := fun {v n b c} h e => by
    rcases h.still hb with h | ⟨bb, ob, cap, rfl, g1, g2, g3⟩
    · exact .inl h
    · exact .inr ⟨bb, ob, cap, rfl, g1, g2, fun j hj => by rw [g3 j hj, e j hj]⟩
  refine ⟨fun i => if i = 0 then v0 else if i = 1 then v1 else v2, fun i => if i = 0 then 0 else if i = 1 then a else if i = 2 then a + m else a + m + c, rfl, rfl, fun i hi => ?_⟩
  match i, hi with
  | 0, _ =>
    refine ⟨by simp, by simp, by simp; omega, ?_⟩
    refine key (b := b0) (by simpa using h0) (fun j hj => ?_)
    simp at hj
    simp [cat, hj]
  | 1, _ =>
    refine ⟨by simp, by simp, by simp, ?_⟩
    refine key (b := b1) (by simpa using h1) (fun j hj => ?_)
    simp at hj
    simp [cat, hj]
    intro h; omega
  | 2, _ =>
    refine ⟨by simp, by simp, by simp, ?_⟩
    refine key (b := b2) (by simpa using h2) (fun j hj => ?_)
    simp [cat]
    rw [if_neg (by omega), if_neg (by omega)]
    congr 1; omega
/-- What came before: nothing, or a tag in memory. -/
def LastAt (bad : Nat → Prop) (W : World) (v : Value) (j : Nat) (X : Nat → Nat) : Prop := (j = 0 ∧ v = .slice none 0 0) ∨ (0 < j ∧ ∃ g, v = .slice (some ⟨g, 0, none⟩) 32 32 ∧ RowAt .u8 W g 0 32 X ∧ ¬bad g)
theorem LastAt.bytes {bad : Nat → Prop} {W : World} {v : Value} {j : Nat} {X : Nat → Nat} (h : LastAt bad W v j X) : BytesIn W v (if j = 0 then 0 else 32) X := by
  rcases h with ⟨rfl, rfl⟩ | ⟨hj, g, rfl, hr, _⟩
  · exact .inl ⟨none, rfl, rfl⟩
  · rw [if_neg (by omega)]
    exact .inr ⟨g, 0, 32, rfl, block_lt_of_cell (hr 0 (by decide)).1, Nat.le_refl _, fun j hj => (hr j hj).1⟩
set_option maxRecDepth 100000 in
set_option maxHeartbeats 4000000 in
theorem iter_in (n : Nat) (w0 : World) (hT : Tab w0 cubeK squareK) (x1 x2 : Option Addr) (n1 n2 c1 c2 : Nat) (ks info : Nat → Nat) (hks : ∀ j, ks j < 256) (hinfo : ∀ j, info j < 256) (hn1 : n1 < 2305843009213693000) (hn2 : n2 < 2305843009213692000) (hk : BytesIn w0 (.slice x1 n1 c1) n1 ks) (hi : BytesIn w0 (.slice x2 n2 c2) n2 info)
    (l pb ib : Nat) (bad : Nat → Prop) (hbad : ∀ k, bad k → w0.heap.size ≤ k) (hib : ¬bad ib) (Inv : Nat → World → Prop) (Fin : World → Prop) (hInv : ∀ j W W', Inv j W → Below W.heap.size W W' → Inv j W') (hEnd : ∀ W, ¬Inv 255 W)
    (W : World) (hbW : Below w0.heap.size w0 W) (hbad2 : ∀ k, bad k → k < W.heap.size) (hpb : W.cell? ⟨pb, 0, none⟩ = some (.slice x1 n1 c1)) (hic : W.cell? ⟨ib, 0, none⟩ = some (.slice x2 n2 c2))
    (hY : ∀ j g W1, j < 255 → Inv j W1 → RowAt .u8 W1 g 0 32 (tE (keyB n1 ks) n2 info (j + 1)) → ¬bad g → Below w0.heap.size w0 W1 → YieldAt Fence.wide (n - 1) Tryd.prog l #[.slice (some ⟨g, 0, none⟩) 32 32] W1 fun e W' =>
      (e = .returned (.bool true) ∧ Inv (j + 1) W' ∧ But bad W1 W') ∨ (e = .returned (.bool false) ∧ Fin W'))
    (h0 : Inv 0 W) :
    CallsIn Fence.wide n Tryd.prog 58 #[.func (.yield l) #[] #[], .pointer (some ⟨pb, 0, none⟩), .pointer (some ⟨ib, 0, none⟩)] W fun e W' => (∃ v, e = .returned v) ∧ Fin W' := by
  have h3 := hT.size
  have hz := zero64
  have cb := blockOf_any (.slice x1 n1 c1) n1 ks hks hn1 W (hT.below hbW h3) (hk.still hbW)
  refine callsIn_of_wp Tryd.func58 rfl trivial ?_ rfl
  simp only [Tryd.ntmps58, List.size_toArray, List.length_cons, List.length_nil, Nat.reduceAdd, Nat.reduceSub, Array.replicate_succ, Array.replicate_zero, List.push_toArray, List.append_toArray, List.nil_append, List.cons_append]
  obtain ⟨kv, hkv⟩ : ∃ kv, kv = keyB n1 ks := ⟨_, rfl⟩
  have hkl : ∀ j, kv j < 256 := by rw [hkv]; exact keyB_lt hks
  rw [← hkv] at cb hY
  have hi2 : (Tryd.prog.info? 68).map (·.size) = some (ints .u8 64 kv).toArray.size := by rw [List.size_toArray, ints_len]; exact info64
  have hone : (ints .u8 64 kv).toArray.all (·.oneCell') = true := all_oneCell_toArray (ints_one _ _ _)
  have hlay : ∀ w1 : World, ∃ W2, W2 = (w1.alloc (.cells (zb 64) 68)).setCells w1.heap.size 0 (ints .u8 64 kv).toArray.toList ∧ RowAt .u8 W2 w1.heap.size 0 64 kv ∧ Below w1.heap.size w1 W2 ∧ (w1.alloc (.cells (zb 64) 68)).there w1.heap.size 0 (ints .u8 64 kv).toArray.size := fun w1 => by
    refine ⟨_, rfl, ?_, ?_, ?_⟩
    · have h := (lay64 w1 64 kv (Nat.le_refl _)).congr (Y := kv) (fun j hj => by rw [if_pos hj])
      rw [List.toList_toArray]
      exact h
    · exact below_setCells (Nat.le_refl _) _ _ _ ((Below.refl _ _).alloc (Nat.le_refl _) _)
    · have e : (ints .u8 64 kv).toArray.size = 64 := by rw [List.size_toArray, ints_len]
      rw [e]; exact there64 w1
  clear hkv
  gi_wp2_with (first
    | (refine ⟨trivial, (fun h => by cases h), ?_⟩; gi_at_call 44; refine (callsIn_wide.2 cb).mono ?_; rintro e w1 ⟨rfl, hb1⟩; obtain ⟨W2, hW2, hrk, hb2, hth⟩ := hlay w1; (have HW2 : Hid (W2 = (w1.alloc (.cells (zb 64) 68)).setCells w1.heap.size 0 (ints .u8 64 kv).toArray.toList) := hW2); clear hW2 hlay)
    | (refine wpListIn_store_mid rfl 68 _ _ rfl w1.heap.size 0 (ints .u8 64 kv).toArray rfl rfl hth hi2 hone ?_; rw [← HW2.out]))
  have hs1 := hb1.size
  have hs2 := hb2.size
  have hbw2 : Below w0.heap.size w0 W2 := hbW.trans ((hb1.mono hbW.size).trans (hb2.mono (Nat.le_trans hbW.size hs1)))
  have hWW : Below W.heap.size W W2 := hb1.trans (hb2.mono hs1)
  have hkb : ¬bad w1.heap.size := fun h => by have := hbad2 _ h; omega
  have hiW : ib < W.heap.size := block_lt_of_cell hic
  have hic2 : W2.cell? ⟨ib, 0, none⟩ = some (.slice x2 n2 c2) := (hWW.cell (p := ⟨ib, 0, none⟩) hiW).trans hic
  have h02 := hInv 0 W W2 h0 hWW
  have hsz2 : W.heap.size ≤ W2.heap.size := hWW.size
  clear hth hb1 hb2 cb h0 hic hpb hi2 hone
  gi_loopw [5, 6] (fun v i wr => ∃ j : Nat, j ≤ 255 ∧ i = .int .i64 ((j : Int) + 1) ∧ Inv j wr ∧ Below w0.heap.size w0 wr ∧ wr.cell? ⟨ib, 0, none⟩ = some (.slice x2 n2 c2) ∧ RowAt .u8 wr w1.heap.size 0 64 kv ∧ LastAt bad wr v j (tE kv n2 info j) ∧ W.heap.size ≤ wr.heap.size) (fun _ i _ => 256 - (intOf i).toNat)
  case atStart => exact ⟨0, Nat.zero_le _, by go_num, h02, hbw2, hic2, hrk, .inl ⟨rfl, rfl⟩, hsz2⟩
  case round =>
    clear h02 hbw2 hic2 hrk
    obtain ⟨j, hj, rfl, hIj, hbr, hcr, hrr, hla, hszr⟩ := hrel
    by_cases hlt : j < 255
    · obtain ⟨xl, cl, hve, -, -, -⟩ := hla.bytes.src
      obtain ⟨a, ha⟩ : ∃ a, a = if j = 0 then 0 else 32 := ⟨_, rfl⟩
      have hlb := hla.bytes
      rw [← ha] at hve hlb
      subst hve
      have ha32 : a ≤ 32 := by rw [ha]; split <;> omega
      have hbA : Below wr.heap.size wr (wr.alloc (.cells #[.int .u8 ((j : Int) + 1)] 5)) := (Below.refl _ _).alloc (Nat.le_refl _) _
      have hone2 : BytesIn (wr.alloc (.cells #[.int .u8 ((j : Int) + 1)] 5)) (.slice (some ⟨wr.heap.size, 0, none⟩) 1 1) 1 (fun _ => j + 1) := .inr ⟨wr.heap.size, 0, 1, rfl, by simp, Nat.le_refl _, fun q hq => by
        have : q = 0 := by omega
        subst this
        simp⟩
      have hP := parts_three (wr.alloc (.cells #[.int .u8 ((j : Int) + 1)] 5)) (.slice xl a cl) (.slice x2 n2 c2) (.slice (some ⟨wr.heap.size, 0, none⟩) 1 1) a n2 1 (tE kv n2 info j) info (fun _ => j + 1) 22 (hlb.still hbA) ((hi.still hbr).still hbA) hone2
      have hbB : Below wr.heap.size wr ((wr.alloc (.cells #[.int .u8 ((j : Int) + 1)] 5)).alloc (.cells #[.slice xl a cl, .slice x2 n2 c2, .slice (some ⟨wr.heap.size, 0, none⟩) 1 1] 22)) := hbA.alloc (by simp) _
      have hbt := hbr.trans (hbB.mono hbr.size)
      have ct := tag_any kv hkl _ 3 3 (a + n2 + 1) _ (cat_lt (tE_lt kv n2 info j) (cat_lt hinfo (fun _ => (by omega : j + 1 < 256)))) (by omega) _ (hT.below hbt h3) hP (by decide)
      have htE : tagH kv (a + n2 + 1) (cat a (tE kv n2 info j) (cat n2 info (fun _ => j + 1))) = tE kv n2 info (j + 1) := by rw [ha]; rfl
      rw [htE] at ct
      simp only [World.size_alloc] at ct
      have hjm : ((j : Int) + 1) % 256 = (j : Int) + 1 := by omega
      have hrg := hrr.range
      have hi' : (Tryd.prog.info? 68).map (·.size) = some (ints .u8 64 kv).length := by rw [ints_len]; exact info64
      have hji : (j : Int) + 1 ≤ 255 := by omega
      have hlr : w1.heap.size < wr.heap.size := block_lt_of_cell (hrr 0 (by decide)).1
      clear hP hbA hone2 htE ha hk
      gi_wp2_with (first
        | (refine wpListIn_load_mid rfl 68 _ rfl w1.heap.size 0 rfl _ _ hrg Tryd.underlying68 rfl hi' ?_)
        | (refine ⟨trivial, (fun h => by cases h), ?_⟩; gi_at_call 43; refine (callsIn_wide.2 ct).mono ?_; rintro e w3 ⟨g, rfl, hg, hrg3, hb3⟩; (have hw3 : Below wr.heap.size wr w3 := hbB.trans (hb3.mono (by omega))); (have hbw3 : Below w0.heap.size w0 w3 := hbr.trans (hw3.mono hbr.size)); (have hgb : ¬bad g := fun h => by have := hbad2 _ h; omega); obtain ⟨fn, tmps, assign, body, hy, hR⟩ := hY j g w3 hlt (hInv j wr w3 hIj hw3) hrg3 hgb hbw3))
      have hcr3 : w3.cell? ⟨ib, 0, none⟩ = some (.slice x2 n2 c2) := (hw3.cell (p := ⟨ib, 0, none⟩) (by show ib < _; omega)).trans hcr
      have hrr3 := hrr.below hw3 hlr
      have hsz3 := hw3.size
      clear hbB ct hb3
      refine ⟨(fun h => by cases h), hR.mono ?_⟩
      rintro e W' (⟨rfl, hI', hbut⟩ | ⟨rfl, hF⟩)
      · gi_wp2
        go_roundw
        case rel =>
          have hsz4 := hbut.size
          exact ⟨j + 1, by omega, by go_num, hI', hbw3.trans (hbut.below hbw3.size hbad), hbut.cell hcr3 hib, hbut.row hrr3 hkb, .inr ⟨by omega, g, rfl, hbut.row hrg3 hgb, hgb⟩, by omega⟩
        case measure => simp [intOf]; omega
      · gi_wp2
        refine bodyPost_ret (results_none rfl _ _ _) rfl ?_
        exact ⟨⟨_, rfl⟩, hF⟩
    · obtain rfl : j = 255 := by omega
      exact absurd hIj (hEnd _)
end Go.Proofs.YtlfofbkanifocaaDoor
