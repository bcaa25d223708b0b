/- What words of the reference does in the model, at both widths. -/
import Derived.Test.YtlfofbkanifocaaDoorRefSmall
import Derived.Deep.AppendLies
import Derived.Deep.RegionLawGrows
import Derived.ArgAppend
namespace Go.Proofs.YtlfofbkanifocaaDoor
open Go.RowKit
/-- A word, byte by byte from place o on. -/
def wordR (bs : Nat → Nat) (o : Nat) : Nat → Nat
  | 0 => 0
  | k + 1 => (wordR bs o k * 256 % 2 ^ 64) ||| bs (o + k)
theorem wordR_lt {bs : Nat → Nat} (hb : ∀ j, bs j < 256) (o : Nat) : ∀ k, wordR bs o k < 18446744073709551616
  | 0 => Nat.zero_lt_succ _
  | k + 1 => Nat.or_lt_two_pow (n := 64) (Nat.mod_lt _ (by decide)) (Nat.lt_of_lt_of_le (hb _) (by decide))
theorem wordR64_lt {bs : Nat → Nat} (hb : ∀ j, bs j < 256) (o : Nat) : wordR bs o 8 < 2 ^ 64 := wordR_lt hb o 8
theorem step_lt (x b m : Nat) (hx : x < 2 ^ m) (hb : b < 256) : (x * 256 % 2 ^ 64 ||| b) < 2 ^ (m + 8) := by
  refine Nat.or_lt_two_pow (Nat.lt_of_le_of_lt (Nat.mod_le _ _) ?_) (Nat.lt_of_lt_of_le hb ?_)
  · rw [Nat.pow_add]; exact Nat.mul_lt_mul_of_pos_right hx (by decide)
  · rw [Nat.pow_add]; exact Nat.le_mul_of_pos_left _ (Nat.two_pow_pos m)
theorem wordR32_lt {bs : Nat → Nat} (hb : ∀ j, bs j < 256) (o : Nat) : wordR bs o 4 < 2 ^ 32 :=
  step_lt _ _ 24 (step_lt _ _ 16 (step_lt _ _ 8 (step_lt _ _ 0 (by simp [wordR]) (hb _)) (hb _)) (hb _)) (hb _)
/-- What the loads of a statement see: all below B, and n cells of block g. -/
def Seen (B g n : Nat) (W w' : World) : Prop := (∀ b o, b < B → w'.cell? ⟨b, o, none⟩ = W.cell? ⟨b, o, none⟩) ∧ ∀ q, q < n → w'.cell? ⟨g, q, none⟩ = W.cell? ⟨g, q, none⟩
theorem Seen.of_below {B g n : Nat} {W w' : World} (h : Below W.heap.size W w') (hB : B ≤ W.heap.size) (hg : g < W.heap.size) : Seen B g n W w' :=
  ⟨fun b o hb => h.cell (p := ⟨b, o, none⟩) (by show b < _; omega), fun q _ => h.cell (p := ⟨g, q, none⟩) hg⟩
theorem ints_snoc (K : IntKind) (n : Nat) (X : Nat → Nat) : ints K n X ++ [.int K (X n)] = ints K (n + 1) X := by simp [ints, List.range_succ]
theorem ints_congr (K : IntKind) (n : Nat) (X Y : Nat → Nat) (h : ∀ j, j < n → X j = Y j) : ints K n X = ints K n Y := by
  unfold ints
  apply List.map_congr_left
  intro j hj
  rw [h j (List.mem_range.1 hj)]
theorem one_new (w : World) (v : Value) (t : TypeId) : ∀ j u, [v][j]? = some u → (w.alloc (.cells #[v] t)).cell? ((⟨w.heap.size, 0, none⟩ : Addr).add j) = some u := fun j u h => by
  match j, h with
  | 0, h => simp at h; subst h; rw [Addr.add_mid]; simp
theorem one_cell (K : IntKind) (x : Int) : ∀ u ∈ [Value.int K x], u.oneCell' = true := fun u hu => by simp at hu; subst hu; rfl
theorem Tryd.info39 : (Tryd.prog.info? 39).map (fun i => (i.zero, i.size, i.bytes)) = some (some (.int .u64 0), 1, 8) := by kernel_rfl
theorem Tryd.info5 : (Tryd.prog.info? 5).map (fun i => (i.zero, i.size, i.bytes)) = some (some (.int .u8 0), 1, 1) := by kernel_rfl
theorem below_grown {B : Nat} {a w w' : World} {v : Value} {base : Nat} {e : TypeId} {size n : Nat} {xs : List Value} (h : Below B a w) (hg : w.grownBy w' v.ownBlock) (ho : w.ownsRow base e size v n xs) (hB : B ≤ base) (hs : B ≤ w.heap.size) : Below B a w' :=
  h.grown hg hs (fun k hk => Nat.le_trans hB (ho.lt k hk).1)
theorem run_append_keep {P : Program} (w : World) (t ty base e : TypeId) (i : TypeInfo) (z : Value) (bytes : Nat) (ht : P.underlying t = some (.slice e)) (hi : P.info? e = some i) (hz : i.zero = some z) (hsize : i.size = 1) (hby : i.bytes = bytes) (hzs : z.cells.size = 1)
    (g cap n : Nat) (xs : List Value) (hown : w.ownsRow base e 1 (.slice (some ⟨g, 0, none⟩) n cap) n xs) (ad : Addr) (c : Nat) (x : Value) (hx : ∀ j u, [x][j]? = some u → w.cell? (ad.add j) = some u) (h1 : x.oneCell' = true)
    (h63 : n + 1 ≤ maxLen) (hbytes : (n + 1) * bytes ≤ 140737488355328) (hbase : base ≤ w.heap.size) :
    ∃ g' cap' w', (Builtin.append_ #[t, t] ty #[.slice (some ⟨g, 0, none⟩) n cap, .slice (some ad) 1 c]).run P w = .ok (.slice (some ⟨g', 0, none⟩) (n + 1) cap') w' ∧
      w'.ownsRow base e 1 (.slice (some ⟨g', 0, none⟩) (n + 1) cap') (n + 1) (xs ++ [x]) ∧ w.grownBy w' (some g) ∧ (∀ q, q < n → w'.cell? ⟨g, q, none⟩ = w.cell? ⟨g, q, none⟩) := by
  have ho : ∀ u ∈ [x], u.oneCell' = true := fun u hu => by simp at hu; subst hu; exact h1
  obtain ⟨v', w', hr, h2, h3, _, _⟩ := run_append_own_at (P := P) w base t ty e i z 1 bytes ht hi hz hsize hby hzs (by decide) _ n xs hown ad 1 c [x] rfl hx ho h63 hbytes hbase
  obtain ⟨g', cap', rfl, _, _⟩ := h2.form (by omega)
  refine ⟨g', cap', w', hr, h2, h3, fun q hq => ?_⟩
  obtain ⟨hl, hf⟩ := hown
  rcases hf with ⟨hv, _⟩ | ⟨g2, cap2, cur, hv, hb, hg, hnc, hcm, hcs, hxs⟩
  · cases hv
  · cases hv
    by_cases hroom : n + 1 ≤ cap
    · have hrun := run_append_room_cells (P := P) w t ty e i ht hi g 0 n cap ad 1 c [x] (by rw [hsize]; rfl) hx ho hroom (fun j hj => by
        have : j = 0 := by simpa using hj
        subst this
        rw [hsize, cell_of_row w g _ cur e (0, 0) hg, Array.getElem?_eq_getElem (by omega)]; rfl) (fun j hj => frozen_of_row w g _ cur e hg)
      rw [hr] at hrun
      cases hrun
      exact World.cell?_setCells_out g _ _ w _ (fun _ _ => .inl (by show q < 0 + n * i.size; rw [hsize]; omega))
    · obtain ⟨v2, w2, hrun, _, r2⟩ := run_append_arg_grows (P := P) w t ty e i z 1 bytes ht hi hz hsize hby hzs (by decide) ⟨g, 0, none⟩ n cap xs hl (fun j u hu => by
        have hjn : j < n * 1 := by have := (List.getElem?_eq_some_iff.1 hu).1; omega
        rw [Addr.add_mid, Nat.zero_add, cell_of_row w g j cur e (0, 0) hg, ← Array.getElem?_toList]
        rw [← hxs, List.getElem?_take, if_pos hjn] at hu
        exact hu) ad 1 c [x] rfl hx (by omega) h63 hbytes
      rw [hr] at hrun
      cases hrun
      have hlt : g < w.heap.size := by
        rcases Nat.lt_or_ge g w.heap.size with h | h
        · exact h
        · rw [Array.getElem?_eq_none h] at hg; cases hg
      exact World.cell?_of_block (r2.block g hlt (by simp))
theorem step_append_keep {P : Program} {ops : Array Oper} {o : Oper} {a : Act} {w : World} {K : Act → World → Prop} {Q : Exit → Act → World → Prop} {E : Prop} (hgd : o.guard = none) (s x : Operand) (t : TypeId)
    (hop : o.op = .call { callee := .builtin .append, args := #[s, x], argTypes := #[t, t] }) (base e : TypeId) (i : TypeInfo) (z : Value) (bytes : Nat) (ht : P.underlying t = some (.slice e)) (hi : P.info? e = some i) (hz : i.zero = some z) (hsize : i.size = 1) (hby : i.bytes = bytes) (hzs : z.cells.size = 1)
    (g cap n : Nat) (xs : List Value) (hs : a.eval s = .slice (some ⟨g, 0, none⟩) n cap) (hown : w.ownsRow base e 1 (.slice (some ⟨g, 0, none⟩) n cap) n xs) (ad : Addr) (c : Nat) (u : Value) (hx : a.eval x = .slice (some ad) 1 c) (hu : ∀ j v, [u][j]? = some v → w.cell? (ad.add j) = some v) (h1 : u.oneCell' = true)
    (h63 : n + 1 ≤ maxLen) (hbytes : (n + 1) * bytes ≤ 140737488355328) (hbase : base ≤ w.heap.size)
    (h : ∀ g' cap' w', w'.ownsRow base e 1 (.slice (some ⟨g', 0, none⟩) (n + 1) cap') (n + 1) (xs ++ [u]) → w.grownBy w' (some g) → (∀ q, q < n → w'.cell? ⟨g, q, none⟩ = w.cell? ⟨g, q, none⟩) → K (a.put o.dst (.slice (some ⟨g', 0, none⟩) (n + 1) cap')) w') :
    if Region.wanted o (yielded ops a.tmps) = true then Oper.wp P o a w K Q else E := by
  have hw : Region.wanted o (yielded ops a.tmps) = true := by simp [Region.wanted, hgd]
  rw [if_pos hw]
  obtain ⟨g', cap', w', hrun, r1, r2, r3⟩ := run_append_keep (P := P) w t o.type base e i z bytes ht hi hz hsize hby hzs g cap n xs hown ad c u hu h1 h63 hbytes hbase
  unfold Oper.wp
  simp [execOp, hop, resolve, invoke, builtin, hs, hx, hrun, Result.andThen]
  exact h g' cap' w' r1 r2 r3
theorem sch_succ (r : Ru) (X : Nat → Nat) (k : Nat) : sch r X (k + 1) = upd (sch r X k) (k + 16) (nextW r (sch r X k) k) := rfl
theorem own_below {w w' : World} {base : Nat} {e : TypeId} {size : Nat} {v : Value} {n : Nat} {xs : List Value} (h : w.ownsRow base e size v n xs) (hb : Below w.heap.size w w') : w'.ownsRow base e size v n xs :=
  h.kept (row := none) ⟨hb.os, hb.tape, hb.output, hb.size, fun k hk _ => hb.block k hk⟩ (by cases hv : v.ownBlock with | none => exact .inl rfl | some b => exact .inr (by simp))
theorem own_base {w : World} {base base' : Nat} {e : TypeId} {size : Nat} {v : Value} {n : Nat} {xs : List Value} (h : w.ownsRow base e size v n xs) (hb : base' ≤ base) : w.ownsRow base' e size v n xs := by
  obtain ⟨h1, h2⟩ := h
  refine ⟨h1, ?_⟩
  rcases h2 with h2 | ⟨g, cap, cur, hv, hg, r⟩
  · exact .inl h2
  · exact .inr ⟨g, cap, cur, hv, by omega, r⟩
theorem seen_append {B g n : Nat} {W W2 w1 : World} (hb : Below W.heap.size W W2) (hgrow : W2.grownBy w1 (some g)) (hq : ∀ q, q < n → w1.cell? ⟨g, q, none⟩ = W2.cell? ⟨g, q, none⟩) (hB : B ≤ g) (_hs : B ≤ W.heap.size) (hg : g < W.heap.size) : Seen B g n W w1 := by
  have hz := hb.size
  refine ⟨fun b o h => ?_, fun q h => (hq q h).trans (hb.cell (p := ⟨g, q, none⟩) hg)⟩
  exact (hgrow.cell_far ⟨b, o, none⟩ (by show b < _; omega) (by show some b ≠ some g; simp; omega)).trans (hb.cell (p := ⟨b, o, none⟩) (by show b < _; omega))
set_option maxRecDepth 20000 in
set_option maxHeartbeats 2000000 in
theorem words32_any (g0 g1 g2 g3 bb ob cap : Nat) (bs : Nat → Nat) (hbs : ∀ j, bs j < 256) (w : World) (hL : Lists32 w g0 g1 g2 g3) (hcell : ∀ j, j < 64 → w.cell? ⟨bb, ob + j, none⟩ = some (.int .u8 (bs j))) :
    Calls Tryd.prog 61 #[(.agg #[.int .i64 32, .int .i64 64, .int .i64 64, .slice (some ⟨g0, 0, none⟩) 3 3, .slice (some ⟨g1, 0, none⟩) 3 3, .slice (some ⟨g2, 0, none⟩) 3 3, .slice (some ⟨g3, 0, none⟩) 3 3]), .slice (some ⟨bb, ob, none⟩) 64 cap] w fun e w' => ∃ v, e = .returned v ∧ w'.ownsRow w.heap.size 39 1 v 64 (ints .u64 64 (sch rn (fun i => wordR bs (4 * i) 4) (64 - 16))) ∧ Below w.heap.size w w' := by
  obtain ⟨i0, hi, hz0, hz1, hz2⟩ := info_parts Tryd.info39
  have hbb : bb < w.heap.size := block_lt_of_cell (hcell 0 (by decide))
  go_enter Tryd.func61, Tryd.ntmps61
  go_wp2
  go_loopw [6, 7] (fun v i wr => ∃ k : Nat, k ≤ 16 ∧ i = .int .i64 k ∧ wr.ownsRow (w.heap.size + 1) 39 1 v k (ints .u64 k (fun i => wordR bs (4 * i) 4)) ∧ Below (w.heap.size + 1) (w.alloc (.cells #[.int .i64 32, .int .i64 64, .int .i64 64, .slice (some ⟨g0, 0, none⟩) 3 3, .slice (some ⟨g1, 0, none⟩) 3 3, .slice (some ⟨g2, 0, none⟩) 3 3, .slice (some ⟨g3, 0, none⟩) 3 3] 64)) wr) (fun _ i _ => 16 - (intOf i).toNat)
  case atStart => exact ⟨0, Nat.zero_le _, rfl, World.ownsRow_nil _ _ _ _, Below.refl _ _⟩
  case round =>
    obtain ⟨k, hk, rfl, hown, hbel⟩ := hrel
    by_cases hlt : k < 16
    · go_wp2
      go_loop [8, 9] (fun x j => ∃ m : Nat, m ≤ 4 ∧ j = .int .i64 m ∧ x = .int .u64 (wordR bs (4 * k) m)) (fun _ j => 4 - (intOf j).toNat)
      case atStart => exact ⟨0, Nat.zero_le _, rfl, rfl⟩
      case round =>
        obtain ⟨m, hm, rfl, rfl⟩ := hrel
        by_cases hlm : m < 4
        · have hc : wr.cell? ⟨bb, ob + (4 * k + m), none⟩ = some (.int .u8 (bs (4 * k + m))) := (hbel.cell (p := ⟨bb, ob + (4 * k + m), none⟩) (Nat.lt_succ_of_lt hbb)).trans ((World.cell?_alloc_lt _ _ _ hbb).trans (hcell (4 * k + m) (by omega)))
          go_wp2
          go_round
          case rel =>
            refine ⟨m + 1, by omega, by go_num, ?_⟩
            have e := or8_64 (wordR bs (4 * k) m) (bs (4 * k + m)) (hbs _)
            simp only [IntKind.wrap_u64]
            rw [e]
            rfl
          case measure => simp [intOf]; omega
        · have hme : m = 4 := by omega
          subst hme
          go_wp2_with (at_builtin; refine wpList_append_lies _ rfl (.tmp 35) (.tmp 37) 78 rfl (w.heap.size + 1) 39 i0 (.int .u64 0) 1 8 Tryd.underlying78 hi hz0 hz1 hz2 rfl (by decide) _ _ _ rfl (hown.alloc _) ⟨wr.heap.size, 0, none⟩ 1 1 [.int .u64 (wordR bs (4 * k) 4)] rfl rfl (one_new _ _ _) (one_cell _ _) (by decide) (by unfold maxLen; omega) (by omega) (by have := hbel.size; simp only [World.size_alloc] at this ⊢; omega) _ rfl ?_; intro g cap' w1 hown1 hgrow hat hgl)
          go_roundw
          case rel =>
            have hs := hbel.size
            simp only [World.size_alloc] at hs
            have e := ints_snoc .u64 k (fun i => wordR bs (4 * i) 4)
            exact ⟨k + 1, by omega, by go_num, by rw [← e]; exact hown1, below_grown (hbel.alloc hs _) hgrow (hown.alloc _) (Nat.le_refl _) (by simp only [World.size_alloc]; omega)⟩
          case measure => simp [intOf]; omega
    · have hke : k = 16 := by omega
      subst hke
      have hX : ∀ j, (fun i => wordR bs (4 * i) 4) j < 2 ^ 32 := fun j => wordR32_lt hbs (4 * j)
      obtain ⟨X, hXe⟩ : ∃ X : Nat → Nat, X = fun i => wordR bs (4 * i) 4 := ⟨_, rfl⟩
      have HX : Hid (X = fun i => wordR bs (4 * i) 4) := hXe
      rw [← hXe] at hown hX
      clear hXe hcell hbb hbs
      go_wp2
      go_loopw [6, 10] (fun v t w2 => ∃ k : Nat, k ≤ 64 - 16 ∧ t = .int .i64 ((k : Int) + 16) ∧ w2.ownsRow (w.heap.size + 1) 39 1 v (k + 16) (ints .u64 (k + 16) (sch rn X k)) ∧ Below (w.heap.size + 1) (w.alloc (.cells #[.int .i64 32, .int .i64 64, .int .i64 64, .slice (some ⟨g0, 0, none⟩) 3 3, .slice (some ⟨g1, 0, none⟩) 3 3, .slice (some ⟨g2, 0, none⟩) 3 3, .slice (some ⟨g3, 0, none⟩) 3 3] 64)) w2) (fun _ t _ => 64 - (intOf t).toNat)
      case atStart => exact ⟨0, Nat.zero_le _, rfl, hown, hbel⟩
      case round =>
        clear hown hbel
        obtain ⟨k, hk, rfl, hown, hbel⟩ := hrel
        have hs1 := hbel.size
        simp only [World.size_alloc] at hs1
        have hbw : Below w.heap.size w wr := ((Below.refl _ _).alloc (Nat.le_refl _) _).trans (hbel.mono (by omega))
        have hZ : ZBox32 wr w.heap.size g0 g1 g2 g3 := by
          have hc : ∀ j, wr.cell? ⟨w.heap.size, j, none⟩ = (w.alloc (.cells #[.int .i64 32, .int .i64 64, .int .i64 64, .slice (some ⟨g0, 0, none⟩) 3 3, .slice (some ⟨g1, 0, none⟩) 3 3, .slice (some ⟨g2, 0, none⟩) 3 3, .slice (some ⟨g3, 0, none⟩) 3 3] 64)).cell? ⟨w.heap.size, j, none⟩ := fun j => hbel.cell (p := ⟨w.heap.size, j, none⟩) (Nat.lt_succ_self _)
          have h := zbox32 w g0 g1 g2 g3
          unfold ZBox32 at *
          simp only [hc]
          exact h
        by_cases hlt : k < 64 - 16
        · obtain ⟨gg, cc, hv, hgb, hgl⟩ := hown.form (by omega)
          subst hv
          have hu := fun j => sch_lt (r := rn) hX k j
          have rr : ∀ j, j < k + 16 → wr.cell? ⟨gg, j, none⟩ = some (.int .u64 (sch rn X k j)) := fun j hj => by
            rw [hown.cellAt j (by omega), ints_at _ _ _ j hj]
          have r14 := rr (k + 14) (by omega)
          have r9 := rr (k + 9) (by omega)
          have r1 := rr (k + 1) (by omega)
          have r0 := rr k (by omega)
          obtain ⟨a14, e14⟩ : ∃ a, a = sch rn X k (k + 14) := ⟨_, rfl⟩
          obtain ⟨a9, e9⟩ : ∃ a, a = sch rn X k (k + 9) := ⟨_, rfl⟩
          obtain ⟨a1, e1⟩ : ∃ a, a = sch rn X k (k + 1) := ⟨_, rfl⟩
          obtain ⟨a0, e0⟩ : ∃ a, a = sch rn X k k := ⟨_, rfl⟩
          have HN : Hid (nextW rn (sch rn X k) k = (lo3 32 a14 (17, 19, 10) + a9 + lo3 32 a1 (7, 18, 3) + a0) % 2 ^ 32) := (by rw [e14, e9, e1, e0]; rfl : nextW rn (sch rn X k) k = (lo3 32 a14 (17, 19, 10) + a9 + lo3 32 a1 (7, 18, 3) + a0) % 2 ^ 32)
          have u14 : a14 < 2 ^ 32 := by rw [e14]; exact hu _
          have u1 : a1 < 2 ^ 32 := by rw [e1]; exact hu _
          rw [← e14] at r14
          rw [← e9] at r9
          rw [← e1] at r1
          rw [← e0] at r0
          clear rr e14 e9 e1 e0 hu
          obtain ⟨b1, f1⟩ : ∃ a, a = lo3 32 a14 (17, 19, 10) := ⟨_, rfl⟩
          obtain ⟨b2, f2⟩ : ∃ a, a = lo3 32 a1 (7, 18, 3) := ⟨_, rfl⟩
          have hS1 : ∀ w' : World, Seen (w.heap.size + 1) gg (k + 16) wr w' → ∀ b o, b < w.heap.size + 1 → w'.cell? ⟨b, o, none⟩ = wr.cell? ⟨b, o, none⟩ := fun w' h => h.1
          have hS2 : ∀ w' : World, Seen (w.heap.size + 1) gg (k + 16) wr w' → ∀ q, q < k + 16 → w'.cell? ⟨gg, q, none⟩ = wr.cell? ⟨gg, q, none⟩ := fun w' h => h.2
          have hlow1 : ∀ W' : World, Below wr.heap.size wr W' → Calls Tryd.prog 68 #[(.agg #[.int .i64 32, .int .i64 64, .int .i64 64, .slice (some ⟨g0, 0, none⟩) 3 3, .slice (some ⟨g1, 0, none⟩) 3 3, .slice (some ⟨g2, 0, none⟩) 3 3, .slice (some ⟨g3, 0, none⟩) 3 3]), .int .u64 a14, .slice (some ⟨g1, 0, none⟩) 3 3] W' fun e w' => e = .returned (.int .u64 (b1 : Int)) ∧ Below W'.heap.size W' w' := fun W' h => by
            have L := hL.below (hbw.trans (h.mono (by omega)))
            rw [f1]
            exact low32_any g0 g1 g2 g3 g1 _ 17 19 10 u14 (by decide) (by decide) (by decide) W' L.b0 L.b1 L.b2
          have hlow2 : ∀ W' : World, Below wr.heap.size wr W' → Calls Tryd.prog 68 #[(.agg #[.int .i64 32, .int .i64 64, .int .i64 64, .slice (some ⟨g0, 0, none⟩) 3 3, .slice (some ⟨g1, 0, none⟩) 3 3, .slice (some ⟨g2, 0, none⟩) 3 3, .slice (some ⟨g3, 0, none⟩) 3 3]), .int .u64 a1, .slice (some ⟨g0, 0, none⟩) 3 3] W' fun e w' => e = .returned (.int .u64 (b2 : Int)) ∧ Below W'.heap.size W' w' := fun W' h => by
            have L := hL.below (hbw.trans (h.mono (by omega)))
            rw [f2]
            exact low32_any g0 g1 g2 g3 g0 _ 7 18 3 u1 (by decide) (by decide) (by decide) W' L.a0 L.a1 L.a2
          obtain ⟨nx, hnx⟩ : ∃ a, a = nextW rn (sch rn X k) k := ⟨_, rfl⟩
          have HNX : Hid (nx = nextW rn (sch rn X k) k) := hnx
          have hcut : ∀ W' : World, Calls Tryd.prog 62 #[(.agg #[.int .i64 32, .int .i64 64, .int .i64 64, .slice (some ⟨g0, 0, none⟩) 3 3, .slice (some ⟨g1, 0, none⟩) 3 3, .slice (some ⟨g2, 0, none⟩) 3 3, .slice (some ⟨g3, 0, none⟩) 3 3]), .int .u64 (IntKind.u64.wrap (IntKind.u64.wrap (IntKind.u64.wrap ((b1 : Int) + a9) + b2) + a0))] W' fun e w' => e = .returned (.int .u64 (nx : Int)) ∧ Below W'.heap.size W' w' := fun W' => by
            have e1 := sum4_64 b1 a9 b2 a0
            simp only [IntKind.wrap_u64]
            rw [e1]
            have h := cut32_any g0 g1 g2 g3 ((b1 + a9 + b2 + a0) % 2 ^ 64) (Nat.mod_lt _ (by decide)) W'
            rw [Nat.mod_mod_of_dvd _ (Nat.pow_dvd_pow 2 (by decide))] at h
            rw [hnx, HN.out, ← f1, ← f2]
            exact h
          clear hnx f1 f2 u14 u1 HN hL hX
          have hb0 : Below wr.heap.size wr wr.drew := (Below.refl _ _).drew
          have hki : (k : Int) < 64 - 16 := by omega
          have k80 : k < 64 := by omega
          have x14 : IntKind.i64.wrap ((k : Int) + 16 - 2) = (k : Int) + 14 := by simp only [IntKind.wrap_i64]; omega
          have x9 : IntKind.i64.wrap ((k : Int) + 16 - 7) = (k : Int) + 9 := by simp only [IntKind.wrap_i64]; omega
          have x1 : IntKind.i64.wrap ((k : Int) + 16 - 15) = (k : Int) + 1 := by simp only [IntKind.wrap_i64]; omega
          have x0 : IntKind.i64.wrap (k : Int) = (k : Int) := by simp only [IntKind.wrap_i64]; omega
          have y14 : ((k : Int) + 14).toNat = k + 14 := by omega
          have y9 : ((k : Int) + 9).toNat = k + 9 := by omega
          have y1 : ((k : Int) + 1).toNat = k + 1 := by omega
          have l14 : (0 : Int) ≤ (k : Int) + 14 ∧ (k : Int) + 14 < (k : Int) + 16 := by omega
          have l9 : (0 : Int) ≤ (k : Int) + 9 ∧ (k : Int) + 9 < (k : Int) + 16 := by omega
          have l1 : (0 : Int) ≤ (k : Int) + 1 ∧ (k : Int) + 1 < (k : Int) + 16 := by omega
          have l0 : (0 : Int) ≤ (k : Int) ∧ (k : Int) < (k : Int) + 16 := by omega
          have n0 : k < k + 16 := by omega
          have hm1 : k + 16 + 1 ≤ maxLen := by unfold maxLen; omega
          have hm2 : (k + 16 + 1) * 8 ≤ 140737488355328 := by omega
          have hm3 : ∀ W' : World, Below wr.heap.size wr W' → ∀ ob : Obj, w.heap.size + 1 ≤ (W'.alloc ob).heap.size := fun W' h ob => by have := h.size; simp only [World.size_alloc]; omega
          obtain ⟨z0, z1, z2, z3, z4, z5, z6⟩ := hZ
          go_wp2
          go_region_held3 (fun w' => Seen (w.heap.size + 1) gg (k + 16) wr w') (first | assumption | exact Seen.of_below (by assumption) (by omega) hgl | exact Seen.of_below (Below.alloc (by assumption) (Below.size (by assumption)) _) (by omega) hgl) (first
            | (go_at_call_of 68 a14; refine (hlow1 _ (by assumption)).mono ?_; rintro e w' ⟨rfl, hb⟩; have hbn := below_next (W := wr) (by assumption) hb)
            | (go_at_call_of 68 a1; refine (hlow2 _ (by assumption)).mono ?_; rintro e w' ⟨rfl, hb⟩; have hbn := below_next (W := wr) (by assumption) hb)
            | (go_at_call 62; refine (hcut _).mono ?_; rintro e w' ⟨rfl, hb⟩; have hbn := below_next (W := wr) (by assumption) hb)
            | (refine step_append_keep rfl (.tmp 45) (.tmp 79) 78 rfl (w.heap.size + 1) 39 i0 (.int .u64 0) 8 Tryd.underlying78 hi hz0 hz1 hz2 rfl gg cc (k + 16) _ rfl ((own_below hown (by assumption)).alloc _) ⟨_, 0, none⟩ 1 (.int .u64 nx) rfl (one_new _ _ _) rfl hm1 hm2 (hm3 _ hbn _) ?_; intro g' cap' w1 hown1 hgrow hq; have hseen : Seen (w.heap.size + 1) gg (k + 16) wr w1 := seen_append (hbn.alloc hbn.size _) hgrow hq hgb hs1 hgl))
          clear hS1 hS2 hlow1 hlow2 hcut hb0 x14 x9 x1 x0 y14 y9 y1 l14 l9 l1 l0 r14 r9 r1 r0 z0 z1 z2 z3 z4 z5 z6 hm1 hm2 hm3 hseen
          go_wp2
          go_roundw
          case rel =>
            have e0 := ints_congr .u64 (k + 16) (sch rn X k) (sch rn X (k + 1)) (fun j hj => by rw [sch_succ]; unfold upd; rw [if_neg (by omega)])
            have e1 := ints_snoc .u64 (k + 16) (sch rn X (k + 1))
            have e2 : sch rn X (k + 1) (k + 16) = nx := by rw [HNX.out, sch_succ]; unfold upd; rw [if_pos rfl]
            rw [e2] at e1
            have hfin : w1.ownsRow (w.heap.size + 1) 39 1 (.slice (some ⟨g', 0, none⟩) (k + 16 + 1) cap') (k + 1 + 16) (ints .u64 (k + 1 + 16) (sch rn X (k + 1))) := by
              rw [show k + 1 + 16 = k + 16 + 1 by omega, ← e1, ← e0]; exact hown1
            have hbf : Below (w.heap.size + 1) (w.alloc (.cells #[.int .i64 32, .int .i64 64, .int .i64 64, .slice (some ⟨g0, 0, none⟩) 3 3, .slice (some ⟨g1, 0, none⟩) 3 3, .slice (some ⟨g2, 0, none⟩) 3 3, .slice (some ⟨g3, 0, none⟩) 3 3] 64)) w1 := (hbel.trans ((hbn.alloc hbn.size _).mono hs1)).grown hgrow (by have := hbn.size; simp only [World.size_alloc]; omega) (fun q h => by cases h; exact hgb)
            repeat apply Exists.intro
            refine ⟨?_, rfl⟩
            exact ⟨k + 1, by omega, by go_num, hfin, hbf⟩
          case measure => simp [intOf]; omega
        · have hke : k = 64 - 16 := by omega
          subst hke
          obtain ⟨z0, z1, z2, z3, z4, z5, z6⟩ := hZ
          go_wp2
          go_ret
          rw [← HX.out]
          exact ⟨_, rfl, own_base hown (by omega), hbw⟩
set_option maxRecDepth 20000 in
set_option maxHeartbeats 2000000 in
theorem words64_any (g0 g1 g2 g3 bb ob cap : Nat) (bs : Nat → Nat) (hbs : ∀ j, bs j < 256) (w : World) (hL : Lists64 w g0 g1 g2 g3) (hcell : ∀ j, j < 128 → w.cell? ⟨bb, ob + j, none⟩ = some (.int .u8 (bs j))) :
    Calls Tryd.prog 61 #[(.agg #[.int .i64 64, .int .i64 128, .int .i64 80, .slice (some ⟨g0, 0, none⟩) 3 3, .slice (some ⟨g1, 0, none⟩) 3 3, .slice (some ⟨g2, 0, none⟩) 3 3, .slice (some ⟨g3, 0, none⟩) 3 3]), .slice (some ⟨bb, ob, none⟩) 128 cap] w fun e w' => ∃ v, e = .returned v ∧ w'.ownsRow w.heap.size 39 1 v 80 (ints .u64 80 (sch rw6 (fun i => wordR bs (8 * i) 8) (80 - 16))) ∧ Below w.heap.size w w' := by
  obtain ⟨i0, hi, hz0, hz1, hz2⟩ := info_parts Tryd.info39
  have hbb : bb < w.heap.size := block_lt_of_cell (hcell 0 (by decide))
  go_enter Tryd.func61, Tryd.ntmps61
  go_wp2
  go_loopw [6, 7] (fun v i wr => ∃ k : Nat, k ≤ 16 ∧ i = .int .i64 k ∧ wr.ownsRow (w.heap.size + 1) 39 1 v k (ints .u64 k (fun i => wordR bs (8 * i) 8)) ∧ Below (w.heap.size + 1) (w.alloc (.cells #[.int .i64 64, .int .i64 128, .int .i64 80, .slice (some ⟨g0, 0, none⟩) 3 3, .slice (some ⟨g1, 0, none⟩) 3 3, .slice (some ⟨g2, 0, none⟩) 3 3, .slice (some ⟨g3, 0, none⟩) 3 3] 64)) wr) (fun _ i _ => 16 - (intOf i).toNat)
  case atStart => exact ⟨0, Nat.zero_le _, rfl, World.ownsRow_nil _ _ _ _, Below.refl _ _⟩
  case round =>
    obtain ⟨k, hk, rfl, hown, hbel⟩ := hrel
    by_cases hlt : k < 16
    · go_wp2
      go_loop [8, 9] (fun x j => ∃ m : Nat, m ≤ 8 ∧ j = .int .i64 m ∧ x = .int .u64 (wordR bs (8 * k) m)) (fun _ j => 8 - (intOf j).toNat)
      case atStart => exact ⟨0, Nat.zero_le _, rfl, rfl⟩
      case round =>
        obtain ⟨m, hm, rfl, rfl⟩ := hrel
        by_cases hlm : m < 8
        · have hc : wr.cell? ⟨bb, ob + (8 * k + m), none⟩ = some (.int .u8 (bs (8 * k + m))) := (hbel.cell (p := ⟨bb, ob + (8 * k + m), none⟩) (Nat.lt_succ_of_lt hbb)).trans ((World.cell?_alloc_lt _ _ _ hbb).trans (hcell (8 * k + m) (by omega)))
          go_wp2
          go_round
          case rel =>
            refine ⟨m + 1, by omega, by go_num, ?_⟩
            have e := or8_64 (wordR bs (8 * k) m) (bs (8 * k + m)) (hbs _)
            simp only [IntKind.wrap_u64]
            rw [e]
            rfl
          case measure => simp [intOf]; omega
        · have hme : m = 8 := by omega
          subst hme
          go_wp2_with (at_builtin; refine wpList_append_lies _ rfl (.tmp 35) (.tmp 37) 78 rfl (w.heap.size + 1) 39 i0 (.int .u64 0) 1 8 Tryd.underlying78 hi hz0 hz1 hz2 rfl (by decide) _ _ _ rfl (hown.alloc _) ⟨wr.heap.size, 0, none⟩ 1 1 [.int .u64 (wordR bs (8 * k) 8)] rfl rfl (one_new _ _ _) (one_cell _ _) (by decide) (by unfold maxLen; omega) (by omega) (by have := hbel.size; simp only [World.size_alloc] at this ⊢; omega) _ rfl ?_; intro g cap' w1 hown1 hgrow hat hgl)
          go_roundw
          case rel =>
            have hs := hbel.size
            simp only [World.size_alloc] at hs
            have e := ints_snoc .u64 k (fun i => wordR bs (8 * i) 8)
            exact ⟨k + 1, by omega, by go_num, by rw [← e]; exact hown1, below_grown (hbel.alloc hs _) hgrow (hown.alloc _) (Nat.le_refl _) (by simp only [World.size_alloc]; omega)⟩
          case measure => simp [intOf]; omega
    · have hke : k = 16 := by omega
      subst hke
      have hX : ∀ j, (fun i => wordR bs (8 * i) 8) j < 2 ^ 64 := fun j => wordR64_lt hbs (8 * j)
      obtain ⟨X, hXe⟩ : ∃ X : Nat → Nat, X = fun i => wordR bs (8 * i) 8 := ⟨_, rfl⟩
      have HX : Hid (X = fun i => wordR bs (8 * i) 8) := hXe
      rw [← hXe] at hown hX
      clear hXe hcell hbb hbs
      go_wp2
      go_loopw [6, 10] (fun v t w2 => ∃ k : Nat, k ≤ 80 - 16 ∧ t = .int .i64 ((k : Int) + 16) ∧ w2.ownsRow (w.heap.size + 1) 39 1 v (k + 16) (ints .u64 (k + 16) (sch rw6 X k)) ∧ Below (w.heap.size + 1) (w.alloc (.cells #[.int .i64 64, .int .i64 128, .int .i64 80, .slice (some ⟨g0, 0, none⟩) 3 3, .slice (some ⟨g1, 0, none⟩) 3 3, .slice (some ⟨g2, 0, none⟩) 3 3, .slice (some ⟨g3, 0, none⟩) 3 3] 64)) w2) (fun _ t _ => 80 - (intOf t).toNat)
      case atStart => exact ⟨0, Nat.zero_le _, rfl, hown, hbel⟩
      case round =>
        clear hown hbel
        obtain ⟨k, hk, rfl, hown, hbel⟩ := hrel
        have hs1 := hbel.size
        simp only [World.size_alloc] at hs1
        have hbw : Below w.heap.size w wr := ((Below.refl _ _).alloc (Nat.le_refl _) _).trans (hbel.mono (by omega))
        have hZ : ZBox64 wr w.heap.size g0 g1 g2 g3 := by
          have hc : ∀ j, wr.cell? ⟨w.heap.size, j, none⟩ = (w.alloc (.cells #[.int .i64 64, .int .i64 128, .int .i64 80, .slice (some ⟨g0, 0, none⟩) 3 3, .slice (some ⟨g1, 0, none⟩) 3 3, .slice (some ⟨g2, 0, none⟩) 3 3, .slice (some ⟨g3, 0, none⟩) 3 3] 64)).cell? ⟨w.heap.size, j, none⟩ := fun j => hbel.cell (p := ⟨w.heap.size, j, none⟩) (Nat.lt_succ_self _)
          have h := zbox64 w g0 g1 g2 g3
          unfold ZBox64 at *
          simp only [hc]
          exact h
        by_cases hlt : k < 80 - 16
        · obtain ⟨gg, cc, hv, hgb, hgl⟩ := hown.form (by omega)
          subst hv
          have hu := fun j => sch_lt (r := rw6) hX k j
          have rr : ∀ j, j < k + 16 → wr.cell? ⟨gg, j, none⟩ = some (.int .u64 (sch rw6 X k j)) := fun j hj => by
            rw [hown.cellAt j (by omega), ints_at _ _ _ j hj]
          have r14 := rr (k + 14) (by omega)
          have r9 := rr (k + 9) (by omega)
          have r1 := rr (k + 1) (by omega)
          have r0 := rr k (by omega)
          obtain ⟨a14, e14⟩ : ∃ a, a = sch rw6 X k (k + 14) := ⟨_, rfl⟩
          obtain ⟨a9, e9⟩ : ∃ a, a = sch rw6 X k (k + 9) := ⟨_, rfl⟩
          obtain ⟨a1, e1⟩ : ∃ a, a = sch rw6 X k (k + 1) := ⟨_, rfl⟩
          obtain ⟨a0, e0⟩ : ∃ a, a = sch rw6 X k k := ⟨_, rfl⟩
          have HN : Hid (nextW rw6 (sch rw6 X k) k = (lo3 64 a14 (19, 61, 6) + a9 + lo3 64 a1 (1, 8, 7) + a0) % 2 ^ 64) := (by rw [e14, e9, e1, e0]; rfl : nextW rw6 (sch rw6 X k) k = (lo3 64 a14 (19, 61, 6) + a9 + lo3 64 a1 (1, 8, 7) + a0) % 2 ^ 64)
          have u14 : a14 < 2 ^ 64 := by rw [e14]; exact hu _
          have u1 : a1 < 2 ^ 64 := by rw [e1]; exact hu _
          rw [← e14] at r14
          rw [← e9] at r9
          rw [← e1] at r1
          rw [← e0] at r0
          clear rr e14 e9 e1 e0 hu
          obtain ⟨b1, f1⟩ : ∃ a, a = lo3 64 a14 (19, 61, 6) := ⟨_, rfl⟩
          obtain ⟨b2, f2⟩ : ∃ a, a = lo3 64 a1 (1, 8, 7) := ⟨_, rfl⟩
          have hS1 : ∀ w' : World, Seen (w.heap.size + 1) gg (k + 16) wr w' → ∀ b o, b < w.heap.size + 1 → w'.cell? ⟨b, o, none⟩ = wr.cell? ⟨b, o, none⟩ := fun w' h => h.1
          have hS2 : ∀ w' : World, Seen (w.heap.size + 1) gg (k + 16) wr w' → ∀ q, q < k + 16 → w'.cell? ⟨gg, q, none⟩ = wr.cell? ⟨gg, q, none⟩ := fun w' h => h.2
          have hlow1 : ∀ W' : World, Below wr.heap.size wr W' → Calls Tryd.prog 68 #[(.agg #[.int .i64 64, .int .i64 128, .int .i64 80, .slice (some ⟨g0, 0, none⟩) 3 3, .slice (some ⟨g1, 0, none⟩) 3 3, .slice (some ⟨g2, 0, none⟩) 3 3, .slice (some ⟨g3, 0, none⟩) 3 3]), .int .u64 a14, .slice (some ⟨g1, 0, none⟩) 3 3] W' fun e w' => e = .returned (.int .u64 (b1 : Int)) ∧ Below W'.heap.size W' w' := fun W' h => by
            have L := hL.below (hbw.trans (h.mono (by omega)))
            rw [f1]
            exact low64_any g0 g1 g2 g3 g1 _ 19 61 6 u14 (by decide) (by decide) (by decide) W' L.b0 L.b1 L.b2
          have hlow2 : ∀ W' : World, Below wr.heap.size wr W' → Calls Tryd.prog 68 #[(.agg #[.int .i64 64, .int .i64 128, .int .i64 80, .slice (some ⟨g0, 0, none⟩) 3 3, .slice (some ⟨g1, 0, none⟩) 3 3, .slice (some ⟨g2, 0, none⟩) 3 3, .slice (some ⟨g3, 0, none⟩) 3 3]), .int .u64 a1, .slice (some ⟨g0, 0, none⟩) 3 3] W' fun e w' => e = .returned (.int .u64 (b2 : Int)) ∧ Below W'.heap.size W' w' := fun W' h => by
            have L := hL.below (hbw.trans (h.mono (by omega)))
            rw [f2]
            exact low64_any g0 g1 g2 g3 g0 _ 1 8 7 u1 (by decide) (by decide) (by decide) W' L.a0 L.a1 L.a2
          obtain ⟨nx, hnx⟩ : ∃ a, a = nextW rw6 (sch rw6 X k) k := ⟨_, rfl⟩
          have HNX : Hid (nx = nextW rw6 (sch rw6 X k) k) := hnx
          have hcut : ∀ W' : World, Calls Tryd.prog 62 #[(.agg #[.int .i64 64, .int .i64 128, .int .i64 80, .slice (some ⟨g0, 0, none⟩) 3 3, .slice (some ⟨g1, 0, none⟩) 3 3, .slice (some ⟨g2, 0, none⟩) 3 3, .slice (some ⟨g3, 0, none⟩) 3 3]), .int .u64 (IntKind.u64.wrap (IntKind.u64.wrap (IntKind.u64.wrap ((b1 : Int) + a9) + b2) + a0))] W' fun e w' => e = .returned (.int .u64 (nx : Int)) ∧ Below W'.heap.size W' w' := fun W' => by
            have e1 := sum4_64 b1 a9 b2 a0
            simp only [IntKind.wrap_u64]
            rw [e1]
            have h := cut64_any g0 g1 g2 g3 ((b1 + a9 + b2 + a0) % 2 ^ 64) (Nat.mod_lt _ (by decide)) W'
            rw [Nat.mod_mod_of_dvd _ (Nat.pow_dvd_pow 2 (by decide))] at h
            rw [hnx, HN.out, ← f1, ← f2]
            exact h
          clear hnx f1 f2 u14 u1 HN hL hX
          have hb0 : Below wr.heap.size wr wr.drew := (Below.refl _ _).drew
          have hki : (k : Int) < 80 - 16 := by omega
          have k80 : k < 80 := by omega
          have x14 : IntKind.i64.wrap ((k : Int) + 16 - 2) = (k : Int) + 14 := by simp only [IntKind.wrap_i64]; omega
          have x9 : IntKind.i64.wrap ((k : Int) + 16 - 7) = (k : Int) + 9 := by simp only [IntKind.wrap_i64]; omega
          have x1 : IntKind.i64.wrap ((k : Int) + 16 - 15) = (k : Int) + 1 := by simp only [IntKind.wrap_i64]; omega
          have x0 : IntKind.i64.wrap (k : Int) = (k : Int) := by simp only [IntKind.wrap_i64]; omega
          have y14 : ((k : Int) + 14).toNat = k + 14 := by omega
          have y9 : ((k : Int) + 9).toNat = k + 9 := by omega
          have y1 : ((k : Int) + 1).toNat = k + 1 := by omega
          have l14 : (0 : Int) ≤ (k : Int) + 14 ∧ (k : Int) + 14 < (k : Int) + 16 := by omega
          have l9 : (0 : Int) ≤ (k : Int) + 9 ∧ (k : Int) + 9 < (k : Int) + 16 := by omega
          have l1 : (0 : Int) ≤ (k : Int) + 1 ∧ (k : Int) + 1 < (k : Int) + 16 := by omega
          have l0 : (0 : Int) ≤ (k : Int) ∧ (k : Int) < (k : Int) + 16 := by omega
          have n0 : k < k + 16 := by omega
          have hm1 : k + 16 + 1 ≤ maxLen := by unfold maxLen; omega
          have hm2 : (k + 16 + 1) * 8 ≤ 140737488355328 := by omega
          have hm3 : ∀ W' : World, Below wr.heap.size wr W' → ∀ ob : Obj, w.heap.size + 1 ≤ (W'.alloc ob).heap.size := fun W' h ob => by have := h.size; simp only [World.size_alloc]; omega
          obtain ⟨z0, z1, z2, z3, z4, z5, z6⟩ := hZ
          go_wp2
          go_region_held3 (fun w' => Seen (w.heap.size + 1) gg (k + 16) wr w') (first | assumption | exact Seen.of_below (by assumption) (by omega) hgl | exact Seen.of_below (Below.alloc (by assumption) (Below.size (by assumption)) _) (by omega) hgl) (first
            | (go_at_call_of 68 a14; refine (hlow1 _ (by assumption)).mono ?_; rintro e w' ⟨rfl, hb⟩; have hbn := below_next (W := wr) (by assumption) hb)
            | (go_at_call_of 68 a1; refine (hlow2 _ (by assumption)).mono ?_; rintro e w' ⟨rfl, hb⟩; have hbn := below_next (W := wr) (by assumption) hb)
            | (go_at_call 62; refine (hcut _).mono ?_; rintro e w' ⟨rfl, hb⟩; have hbn := below_next (W := wr) (by assumption) hb)
            | (refine step_append_keep rfl (.tmp 45) (.tmp 79) 78 rfl (w.heap.size + 1) 39 i0 (.int .u64 0) 8 Tryd.underlying78 hi hz0 hz1 hz2 rfl gg cc (k + 16) _ rfl ((own_below hown (by assumption)).alloc _) ⟨_, 0, none⟩ 1 (.int .u64 nx) rfl (one_new _ _ _) rfl hm1 hm2 (hm3 _ hbn _) ?_; intro g' cap' w1 hown1 hgrow hq; have hseen : Seen (w.heap.size + 1) gg (k + 16) wr w1 := seen_append (hbn.alloc hbn.size _) hgrow hq hgb hs1 hgl))
          clear hS1 hS2 hlow1 hlow2 hcut hb0 x14 x9 x1 x0 y14 y9 y1 l14 l9 l1 l0 r14 r9 r1 r0 z0 z1 z2 z3 z4 z5 z6 hm1 hm2 hm3 hseen
          go_wp2
          go_roundw
          case rel =>
            have e0 := ints_congr .u64 (k + 16) (sch rw6 X k) (sch rw6 X (k + 1)) (fun j hj => by rw [sch_succ]; unfold upd; rw [if_neg (by omega)])
            have e1 := ints_snoc .u64 (k + 16) (sch rw6 X (k + 1))
            have e2 : sch rw6 X (k + 1) (k + 16) = nx := by rw [HNX.out, sch_succ]; unfold upd; rw [if_pos rfl]
            rw [e2] at e1
            have hfin : w1.ownsRow (w.heap.size + 1) 39 1 (.slice (some ⟨g', 0, none⟩) (k + 16 + 1) cap') (k + 1 + 16) (ints .u64 (k + 1 + 16) (sch rw6 X (k + 1))) := by
              rw [show k + 1 + 16 = k + 16 + 1 by omega, ← e1, ← e0]; exact hown1
            have hbf : Below (w.heap.size + 1) (w.alloc (.cells #[.int .i64 64, .int .i64 128, .int .i64 80, .slice (some ⟨g0, 0, none⟩) 3 3, .slice (some ⟨g1, 0, none⟩) 3 3, .slice (some ⟨g2, 0, none⟩) 3 3, .slice (some ⟨g3, 0, none⟩) 3 3] 64)) w1 := (hbel.trans ((hbn.alloc hbn.size _).mono hs1)).grown hgrow (by have := hbn.size; simp only [World.size_alloc]; omega) (fun q h => by cases h; exact hgb)
            repeat apply Exists.intro
            refine ⟨?_, rfl⟩
            exact ⟨k + 1, by omega, by go_num, hfin, hbf⟩
          case measure => simp [intOf]; omega
        · have hke : k = 80 - 16 := by omega
          subst hke
          obtain ⟨z0, z1, z2, z3, z4, z5, z6⟩ := hZ
          go_wp2
          go_ret
          rw [← HX.out]
          exact ⟨_, rfl, own_base hown (by omega), hbw⟩
end Go.Proofs.YtlfofbkanifocaaDoor
