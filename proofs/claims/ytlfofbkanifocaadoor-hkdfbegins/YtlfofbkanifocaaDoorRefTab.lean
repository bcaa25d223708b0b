/- The reference's tables and sizes in the model; laws that its sum wants. -/
import Derived.Test.YtlfofbkanifocaaDoorRefPad
import Derived.Test.YtlfofbkanifocaaDoorPlain
import Derived.Test.YtlfofbkanifocaaDoorConsts
namespace Go.Proofs.YtlfofbkanifocaaDoor
open Go.RowKit
theorem row_new (K : IntKind) (w : World) (n : Nat) (X : Nat → Nat) (t : TypeId) : RowAt K (w.alloc (.cells (ints K n X).toArray t)) w.heap.size 0 n X := RowAt.fresh (fun j hj => by rw [List.getElem?_toArray, ints_at _ _ _ j hj])
set_option maxRecDepth 20000 in
set_option maxHeartbeats 2000000 in
theorem constants_any (w : World) : Calls Tryd.prog 51 #[] w fun e w' => ∃ g, e = .returned (.slice (some ⟨g, 0, none⟩) 80 80) ∧ w.heap.size ≤ g ∧ RowAt .u64 w' g 0 80 cubeK ∧ Below w.heap.size w w' := by
  go_enter Tryd.func51, Tryd.ntmps51
  go_wp2
  go_ret
  refine ⟨_, rfl, Nat.le_refl _, ?_, (Below.refl _ _).alloc (Nat.le_refl _) _⟩
  have h := row_new .u64 w 80 cubeK 39
  have e : (ints .u64 80 cubeK).toArray = #[.int .u64 4794697086780616226, .int .u64 8158064640168781261, .int .u64 13096744586834688815, .int .u64 16840607885511220156, .int .u64 4131703408338449720, .int .u64 6480981068601479193, .int .u64 10538285296894168987, .int .u64 12329834152419229976, .int .u64 15566598209576043074, .int .u64 1334009975649890238, .int .u64 2608012711638119052, .int .u64 6128411473006802146, .int .u64 8268148722764581231, .int .u64 9286055187155687089, .int .u64 11230858885718282805, .int .u64 13951009754708518548, .int .u64 16472876342353939154, .int .u64 17275323862435702243, .int .u64 1135362057144423861, .int .u64 2597628984639134821, .int .u64 3308224258029322869, .int .u64 5365058923640841347, .int .u64 6679025012923562964, .int .u64 8573033837759648693, .int .u64 10970295158949994411, .int .u64 12119686244451234320, .int .u64 12683024718118986047, .int .u64 13788192230050041572, .int .u64 14330467153632333762, .int .u64 15395433587784984357, .int .u64 489312712824947311, .int .u64 1452737877330783856, .int .u64 2861767655752347644, .int .u64 3322285676063803686, .int .u64 5560940570517711597, .int .u64 5996557281743188959, .int .u64 7280758554555802590, .int .u64 8532644243296465576, .int .u64 9350256976987008742, .int .u64 10552545826968843579, .int .u64 11727347734174303076, .int .u64 12113106623233404929, .int .u64 14000437183269869457, .int .u64 14369950271660146224, .int .u64 15101387698204529176, .int .u64 15463397548674623760, .int .u64 17586052441742319658, .int .u64 1182934255886127544, .int .u64 1847814050463011016, .int .u64 2177327727835720531, .int .u64 2830643537854262169, .int .u64 3796741975233480872, .int .u64 4115178125766777443, .int .u64 5681478168544905931, .int .u64 6601373596472566643, .int .u64 7507060721942968483, .int .u64 8399075790359081724, .int .u64 8693463985226723168, .int .u64 9568029438360202098, .int .u64 10144078919501101548, .int .u64 10430055236837252648, .int .u64 11840083180663258601, .int .u64 13761210420658862357, .int .u64 14299343276471374635, .int .u64 14566680578165727644, .int .u64 15097957966210449927, .int .u64 16922976911328602910, .int .u64 17689382322260857208, .int .u64 500013540394364858, .int .u64 748580250866718886, .int .u64 1242879168328830382, .int .u64 1977374033974150939, .int .u64 2944078676154940804, .int .u64 3659926193048069267, .int .u64 4368137639120453308, .int .u64 4836135668995329356, .int .u64 5532061633213252278, .int .u64 6448918945643986474, .int .u64 6902733635092675308, .int .u64 7801388544844847127] := by kernel_rfl
  rw [e] at h
  exact h
theorem first_any (w : World) : Calls Tryd.prog 52 #[] w fun e w' => ∃ g, e = .returned (.slice (some ⟨g, 0, none⟩) 8 8) ∧ w.heap.size ≤ g ∧ RowAt .u64 w' g 0 8 squareK ∧ Below w.heap.size w w' := by
  go_enter Tryd.func52, Tryd.ntmps52
  go_wp2
  go_ret
  exact ⟨_, rfl, Nat.le_refl _, row_new .u64 w 8 squareK 39, (Below.refl _ _).alloc (Nat.le_refl _) _⟩
theorem sliceMid (W : World) (bb ob n cap l m : Nat) (hm : 0 < m) (h : l + m ≤ cap) : (Instr.sliceAt 22 (.slice (some ⟨bb, ob, none⟩) n cap) (some (.int .i64 l)) (some (.int .i64 ((l : Int) + m))) none).run Tryd.prog W = .ok (.slice (some ⟨bb, ob + l, none⟩) m (cap - l)) W := by
  have h1 : Tryd.prog.underlying 22 = some (.slice (Tryd.prog.elem 22)) := by kernel_rfl
  have h2 : Tryd.prog.elem 22 = 5 := by kernel_rfl
  have h3 : ((sizeOf 5).run Tryd.prog W) = .ok 1 W := by kernel_rfl
  rw [run_sliceAt_slice W 22 _ _ _ _ h1, run_slice_lh W 22 _ n cap h1 .i64 .i64 l ((l : Int) + m) (by omega) (by omega) (by omega), h2, h3]
  have e2 : ((l : Int) + m).toNat = l + m := by omega
  have e3 : ¬(cap = l) := by omega
  simp [sliced, Addr.add_mid, Option.map, e2, e3]
  try omega
/-- One word more, out of a new block, at a step of a region that draws its order. -/
theorem step_append_next64 {ops : Array Oper} {o : Oper} {a : Act} {w : World} {K : Act → World → Prop} {Q : Exit → Act → World → Prop} {E : Prop} (hgd : o.guard = none) (s x : Operand)
    (ho : o.op = .call { callee := .builtin .append, args := #[s, x], argTypes := #[78, 78] }) (base : Nat)
    (v : Value) (n : Nat) (F : Nat → Nat) (y : Int) (hs : a.eval s = v) (hown : w.ownsRow base 39 1 v n (ints .u64 n F)) (g : Nat) (hg : w.heap.size = g) (hx : a.eval x = .slice (some ⟨g, 0, none⟩) 1 1) (hF : y = (F n : Int))
    (hl : n + 1 ≤ 1000000) (hbase : base ≤ w.heap.size)
    (h : ∀ v' w', w'.ownsRow base 39 1 v' (n + 1) (ints .u64 (n + 1) F) → Below base w w' → K (a.put o.dst v') w') :
    if Region.wanted o (yielded ops a.tmps) = true then Oper.wp Tryd.prog o a (w.alloc (.cells #[.int .u64 y] 39)) K Q else E := by
  obtain ⟨i0, hi, hz0, hz1, hz2⟩ := info_parts Tryd.info39
  subst hg
  subst hF
  have hz : base ≤ (w.alloc (.cells #[.int .u64 (F n : Int)] 39)).heap.size := by simp only [World.size_alloc]; omega
  refine step_append_lies (P := Tryd.prog) (w := w.alloc (.cells #[.int .u64 (F n : Int)] 39)) hgd s x 78 ho base 39 i0 (.int .u64 0) 1 8 Tryd.underlying78 hi hz0 hz1 hz2 rfl (by decide) v n _ hs (hown.alloc _) ⟨w.heap.size, 0, none⟩ 1 1 [.int .u64 (F n)] hx rfl (one_new _ _ _) (one_cell _ _) (by decide) (by unfold maxLen; omega) (by omega) hz _ rfl ?_
  intro g' cap' w' h1 h2 _ _
  rw [ints_snoc] at h1
  exact h _ w' h1 (below_grown ((Below.refl _ _).alloc hbase _) h2 (hown.alloc _) (Nat.le_refl _) hz)
theorem cell_top (w : World) (cs : Array Value) (t : TypeId) (b j : Nat) (hb : b = w.heap.size) : (w.alloc (.cells cs t)).cell? ⟨b, j, none⟩ = cs[j]? := by
  subst hb
  rw [cell_of_row _ _ j _ _ _ (heap_alloc_new w _)]
theorem padN32_mod (n : Nat) : ∃ T, n + padN rn n = T * 64 ∧ 0 < T := by
  refine ⟨(n + padN rn n) / 64, ?_⟩
  have e : padN rn n = 1 + (4 * 32 - 1 - 32 / 4 - n % (2 * 32)) % (2 * 32) + 32 / 4 := rfl
  omega
theorem small_any (w : World) : Calls Tryd.prog 36 #[] w fun e w' => ∃ g0 g1 g2 g3, e = .returned (.agg #[.int .i64 32, .int .i64 64, .int .i64 64, .slice (some ⟨g0, 0, none⟩) 3 3, .slice (some ⟨g1, 0, none⟩) 3 3, .slice (some ⟨g2, 0, none⟩) 3 3, .slice (some ⟨g3, 0, none⟩) 3 3]) ∧ Lists32 w' g0 g1 g2 g3 ∧ Below w.heap.size w w' := by
  go_enter Tryd.func36, Tryd.ntmps36
  go_wp2
  refine bodyPost_ret (results_cell_mid Tryd.results36 _ _ w.heap.size 0 [.int .i64 32, .int .i64 64, .int .i64 64, .slice (some ⟨w.heap.size + 1, 0, none⟩) 3 3, .slice (some ⟨w.heap.size + 1 + 1, 0, none⟩) 3 3, .slice (some ⟨w.heap.size + 1 + 1 + 1, 0, none⟩) 3 3, .slice (some ⟨w.heap.size + 1 + 1 + 1 + 1, 0, none⟩) 3 3] _ rfl ?hc Tryd.underlying64 rfl (by kernel_rfl)) rfl ⟨_, _, _, _, rfl, ?hl, ?hb⟩
  case hc =>
    intro j u hu
    have hj : j < 7 := (List.getElem?_eq_some_iff.1 hu).1
    repeat rw [World.cell?_alloc_lt _ _ _ (by simp only [World.size_alloc]; omega)]
    rw [cell_top _ _ _ _ _ rfl, Nat.zero_add, ← hu]
    match j, hj with
    | 0, _ => rfl
    | 1, _ => rfl
    | 2, _ => rfl
    | 3, _ => rfl
    | 4, _ => rfl
    | 5, _ => rfl
    | 6, _ => rfl
  case hl =>
    constructor <;> ((repeat rw [World.cell?_alloc_lt _ _ _ (by simp only [World.size_alloc]; omega)]); rw [cell_top _ _ _ _ _ (by simp only [World.size_alloc])]; rfl)
  case hb => exact (((((Below.refl _ _).alloc (Nat.le_refl _) _).alloc (by simp) _).alloc (by simp; omega) _).alloc (by simp; omega) _).alloc (by simp; omega) _
theorem padN64_mod (n : Nat) : ∃ T, n + padN rw6 n = T * 128 ∧ 0 < T := by
  refine ⟨(n + padN rw6 n) / 128, ?_⟩
  have e : padN rw6 n = 1 + (4 * 64 - 1 - 64 / 4 - n % (2 * 64)) % (2 * 64) + 64 / 4 := rfl
  omega
theorem large_any (w : World) : Calls Tryd.prog 41 #[] w fun e w' => ∃ g0 g1 g2 g3, e = .returned (.agg #[.int .i64 64, .int .i64 128, .int .i64 80, .slice (some ⟨g0, 0, none⟩) 3 3, .slice (some ⟨g1, 0, none⟩) 3 3, .slice (some ⟨g2, 0, none⟩) 3 3, .slice (some ⟨g3, 0, none⟩) 3 3]) ∧ Lists64 w' g0 g1 g2 g3 ∧ Below w.heap.size w w' := by
  go_enter Tryd.func41, Tryd.ntmps41
  go_wp2
  refine bodyPost_ret (results_cell_mid Tryd.results41 _ _ w.heap.size 0 [.int .i64 64, .int .i64 128, .int .i64 80, .slice (some ⟨w.heap.size + 1, 0, none⟩) 3 3, .slice (some ⟨w.heap.size + 1 + 1, 0, none⟩) 3 3, .slice (some ⟨w.heap.size + 1 + 1 + 1, 0, none⟩) 3 3, .slice (some ⟨w.heap.size + 1 + 1 + 1 + 1, 0, none⟩) 3 3] _ rfl ?hc Tryd.underlying64 rfl (by kernel_rfl)) rfl ⟨_, _, _, _, rfl, ?hl, ?hb⟩
  case hc =>
    intro j u hu
    have hj : j < 7 := (List.getElem?_eq_some_iff.1 hu).1
    repeat rw [World.cell?_alloc_lt _ _ _ (by simp only [World.size_alloc]; omega)]
    rw [cell_top _ _ _ _ _ rfl, Nat.zero_add, ← hu]
    match j, hj with
    | 0, _ => rfl
    | 1, _ => rfl
    | 2, _ => rfl
    | 3, _ => rfl
    | 4, _ => rfl
    | 5, _ => rfl
    | 6, _ => rfl
  case hl =>
    constructor <;> ((repeat rw [World.cell?_alloc_lt _ _ _ (by simp only [World.size_alloc]; omega)]); rw [cell_top _ _ _ _ _ (by simp only [World.size_alloc])]; rfl)
  case hb => exact (((((Below.refl _ _).alloc (Nat.le_refl _) _).alloc (by simp) _).alloc (by simp; omega) _).alloc (by simp; omega) _).alloc (by simp; omega) _
end Go.Proofs.YtlfofbkanifocaaDoor
