/- What knows does in the model: it answers true. -/
import Derived.Test.YtlfofbkanifocaaDoorTop
import Derived.Test.YtlfofbkanifocaaDoorCert
import Derived.Lib.SlBytesConst
namespace Go.Proofs.YtlfofbkanifocaaDoor
open Go.RowKit
theorem tailE_zero (r : Ru) (K : Nat → Nat) (s : St) (R bs : Nat → Nat) : (tailE r K s R 0 bs).1 = s := by
  unfold tailE
  rw [Nat.zero_div]
  rfl
theorem hash_abc32 : hashS rn cubeK squareK 3 abc = addS rn (firstS rn squareK) (state32 64) := by
  have h1 : writeE rn cubeK (firstS rn squareK) (fun _ => 0) 0 3 abc = (firstS rn squareK, over (fun _ => 0) 0 3 (fun j => abc (3 / (2 * Ru.m rn) * (2 * Ru.m rn) + j))) := by
    unfold writeE; rw [if_pos (by decide)]; rfl
  unfold hashS endS
  rw [h1]
  have e3 : 3 % (2 * Ru.m rn) = 3 := by decide
  have e4 : padN rn 3 - (2 * Ru.m rn - 3) = 0 := by decide
  unfold writeE
  rw [if_neg (by decide), if_neg (by decide), e3, e4, tailE_zero]
  show blockS rn cubeK (abcR rn) (firstS rn squareK) = _
  unfold blockS
  show addS rn _ (roundsS rn cubeK (sch rn (fill 32 4 (abcR rn) 64) (64 - 16)) (firstS rn squareK) 64) = _
  rw [abc32]
theorem hash_abc64 : hashS rw6 cubeK squareK 3 abc = addS rw6 (firstS rw6 squareK) (state64 80) := by
  have h1 : writeE rw6 cubeK (firstS rw6 squareK) (fun _ => 0) 0 3 abc = (firstS rw6 squareK, over (fun _ => 0) 0 3 (fun j => abc (3 / (2 * Ru.m rw6) * (2 * Ru.m rw6) + j))) := by
    unfold writeE; rw [if_pos (by decide)]; rfl
  unfold hashS endS
  rw [h1]
  have e3 : 3 % (2 * Ru.m rw6) = 3 := by decide
  have e4 : padN rw6 3 - (2 * Ru.m rw6 - 3) = 0 := by decide
  unfold writeE
  rw [if_neg (by decide), if_neg (by decide), e3, e4, tailE_zero]
  show blockS rw6 cubeK (abcR rw6) (firstS rw6 squareK) = _
  unfold blockS
  show addS rw6 _ (roundsS rw6 cubeK (sch rw6 (fill 64 8 (abcR rw6) 128) (80 - 16)) (firstS rw6 squareK) 80) = _
  rw [abc64]
theorem out_abc32 : outB 32 (hashS rn cubeK squareK 3 abc) 0 = 186 ∧ outB 32 (hashS rn cubeK squareK 3 abc) 1 = 120 ∧ outB 32 (hashS rn cubeK squareK 3 abc) 2 = 22 ∧ outB 32 (hashS rn cubeK squareK 3 abc) 3 = 191 := by
  rw [hash_abc32]; exact ⟨by kernel_rfl, by kernel_rfl, by kernel_rfl, by kernel_rfl⟩
theorem out_abc64 : outB 64 (hashS rw6 cubeK squareK 3 abc) 0 = 221 ∧ outB 64 (hashS rw6 cubeK squareK 3 abc) 1 = 175 ∧ outB 64 (hashS rw6 cubeK squareK 3 abc) 2 = 53 ∧ outB 64 (hashS rw6 cubeK squareK 3 abc) 3 = 161 := by
  rw [hash_abc64]; exact ⟨by kernel_rfl, by kernel_rfl, by kernel_rfl, by kernel_rfl⟩
theorem abc_lt : ∀ j, abc j < 256 := fun j => by
  match j with
  | 0 => decide
  | 1 => decide
  | 2 => decide
  | j + 3 => exact (by decide : 0 < 256)
theorem abc_in (w : World) : BytesIn (w.alloc (.cells #[.int .u8 97, .int .u8 98, .int .u8 99] 5 (3, 4))) (.slice (some ⟨w.heap.size, 0, none⟩) 3 3) 3 abc := by
  refine .inr ⟨w.heap.size, 0, 3, rfl, by simp, Nat.le_refl _, fun j hj => ?_⟩
  rw [Nat.zero_add, cell_of_row _ _ j _ _ _ (heap_alloc_new w _)]
  match j, hj with
  | 0, _ => rfl
  | 1, _ => rfl
  | 2, _ => rfl
theorem four32 {w' : World} {g : Nat} (h : RowAt .u8 w' g 0 32 (outB 32 (hashS rn cubeK squareK 3 abc))) : w'.cell? ⟨g, 0, none⟩ = some (.int .u8 186) ∧ w'.cell? ⟨g, 1, none⟩ = some (.int .u8 120) ∧ w'.cell? ⟨g, 2, none⟩ = some (.int .u8 22) ∧ w'.cell? ⟨g, 3, none⟩ = some (.int .u8 191) := by
  have h0 := (h 0 (by decide)).1
  have h1 := (h 1 (by decide)).1
  have h2 := (h 2 (by decide)).1
  have h3 := (h 3 (by decide)).1
  rw [out_abc32.1] at h0
  rw [out_abc32.2.1] at h1
  rw [out_abc32.2.2.1] at h2
  rw [out_abc32.2.2.2] at h3
  exact ⟨h0, h1, h2, h3⟩
theorem four64 {w' : World} {g : Nat} (h : RowAt .u8 w' g 0 64 (outB 64 (hashS rw6 cubeK squareK 3 abc))) : w'.cell? ⟨g, 0, none⟩ = some (.int .u8 221) ∧ w'.cell? ⟨g, 1, none⟩ = some (.int .u8 175) ∧ w'.cell? ⟨g, 2, none⟩ = some (.int .u8 53) ∧ w'.cell? ⟨g, 3, none⟩ = some (.int .u8 161) := by
  have h0 := (h 0 (by decide)).1
  have h1 := (h 1 (by decide)).1
  have h2 := (h 2 (by decide)).1
  have h3 := (h 3 (by decide)).1
  rw [out_abc64.1] at h0
  rw [out_abc64.2.1] at h1
  rw [out_abc64.2.2.1] at h2
  rw [out_abc64.2.2.2] at h3
  exact ⟨h0, h1, h2, h3⟩
theorem str4 (w : World) (g cap : Nat) (x0 x1 x2 x3 : UInt8) (h0 : w.cell? ⟨g, 0, none⟩ = some (.int .u8 (x0.toNat : Int))) (h1 : w.cell? ⟨g, 1, none⟩ = some (.int .u8 (x1.toNat : Int))) (h2 : w.cell? ⟨g, 2, none⟩ = some (.int .u8 (x2.toNat : Int))) (h3 : w.cell? ⟨g, 3, none⟩ = some (.int .u8 (x3.toNat : Int))) :
    (convert 22 9 (.slice (some ⟨g, 0, none⟩) 4 cap)).run Tryd.prog w = .ok (.string ⟨#[x0, x1, x2, x3]⟩) w :=
  run_convert_bytes_back w 22 9 5 ⟨g, 0, none⟩ cap [x0, x1, x2, x3] Tryd.underlying22 Tryd.underlying5 (by kernel_rfl) (fun j hj => by
    rw [Addr.add_mid, Nat.zero_add]
    match j, hj with
    | 0, _ => exact h0
    | 1, _ => exact h1
    | 2, _ => exact h2
    | 3, _ => exact h3)
set_option maxRecDepth 20000 in
set_option maxHeartbeats 1000000 in
theorem knows_any (w : World) (hT : Tab w cubeK squareK) : Calls Tryd.prog 16 #[] w fun e w' => e = .returned (.bool true) ∧ Below w.heap.size w w' := by
  have h3 := hT.size
  have s1 := Sum256_any cubeK squareK _ 3 abc abc_lt _ (hT.below ((Below.refl w.heap.size w).alloc (Nat.le_refl _) (.cells #[.int .u8 97, .int .u8 98, .int .u8 99] 5 (3, 4))) h3) (abc_in w) (by decide)
  have s2 := fun w1 (hb : Below w.heap.size w w1) => Sum512_any cubeK squareK _ 3 abc abc_lt _ (hT.below (hb.alloc hb.size (.cells #[.int .u8 97, .int .u8 98, .int .u8 99] 5 (3, 4))) h3) (abc_in w1) (by decide)
  clear hT
  have hcv : ∀ W : World, (convert 22 22 (.slice (some ⟨W.heap.size, 0, none⟩) 3 3)).run Tryd.prog (W.alloc (.cells #[.int .u8 97, .int .u8 98, .int .u8 99] 5)) = .ok (.slice (some ⟨W.heap.size, 0, none⟩) 3 3) (W.alloc (.cells #[.int .u8 97, .int .u8 98, .int .u8 99] 5 (3, 4))) := fun W => Lib.run_convert_bytes_const W 22 5 #[.int .u8 97, .int .u8 98, .int .u8 99] 3 3 Tryd.underlying22 Tryd.underlying5
  go_enter Tryd.func16, Tryd.ntmps16
  go_wp2_with (first
    | (go_at_call 13; refine s1.mono ?_; clear s1; rintro e w1 ⟨g, rfl, hg, hrow, hb1⟩; obtain ⟨a0, a1, a2, a3⟩ := four32 hrow; have hbw : Below w.heap.size w w1 := ((Below.refl _ _).alloc (Nat.le_refl _) _).trans (hb1.mono (by simp)); have hgl : g < w1.heap.size := block_lt_of_cell a0; replace s2 := s2 w1 hbw; clear hrow)
    | (go_at_call 17; refine s2.mono ?_; clear s2; rintro e w2 ⟨g2, rfl, hg2, hrow2, hb2⟩; obtain ⟨b0, b1, b2, b3⟩ := four64 hrow2; have hbn : Below w1.heap.size w1 w2 := ((Below.refl _ _).alloc (Nat.le_refl _) _).trans (hb2.mono (by simp)); replace a0 := (hbn.cell (p := ⟨g, 0, none⟩) hgl).trans a0; replace a1 := (hbn.cell (p := ⟨g, 1, none⟩) hgl).trans a1; replace a2 := (hbn.cell (p := ⟨g, 2, none⟩) hgl).trans a2; replace a3 := (hbn.cell (p := ⟨g, 3, none⟩) hgl).trans a3; have z1 := str4 w2 g 32 186 120 22 191 a0 a1 a2 a3; have z2 := str4 w2 g2 64 221 175 53 161 b0 b1 b2 b3; clear hrow2))
  go_ret
  exact ⟨rfl, hbw.trans (hbn.mono hbw.size)⟩
end Go.Proofs.YtlfofbkanifocaaDoor
