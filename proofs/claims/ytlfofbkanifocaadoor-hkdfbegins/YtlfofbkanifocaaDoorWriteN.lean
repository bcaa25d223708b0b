/- What write does in the model with no bytes at all, at both widths. -/
import Derived.Test.YtlfofbkanifocaaDoorWriteA
namespace Go.Proofs.YtlfofbkanifocaaDoor
open Go.RowKit
theorem over_none (R : Nat → Nat) (i : Nat) (Y : Nat → Nat) : over R i 0 Y = R := funext fun j => by
  unfold over; rw [if_neg (by omega)]
theorem sliceRestN (W : World) (b o h Z : Nat) (hh : h ≤ Z) (hz : Z ≤ 128) (_h128 : h < 128) : (Instr.sliceAt 36 (.pointer (some ⟨b, o + 8, none⟩)) (some (.int .i64 h)) (some (.int .i64 Z)) none).run Tryd.prog W = .ok (.slice (some ⟨b, o + 8 + h, none⟩) (Z - h) (128 - h)) W := by
  have h1 : Tryd.prog.arrayLen 36 = 128 := by kernel_rfl
  have h2 : Tryd.prog.elem 36 = 5 := by kernel_rfl
  have h3 : ((sizeOf 5).run Tryd.prog W) = .ok 1 W := by kernel_rfl
  rw [run_sliceAt_array_lh W 36 ⟨b, o + 8, none⟩ (by kernel_rfl) .i64 .i64 h Z (by omega) (by omega) (by rw [h1]; omega), h2, h3, h1]
  simp only [Result.andThen_ok, slicedAt, Int.toNat_natCast, Nat.mul_one, Addr.add_mid]
  rw [if_neg (by omega)]
set_option maxRecDepth 20000 in
set_option maxHeartbeats 1000000 in
theorem write32_nil0 (xo : Option Addr) (s : St) (R : Nat → Nat) (b o c : Nat) (w : World) (hE : EngAt .u32 w b o s R c) (hcn : c < 4611686018427387904) (hh : c % 64 = 0) :
    Calls Tryd.prog 34 #[.pointer (some ⟨b, o, none⟩), (.agg #[.int .i64 32, .int .i64 64, .int .u64 7, .int .u64 18, .int .u64 3, .int .u64 17, .int .u64 19, .int .u64 10, .int .u64 2, .int .u64 13, .int .u64 22, .int .u64 6, .int .u64 11, .int .u64 25]), .slice xo 0 0] w fun e w' => e = .returned (.tuple #[]) ∧ EngAt .u32 w' b o s R c ∧ Out b o 137 w w' := by
  go_enter Tryd.func34, Tryd.ntmps34
  go_wp2_with (go_at_call 48; refine (blockSize32_any _).mono ?_; rintro e w1 ⟨rfl, hb1⟩; obtain ⟨hE1, hO1, hR1, hsz1, hc1, hf1⟩ := begun32 (n := 0) hE hb1; simp only [Int.ofNat_zero, Int.add_zero, Nat.add_zero] at hE1 hO1; clear hb1 hR1)
  go_loopw [2] (fun v wr => v = .slice xo 0 0 ∧ EngAt .u32 wr b o s R c ∧ Out b o 137 w wr) (fun v _ => lenV v)
  case atStart => exact ⟨rfl, hE1, hO1⟩
  case round =>
    clear hE1 hO1 hc1 hf1
    obtain ⟨rfl, hE1, hO1⟩ := hrel
    have hth := hE1.rest.there
    go_wp2_with (refine wpList_copy_bytes rfl _ _ 22 22 rfl 5 Tryd.underlying22 (by kernel_rfl) b (o + 8) 128 128 xo 0 0 rfl rfl 0 (fun _ => 0) (.inl rfl) rfl hth ?_)
    go_end0
    exact ⟨rfl, hE1, hO1⟩
set_option maxRecDepth 20000 in
set_option maxHeartbeats 1000000 in
theorem write32_nilh (xo : Option Addr) (s : St) (R : Nat → Nat) (b o c h : Nat) (w : World) (hE : EngAt .u32 w b o s R c) (hcn : c < 4611686018427387904) (hmod : (c : Int) % 64 = (h : Int)) (h0 : 0 < h) (_hlt : h < 64) :
    Calls Tryd.prog 34 #[.pointer (some ⟨b, o, none⟩), (.agg #[.int .i64 32, .int .i64 64, .int .u64 7, .int .u64 18, .int .u64 3, .int .u64 17, .int .u64 19, .int .u64 10, .int .u64 2, .int .u64 13, .int .u64 22, .int .u64 6, .int .u64 11, .int .u64 25]), .slice xo 0 0] w fun e w' => e = .returned (.tuple #[]) ∧ EngAt .u32 w' b o s R c ∧ Out b o 137 w w' := by
  have hmi' : (h : Int) < 64 := by omega
  have hsl : ∀ W : World, (Instr.sliceAt 36 (.pointer (some ⟨b, o + 8, none⟩)) (some (.int .i64 h)) (some (.int .i64 64)) none).run Tryd.prog W = .ok (.slice (some ⟨b, o + 8 + h, none⟩) (64 - h) (128 - h)) W := fun W => sliceRestN W b o h 64 (by omega) (by omega) (by omega)
  go_enter Tryd.func34, Tryd.ntmps34
  go_wp2_with (first
    | (go_at_call 48; refine (blockSize32_any _).mono ?_; rintro e w1 ⟨rfl, hb1⟩; obtain ⟨hE1, hO1, hR1, hsz1, hc1, hf1⟩ := begun32 (n := 0) hE hb1; simp only [Int.ofNat_zero, Int.add_zero, Nat.add_zero] at hE1 hO1; have hth : (w1.setCell ⟨b, o + 136, none⟩ (.int .i64 (c : Int))).there b (o + 8 + h) (64 - h) := RowAt.there_part hE1.rest (by omega); clear hb1 hR1)
    | (refine wpList_copy_bytes rfl _ _ 22 22 rfl 5 Tryd.underlying22 (by kernel_rfl) b (o + 8 + h) (64 - h) _ xo 0 0 rfl rfl 0 (fun _ => 0) (.inl rfl) (Nat.zero_min _).symm hth ?_))
  exact bodyPost_ret (results_none Tryd.results34 _ _ _) rfl ⟨rfl, hE1, hO1⟩
set_option maxRecDepth 20000 in
set_option maxHeartbeats 1000000 in
theorem write64_nil0 (xo : Option Addr) (s : St) (R : Nat → Nat) (b o c : Nat) (w : World) (hE : EngAt .u64 w b o s R c) (hcn : c < 4611686018427387904) (hh : c % 128 = 0) :
    Calls Tryd.prog 39 #[.pointer (some ⟨b, o, none⟩), (.agg #[.int .i64 64, .int .i64 80, .int .u64 1, .int .u64 8, .int .u64 7, .int .u64 19, .int .u64 61, .int .u64 6, .int .u64 28, .int .u64 34, .int .u64 39, .int .u64 14, .int .u64 18, .int .u64 41]), .slice xo 0 0] w fun e w' => e = .returned (.tuple #[]) ∧ EngAt .u64 w' b o s R c ∧ Out b o 137 w w' := by
  go_enter Tryd.func39, Tryd.ntmps39
  go_wp2_with (go_at_call 48; refine (blockSize64_any _).mono ?_; rintro e w1 ⟨rfl, hb1⟩; obtain ⟨hE1, hO1, hR1, hsz1, hc1, hf1⟩ := begun64 (n := 0) hE hb1; simp only [Int.ofNat_zero, Int.add_zero, Nat.add_zero] at hE1 hO1; clear hb1 hR1)
  go_loopw [2] (fun v wr => v = .slice xo 0 0 ∧ EngAt .u64 wr b o s R c ∧ Out b o 137 w wr) (fun v _ => lenV v)
  case atStart => exact ⟨rfl, hE1, hO1⟩
  case round =>
    clear hE1 hO1 hc1 hf1
    obtain ⟨rfl, hE1, hO1⟩ := hrel
    have hth := hE1.rest.there
    go_wp2_with (refine wpList_copy_bytes rfl _ _ 22 22 rfl 5 Tryd.underlying22 (by kernel_rfl) b (o + 8) 128 128 xo 0 0 rfl rfl 0 (fun _ => 0) (.inl rfl) rfl hth ?_)
    go_end0
    exact ⟨rfl, hE1, hO1⟩
set_option maxRecDepth 20000 in
set_option maxHeartbeats 1000000 in
theorem write64_nilh (xo : Option Addr) (s : St) (R : Nat → Nat) (b o c h : Nat) (w : World) (hE : EngAt .u64 w b o s R c) (hcn : c < 4611686018427387904) (hmod : (c : Int) % 128 = (h : Int)) (h0 : 0 < h) (_hlt : h < 128) :
    Calls Tryd.prog 39 #[.pointer (some ⟨b, o, none⟩), (.agg #[.int .i64 64, .int .i64 80, .int .u64 1, .int .u64 8, .int .u64 7, .int .u64 19, .int .u64 61, .int .u64 6, .int .u64 28, .int .u64 34, .int .u64 39, .int .u64 14, .int .u64 18, .int .u64 41]), .slice xo 0 0] w fun e w' => e = .returned (.tuple #[]) ∧ EngAt .u64 w' b o s R c ∧ Out b o 137 w w' := by
  have hmi' : (h : Int) < 128 := by omega
  have hsl : ∀ W : World, (Instr.sliceAt 36 (.pointer (some ⟨b, o + 8, none⟩)) (some (.int .i64 h)) (some (.int .i64 128)) none).run Tryd.prog W = .ok (.slice (some ⟨b, o + 8 + h, none⟩) (128 - h) (128 - h)) W := fun W => sliceRestN W b o h 128 (by omega) (by omega) (by omega)
  go_enter Tryd.func39, Tryd.ntmps39
  go_wp2_with (first
    | (go_at_call 48; refine (blockSize64_any _).mono ?_; rintro e w1 ⟨rfl, hb1⟩; obtain ⟨hE1, hO1, hR1, hsz1, hc1, hf1⟩ := begun64 (n := 0) hE hb1; simp only [Int.ofNat_zero, Int.add_zero, Nat.add_zero] at hE1 hO1; have hth : (w1.setCell ⟨b, o + 136, none⟩ (.int .i64 (c : Int))).there b (o + 8 + h) (128 - h) := RowAt.there_part hE1.rest (by omega); clear hb1 hR1)
    | (refine wpList_copy_bytes rfl _ _ 22 22 rfl 5 Tryd.underlying22 (by kernel_rfl) b (o + 8 + h) (128 - h) _ xo 0 0 rfl rfl 0 (fun _ => 0) (.inl rfl) (Nat.zero_min _).symm hth ?_))
  exact bodyPost_ret (results_none Tryd.results39 _ _ _) rfl ⟨rfl, hE1, hO1⟩
end Go.Proofs.YtlfofbkanifocaaDoor
