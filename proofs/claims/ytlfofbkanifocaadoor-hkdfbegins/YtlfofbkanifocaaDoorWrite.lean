/- What write does in the model, whatever bytes are held and come, at both widths. -/
import Derived.Test.YtlfofbkanifocaaDoorWriteC
import Derived.Test.YtlfofbkanifocaaDoorWriteN
namespace Go.Proofs.YtlfofbkanifocaaDoor
open Go.RowKit
/-- A slice of n bytes that lies in no cell of block b. -/
def Bytes (w : World) (b : Nat) (v : Value) (n : Nat) (bs : Nat → Nat) : Prop := (∃ xo, v = .slice xo 0 0 ∧ n = 0) ∨ ∃ bb ob cap, v = .slice (some ⟨bb, ob, none⟩) n cap ∧ bb ≠ b ∧ n ≤ cap ∧ ∀ j, j < n → w.cell? ⟨bb, ob + j, none⟩ = some (.int .u8 (bs j))
theorem write32_any (K : Nat → Nat) (hK : ∀ j, K j < 18446744073709551616) (s : St) (hs : s.lt 4294967296) (R : Nat → Nat) (hR : ∀ j, R j < 256) (b o c n : Nat) (v : Value) (bs : Nat → Nat) (hbs : ∀ j, bs j < 256) (w : World)
    (hE : EngAt .u32 w b o s R c) (hcub : ∀ j, j < 80 → w.cell? ⟨3, j, none⟩ = some (.int .u64 (K j))) (hb3 : 3 ≠ b) (hv : Bytes w b v n bs) (hcn : c + n < 4611686018427387904) :
    Calls Tryd.prog 34 #[.pointer (some ⟨b, o, none⟩), (.agg #[.int .i64 32, .int .i64 64, .int .u64 7, .int .u64 18, .int .u64 3, .int .u64 17, .int .u64 19, .int .u64 10, .int .u64 2, .int .u64 13, .int .u64 22, .int .u64 6, .int .u64 11, .int .u64 25]), v] w
      fun e w' => e = .returned (.tuple #[]) ∧ EngAt .u32 w' b o (writeE rn K s R c n bs).1 (writeE rn K s R c n bs).2 (c + n) ∧ Out b o 137 w w' := by
  have hz : 2 * Ru.m rn = 64 := rfl
  unfold writeE
  rw [hz]
  by_cases h0 : c % 64 = 0
  · rw [if_pos h0]
    rcases hv with ⟨xo, rfl, rfl⟩ | ⟨bb, ob, cap, rfl, hbb, hcap, hcell⟩
    · have e : tailE rn K s R 0 bs = (s, R) := by
        show (s, over R 0 0 _) = (s, R)
        rw [over_none]
      rw [e]
      exact write32_nil0 xo s R b o c w hE (by omega) h0
    · exact write32_A K hK s hs R b o c n bb ob cap bs hbs w hE hcub hb3 hbb hcap hcn hcell h0
  · rw [if_neg h0]
    have hmod : (c : Int) % 64 = ((c % 64 : Nat) : Int) := by omega
    by_cases h1 : c % 64 + n < 64
    · rw [if_pos h1]
      rcases hv with ⟨xo, rfl, rfl⟩ | ⟨bb, ob, cap, rfl, hbb, hcap, hcell⟩
      · rw [over_none]
        exact write32_nilh xo s R b o c _ w hE (by omega) hmod (by omega) (by omega)
      · exact write32_B s R b o c n bb ob cap _ bs w hE hbb hcn hcell hmod (by omega) h1
    · rw [if_neg h1]
      rcases hv with ⟨xo, rfl, rfl⟩ | ⟨bb, ob, cap, rfl, hbb, hcap, hcell⟩
      · omega
      · exact write32_C K hK s hs R hR b o c n bb ob cap _ bs hbs w hE hcub hb3 hbb hcap hcn hcell hmod (by omega) (by omega) (by omega)
theorem write64_any (K : Nat → Nat) (hK : ∀ j, K j < 18446744073709551616) (s : St) (hs : s.lt 18446744073709551616) (R : Nat → Nat) (hR : ∀ j, R j < 256) (b o c n : Nat) (v : Value) (bs : Nat → Nat) (hbs : ∀ j, bs j < 256) (w : World)
    (hE : EngAt .u64 w b o s R c) (hcub : ∀ j, j < 80 → w.cell? ⟨3, j, none⟩ = some (.int .u64 (K j))) (hb3 : 3 ≠ b) (hv : Bytes w b v n bs) (hcn : c + n < 4611686018427387904) :
    Calls Tryd.prog 39 #[.pointer (some ⟨b, o, none⟩), (.agg #[.int .i64 64, .int .i64 80, .int .u64 1, .int .u64 8, .int .u64 7, .int .u64 19, .int .u64 61, .int .u64 6, .int .u64 28, .int .u64 34, .int .u64 39, .int .u64 14, .int .u64 18, .int .u64 41]), v] w
      fun e w' => e = .returned (.tuple #[]) ∧ EngAt .u64 w' b o (writeE rw6 K s R c n bs).1 (writeE rw6 K s R c n bs).2 (c + n) ∧ Out b o 137 w w' := by
  have hz : 2 * Ru.m rw6 = 128 := rfl
  unfold writeE
  rw [hz]
  by_cases h0 : c % 128 = 0
  · rw [if_pos h0]
    rcases hv with ⟨xo, rfl, rfl⟩ | ⟨bb, ob, cap, rfl, hbb, hcap, hcell⟩
    · have e : tailE rw6 K s R 0 bs = (s, R) := by
        show (s, over R 0 0 _) = (s, R)
        rw [over_none]
      rw [e]
      exact write64_nil0 xo s R b o c w hE (by omega) h0
    · exact write64_A K hK s hs R b o c n bb ob cap bs hbs w hE hcub hb3 hbb hcap hcn hcell h0
  · rw [if_neg h0]
    have hmod : (c : Int) % 128 = ((c % 128 : Nat) : Int) := by omega
    by_cases h1 : c % 128 + n < 128
    · rw [if_pos h1]
      rcases hv with ⟨xo, rfl, rfl⟩ | ⟨bb, ob, cap, rfl, hbb, hcap, hcell⟩
      · rw [over_none]
        exact write64_nilh xo s R b o c _ w hE (by omega) hmod (by omega) (by omega)
      · exact write64_B s R b o c n bb ob cap _ bs w hE hbb hcn hcell hmod (by omega) h1
    · rw [if_neg h1]
      rcases hv with ⟨xo, rfl, rfl⟩ | ⟨bb, ob, cap, rfl, hbb, hcap, hcell⟩
      · omega
      · exact write64_C K hK s hs R hR b o c n bb ob cap _ bs hbs w hE hcub hb3 hbb hcap hcn hcell hmod (by omega) (by omega) (by omega)
theorem tailE_lt {r : Ru} {K : Nat → Nat} {s : St} {R : Nat → Nat} {n : Nat} {bs : Nat → Nat} (hs : s.lt (2 ^ r.m)) (hR : ∀ j, R j < 256) (hb : ∀ j, bs j < 256) : (tailE r K s R n bs).1.lt (2 ^ r.m) ∧ ∀ j, (tailE r K s R n bs).2 j < 256 :=
  ⟨loopS_lt hs _, over_lt hR (fun _ => hb _)⟩
theorem writeE_lt {r : Ru} {K : Nat → Nat} {s : St} {R : Nat → Nat} {c n : Nat} {bs : Nat → Nat} (hs : s.lt (2 ^ r.m)) (hR : ∀ j, R j < 256) (hb : ∀ j, bs j < 256) : (writeE r K s R c n bs).1.lt (2 ^ r.m) ∧ ∀ j, (writeE r K s R c n bs).2 j < 256 := by
  unfold writeE
  split
  · exact tailE_lt hs hR hb
  · split
    · exact ⟨hs, over_lt hR hb⟩
    · exact tailE_lt addS_lt (over_lt hR hb) (fun _ => hb _)
end Go.Proofs.YtlfofbkanifocaaDoor
