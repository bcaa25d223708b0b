/- A slice of structs of a number, bytes and a number, as the reading hands it. -/
import Derived.Test.YtinigkpidhbgcaaKit
import Derived.Deep.Slices
namespace Go.Proofs.Ytinigkpidhbgcaa
open Go.ChangeShapes Go.WideShapes Go.ChangeAt Go.RowKit
/-- Such a slice in memory. -/
structure OpsIn (w : World) (xo : Option Addr) (cnt : Nat) (kd nn : Nat → Int) (sv : Nat → Value) (sn : Nat → Nat) (sb : Nat → Nat → Nat) : Prop where
  cells : ∀ q, q < cnt → ∃ b o, xo = some ⟨b, o, none⟩ ∧ b < w.heap.size ∧ w.rangeAt b (o + q * 3) [.int .i64 (kd q), sv q, .int .i64 (nn q)]
  bytes : ∀ q, q < cnt → BytesIn w (sv q) (sn q) (sb q)
  low : ∀ q, q < cnt → ∀ j, sb q j < 256
  num : ∀ q, q < cnt → -9223372036854775808 ≤ nn q ∧ nn q ≤ 9223372036854775807
theorem cellsOfOp : Try.prog.cellsOf 55 = 3 := by kernel_rfl
theorem cellsOfBs : Try.prog.cellsOf 22 = 1 := by kernel_rfl
theorem cellsOfInt : Try.prog.cellsOf 3 = 1 := by kernel_rfl
theorem plain_of_cell {w : World} {b o : Nat} {sp : Option Nat} {v : Value} (h : w.cell? ((⟨b, o, sp⟩ : Addr).add 0) = some v) : sp = none := by
  cases sp with
  | none => rfl
  | some k =>
    exfalso
    unfold World.cell? Addr.add at h
    simp at h
    split at h <;> simp at h
/-- Bytes behind a cell that holds a slice. -/
theorem bytes_cell {H : Type} {enc : TypeId × Value → H} {W : World} {fuel : Nat} {v : Value} {x : DataW H × List MemPlace} (h : DataW.trod enc Try.prog W 0 (fun _ => true) true fuel 22 [v] = some x) : ∃ n bs, BytesIn W v n bs ∧ ∀ j, bs j < 256 := by
  rcases open_ints Try.underlying22 Try.underlying5 cellsOfByte h with ⟨hcs, hx⟩ | ⟨a, len, cap, zs, hcs, _, hl, hm, hz, hx, hcell, hwz⟩
  · obtain rfl : v = .slice none 0 0 := by simpa using hcs
    exact ⟨0, fun _ => 0, .inl ⟨none, rfl, rfl⟩, fun _ => Nat.zero_lt_succ _⟩
  · obtain rfl : v = .slice (some a) len cap := by simpa using hcs
    simp only [if_true] at hz
    have hn : ∀ j, 0 ≤ zs.getD j 0 ∧ zs.getD j 0 < 256 := fun j => by
      rw [List.getD_eq_getElem?_getD]
      cases h : zs[j]? with
      | none => simp
      | some x =>
        have := hwz x (List.mem_of_getElem? h)
        have h0 : (0 : Int) ≤ x ∧ x ≤ 255 := by simpa [Lit.wf, IntKind.min, IntKind.max, IntKind.signed, IntKind.bits] using this
        show 0 ≤ x ∧ x < 256
        omega
    refine ⟨len, fun j => (zs.getD j 0).toNat, ?_, fun j => by have := hn j; show (zs.getD j 0).toNat < 256; omega⟩
    by_cases hC : cap = 0
    · exact .inl ⟨some a, by rw [hC, show len = 0 by omega], by omega⟩
    · obtain ⟨b, o, sp⟩ := a
      have hc0 := hcell 0 (by omega)
      obtain rfl := plain_of_cell hc0
      rw [Addr.add_mid] at hc0
      refine .inr ⟨b, o, cap, rfl, block_lt_of_cell hc0, hl, fun j hj => ?_⟩
      have h := hcell j (by omega)
      rw [Addr.add_mid] at h
      rw [h, Int.toNat_of_nonneg (hn j).1]
theorem open_ops {H : Type} {enc : TypeId × Value → H} {W : World} {base : Nat} {v : Value} {d : DataW H} {ps : List MemPlace} (hval : Value.okWide Try.prog W .any base 41 v) (h : DataW.Trod enc Try.prog W 0 (fun _ => true) true 41 v d ps) :
    ∃ xo cnt cap kd nn sv sn sb, v = .slice xo cnt cap ∧ cnt ≤ cap ∧ OpsIn W xo cnt kd nn sv sn sb := by
  obtain ⟨a0, len, cap, rfl⟩ := okWide_slice Try.underlying41 hval
  obtain ⟨fuel, hf⟩ := h
  have hc : Cell.ok Try.prog W .any base 41 (.slice a0 len cap) := by
    unfold Value.okWide Cell.okWide at hval
    simp only [Try.underlying41] at hval
    exact hval
  rcases Deep.open_slice Try.underlying41 hf with ⟨hcs, hx⟩ | ⟨a, len', cap', m, n, D, Pl, hcs, _, hl, hm, hmm, hx, hrow⟩
  · simp [Value.cells] at hcs
    obtain ⟨rfl, rfl, rfl⟩ := hcs
    exact ⟨none, 0, 0, fun _ => 0, fun _ => 0, fun _ => .slice none 0 0, fun _ => 0, fun _ _ => 0, rfl, Nat.le_refl _, ⟨fun q hq => by omega, fun q hq => by omega, fun q hq => by omega, fun q hq => by omega⟩⟩
  · simp [Value.cells] at hcs
    obtain ⟨rfl, rfl, rfl⟩ := hcs
    simp only [if_true] at hmm
    unfold Cell.ok at hc
    simp only [Try.underlying41] at hc
    obtain ⟨_, _, _, hs, _⟩ := hc
    obtain ⟨b, off, spot⟩ := a
    subst hs
    rw [cellsOfOp] at hrow
    have each : ∀ i, i < len → ∃ q : Int × Int × Value × Nat × (Nat → Nat), W.rangeAt b (off + i * 3) [.int .i64 q.1, q.2.2.1, .int .i64 q.2.1] ∧ b < W.heap.size ∧ BytesIn W q.2.2.1 q.2.2.2.1 q.2.2.2.2 ∧ (∀ j, q.2.2.2.2 j < 256) ∧ (-9223372036854775808 ≤ q.2.1 ∧ q.2.1 ≤ 9223372036854775807) := by
      intro i hi
      obtain ⟨cs', h1, h2⟩ := hrow i (by omega)
      obtain ⟨_, hlen, hcell⟩ := World.cells?_some h1
      obtain ⟨xs, k, hk, hxy, _, hxl, hfd⟩ := DataW.trod_struct Try.underlying55 h2
      match xs, hxl, cs', hlen with
      | [y0, y1, y2], _, [v0, v1, v2], _ =>
        have g0 := hfd 0 _ rfl
        have g1 := hfd 1 _ rfl
        have g2 := hfd 2 _ rfl
        simp [cellsOfBs, cellsOfInt] at g0 g1 g2
        obtain ⟨z0, hz0, -, -⟩ := DataW.trod_int Try.underlying3 g0
        obtain ⟨z2, hz2, -, hw2⟩ := DataW.trod_int Try.underlying3 g2
        obtain rfl : v0 = .int .i64 z0 := by simpa using hz0
        obtain rfl : v2 = .int .i64 z2 := by simpa using hz2
        obtain ⟨sn, sb, hB, hlow⟩ := bytes_cell g1
        have e0 := hcell 0 (by omega)
        have e1 := hcell 1 (by omega)
        have e2 := hcell 2 (by omega)
        rw [Addr.add_mid, Addr.add_mid] at e0 e1 e2
        refine ⟨(z0, z2, v1, sn, sb), fun j v hv => ?_, block_lt_of_cell (by simpa using e0), hB, hlow, ?_⟩
        · match j, hv with
          | 0, hv => rw [← hv]; simpa using e0
          | 1, hv => rw [← hv]; simpa using e1
          | 2, hv => rw [← hv]; simpa using e2
          | j + 3, hv => simp at hv
        · simpa [Lit.wf, IntKind.min, IntKind.max, IntKind.signed, IntKind.bits] using hw2
    obtain ⟨q, hq⟩ := Deep.choose_lt (α := Int × Int × Value × Nat × (Nat → Nat)) each
    exact ⟨some ⟨b, off, none⟩, len, cap, fun i => (q i).1, fun i => (q i).2.1, fun i => (q i).2.2.1, fun i => (q i).2.2.2.1, fun i => (q i).2.2.2.2, rfl, hl, ⟨fun i hi => ⟨b, off, rfl, (hq i hi).2.1, (hq i hi).1⟩, fun i hi => (hq i hi).2.2.1, fun i hi => (hq i hi).2.2.2.1, fun i hi => (hq i hi).2.2.2.2⟩⟩
end Go.Proofs.Ytinigkpidhbgcaa
