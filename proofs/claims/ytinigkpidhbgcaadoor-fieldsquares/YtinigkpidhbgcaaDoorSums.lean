/- The walk of the law FieldSums in the model. -/
import Derived.Test.YtinigkpidhbgcaaDoorKnow
import Derived.Test.YtinigkpidhbgcaaDoorRefApi
import Derived.Test.YtinigkpidhbgcaaDoorLent
namespace Go.Proofs.YtinigkpidhbgcaaDoor
open Go.RowKit
theorem lent_bytes {W : World} {g cap n : Nat} {bs : Nat → Nat} (hr : RowAt .u8 W g 0 (n + 2) (cat n bs room)) (hc : n + 2 ≤ cap) : BytesIn W (.slice (some ⟨g, 0, none⟩) n cap) n bs :=
  .inr ⟨g, 0, cap, rfl, block_lt_of_cell (hr 0 (by omega)).1, by omega, fun j hj => by have := (hr j (by omega)).1; rwa [cat_left hj] at this⟩
theorem ans_str {W : World} {v : Value} {n : Nat} {X : Nat → Nat} (h : BytesIn W v n X) (hX : ∀ j, X j < 256) : ∃ xo c, v = .slice xo n c ∧ ∀ W', Below W.heap.size W W' → (convert 22 9 v).run Tryd.prog W' = .ok (.string (strB n X)) W' := by
  have hc := h.conv hX
  obtain ⟨xo, c, rfl, -⟩ := h.src
  exact ⟨xo, c, rfl, hc⟩
/-- Bytes of an answer: a slice, its string in every later world. -/
structure Str (W : World) (v : Value) (S : ByteArray) : Prop where
  form : ∃ xo n c, v = .slice xo n c
  conv : ∀ W', Below W.heap.size W W' → (convert 22 9 v).run Tryd.prog W' = .ok (.string S) W'
theorem Str.of {W : World} {v : Value} {n : Nat} {X : Nat → Nat} (h : BytesIn W v n X) (hX : ∀ j, X j < 256) : Str W v (strB n X) := by
  obtain ⟨xo, c, rfl, hc⟩ := ans_str h hX
  exact ⟨⟨xo, n, c, rfl⟩, hc⟩
theorem Str.still {W W2 : World} {v : Value} {S : ByteArray} (h : Str W v S) (hb : Below W.heap.size W W2) : Str W2 v S := ⟨h.form, fun W' h2 => h.conv W' (hb.trans (h2.mono hb.size))⟩
theorem Str.nil (W : World) : Str W (.slice none 0 0) (strB 0 (fun _ => 0)) := ⟨⟨none, 0, 0, rfl⟩, fun W' _ => conv_nil W'⟩
/-- Whatever two calls of a pair of bytes answer: the same string, the same error. -/
def Pair (f g : FuncId) (w : World) (p : Array Value) (q : Array Value) : Prop := ∃ (S : ByteArray) (er : Int), (∀ W, Below w.heap.size w W → Calls Tryd.prog f p W fun e w' => ∃ v, e = .returned (.tuple #[v, .int .i64 er]) ∧ Str w' v S ∧ Below W.heap.size W w') ∧ (∀ W, Below w.heap.size w W → Calls Tryd.prog g q W fun e w' => ∃ v, e = .returned (.tuple #[v, .int .i64 er]) ∧ Str w' v S ∧ Below W.heap.size W w')
theorem NewB.str {w w' : World} {v : Value} {N : Nat} (h : NewB w w' v 32 (byt N)) : Str w' v (strB 32 (byt N)) := Str.of (h.bytes (by decide)) (byt_all N)
end Go.Proofs.YtinigkpidhbgcaaDoor
