/- What Lent and Stays of the laws do in the model. -/
import Derived.Test.YtinigkpidhbgcaaBase
namespace Go.Proofs.Ytinigkpidhbgcaa
open Go.RowKit
/-- The room behind lent bytes. -/
def room (j : Nat) : Nat := if j = 0 then 201 else 202
theorem room_lt (j : Nat) : room j < 256 := by unfold room; split <;> decide
theorem src_room (w : World) : Src (w.alloc (.cells #[.int .u8 201, .int .u8 202] 5)) (some ⟨w.heap.size, 0, none⟩) 2 room := by
  refine .inr ⟨w.heap.size, 0, rfl, fun j hj => ?_⟩
  match j, hj with
  | 0, _ => simp [room]
  | 1, _ => simp [room]
set_option maxHeartbeats 1000000 in
theorem lent_any (v : Value) (n : Nat) (bs : Nat → Nat) (w : World) (hv : BytesIn w v n bs) (hn : n < 140737488355000) :
    Calls Try.prog 10 #[v] w fun e w' => ∃ g cap, e = .returned (.slice (some ⟨g, 0, none⟩) n cap) ∧ n + 2 ≤ cap ∧ w.heap.size ≤ g ∧ RowAt .u8 w' g 0 (n + 2) (cat n bs room) ∧ Below w.heap.size w w' := by
  obtain ⟨xo, cx, rfl, hxn, -, hsrc⟩ := hv.src
  clear hv
  have src0 := hsrc _ ((Below.refl _ _).alloc (Nat.le_refl _) (.cells #[] 5))
  clear hsrc
  go_enter Try.func10, Try.ntmps10
  go_wp2_with (first
    | (at_builtin; refine wpList_append_empty rfl (.tmp 4) (.tmp 5) rfl w.heap.size bs _ rfl rfl xo n cx rfl src0 hxn (by omega) (Nat.le_refl _) ?_; intro v1 w1 own1 hb1; have hs1 := hb1.size; clear src0)
    | (at_builtin; refine wpList_append_bytes rfl (.tmp 7) (.tmp 8) rfl w.heap.size v1 n bs rfl (own1.alloc _) _ 2 2 room rfl (src_room w1) (fun h => by cases h) (by omega) (by simp only [World.size_alloc]; omega) ?_; intro v2 w2 own2 grow2; have hb2 := Own.grown (hb1.alloc hs1 _) grow2 (own1.alloc _) (Nat.le_refl _) (by simp only [World.size_alloc]; omega); clear own1 hb1 hs1; (obtain ⟨g, cap, hv2, hg, hgl, hcap, hrow⟩ : ∃ g cap, v2 = .slice (some ⟨g, 0, none⟩) (n + 2) cap ∧ w.heap.size ≤ g ∧ g < w2.heap.size ∧ n + 2 ≤ cap ∧ RowAt .u8 w2 g 0 (n + 2) (cat n bs room) := own2.form.resolve_left (fun h => by omega)); subst hv2; have hni : (n : Int) ≤ cap := by omega))
  go_ret
  exact ⟨g, cap, rfl, hcap, hg, hrow, hb2⟩
set_option maxRecDepth 20000 in
set_option maxHeartbeats 1000000 in
theorem stays_any (g cap n : Nat) (v : Value) (bs : Nat → Nat) (hbs : ∀ j, bs j < 256) (w : World) (hn : n < 140737488355000) (hcap : n + 2 ≤ cap) (hrow : RowAt .u8 w g 0 (n + 2) (cat n bs room)) (hv : BytesIn w v n bs) :
    Calls Try.prog 18 #[.slice (some ⟨g, 0, none⟩) n cap, v] w fun e w' => e = .returned (.bool true) ∧ Below w.heap.size w w' := by
  have hc1 : ∀ W, Below w.heap.size w W → ∀ c, (convert 22 9 (.slice (some ⟨g, 0, none⟩) n c)).run Try.prog W = .ok (.string (strB n bs)) W := fun W hW c => conv_bytes W g 0 n c bs hbs (fun j hj => by
    have := (hrow j (by omega)).1
    rw [cat_left hj] at this
    exact (hW.cell (p := ⟨g, 0 + j, none⟩) (block_lt_of_cell this)).trans this)
  have hc2 := hv.conv hbs
  obtain ⟨xo, cx, rfl, -, -, -⟩ := hv.src
  have r1 : w.cell? ⟨g, n, none⟩ = some (.int .u8 201) := by
    have := (hrow n (by omega)).1
    rw [Nat.zero_add] at this
    rw [this]; unfold cat room; simp
  have r2 : w.cell? ⟨g, n + 1, none⟩ = some (.int .u8 202) := by
    have := (hrow (n + 1) (by omega)).1
    rw [Nat.zero_add, cat_right] at this
    exact this
  clear hrow hv
  have hn2 : (n : Int) + 2 ≤ cap := by omega
  have hn3 : (n : Int) ≤ cap := by omega
  have e1 : IntKind.i64.wrap ((n : Int) + 1) = (n : Int) + 1 := by simp only [IntKind.wrap_i64]; omega
  have e3 : ((n : Int) + 1).toNat = n + 1 := by omega
  have e4 : (0 : Int) ≤ (n : Int) ∧ (n : Int) < (n : Int) + 2 := by omega
  have e5 : (0 : Int) ≤ (n : Int) + 1 ∧ (n : Int) + 1 < (n : Int) + 2 := by omega
  have e6 : n < n + 2 := by omega
  have e7 : n + 1 < n + 2 := by omega
  go_enter Try.func18, Try.ntmps18
  go_wp2
  have hS : ∀ w' : World, Below w.heap.size w w' → ∀ b o, b < w.heap.size → w'.cell? ⟨b, o, none⟩ = w.cell? ⟨b, o, none⟩ := fun w' h b o hb => h.cell (p := ⟨b, o, none⟩) hb
  have hb0 : Below w.heap.size w w.drew := (Below.refl _ _).drew
  have hgl : g < w.heap.size := block_lt_of_cell r1
  go_region_held3 (fun w' => Below w.heap.size w w') (first | assumption) (fail)
  go_wp2
  go_ret
  exact ⟨rfl, hb0⟩
end Go.Proofs.Ytinigkpidhbgcaa
