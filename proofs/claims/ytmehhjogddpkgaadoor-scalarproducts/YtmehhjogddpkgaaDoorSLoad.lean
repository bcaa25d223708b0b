/- Package scalar: what load and the method bytes of a wide number do in the model. -/
import Derived.Test.YtmehhjogddpkgaaDoorBts
namespace Go.Proofs.YtmehhjogddpkgaaDoor
open Go.RowKit
/-- Nine zeros. -/
def zW : Array Value := Array.replicate 9 (.int .u64 0)
theorem zW_at (j : Nat) (h : j < 9) : zW[j]? = some (.int .u64 0) := by simp [zW, h]
theorem zeroW (w : World) : Sem.run Tryd.prog (zeroValue 40) w = .ok (.agg zW) w := by kernel_rfl
theorem ints_size (K : IntKind) (n : Nat) (X : Nat → Nat) : (ints K n X).toArray.size = n := by simp [ints]
theorem infoW : (Tryd.prog.info? 40).map (·.size) = some 9 := by kernel_rfl
theorem infoWL (X : Nat → Nat) : (Tryd.prog.info? 40).map (·.size) = some (ints .u64 9 X).length := by rw [ints_len]; exact infoW
theorem infoWA (X : Nat → Nat) : (Tryd.prog.info? 40).map (·.size) = some (ints .u64 9 X).toArray.size := by rw [ints_size]; exact infoW
theorem oneW (X : Nat → Nat) : (ints .u64 9 X).toArray.all (·.oneCell') = true := all_oneCell_toArray (ints_one .u64 9 X)
/-- A wide number's value in the model. -/
def wideV (X : Nat → Nat) : Value := .agg (ints .u64 9 X).toArray
set_option maxRecDepth 20000 in
set_option maxHeartbeats 2000000 in
theorem load_at (xo : Option Addr) (n c : Nat) (bs : Nat → Nat) (hbs : ∀ j, bs j < 256) (hn : n ≤ 64) (w : World) (hc : ∀ W, Below w.heap.size w W → ∀ j, j < n → ∃ bb ob, xo = some ⟨bb, ob, none⟩ ∧ W.cell? ⟨bb, ob + j, none⟩ = some (.int .u8 (bs j))) :
    Calls Tryd.prog 24 #[.slice xo n c] w fun e w' => e = .returned (wideV (lw (ofB bs n))) ∧ Below w.heap.size w w' := by
  have hz := zeroW
  obtain ⟨W, hW⟩ : ∃ W, W = (w.alloc (.cells zW 40)).alloc (.cells zW 40) := ⟨_, rfl⟩
  have HW := Hid.mk' hW
  have hWs : W.heap.size = w.heap.size + 1 + 1 := by rw [hW]; simp
  have hbW : Below w.heap.size w W := by rw [hW]; exact ((Below.refl _ _).alloc (Nat.le_refl _) _).alloc (by simp) _
  have hz0 : ∀ a, lw (ofB bs 0) a = 0 := fun a => by unfold lw ofB; rw [Nat.zero_div, Nat.zero_mod]
  have hres : RowAt .u64 W w.heap.size 0 9 (fun _ => 0) := by rw [hW]; exact (RowAt.fresh (fun j hj => zW_at j hj)).below ((Below.refl _ _).alloc (Nat.le_refl _) _) (by simp)
  have hrow0 : RowAt .u64 W (w.heap.size + 1) 0 9 (lw (ofB bs 0)) := by
    have := RowAt.fresh (K := .u64) (w := w.alloc (.cells zW 40)) (cs := zW) (t := 40) (n := 9) (X := lw (ofB bs 0)) (fun j hj => by rw [hz0]; exact zW_at j hj)
    rw [World.size_alloc] at this
    rw [hW]; exact this
  unfold wideV
  clear hW hz0
  go_enter Tryd.func24, Tryd.ntmps24
  go_wp2
  rw [← HW.out]
  go_loopw [8] (fun i wr => ∃ k : Nat, k ≤ n ∧ i = .int .i64 k ∧ RowAt .u64 wr (w.heap.size + 1) 0 9 (lw (ofB bs k)) ∧ RowAt .u64 wr w.heap.size 0 9 (fun _ => 0) ∧ Below w.heap.size w wr) (fun i _ => n - (intOf i).toNat)
  case atStart => exact ⟨0, Nat.zero_le _, rfl, hrow0, hres, hbW⟩
  case round =>
    clear hrow0 hres hbW hz
    obtain ⟨k, hk, rfl, hrow, hre, hb⟩ := hrel
    by_cases hlt : k < n
    · obtain ⟨rk, rf⟩ := hrow (k / 8) (by omega)
      rw [Nat.zero_add] at rk rf
      obtain ⟨bb, ob, rfl, hck⟩ := hc wr hb k hlt
      have hor := or_byte (lw (ofB bs k) (k / 8)) (bs k) k (lw_lt _ _) (hbs k)
      have hbk := hbs k
      have hki : (k : Int) < n := by omega
      clear hc
      go_wp2
      go_roundw
      case rel =>
        have h1 := hrow.set (i := k / 8) (by omega) (v := ((lw (ofB bs k) (k / 8) ||| bs k * 2 ^ (k % 8 * 8) : Nat) : Int)) rfl
        rw [Nat.zero_add] at h1
        refine ⟨k + 1, by omega, by go_num, h1.congr (fun j hj => ?_), hre.far (by show w.heap.size + 1 ≠ w.heap.size; omega) _, hb.setCell (by show w.heap.size ≤ w.heap.size + 1; omega) _⟩
        rw [word_more bs hbs k j]
        unfold upd
        by_cases e : j = k / 8
        · rw [if_pos e, if_pos e, e]
        · rw [if_neg e, if_neg e]
      case measure => simp [intOf]; omega
    · have hke : k = n := by omega
      subst hke
      obtain ⟨X, hX⟩ : ∃ X, X = lw (ofB bs k) := ⟨_, rfl⟩
      rw [← hX] at hrow
      have HX := Hid.mk' hX
      have hki : ¬(k : Int) < k := by omega
      clear hX hc hbs
      have hi1 := infoWL X
      have hi2 := infoWA X
      have ho := oneW X
      have hth : wr.there w.heap.size 0 (ints .u64 9 X).toArray.size := by rw [ints_size]; exact hre.there
      go_wp2_with (first
        | (refine wpList_load_mid rfl 40 _ rfl (w.heap.size + 1) 0 rfl (ints .u64 9 X) _ hrow.range Tryd.underlying40 rfl hi1 ?_)
        | (refine wpList_store_mid rfl 40 _ _ rfl w.heap.size 0 (ints .u64 9 X).toArray rfl rfl hth hi2 ho ?_))
      (try simp only [Exit.inBlock, Exit.then])
      refine bodyPost_ret (results_cell_mid Tryd.results24 _ _ w.heap.size 0 (ints .u64 9 X) _ rfl (World.rangeAt_setCells_same _ _ _ _ (by rw [ints_len]; exact hre.there)) Tryd.underlying40 rfl hi1) rfl ⟨by rw [HX.out], ?_⟩
      exact below_setCells (Nat.le_refl _) _ _ _ hb
theorem load_any (v : Value) (n : Nat) (bs : Nat → Nat) (hbs : ∀ j, bs j < 256) (hn : n ≤ 64) (w : World) (hv : BytesIn w v n bs) :
    Calls Tryd.prog 24 #[v] w fun e w' => e = .returned (wideV (lw (ofB bs n))) ∧ Below w.heap.size w w' := by
  rcases hv with ⟨xo, rfl, rfl⟩ | ⟨bb, ob, cap, rfl, h1, h2, h3⟩
  · exact load_at xo 0 0 bs hbs hn w (fun _ _ j hj => absurd hj (Nat.not_lt_zero j))
  · exact load_at _ n cap bs hbs hn w (fun W hW j hj => ⟨bb, ob, rfl, (hW.cell (p := ⟨bb, ob + j, none⟩) h1).trans (h3 j hj)⟩)
set_option maxRecDepth 20000 in
set_option maxHeartbeats 2000000 in
/-- The bytes of the four lowest words. -/
theorem wbytes_any (g : Nat) (N : Nat) (w : World) (hg : g < w.heap.size) (hX : ∀ j, j < 4 → w.cell? ⟨g, j, none⟩ = some (.int .u64 (lw N j))) :
    Calls Tryd.prog 33 #[.pointer (some ⟨g, 0, none⟩)] w fun e w' => ∃ h, e = .returned (.slice (some ⟨h, 0, none⟩) 32 32) ∧ w.heap.size ≤ h ∧ h < w'.heap.size ∧ RowAt .u8 w' h 0 32 (byt N) ∧ Below w.heap.size w w' := by
  have hmk := make_bytes w 32 32 rfl (by decide)
  have hb0 : Below w.heap.size w (w.alloc (.cells (zb 32) 5)) := (Below.refl _ _).alloc (Nat.le_refl _) _
  have hrow0 : RowAt .u8 (w.alloc (.cells (zb 32) 5)) w.heap.size 0 32 (fun _ => 0) := RowAt.fresh (fun j hj => zb_at 32 j hj)
  go_enter Tryd.func33, Tryd.ntmps33
  go_wp2_with (rw [hmk])
  go_loopw [8] (fun i wr => ∃ k : Nat, k ≤ 32 ∧ i = .int .i64 k ∧ RowAt .u8 wr w.heap.size 0 32 (fun j => if j < k then byt N j else 0) ∧ Below w.heap.size w wr ∧ w.heap.size < wr.heap.size) (fun i _ => 32 - (intOf i).toNat)
  case atStart => exact ⟨0, Nat.zero_le _, rfl, hrow0.congr (fun j _ => by simp), hb0, by simp⟩
  case round =>
    clear hrow0 hb0 hmk
    obtain ⟨k, hk, rfl, hrow, hb, hsz⟩ := hrel
    by_cases hlt : k < 32
    · obtain ⟨rk, rf⟩ := hrow k hlt
      rw [Nat.zero_add] at rk rf
      have hc := (hb.cell (p := ⟨g, k / 8, none⟩) hg).trans (hX (k / 8) (by omega))
      have rk0 : wr.cell? ⟨w.heap.size, k, none⟩ = some (.int .u8 0) := by simpa using rk
      clear rk hX
      go_wp2
      go_roundw
      case rel =>
        have h1 := hrow.set (i := k) hlt (v := (lw N (k / 8) : Int) / 2 ^ (k % 8 * 8) % 256) (u := byt N k) (word_byte_int N k)
        rw [Nat.zero_add] at h1
        refine ⟨k + 1, by omega, by go_num, h1.congr (fun j hj => ?_), hb.setCell (Nat.le_refl _) _, by simpa using hsz⟩
        unfold upd
        by_cases e : j = k
        · rw [if_pos e, if_pos (by omega), e]
        · rw [if_neg e]
          show (if j < k then byt N j else 0) = _
          by_cases e2 : j < k
          · rw [if_pos e2, if_pos (by omega)]
          · rw [if_neg e2, if_neg (by omega)]
      case measure => simp [intOf]; omega
    · clear hX
      go_wp2
      go_ret
      exact ⟨w.heap.size, rfl, Nat.le_refl _, hsz, hrow.congr (fun j hj => by rw [if_pos (by omega)]), hb⟩
end Go.Proofs.YtmehhjogddpkgaaDoor
