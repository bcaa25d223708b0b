/- What Expand of the reference of layer 2 does in the model. -/
import Derived.Test.YtlfofbkanifocaaDoorRefHmac
import Derived.Test.YtlfofbkanifocaaDoorExpand
namespace Go.Proofs.YtlfofbkanifocaaDoor
open Go.RowKit
theorem sliceTo (W : World) (g n cap m : Nat) (h : m ≤ cap) : (Instr.sliceAt 22 (.slice (some ⟨g, 0, none⟩) n cap) none (some (.int .i64 m)) none).run Tryd.prog W = .ok (.slice (some ⟨g, 0, none⟩) m cap) W := by
  have h1 : Tryd.prog.underlying 22 = some (.slice (Tryd.prog.elem 22)) := by kernel_rfl
  have h2 : Tryd.prog.elem 22 = 5 := by kernel_rfl
  have h3 : ((sizeOf 5).run Tryd.prog W) = .ok 1 W := by kernel_rfl
  rw [run_sliceAt_slice W 22 _ _ _ _ h1, run_slice_h W 22 _ n cap h1 .i64 m (by omega) (by omega), h2, h3]
  simp [sliced, Addr.add_mid, Option.map]
theorem sliceToNil (W : World) : (Instr.sliceAt 22 (.slice none 0 0) none (some (.int .i64 0)) none).run Tryd.prog W = .ok (.slice none 0 0) W := by kernel_rfl
/-- All that is told, byte by byte. -/
def allE (kv : Nat → Nat) (m : Nat) (info : Nat → Nat) : Nat → Nat := fun q => tE kv m info (q / 32 + 1) (q % 32)
set_option maxRecDepth 20000 in
set_option maxHeartbeats 2000000 in
theorem rExpand_any (v1 v2 : Value) (n1 n2 : Nat) (ks info : Nat → Nat) (hks : ∀ j, ks j < 256) (hinfo : ∀ j, info j < 256) (hn1 : n1 < 140737488355000) (hn2 : n2 + 97 < 140737488355000) (w : World) (hk : BytesIn w v1 n1 ks) (hi : BytesIn w v2 n2 info) (N : Nat) (hN : N ≤ 8160) :
    Calls Tryd.prog 30 #[v1, v2, .int .i64 N] w fun e w' => ∃ v', e = .returned (.tuple #[v', .int .i64 0]) ∧ BytesIn w' v' N (outF (keyB n1 ks) n2 info N) ∧ Below w.heap.size w w' := by
  obtain ⟨xi, ci, rfl, hxi, -, hsi⟩ := hi.src
  have hh := fun W tv m t (ht : ∀ j, t j < 256) (hm : m + 64 < 140737488355000) (h : Below w.heap.size w W) (htv : BytesIn W tv m t) => rHmac_any v1 tv n1 m ks t hks ht hn1 hm W (hk.keep h) htv
  obtain ⟨kv, hkv⟩ : ∃ kv, kv = keyB n1 ks := ⟨_, rfl⟩
  rw [← hkv] at hh ⊢
  have hlo : ¬((N : Int) < 0) := by omega
  have hhi : ¬(8160 < (N : Int)) := by omega
  clear hk hi hkv
  go_enter Tryd.func30, Tryd.ntmps30
  go_wp2
  go_loopw [8, 9, 10] (fun o t i wr => ∃ k tl A : Nat, Hid (A = 32 * k) ∧ Hid (tl = if k = 0 then 0 else 32) ∧ A < N + 32 ∧ i = .int .i64 ((k : Int) + 1) ∧ (∃ xo co, o = .slice xo A co ∧ Own w.heap.size wr (.slice xo A co) A (allE kv n2 info)) ∧ (∃ xt ct, t = .slice xt tl ct ∧ BytesIn wr (.slice xt tl ct) tl (tE kv n2 info k)) ∧ Below w.heap.size w wr) (fun o _ _ _ => N + 32 - lenV o)
  case atStart => exact ⟨0, 0, 0, (rfl : 0 = 32 * 0), (rfl : 0 = if 0 = 0 then 0 else 32), by omega, by go_num, ⟨none, 0, rfl, Own.nil _ _ _⟩, ⟨none, 0, rfl, .inl ⟨none, rfl, rfl⟩⟩, Below.refl _ _⟩
  case round =>
    obtain ⟨k, tl, A, HA, Htl, hA, rfl, ⟨xo, co, rfl, own⟩, ⟨xt, ct, rfl, hbt⟩, hb⟩ := hrel
    have htl : tl ≤ 32 := by rw [Htl.out]; split <;> omega
    by_cases hlt : A < N
    · have hk255 : k + 1 < 256 := by have := HA.out; omega
      obtain ⟨F, hF⟩ : ∃ F, F = cat tl (tE kv n2 info k) (cat n2 info (fun _ => k + 1)) := ⟨_, rfl⟩
      have hFl : ∀ j, F j < 256 := by rw [hF]; exact cat_lt (tE_lt _ _ _ _) (cat_lt hinfo (fun _ => hk255))
      have hFc : ∀ j, j < tl + n2 → cat tl (tE kv n2 info k) info j = F j := fun j hj => by
        rw [hF]; unfold cat
        by_cases e : j < tl
        · rw [if_pos e, if_pos e]
        · rw [if_neg e, if_neg e, if_pos (by omega)]
      have HY : Hid (F (tl + n2) = k + 1) := (by rw [hF, cat_right]; unfold cat; simp : F (tl + n2) = k + 1)
      have hT : tagH kv (tl + n2 + 1) F = tE kv n2 info (k + 1) := by rw [hF, Htl.out]; rfl
      have hh' : ∀ W v', Below w.heap.size w W → BytesIn W v' (tl + n2 + 1) F → Calls Tryd.prog 25 #[v1, v'] W fun e w' => ∃ v', e = .returned v' ∧ Own W.heap.size w' v' 32 (tE kv n2 info (k + 1)) ∧ Below W.heap.size W w' := fun W v' hW hv' => by
        have := hh W v' _ F hFl (by omega) hW hv'
        rw [hT] at this
        exact this
      obtain ⟨xt', ct', hte, hxt, -, hst⟩ := hbt.src
      cases hte
      have hst' := hst _ ((Below.refl wr.heap.size wr).alloc (Nat.le_refl _) (.cells #[] 5))
      have hAi : (A : Int) < N := by omega
      obtain ⟨Tk, hTk⟩ : ∃ Tk, Tk = tE kv n2 info k := ⟨_, rfl⟩
      rw [← hTk] at hst' hFc
      have hwb : ((k : Int) + 1) % 256 = (k : Int) + 1 := by omega
      clear hF hT hh hbt hst hTk
      go_wp2_with (first
        | (at_builtin; refine wpList_append_empty rfl (.tmp 24) (.tmp 25) rfl wr.heap.size Tk wr.heap.size rfl rfl xt tl ct rfl hst' hxt (by omega) (Nat.le_refl _) ?_; intro v3 w3 own3 hb3)
        | (at_builtin; refine wpList_append_bytes rfl (.tmp 26) (.tmp 27) rfl wr.heap.size _ tl _ rfl own3 xi n2 ci info rfl (hsi _ (hb.trans (hb3.mono hb.size))) hxi (by omega) hb3.size ?_; intro v4 w4 own4 hg4; have hb4 := Own.grown hb3 hg4 own3 (Nat.le_refl _) hb3.size; have own4' := own4.congr hFc; clear own3 own4)
        | (at_builtin; refine wpList_append_next rfl (.tmp 28) (.tmp 31) rfl wr.heap.size _ (tl + n2) F _ rfl own4' rfl (by rw [HY.out]; simp; try omega) (by omega) hb4.size ?_; intro v5 w5 own5 hb5; have hb5' := hb4.trans hb5; have hw5 := hb.trans (hb5'.mono hb.size); have hh5 := hh' w5 v5 hw5 own5.bytesIn)
        | (go_at_call 25; refine hh5.mono ?_; clear hh5 hh'; rintro e w6 ⟨v6, rfl, own6, hb6⟩; (obtain ⟨g6, c6, hv6, hg6, hgl6, hc6, hr6⟩ : ∃ g cap, v6 = .slice (some ⟨g, 0, none⟩) 32 cap ∧ w5.heap.size ≤ g ∧ g < w6.heap.size ∧ 32 ≤ cap ∧ RowAt .u8 w6 g 0 32 (tE kv n2 info (k + 1)) := own6.form.resolve_left (fun h => by omega)); subst hv6; have hb6' := hb5'.trans (hb6.mono hb5'.size); have own' := own.below hb6'; have hw6 := hb.trans (hb6'.mono hb.size))
        | (at_builtin; refine wpList_append_bytes rfl (.tmp 34) (.tmp 35) rfl w.heap.size _ A _ rfl own' (some ⟨g6, 0, none⟩) 32 c6 (tE kv n2 info (k + 1)) rfl (.inr ⟨g6, 0, rfl, fun j hj => (hr6 j hj).1⟩) (fun h => by cases h) (by omega) hw6.size ?_; intro v7 w7 own7 hg7; have hb7 := Own.grown hw6 hg7 own' (Nat.le_refl _) hw6.size))
      have hne : some g6 ≠ (Value.slice xo A co).ownBlock := fun h => by
        have h1 := (World.ownsRow.lt own g6 h.symm).2
        have h2 := hb5'.size
        omega
      have hbt7 : BytesIn w7 (.slice (some ⟨g6, 0, none⟩) 32 c6) 32 (tE kv n2 info (k + 1)) := .inr ⟨g6, 0, c6, rfl, Nat.lt_of_lt_of_le hgl6 hg7.size, hc6, fun j hj => hg7.cell (hr6 j hj).1 hne⟩
      have own8 : Own w.heap.size w7 v7 (A + 32) (allE kv n2 info) := own7.congr (fun q hq => by
        unfold cat
        by_cases e : q < A
        · rw [if_pos e]
        · rw [if_neg e]
          unfold allE
          have := HA.out
          rw [show q / 32 = k by omega, show q % 32 = q - A by omega])
      obtain ⟨x7, c7, hv7⟩ : ∃ x c, v7 = .slice x (A + 32) c := by
        rcases own8.form with ⟨_, h0⟩ | ⟨g, c, h, _⟩
        · omega
        · exact ⟨_, c, h⟩
      subst hv7
      clear own own' own7 own5 own4' hr6 own6
      go_wp2
      go_roundw
      case rel =>
        exact ⟨k + 1, 32, A + 32, (by have := HA.out; omega : A + 32 = 32 * (k + 1)), (by rw [if_neg (Nat.succ_ne_zero k)] : 32 = if k + 1 = 0 then 0 else 32), by omega, by go_num, ⟨x7, c7, rfl, own8⟩, ⟨_, c6, rfl, hbt7⟩, hb7⟩
      case measure => show N + 32 - (A + 32) < N + 32 - A; omega
    · have hNA : N ≤ A := by omega
      have hAi : ¬((A : Int) < N) := by omega
      have hcg : ∀ j, j < N → allE kv n2 info j = outF kv n2 info N j := fun j hj => by unfold allE outF; rw [if_pos hj]
      rcases own.form with ⟨hv, h0⟩ | ⟨g, c, hv, _, hgl, hcap, hr⟩
      · cases hv
        have hN0 : N = 0 := by omega
        subst hN0
        have hsl := fun W => sliceToNil W
        clear own hh hbt hcg hsi
        go_wp2
        go_ret2
        exact ⟨_, rfl, .inl ⟨none, rfl, rfl⟩, hb⟩
      · injection hv with hx1 _ hx2
        subst hx1; subst hx2
        have hsl := fun W => sliceTo W g A co N (by omega)
        have hNc : (N : Int) ≤ co := by omega
        have hbf : BytesIn wr (.slice (some ⟨g, 0, none⟩) N co) N (outF kv n2 info N) := .inr ⟨g, 0, co, rfl, hgl, by omega, fun j hj => by rw [(hr j (by omega)).1, hcg j hj]⟩
        clear own hh hbt hr hcg hsi
        go_wp2
        go_ret2
        exact ⟨_, rfl, hbf, hb⟩
theorem rExpand_err (v1 v2 : Value) (N : Int) (hN : N < 0 ∨ 8160 < N) (w : World) :
    Calls Tryd.prog 30 #[v1, v2, .int .i64 N] w fun e w' => e = .returned (.tuple #[.slice none 0 0, .int .i64 6]) ∧ Below w.heap.size w w' := by
  go_enter Tryd.func30, Tryd.ntmps30
  rcases hN with hN | hN
  · go_wp2
    go_ret2
    exact ⟨rfl, Below.refl _ _⟩
  · have h2 : ¬(N < 0) := by omega
    go_wp2
    go_ret2
    exact ⟨rfl, Below.refl _ _⟩
end Go.Proofs.YtlfofbkanifocaaDoor
