/- The reference of layer 4: what Reduce and Canonical do in the model. -/
import Derived.Test.YtmehhjogddpkgaaDoorRRest
import Derived.Test.YtmehhjogddpkgaaDoorSApi3
namespace Go.Proofs.YtmehhjogddpkgaaDoor
open Go.RowKit
set_option maxRecDepth 20000 in
set_option maxHeartbeats 4000000 in
theorem rreduce_at (xo : Option Addr) (n c : Nat) (bs : Nat → Nat) (hbs : ∀ j, bs j < 256) (hn : n ≤ 64) (w : World) (hc : ∀ W, Below w.heap.size w W → ∀ j, j < n → ∃ bb ob, xo = some ⟨bb, ob, none⟩ ∧ W.cell? ⟨bb, ob + j, none⟩ = some (.int .u8 (bs j))) :
    Calls Tryd.prog 10 #[.slice xo n c] w fun e w' => ∃ s, e = .returned (.tuple #[s, .int .i64 0]) ∧ BytesIn w' s 32 (byt (ofB bs n % oL)) ∧ Below w.heap.size w w' := by
  have cr := fun (W : World) v (hv : OwnI w.heap.size W v n bs) => rrest_own v n bs hbs (by omega) W hv
  obtain ⟨R, hR⟩ : ∃ R, R = ofB bs n % oL := ⟨_, rfl⟩
  rw [← hR] at cr ⊢
  have hni : ¬(64 : Int) < n := by omega
  clear hR
  go_enter Tryd.func10, Tryd.ntmps10
  go_wp2
  go_loopw [5, 4] (fun i d wr => ∃ k : Nat, k ≤ n ∧ i = .int .i64 k ∧ OwnI w.heap.size wr d k bs ∧ Below w.heap.size w wr) (fun i _ _ => n - (intOf i).toNat)
  case atStart => exact ⟨0, Nat.zero_le _, rfl, OwnI.nil _ _ _, Below.refl _ _⟩
  case round =>
    obtain ⟨k, hk, rfl, own, hb⟩ := hrel
    by_cases hlt : k < n
    · obtain ⟨bb, ob, rfl, rk⟩ := hc wr hb k hlt
      have hki : (k : Int) < n := by omega
      have hbk := hbs k
      have hs := hb.size
      clear hc cr
      go_wp2_with (at_builtin; refine wpList_append_nextI rfl (.tmp 15) (.tmp 21) rfl w.heap.size _ k bs _ rfl own rfl rfl (by omega) hs ?_; intro v' w' own' hb'; clear own)
      go_roundw
      case rel => exact ⟨k + 1, by omega, by go_num, own', hb.trans hb'⟩
      case measure => simp [intOf]; omega
    · have hke : k = n := by omega
      subst hke
      have hki : ¬(k : Int) < k := by omega
      replace cr := cr wr _ own
      clear hc own
      go_wp2_with (go_at_call 26; refine cr.mono ?_; clear cr; rintro e w1 ⟨s, rfl, hs, hb1⟩)
      go_ret2
      exact ⟨_, rfl, hs, below_next hb hb1⟩
theorem rreduce_good (v : Value) (n : Nat) (bs : Nat → Nat) (hbs : ∀ j, bs j < 256) (hn : n ≤ 64) (w : World) (hv : BytesIn w v n bs) :
    Calls Tryd.prog 10 #[v] w fun e w' => ∃ s, e = .returned (.tuple #[s, .int .i64 0]) ∧ BytesIn w' s 32 (byt (ofB bs n % oL)) ∧ Below w.heap.size w w' := by
  rcases hv with ⟨xo, rfl, rfl⟩ | ⟨bb, ob, cap, rfl, h1, h2, h3⟩
  · exact rreduce_at xo 0 0 bs hbs hn w (fun _ _ j hj => absurd hj (Nat.not_lt_zero j))
  · exact rreduce_at _ n cap bs hbs hn w (fun W hW j hj => ⟨bb, ob, rfl, (hW.cell (p := ⟨bb, ob + j, none⟩) h1).trans (h3 j hj)⟩)
theorem rreduce_bad (xv : Option Addr) (n kv : Nat) (hn : ¬n ≤ 64) (w : World) : Calls Tryd.prog 10 #[.slice xv n kv] w fun e w' => e = .returned (.tuple #[.slice none 0 0, .int .i64 1]) ∧ w' = w := by
  have hni : (64 : Int) < n := by omega
  go_enter Tryd.func10, Tryd.ntmps10
  go_wp2
  go_ret2
  exact ⟨rfl, rfl⟩
set_option maxRecDepth 20000 in
set_option maxHeartbeats 2000000 in
theorem rcanonical_good (v : Value) (bs : Nat → Nat) (hbs : ∀ j, bs j < 256) (w : World) (hv : BytesIn w v 32 bs) :
    Calls Tryd.prog 13 #[v] w fun e w' => e = .returned (.bool (canonB bs)) ∧ Below w.heap.size w w' := by
  have cr := rreduce_good v 32 bs hbs (by decide) w hv
  have hcs := canon_str hbs
  have sv := Str.of hv hbs
  obtain ⟨xv, kv, rfl, -⟩ := hv.src
  obtain ⟨R, hR⟩ : ∃ R, R = ofB bs 32 % oL := ⟨_, rfl⟩
  rw [← hR] at cr hcs
  obtain ⟨b, hb⟩ : ∃ b, b = canonB bs := ⟨_, rfl⟩
  rw [← hb] at hcs ⊢
  obtain ⟨SA, hSA⟩ : ∃ S, S = strB 32 bs := ⟨_, rfl⟩
  rw [← hSA] at sv hcs
  clear hv hR hb hSA hbs
  go_enter Tryd.func13, Tryd.ntmps13
  go_wp2_with (go_at_call 10; refine cr.mono ?_; clear cr; rintro e w1 ⟨s, rfl, hs, hb1⟩; (have q1 := (Str.of hs (byt_all R)).conv w1 (Below.refl _ _)); (have q2 := sv.conv w1 hb1); (obtain ⟨x1, k1, rfl, -⟩ := hs.src))
  go_ret
  exact ⟨rfl, hb1⟩
theorem rcanonical_bad (xv : Option Addr) (n kv : Nat) (hn : ¬n = 32) (w : World) : Calls Tryd.prog 13 #[.slice xv n kv] w fun e w' => e = .returned (.bool false) ∧ w' = w := by
  have hni : ¬(n : Int) = 32 := by omega
  clear hn
  go_enter Tryd.func13, Tryd.ntmps13
  go_wp2
  go_ret
  exact ⟨rfl, rfl⟩
end Go.Proofs.YtmehhjogddpkgaaDoor
