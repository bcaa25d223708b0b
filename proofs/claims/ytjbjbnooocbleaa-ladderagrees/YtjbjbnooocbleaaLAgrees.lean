/- The law LadderAgrees. -/
import Derived.Test.YtjbjbnooocbleaaLIgnores
import Derived.Test.YtjbjbnooocbleaaEdF
namespace Go.Proofs.Ytjbjbnooocbleaa
open Go.RowKit
set_option maxRecDepth 20000 in
set_option maxHeartbeats 8000000 in
theorem ladderAgrees_any (v u : Value) (n m : Nat) (bs cs : Nat → Nat) (hbs : ∀ j, bs j < 256) (hcs : ∀ j, cs j < 256) (w : World) (hv : BytesIn w v n bs) (hu : BytesIn w u m cs) : Calls Try.prog 5 #[v, u] w fun e w' => e = .returned (.bool true) ∧ Below w.heap.size w w' := by
  have hF1 := fit_any v n bs w hv
  have hF2 := fun W hb => fit_any u m cs W (hu.still hb)
  have hK := fun W => knows_any W
  have hal := fitB_lt (n := n) hbs
  have hbl := fitB_lt (n := m) hcs
  generalize fitB n bs = aa at *
  generalize fitB m cs = bb at *
  have hag := agreed aa bb
  obtain ⟨A, hA⟩ : ∃ A, mulL (clB aa) 9 = A := ⟨_, rfl⟩
  obtain ⟨B, hB⟩ : ∃ B, mulL (clB bb) 9 = B := ⟨_, rfl⟩
  rw [hA, hB] at hag
  obtain ⟨C, hC⟩ : ∃ C, mulL (clB aa) B = C := ⟨_, rfl⟩
  rw [hC] at hag
  have hAl : A < pF := by rw [← hA]; exact mulL_less _ _
  have hBl : B < pF := by rw [← hB]; exact mulL_less _ _
  have hCl : C < pF := by rw [← hC]; exact mulL_less _ _
  have cP : ∀ a W X M, (∀ j, X j < 256) → BytesIn W a 32 X → mulL (clB X) 9 = M → Calls Try.prog 16 #[a] W fun e w' => ∃ s, e = .returned (.tuple #[s, .int .i64 0]) ∧ NewB W w' s 32 (byt M) ∧ Below W.heap.size W w' := fun a W X M hX h1 hm => by
    have := public_good a X hX W h1
    rwa [hm] at this
  have cS : ∀ a b W X Y, (∀ j, X j < 256) → Y < pF → BytesIn W a 32 X → BytesIn W b 32 (byt Y) → mulL (clB X) Y = C → Calls Try.prog 18 #[a, b] W fun e w' => ∃ s, e = .returned (.tuple #[s, .int .i64 0]) ∧ NewB W w' s 32 (byt C) ∧ Below W.heap.size W w' := fun a b W X Y hX hY h1 h2 hm => by
    refine shared_some a b C hag.1 hCl W ?_
    have := lmul_good a b X (byt Y) hX (byt_all Y) W h1 h2
    rwa [loB_byt hY, hm] at this
  have hC2 := hag.2
  clear hag hCl
  obtain ⟨xv, cv, rfl, -, -, -⟩ := hv.src
  obtain ⟨xu, cu, rfl, -, -, -⟩ := hu.src
  go_enter Try.func5, Try.ntmps5
  go_wp2_with (first
    | (go_at_call 20; refine hF1.mono ?_; clear hF1; rintro e w1 ⟨s1, rfl, ⟨ga, rfl, hga, ra⟩, hb1⟩)
    | (go_at_call 20; refine (hF2 _ hb1).mono ?_; clear hF2; rintro e w2 ⟨s2, rfl, ⟨gb, rfl, hgb, rb⟩, hb2⟩; (replace ra := ra.below hb2 (block_lt_of_cell (ra 0 (by decide)).1)); (have hbw2 := below_next hb1 hb2); clear hb1 hb2; (have c1 := cP _ w2 aa A hal (NewB.src ra (Eq.refl w2)) hA))
    | (go_at_call 16; refine c1.mono ?_; clear c1; rintro e w3 ⟨s3, rfl, ⟨gA, rfl, hgA, rA⟩, hb3⟩; (replace ra := ra.below hb3 (block_lt_of_cell (ra 0 (by decide)).1)); (replace rb := rb.below hb3 (block_lt_of_cell (rb 0 (by decide)).1)); (have hbw3 := below_next hbw2 hb3); clear hbw2 hb3; (have c2 := cP _ w3 bb B hbl (NewB.src rb (Eq.refl w3)) hB); clear cP)
    | (go_at_call 16; refine c2.mono ?_; clear c2; rintro e w4 ⟨s4, rfl, ⟨gB, rfl, hgB, rB⟩, hb4⟩; (replace ra := ra.below hb4 (block_lt_of_cell (ra 0 (by decide)).1)); (replace rb := rb.below hb4 (block_lt_of_cell (rb 0 (by decide)).1)); (replace rA := rA.below hb4 (block_lt_of_cell (rA 0 (by decide)).1)); (have hbw4 := below_next hbw3 hb4); clear hbw3 hb4; (have c3 := cS _ _ w4 aa B hal hBl (NewB.src ra (Eq.refl w4)) (NewB.src rB (Eq.refl w4)) hC))
    | (go_at_call 18; refine c3.mono ?_; clear c3; rintro e w5 ⟨s5, rfl, hs5, hb5⟩; (replace rb := rb.below hb5 (block_lt_of_cell (rb 0 (by decide)).1)); (replace rA := rA.below hb5 (block_lt_of_cell (rA 0 (by decide)).1)); (have hbw5 := below_next hbw4 hb5); clear hbw4 hb5; (have sA := Str.of (hs5.bytes (by decide)) (byt_all C)); (obtain ⟨g5, rfl, -, -⟩ := hs5); (have c4 := cS _ _ w5 bb A hbl hAl (NewB.src rb (Eq.refl w5)) (NewB.src rA (Eq.refl w5)) hC2); clear cS)
    | (go_at_call 18; refine c4.mono ?_; clear c4; rintro e w6 ⟨s6, rfl, hs6, hb6⟩; (replace sA := sA.still hb6); (have hbw6 := below_next hbw5 hb6); clear hbw5 hb6; (have sB := Str.of (hs6.bytes (by decide)) (byt_all C)); (obtain ⟨g6, rfl, -, -⟩ := hs6); (have qA := sA.conv w6 (Below.refl _ _)); (have qB := sB.conv w6 (Below.refl _ _)); clear sA sB)
    | (go_at_call 11; refine (num5_any _ _).mono ?_; rintro e wn ⟨rfl, hwn⟩; subst hwn)
    | (go_at_call 13; refine (hK _).mono ?_; clear hK; rintro e w10 ⟨rfl, hb10⟩))
  go_ret
  exact ⟨rfl, below_next hbw6 hb10⟩
end Go.Proofs.Ytjbjbnooocbleaa
