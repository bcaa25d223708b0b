/- The law LadderCommutes. -/
import Derived.Test.YtjbjbnooocbleaaLIgnores
import Derived.Test.YtjbjbnooocbleaaEdE
namespace Go.Proofs.Ytjbjbnooocbleaa
open Go.RowKit
set_option maxRecDepth 20000 in
set_option maxHeartbeats 8000000 in
theorem ladderCommutes_any (v u t : Value) (n m l : Nat) (bs cs ds : Nat → Nat) (hbs : ∀ j, bs j < 256) (hcs : ∀ j, cs j < 256) (hds : ∀ j, ds j < 256) (w : World) (hv : BytesIn w v n bs) (hu : BytesIn w u m cs) (ht : BytesIn w t l ds) : Calls Try.prog 7 #[v, u, t] w fun e w' => e = .returned (.bool true) ∧ Below w.heap.size w w' := by
  have hF1 := fit_any v n bs w hv
  have hF2 := fun W hb => fit_any u m cs W (hu.still hb)
  have hF3 := fun W hb => fit_any t l ds W (ht.still hb)
  have hK := fun W => knows_any W
  have hal := fitB_lt (n := n) hbs
  have hbl := fitB_lt (n := m) hcs
  have hul := fitB_lt (n := l) hds
  generalize fitB n bs = aa at *
  generalize fitB m cs = bb at *
  generalize fitB l ds = uu at *
  obtain ⟨N, hN⟩ : ∃ N, N = ofB (loB uu) 32 % pF := ⟨_, rfl⟩
  have hNl : N < pF := by rw [hN]; exact Nat.mod_lt _ (by decide)
  have cM : ∀ a b W X Y M, (∀ j, X j < 256) → (∀ j, Y j < 256) → BytesIn W a 32 X → BytesIn W b 32 Y → mulL (clB X) (ofB (loB Y) 32 % pF) = M → Calls Try.prog 14 #[a, b] W fun e w' => ∃ s, e = .returned (.tuple #[s, .int .i64 0]) ∧ NewB W w' s 32 (byt M) ∧ Below W.heap.size W w' := fun a b W X Y M hX hY h1 h2 hm => by
    have := lmul_good a b X Y hX hY W h1 h2
    rwa [hm] at this
  obtain ⟨A, hA⟩ : ∃ A, mulL (clB aa) N = A := ⟨_, rfl⟩
  obtain ⟨B, hB⟩ : ∃ B, mulL (clB bb) N = B := ⟨_, rfl⟩
  obtain ⟨C, hC⟩ : ∃ C, mulL (clB bb) A = C := ⟨_, rfl⟩
  have hC2 : mulL (clB aa) B = C := by rw [← hC, ← hA, ← hB, mulL_comm _ _ N hNl]
  have m1 : mulL (clB aa) (ofB (loB uu) 32 % pF) = A := by rw [← hN, hA]
  have m2 : mulL (clB bb) (ofB (loB uu) 32 % pF) = B := by rw [← hN, hB]
  have m3 : mulL (clB bb) (ofB (loB (byt A)) 32 % pF) = C := by rw [loB_byt (by rw [← hA]; exact mulL_less _ _), hC]
  have m4 : mulL (clB aa) (ofB (loB (byt B)) 32 % pF) = C := by rw [loB_byt (by rw [← hB]; exact mulL_less _ _), hC2]
  clear hN hA hB hC hC2 hNl
  obtain ⟨xv, cv, rfl, -, -, -⟩ := hv.src
  obtain ⟨xu, cu, rfl, -, -, -⟩ := hu.src
  obtain ⟨xt, ct, rfl, -, -, -⟩ := ht.src
  go_enter Try.func7, Try.ntmps7
  go_wp2_with (first
    | (go_at_call 20; refine hF1.mono ?_; clear hF1; rintro e w1 ⟨s1, rfl, ⟨ga, rfl, hga, ra⟩, hb1⟩)
    | (go_at_call 20; refine (hF2 _ hb1).mono ?_; clear hF2; rintro e w2 ⟨s2, rfl, ⟨gb, rfl, hgb, rb⟩, hb2⟩; (replace ra := ra.below hb2 (block_lt_of_cell (ra 0 (by decide)).1)); (have hbw2 := below_next hb1 hb2); clear hb1 hb2)
    | (go_at_call 20; refine (hF3 _ hbw2).mono ?_; clear hF3; rintro e w3 ⟨s3, rfl, ⟨gu, rfl, hgu, ru⟩, hb3⟩; (replace ra := ra.below hb3 (block_lt_of_cell (ra 0 (by decide)).1)); (replace rb := rb.below hb3 (block_lt_of_cell (rb 0 (by decide)).1)); (have hbw3 := below_next hbw2 hb3); clear hbw2 hb3; (have c1 := cM _ _ w3 aa uu A hal hul (NewB.src ra (Eq.refl w3)) (NewB.src ru (Eq.refl w3)) m1))
    | (go_at_call 14; refine c1.mono ?_; clear c1; rintro e w4 ⟨s4, rfl, ⟨gA, rfl, hgA, rA⟩, hb4⟩; (replace ra := ra.below hb4 (block_lt_of_cell (ra 0 (by decide)).1)); (replace rb := rb.below hb4 (block_lt_of_cell (rb 0 (by decide)).1)); (replace ru := ru.below hb4 (block_lt_of_cell (ru 0 (by decide)).1)); (have hbw4 := below_next hbw3 hb4); clear hbw3 hb4; (have c2 := cM _ _ w4 bb uu B hbl hul (NewB.src rb (Eq.refl w4)) (NewB.src ru (Eq.refl w4)) m2))
    | (go_at_call 14; refine c2.mono ?_; clear c2; rintro e w5 ⟨s5, rfl, ⟨gB, rfl, hgB, rB⟩, hb5⟩; (replace ra := ra.below hb5 (block_lt_of_cell (ra 0 (by decide)).1)); (replace rb := rb.below hb5 (block_lt_of_cell (rb 0 (by decide)).1)); (replace rA := rA.below hb5 (block_lt_of_cell (rA 0 (by decide)).1)); (have hbw5 := below_next hbw4 hb5); clear hbw4 hb5; (have c3 := cM _ _ w5 bb (byt A) C hbl (byt_all A) (NewB.src rb (Eq.refl w5)) (NewB.src rA (Eq.refl w5)) m3))
    | (go_at_call 14; refine c3.mono ?_; clear c3; rintro e w6 ⟨s6, rfl, hs6, hb6⟩; (replace ra := ra.below hb6 (block_lt_of_cell (ra 0 (by decide)).1)); (replace rB := rB.below hb6 (block_lt_of_cell (rB 0 (by decide)).1)); (have hbw6 := below_next hbw5 hb6); clear hbw5 hb6; (have sA := Str.of (hs6.bytes (by decide)) (byt_all C)); (obtain ⟨g6, rfl, -, -⟩ := hs6); (have c4 := cM _ _ w6 aa (byt B) C hal (byt_all B) (NewB.src ra (Eq.refl w6)) (NewB.src rB (Eq.refl w6)) m4); clear cM)
    | (go_at_call 14; refine c4.mono ?_; clear c4; rintro e w7 ⟨s7, rfl, hs7, hb7⟩; (replace sA := sA.still hb7); (have hbw7 := below_next hbw6 hb7); clear hbw6 hb7; (have sB := Str.of (hs7.bytes (by decide)) (byt_all C)); (obtain ⟨g7, rfl, -, -⟩ := hs7); (have qA := sA.conv w7 (Below.refl _ _)); (have qB := sB.conv w7 (Below.refl _ _)); clear sA sB)
    | (go_at_call 11; refine (num5_any _ _).mono ?_; rintro e wn ⟨rfl, hwn⟩; subst hwn)
    | (go_at_call 13; refine (hK _).mono ?_; clear hK; rintro e w10 ⟨rfl, hb10⟩))
  go_ret
  exact ⟨rfl, below_next hbw7 hb10⟩
end Go.Proofs.Ytjbjbnooocbleaa
