/- What the methods sum and difference of a ratio do in the model. -/
import Derived.Test.YtibdhadbflfdpaaGreatDoorD1RBM
import Derived.Test.YtibdhadbflfdpaaGreatDoorL5AM
import Derived.Test.YtibdhadbflfdpaaGreatDoorPNumM
namespace Go.Proofs.YtibdhadbflfdpaaGreatDoor
open Go.RowKit
theorem behind2 {w w1:World} {A:Obj} {a b c d:Value} {t:TypeId} (h:Below ((w.alloc A).alloc (.cells #[a,b,c,d] t)).heap.size ((w.alloc A).alloc (.cells #[a,b,c,d] t)) w1):w1.there (w.heap.size+1) 0 4∧Below w.heap.size w w1 ∧
 (w1.cell? ⟨w.heap.size+1,0,none⟩=some a∧w1.cell? ⟨w.heap.size+1,1,none⟩=some b∧w1.cell? ⟨w.heap.size+1,2,none⟩=some c∧w1.cell? ⟨w.heap.size+1,3,none⟩=some d)∧∀ j,j<4→w1.frozen? ⟨w.heap.size+1,j,none⟩=false:=by
 have hs:(w.alloc A).heap.size=w.heap.size+1:=by simp
 have:=behind' h
 rw [hs] at this
 obtain ⟨h1,h2,h3,h4⟩:=this
 exact ⟨h1,((Below.refl w.heap.size w).alloc (Nat.le_refl _) A).trans (h2.mono (by omega)),h3,h4⟩
set_option maxRecDepth 20000 in
set_option maxHeartbeats 2000000 in
theorem rsum_any (x z n:Nat) (hs:∀ W,Calls Tryz.prog 175 #[numV x,numV z] W fun e w'=>e = .returned (numV n)∧Below W.heap.size W w') (w:World) :
 Calls Tryz.prog 286 #[ratV x z] w fun e w'=>e = .returned (numV n)∧Below w.heap.size w w':=by
 obtain ⟨z0,z1,z2,z3,hz⟩:=numV_ex n
 rw [hz] at hs ⊢
 unfold numV at hs
 unfold ratV c8 c4
 clear hz
 go_enter Tryz.func286,Tryz.ntmps286
 go_wp2_with (go_at_call 175;refine (hs _).mono ?_;clear hs;rintro e w1 ⟨rfl,hb1⟩;(obtain ⟨ht1,hbw,⟨t0,t1,t2,t3⟩,hf⟩:=behind2 hb1);(have f0:=hf 0 (by decide));(have f1:=hf 1 (by decide));(have f2:=hf 2 (by decide));(have f3:=hf 3 (by decide));clear hb1 hf)
 (try simp only [Exit.inBlock,Exit.then])
 exact bodyPost_ret (results_set4 Tryz.results286 _ _ _ _ _ _ _ ht1 rfl Tryz.underlying75 rfl (by kernel_rfl)) rfl ⟨rfl,below_set4 hbw (by omega) _ _ _ _⟩
set_option maxRecDepth 20000 in
set_option maxHeartbeats 2000000 in
theorem rdiff_any (x z n:Nat) (hs:∀ W,Calls Tryz.prog 112 #[numV x,numV z] W fun e w'=>e = .returned (numV n)∧Below W.heap.size W w') (w:World) :
 Calls Tryz.prog 287 #[ratV x z] w fun e w'=>e = .returned (numV n)∧Below w.heap.size w w':=by
 obtain ⟨z0,z1,z2,z3,hz⟩:=numV_ex n
 rw [hz] at hs ⊢
 unfold numV at hs
 unfold ratV c8 c4
 clear hz
 go_enter Tryz.func287,Tryz.ntmps287
 go_wp2_with (go_at_call 112;refine (hs _).mono ?_;clear hs;rintro e w1 ⟨rfl,hb1⟩;(obtain ⟨ht1,hbw,⟨t0,t1,t2,t3⟩,hf⟩:=behind2 hb1);(have f0:=hf 0 (by decide));(have f1:=hf 1 (by decide));(have f2:=hf 2 (by decide));(have f3:=hf 3 (by decide));clear hb1 hf)
 (try simp only [Exit.inBlock,Exit.then])
 exact bodyPost_ret (results_set4 Tryz.results287 _ _ _ _ _ _ _ ht1 rfl Tryz.underlying75 rfl (by kernel_rfl)) rfl ⟨rfl,below_set4 hbw (by omega) _ _ _ _⟩
end Go.Proofs.YtibdhadbflfdpaaGreatDoor
