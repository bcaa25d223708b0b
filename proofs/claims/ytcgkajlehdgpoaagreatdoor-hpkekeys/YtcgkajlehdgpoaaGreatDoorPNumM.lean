/- What the proof stands on: PNum, LRat. -/
import Derived.Test.YtcgkajlehdgpoaaGreatDoorHRefHmacM
import Derived.Test.YtcgkajlehdgpoaaGreatDoorRefPowM
import Derived.Laws.StructEq
namespace Go.Proofs.YtcgkajlehdgpoaaGreatDoor
open Go.RowKit
theorem fresh4' (w:World):RW (w.alloc (.cells #[.int .u64 0,.int .u64 0,.int .u64 0,.int .u64 0] 88)) w.heap.size 0 (c4 0):=by
 rw [c4_zero];exact RW.fresh w _ _
theorem num_store {o:Oper} {a:Act} {cur V:World} {K:Act→World→Prop} {Q:Exit→Act→World→Prop} (x y:Operand) (ho:o.op = .store 88 x y) (g m n:Nat) (hx:a.eval x = .pointer (some ⟨g,0,none⟩)) (hy:a.eval y=numV n) (r:RW cur g 0 (c4 m)) (S:Below V.heap.size V cur) (G:V.heap.size≤g)
 (h:∀ W1,RW W1 g 0 (c4 n)→Below V.heap.size V W1→(∀ b p cs,b≠g→RW cur b p cs→RW W1 b p cs)→K (a.put o.dst undef) W1):o.wp Tryz.prog a cur K Q :=
 wp_store_mid 88 x y ho g 0 (c4 n).toArray hx hy r.there info4 (one4 n) (h _ (r.stored (c4 n) rfl) (below_setCells G _ _ _ S) (fun _ _ _ hne hr=>hr.far g 0 (c4 n) (.inl hne)))
section
variable {md:Region.Mode} {ops:Array Oper} {Q:Exit→Act→World→Prop} {fuel:Nat} {listed:Array Bool} {a:Act} {w V:World}
theorem ldN {o:Oper} {g off n:Nat} (h:RW V g off (c4 n)) (k:Nat) (hw:Region.wanted o (yielded ops a.tmps)=true:=by rfl) (ho:o.op = .load 88 (.tmp k):=by rfl) (hx:a.eval (.tmp k) = .pointer (some ⟨g,off,none⟩):=by rfl):YieldsIf Tryz.prog ops (fun w'=>Below V.heap.size V w') o (numV n) a :=
 ldH h 88 k Tryz.underlying88 info4 rfl hw ho hx
end
theorem fresh4t (w:World) (n:Nat):(w.alloc (.cells #[.int .u64 0,.int .u64 0,.int .u64 0,.int .u64 0] 88)).there w.heap.size 0 (c4 n).toArray.size:=(fresh4' w).there
theorem info4a (n:Nat):(Tryz.prog.info? 88).map (·.size)=some (c4 n).toArray.size:=info4
theorem yields_build2 {P:Program} {ops:Array Oper} {S:World→Prop} {o:Oper} {a:Act} (hw:Region.wanted o (yielded ops a.tmps)=true) (t:TypeId) (i j:Nat) (x y:Operand) (ho:o.op = .build t #[(i,x),(j,y)]) (u v:Value) (hx:a.eval x=u) (hy:a.eval y=v) (cells:Array Value)
 (hf:P.built t [(i,u),(j,v)]=some cells):YieldsIf P ops S o (.agg cells) a:=by
 refine .inl ⟨hw,fun w _ => ?_⟩
 unfold execOp
 simp only [ho,List.map_toArray,List.map_cons,List.map_nil,hx,hy]
 rw [Sem.run_bind,run_build w t _ cells hf]
 rfl
end Go.Proofs.YtcgkajlehdgpoaaGreatDoor
namespace Go.Proofs.YtcgkajlehdgpoaaGreatDoor
open Go.RowKit
theorem behind2 {w w1:World} {A:Obj} {a b c d:Value} {t:TypeId} (h:Below ((w.alloc A).alloc (.cells #[a,b,c,d] t)).heap.size ((w.alloc A).alloc (.cells #[a,b,c,d] t)) w1):w1.there (w.heap.size+1) 0 4∧Below w.heap.size w w1 ∧
 (w1.cell? ⟨w.heap.size+1,0,none⟩=some a∧w1.cell? ⟨w.heap.size+1,1,none⟩=some b∧w1.cell? ⟨w.heap.size+1,2,none⟩=some c∧w1.cell? ⟨w.heap.size+1,3,none⟩=some d)∧∀ j,j<4→w1.frozen? ⟨w.heap.size+1,j,none⟩=false:=by
 have hs:(w.alloc A).heap.size=w.heap.size+1:=by simp
 have:=behind' h
 rw [hs] at this
 obtain ⟨h1,h2,h3,h4⟩:=this
 exact ⟨h1,((Below.refl w.heap.size w).alloc (Nat.le_refl _) A).trans (h2.mono (by omega)),h3,h4⟩
set_option maxRecDepth 20000 in
set_option maxHeartbeats 2000000 in
theorem rsum_any (x z n:Nat) (hs:∀ W,Calls Tryz.prog 154 #[numV x,numV z] W fun e w'=>e = .returned (numV n)∧Below W.heap.size W w') (w:World) :
 Calls Tryz.prog 152 #[ratV x z] w fun e w'=>e = .returned (numV n)∧Below w.heap.size w w':=by
 obtain ⟨z0,z1,z2,z3,hz⟩:=numV_ex n
 rw [hz] at hs ⊢
 unfold numV at hs
 unfold ratV c8 c4
 clear hz
 go_enter Tryz.func152,Tryz.ntmps152
 go_wp2_with (go_at_call 154;refine (hs _).mono ?_;clear hs;rintro e w1 ⟨rfl,hb1⟩;(obtain ⟨ht1,hbw,⟨t0,t1,t2,t3⟩,hf⟩:=behind2 hb1);(have f0:=hf 0 (by decide));(have f1:=hf 1 (by decide));(have f2:=hf 2 (by decide));(have f3:=hf 3 (by decide));clear hb1 hf)
 (try simp only [Exit.inBlock,Exit.then])
 exact bodyPost_ret (results_set4 Tryz.results152 _ _ _ _ _ _ _ ht1 rfl Tryz.underlying88 rfl (by kernel_rfl)) rfl ⟨rfl,below_set4 hbw (by omega) _ _ _ _⟩
set_option maxRecDepth 20000 in
set_option maxHeartbeats 2000000 in
theorem rdiff_any (x z n:Nat) (hs:∀ W,Calls Tryz.prog 77 #[numV x,numV z] W fun e w'=>e = .returned (numV n)∧Below W.heap.size W w') (w:World) :
 Calls Tryz.prog 153 #[ratV x z] w fun e w'=>e = .returned (numV n)∧Below w.heap.size w w':=by
 obtain ⟨z0,z1,z2,z3,hz⟩:=numV_ex n
 rw [hz] at hs ⊢
 unfold numV at hs
 unfold ratV c8 c4
 clear hz
 go_enter Tryz.func153,Tryz.ntmps153
 go_wp2_with (go_at_call 77;refine (hs _).mono ?_;clear hs;rintro e w1 ⟨rfl,hb1⟩;(obtain ⟨ht1,hbw,⟨t0,t1,t2,t3⟩,hf⟩:=behind2 hb1);(have f0:=hf 0 (by decide));(have f1:=hf 1 (by decide));(have f2:=hf 2 (by decide));(have f3:=hf 3 (by decide));clear hb1 hf)
 (try simp only [Exit.inBlock,Exit.then])
 exact bodyPost_ret (results_set4 Tryz.results153 _ _ _ _ _ _ _ ht1 rfl Tryz.underlying88 rfl (by kernel_rfl)) rfl ⟨rfl,below_set4 hbw (by omega) _ _ _ _⟩
end Go.Proofs.YtcgkajlehdgpoaaGreatDoor
