/- What the proof stands on: Inverse, FSmall, LRow, PNum, LRat. -/
import Derived.Test.YtcgkajlehdgpoaaGreatDoorHHmacM
import Derived.Test.YtcgkajlehdgpoaaGreatDoorNumberM
import Derived.Test.YtcgkajlehdgpoaaGreatDoorQRXM
import Derived.Laws.StructEq
namespace Go.Proofs.YtcgkajlehdgpoaaGreatDoor
open Go.RowKit
set_option maxRecDepth 20000 in
set_option maxHeartbeats 4000000 in
theorem inverse_pow (x:Nat) (w:World) :
 Calls Tryz.prog 127 #[numV (x ^ 1%pF)] w fun e w'=>e = .returned (numV (x ^ 57896044618658097711785492504343953926634992332820282019728792003956564819947%pF))∧Below w.heap.size w w':=by
 have cc0:=fun W=>ones250_any x W
 have cc1:=fun W=>then_pow x 1809251394333065553493296640760748560207343510400633813116524750123642650623 1 2 7237005577332262213973186563042994240829374041602535252466099000494570602493 (by decide) (by decide) W
 have cc2:=fun W=>then_pow x 7237005577332262213973186563042994240829374041602535252466099000494570602493 1 2 28948022309329048855892746252171976963317496166410141009864396001978282409973 (by decide) (by decide) W
 have cc3:=fun W=>then_pow x 28948022309329048855892746252171976963317496166410141009864396001978282409973 1 1 57896044618658097711785492504343953926634992332820282019728792003956564819947 (by decide) (by decide) W
 obtain ⟨va0,va1,va2,va3,hva⟩:=numV_ex (x ^ 1%pF)
 obtain ⟨vb0,vb1,vb2,vb3,hvb⟩:=numV_ex (x ^ 1809251394333065553493296640760748560207343510400633813116524750123642650623%pF)
 obtain ⟨vc0,vc1,vc2,vc3,hvc⟩:=numV_ex (x ^ 7237005577332262213973186563042994240829374041602535252466099000494570602493%pF)
 obtain ⟨vd0,vd1,vd2,vd3,hvd⟩:=numV_ex (x ^ 28948022309329048855892746252171976963317496166410141009864396001978282409973%pF)
 obtain ⟨ve0,ve1,ve2,ve3,hve⟩:=numV_ex (x ^ 57896044618658097711785492504343953926634992332820282019728792003956564819947%pF)
 rw [hva,hvb] at cc0
 rw [hvb,hva,hvc] at cc1
 rw [hvc,hva,hvd] at cc2
 rw [hvd,hva,hve] at cc3
 rw [hva,hve]
 have dd1:∀ W,Calls Tryz.prog 157 #[.agg #[.int .u64 vb0,.int .u64 vb1,.int .u64 vb2,.int .u64 vb3],.int .i64 2,.func (.func 126) #[.agg #[.int .u64 va0,.int .u64 va1,.int .u64 va2,.int .u64 va3]] #[]] W fun e w'=>e = .returned (.agg #[.int .u64 vc0,.int .u64 vc1,.int .u64 vc2,.int .u64 vc3])∧Below W.heap.size W w':=cc1
 have dd2:∀ W,Calls Tryz.prog 157 #[.agg #[.int .u64 vc0,.int .u64 vc1,.int .u64 vc2,.int .u64 vc3],.int .i64 2,.func (.func 126) #[.agg #[.int .u64 va0,.int .u64 va1,.int .u64 va2,.int .u64 va3]] #[]] W fun e w'=>e = .returned (.agg #[.int .u64 vd0,.int .u64 vd1,.int .u64 vd2,.int .u64 vd3])∧Below W.heap.size W w':=cc2
 have dd3:∀ W,Calls Tryz.prog 157 #[.agg #[.int .u64 vd0,.int .u64 vd1,.int .u64 vd2,.int .u64 vd3],.int .i64 1,.func (.func 126) #[.agg #[.int .u64 va0,.int .u64 va1,.int .u64 va2,.int .u64 va3]] #[]] W fun e w'=>e = .returned (.agg #[.int .u64 ve0,.int .u64 ve1,.int .u64 ve2,.int .u64 ve3])∧Below W.heap.size W w':=cc3
 clear cc1 cc2 cc3 hva hvb hvc hvd hve
 obtain ⟨W,hW⟩:∃ W,W=(w.alloc (.cells #[.int .u64 va0,.int .u64 va1,.int .u64 va2,.int .u64 va3] 88)).alloc (.cells #[.int .u64 0,.int .u64 0,.int .u64 0,.int .u64 0] 88):=⟨_,rfl⟩
 have HW:=Hid.mk' hW
 have hWs:W.heap.size=w.heap.size+1+1:=by rw [hW];simp
 have hbW:Below w.heap.size w W:=by rw [hW];exact ((Below.refl _ _).alloc (Nat.le_refl _) _).alloc (by simp) _
 have N0:FourAt W w.heap.size (.int .u64 va0) (.int .u64 va1) (.int .u64 va2) (.int .u64 va3):=by rw [hW];exact (four_fresh w _ _ _ _ _).below ((Below.refl _ _).alloc (Nat.le_refl _) _) (by simp)
 have R0:FourAt W (w.heap.size+1) (.int .u64 0) (.int .u64 0) (.int .u64 0) (.int .u64 0):=by
  have:=four_fresh (w.alloc (.cells #[.int .u64 va0,.int .u64 va1,.int .u64 va2,.int .u64 va3] 88)) (.int .u64 0) (.int .u64 0) (.int .u64 0) (.int .u64 0) 88
  rw [World.size_alloc] at this
  rw [hW];exact this
 have hr:∀ w':World,Below (w.heap.size+1) W w'→w'.rangeAt w.heap.size 0 [.int .u64 va0,.int .u64 va1,.int .u64 va2,.int .u64 va3]:=fun w' h=>(N0.below h (by omega)).range
 have hi':(Tryz.prog.info? 88).map (·.size)=some 4:=by kernel_rfl
 have hb0:Below (w.heap.size+1) W W.drew:=(Below.refl _ _).drew
 clear hW
 go_enter Tryz.func127,Tryz.ntmps127
 go_wp2
 rw [←HW.out]
 refine wp_region_held_drew (S:=fun w2=>Below (w.heap.size+1) W w2) (by kernel_rfl) hb0 (fun hHeld => ?_)
 refine wpAnyH_take (i:=0) (v := .agg #[.int .u64 va0,.int .u64 va1,.int .u64 va2,.int .u64 va3]) rfl (by kernel_rfl) (by kernel_rfl) (by kernel_rfl) (fun _ _ _ h=>h) (yieldsIf_load_mid (by rfl) 88 _ rfl w.heap.size 0 rfl [.int .u64 va0,.int .u64 va1,.int .u64 va2,.int .u64 va3] _ hr Tryz.underlying88 rfl hi') hHeld ?_
 refine wpAnyH_take (i:=2) (v := .agg #[.int .u64 va0,.int .u64 va1,.int .u64 va2,.int .u64 va3]) rfl (by kernel_rfl) (by kernel_rfl) (by kernel_rfl) (fun _ _ _ h=>h) (yieldsIf_load_mid (by rfl) 88 _ rfl w.heap.size 0 rfl [.int .u64 va0,.int .u64 va1,.int .u64 va2,.int .u64 va3] _ hr Tryz.underlying88 rfl hi') hHeld ?_
 refine wpAnyH_take (i:=5) (v := .agg #[.int .u64 va0,.int .u64 va1,.int .u64 va2,.int .u64 va3]) rfl (by kernel_rfl) (by kernel_rfl) (by kernel_rfl) (fun _ _ _ h=>h) (yieldsIf_load_mid (by rfl) 88 _ rfl w.heap.size 0 rfl [.int .u64 va0,.int .u64 va1,.int .u64 va2,.int .u64 va3] _ hr Tryz.underlying88 rfl hi') hHeld ?_
 refine wpAnyH_take (i:=8) (v := .agg #[.int .u64 va0,.int .u64 va1,.int .u64 va2,.int .u64 va3]) rfl (by kernel_rfl) (by kernel_rfl) (by kernel_rfl) (fun _ _ _ h=>h) (yieldsIf_load_mid (by rfl) 88 _ rfl w.heap.size 0 rfl [.int .u64 va0,.int .u64 va1,.int .u64 va2,.int .u64 va3] _ hr Tryz.underlying88 rfl hi') hHeld ?_
 refine wpAnyH_take (i:=3) (v := .func (.func 126) #[.agg #[.int .u64 va0,.int .u64 va1,.int .u64 va2,.int .u64 va3]] #[]) rfl (by kernel_rfl) (by kernel_rfl) (by kernel_rfl) (fun _ _ _ h=>h) (Or.inl ⟨by rfl,fun w2 _=>by go_simp⟩) hHeld ?_
 refine wpAnyH_take (i:=6) (v := .func (.func 126) #[.agg #[.int .u64 va0,.int .u64 va1,.int .u64 va2,.int .u64 va3]] #[]) rfl (by kernel_rfl) (by kernel_rfl) (by kernel_rfl) (fun _ _ _ h=>h) (Or.inl ⟨by rfl,fun w2 _=>by go_simp⟩) hHeld ?_
 refine wpAnyH_take (i:=9) (v := .func (.func 126) #[.agg #[.int .u64 va0,.int .u64 va1,.int .u64 va2,.int .u64 va3]] #[]) rfl (by kernel_rfl) (by kernel_rfl) (by kernel_rfl) (fun _ _ _ h=>h) (Or.inl ⟨by rfl,fun w2 _=>by go_simp⟩) hHeld ?_
 refine wpAnyH_ready (rs:=[1]) (by kernel_rfl) (by simp) ?_
 refine AllReadyH.cons rfl (fun K hK => ?_) AllReadyH.nil
 go_simp
 go_at_call 156
 refine (cc0 _).mono ?_
 clear cc0
 rintro e w1 ⟨rfl,bel_w1⟩
 have S_w1:Below (w.heap.size+1) W w1:=hb0.trans (bel_w1.mono (by have:=hb0.size;omega))
 go_simp
 refine hK.out _ _ S_w1 (fun h1 => ?_)
 clear hK K
 refine wpAnyH_ready (rs:=[4]) (by kernel_rfl) (by simp) ?_
 refine AllReadyH.cons rfl (fun K hK => ?_) AllReadyH.nil
 go_simp
 go_at_call 157
 refine (dd1 _).mono ?_
 clear dd1
 rintro e w2 ⟨rfl,bel_w2⟩
 have S_w2:Below (w.heap.size+1) W w2:=S_w1.trans (bel_w2.mono (by have:=S_w1.size;omega))
 go_simp
 refine hK.out _ _ S_w2 (fun h2 => ?_)
 clear hK K
 refine wpAnyH_ready (rs:=[7]) (by kernel_rfl) (by simp) ?_
 refine AllReadyH.cons rfl (fun K hK => ?_) AllReadyH.nil
 go_simp
 go_at_call 157
 refine (dd2 _).mono ?_
 clear dd2
 rintro e w3 ⟨rfl,bel_w3⟩
 have S_w3:Below (w.heap.size+1) W w3:=S_w2.trans (bel_w3.mono (by have:=S_w2.size;omega))
 go_simp
 refine hK.out _ _ S_w3 (fun h3 => ?_)
 clear hK K
 refine wpAnyH_ready (rs:=[10]) (by kernel_rfl) (by simp) ?_
 refine AllReadyH.cons rfl (fun K hK => ?_) AllReadyH.nil
 go_simp
 go_at_call 157
 refine (dd3 _).mono ?_
 clear dd3
 rintro e w4 ⟨rfl,bel_w4⟩
 have S_w4:Below (w.heap.size+1) W w4:=S_w3.trans (bel_w4.mono (by have:=S_w3.size;omega))
 go_simp
 refine hK.out _ _ S_w4 (fun h4 => ?_)
 clear hK K
 have z1:=bel_w1.size
 have z2:=bel_w2.size
 have z3:=bel_w3.size
 have zd:W.drew.heap.size=w.heap.size+1+1:=hWs
 have R4:=(((R0.drew.below bel_w1 (by omega)).below bel_w2 (by omega)).below bel_w3 (by omega)).below bel_w4 (by omega)
 have ht:=R4.there
 have S5:Below (w.heap.size+1) W (set4 w4 (w.heap.size+1) (.int .u64 ve0) (.int .u64 ve1) (.int .u64 ve2) (.int .u64 ve3)):=below_set4' S_w4 (Nat.le_refl _) _ _ _ _
 have hbw4:Below w.heap.size w w4:=hbW.trans (S_w4.mono (by omega))
 obtain ⟨r0,r1,r2,r3,f0,f1,f2,f3⟩:=R4
 refine wpAnyH_ready (rs:=[11]) (by kernel_rfl) (by simp) ?_
 refine AllReadyH.cons rfl (fun K hK => ?_) AllReadyH.nil
 go_simp
 refine hK.out _ _ S5 (fun h5 => ?_)
 clear hK K
 refine wpAnyH_done (by kernel_rfl) ?_ _
 go_simp
 go_wp2
 (try simp only [Exit.inBlock,Exit.then])
 exact bodyPost_ret (results_set4 Tryz.results127 _ _ _ _ _ _ _ ht rfl Tryz.underlying88 rfl (by kernel_rfl)) rfl ⟨rfl,below_set4 hbw4 (by omega) _ _ _ _⟩
theorem inverse_any (x:Nat) (hx:x<pF) (w:World) :
 Calls Tryz.prog 127 #[numV x] w fun e w'=>e = .returned (numV (x ^ (pF - 2)%pF))∧Below w.heap.size w w':=by
 have h:=inverse_pow x w
 rw [Nat.pow_one,Nat.mod_eq_of_lt hx] at h
 have e:57896044618658097711785492504343953926634992332820282019728792003956564819947=pF - 2:=by decide
 rw [e] at h
 exact h
end Go.Proofs.YtcgkajlehdgpoaaGreatDoor
namespace Go.Proofs.YtcgkajlehdgpoaaGreatDoor
open Go.RowKit
theorem numV_small (n:Nat) (h:n<18446744073709551616):(Value.agg #[.int .u64 n,.int .u64 0,.int .u64 0,.int .u64 0]:Value)=numV n :=
 numV_of n n 0 0 0 h (by decide) (by decide) (by decide) (by unfold val4;omega)
set_option maxRecDepth 20000 in
set_option maxHeartbeats 2000000 in
theorem fsmall_pos (n:Nat) (h:n≤9223372036854775807) (w:World):Calls Tryz.prog 54 #[.int .i64 n] w fun e w'=>e = .returned (numV n)∧Below w.heap.size w w':=by
 have fin:=Hid.mk' (numV_small n (by omega))
 have hni:¬(n:Int)<0:=by omega
 go_enter Tryz.func54,Tryz.ntmps54
 go_wp2
 (try simp only [Exit.inBlock,Exit.then])
 exact bodyPost_ret (results_fresh4 Tryz.results54 _ _ _ _ _ _ _ rfl Tryz.underlying88 rfl (by kernel_rfl)) rfl ⟨by rw [fin.out],(Below.refl _ _).alloc (Nat.le_refl _) _⟩
end Go.Proofs.YtcgkajlehdgpoaaGreatDoor
namespace Go.Proofs.YtcgkajlehdgpoaaGreatDoor
open Go.RowKit
def c4 (n:Nat):List Value:=[.int .u64 (lw n 0),.int .u64 (lw n 1),.int .u64 (lw n 2),.int .u64 (lw n 3)]
def c8 (x z:Nat):List Value:=c4 x ++ c4 z
def ratV (x z:Nat):Value := .agg (c8 x z).toArray
theorem c4_zero:c4 0=[.int .u64 0,.int .u64 0,.int .u64 0,.int .u64 0]:=by kernel_rfl
theorem fresh4 (w:World):∃ w' g,w.alloc (.cells #[.int .u64 0,.int .u64 0,.int .u64 0,.int .u64 0] 88)=w'∧w.heap.size=g∧Below w.heap.size w w'∧RW w' g 0 (c4 0):=by
 refine ⟨_,_,rfl,rfl,(Below.refl _ _).alloc (Nat.le_refl _) _,?_⟩
 rw [c4_zero];exact RW.fresh w _ _
theorem info4:(Tryz.prog.info? 88).map (·.size)=some 4:=by kernel_rfl
theorem info8:(Tryz.prog.info? 146).map (·.size)=some 8:=by kernel_rfl
theorem one4 (n:Nat):(c4 n).toArray.all (·.oneCell')=true:=by simp [c4,Value.oneCell']
theorem one8 (x z:Nat):(c8 x z).toArray.all (·.oneCell')=true:=by simp [c8,c4,Value.oneCell']
end Go.Proofs.YtcgkajlehdgpoaaGreatDoor
namespace Go.Proofs.YtcgkajlehdgpoaaGreatDoor
open Go.RowKit
theorem fresh4' (w:World):RW (w.alloc (.cells #[.int .u64 0,.int .u64 0,.int .u64 0,.int .u64 0] 88)) w.heap.size 0 (c4 0):=by
 rw [c4_zero];exact RW.fresh w _ _
theorem num_store {o:Oper} {a:Act} {cur V:World} {K:Act→World→Prop} {Q:Exit→Act→World→Prop} (x y:Operand) (ho:o.op = .store 88 x y) (g m n:Nat) (hx:a.eval x = .pointer (some ⟨g,0,none⟩)) (hy:a.eval y=numV n) (r:RW cur g 0 (c4 m)) (S:Below V.heap.size V cur) (G:V.heap.size≤g)
 (h:∀ W1,RW W1 g 0 (c4 n)→Below V.heap.size V W1→(∀ b p cs,b≠g→RW cur b p cs→RW W1 b p cs)→K (a.put o.dst undef) W1):o.wp Tryz.prog a cur K Q :=
 wp_store_mid 88 x y ho g 0 (c4 n).toArray hx hy r.there info4 (one4 n) (h _ (r.stored (c4 n) rfl) (below_setCells G _ _ _ S) (fun _ _ _ hne hr=>hr.far g 0 (c4 n) (.inl hne)))
section
variable {md:Region.Mode} {ops:Array Oper} {Q:Exit→Act→World→Prop} {fuel:Nat} {listed:Array Bool} {a:Act} {w V:World}
theorem arN {i:Nat} {rs:List Nat} (oi:Oper) (hS:Below V.heap.size V w) (h:∀ w1 g,V.heap.size≤g→w.heap.size≤g→Below w.heap.size w w1→RW w1 g 0 (c4 0)→Below V.heap.size V w1→wpAnyH Tryz.prog md ops Q (fun u=>Below V.heap.size V u) fuel (listed.setIfInBounds i true) (a.put oi.dst (pA g 0)) w1) (hs:AllReadyH Tryz.prog md ops Q (fun u=>Below V.heap.size V u) fuel listed a w rs)
 (hrun:(execOp a.eval oi).run Tryz.prog w = .ok (.value (pA w.heap.size 0)) (w.alloc (.cells #[.int .u64 0,.int .u64 0,.int .u64 0,.int .u64 0] 88)):=by kernel_rfl) (hi:ops[i]? = some oi:=by rfl) (hw:Region.wanted oi (yielded ops a.tmps)=true:=by rfl):AllReadyH Tryz.prog md ops Q (fun u=>Below V.heap.size V u) fuel listed a w (i :: rs) :=
 have hb:Below w.heap.size w (w.alloc (.cells #[.int .u64 0,.int .u64 0,.int .u64 0,.int .u64 0] 88)):=bR.alloc (Nat.le_refl _) _
 arA oi ⟨below_next hS hb,h _ _ hS.size (Nat.le_refl _) hb (fresh4' w) (below_next hS hb)⟩ hs hrun hi hw
theorem arS {i:Nat} {rs:List Nat} (oi:Oper) (x y:Nat) {g m:Nat} (n:Nat) (r:RW w g 0 (c4 m)) (hS:Below V.heap.size V w) (G:V.heap.size≤g) (h:∀ w1,RW w1 g 0 (c4 n)→Below V.heap.size V w1→(∀ b p cs,b≠g→RW w b p cs→RW w1 b p cs)→wpAnyH Tryz.prog md ops Q (fun u=>Below V.heap.size V u) fuel (listed.setIfInBounds i true) (a.put oi.dst undef) w1) (hs:AllReadyH Tryz.prog md ops Q (fun u=>Below V.heap.size V u) fuel listed a w rs)
 (ho:oi.op = .store 88 (.tmp x) (.tmp y):=by rfl) (hx:a.eval (.tmp x) = .pointer (some ⟨g,0,none⟩):=by rfl) (hy:a.eval (.tmp y)=numV n:=by rfl) (hi:ops[i]? = some oi:=by rfl) (hw:Region.wanted oi (yielded ops a.tmps)=true:=by rfl):AllReadyH Tryz.prog md ops Q (fun u=>Below V.heap.size V u) fuel listed a w (i :: rs):=by
 refine AllReadyH.cons hi (fun K hK => ?_) hs
 rw [if_pos hw]
 exact num_store _ _ ho g m n hx hy r hS G (fun w1 r1 hS1 far=>hK.out _ _ hS1 (fun _=>h w1 r1 hS1 far))
theorem ldN {o:Oper} {g off n:Nat} (h:RW V g off (c4 n)) (k:Nat) (hw:Region.wanted o (yielded ops a.tmps)=true:=by rfl) (ho:o.op = .load 88 (.tmp k):=by rfl) (hx:a.eval (.tmp k) = .pointer (some ⟨g,off,none⟩):=by rfl):YieldsIf Tryz.prog ops (fun w'=>Below V.heap.size V w') o (numV n) a :=
 ldH h 88 k Tryz.underlying88 info4 rfl hw ho hx
end
theorem fresh4t (w:World) (n:Nat):(w.alloc (.cells #[.int .u64 0,.int .u64 0,.int .u64 0,.int .u64 0] 88)).there w.heap.size 0 (c4 n).toArray.size:=(fresh4' w).there
theorem info4a (n:Nat):(Tryz.prog.info? 88).map (·.size)=some (c4 n).toArray.size:=info4
theorem yields_build2 {P:Program} {ops:Array Oper} {S:World→Prop} {o:Oper} {a:Act} (hw:Region.wanted o (yielded ops a.tmps)=true) (t:TypeId) (i j:Nat) (x y:Operand) (ho:o.op = .build t #[(i,x),(j,y)]) (u v:Value) (hx:a.eval x=u) (hy:a.eval y=v) (cells:Array Value)
 (hf:P.built t [(i,u),(j,v)]=some cells):YieldsIf P ops S o (.agg cells) a:=by
 refine .inl ⟨hw,fun w _ => ?_⟩
 unfold execOp
 simp only [ho,List.map_toArray,List.map_cons,List.map_nil,hx,hy]
 rw [Sem.run_bind,run_build w t _ cells hf]
 rfl
end Go.Proofs.YtcgkajlehdgpoaaGreatDoor
namespace Go.Proofs.YtcgkajlehdgpoaaGreatDoor
open Go.RowKit
theorem behind2 {w w1:World} {A:Obj} {a b c d:Value} {t:TypeId} (h:Below ((w.alloc A).alloc (.cells #[a,b,c,d] t)).heap.size ((w.alloc A).alloc (.cells #[a,b,c,d] t)) w1):w1.there (w.heap.size+1) 0 4∧Below w.heap.size w w1 ∧
 (w1.cell? ⟨w.heap.size+1,0,none⟩=some a∧w1.cell? ⟨w.heap.size+1,1,none⟩=some b∧w1.cell? ⟨w.heap.size+1,2,none⟩=some c∧w1.cell? ⟨w.heap.size+1,3,none⟩=some d)∧∀ j,j<4→w1.frozen? ⟨w.heap.size+1,j,none⟩=false:=by
 have hs:(w.alloc A).heap.size=w.heap.size+1:=by simp
 have:=behind' h
 rw [hs] at this
 obtain ⟨h1,h2,h3,h4⟩:=this
 exact ⟨h1,((Below.refl w.heap.size w).alloc (Nat.le_refl _) A).trans (h2.mono (by omega)),h3,h4⟩
set_option maxRecDepth 20000 in
set_option maxHeartbeats 2000000 in
theorem rsum_any (x z n:Nat) (hs:∀ W,Calls Tryz.prog 154 #[numV x,numV z] W fun e w'=>e = .returned (numV n)∧Below W.heap.size W w') (w:World) :
 Calls Tryz.prog 152 #[ratV x z] w fun e w'=>e = .returned (numV n)∧Below w.heap.size w w':=by
 obtain ⟨z0,z1,z2,z3,hz⟩:=numV_ex n
 rw [hz] at hs ⊢
 unfold numV at hs
 unfold ratV c8 c4
 clear hz
 go_enter Tryz.func152,Tryz.ntmps152
 go_wp2_with (go_at_call 154;refine (hs _).mono ?_;clear hs;rintro e w1 ⟨rfl,hb1⟩;(obtain ⟨ht1,hbw,⟨t0,t1,t2,t3⟩,hf⟩:=behind2 hb1);(have f0:=hf 0 (by decide));(have f1:=hf 1 (by decide));(have f2:=hf 2 (by decide));(have f3:=hf 3 (by decide));clear hb1 hf)
 (try simp only [Exit.inBlock,Exit.then])
 exact bodyPost_ret (results_set4 Tryz.results152 _ _ _ _ _ _ _ ht1 rfl Tryz.underlying88 rfl (by kernel_rfl)) rfl ⟨rfl,below_set4 hbw (by omega) _ _ _ _⟩
set_option maxRecDepth 20000 in
set_option maxHeartbeats 2000000 in
theorem rdiff_any (x z n:Nat) (hs:∀ W,Calls Tryz.prog 77 #[numV x,numV z] W fun e w'=>e = .returned (numV n)∧Below W.heap.size W w') (w:World) :
 Calls Tryz.prog 153 #[ratV x z] w fun e w'=>e = .returned (numV n)∧Below w.heap.size w w':=by
 obtain ⟨z0,z1,z2,z3,hz⟩:=numV_ex n
 rw [hz] at hs ⊢
 unfold numV at hs
 unfold ratV c8 c4
 clear hz
 go_enter Tryz.func153,Tryz.ntmps153
 go_wp2_with (go_at_call 77;refine (hs _).mono ?_;clear hs;rintro e w1 ⟨rfl,hb1⟩;(obtain ⟨ht1,hbw,⟨t0,t1,t2,t3⟩,hf⟩:=behind2 hb1);(have f0:=hf 0 (by decide));(have f1:=hf 1 (by decide));(have f2:=hf 2 (by decide));(have f3:=hf 3 (by decide));clear hb1 hf)
 (try simp only [Exit.inBlock,Exit.then])
 exact bodyPost_ret (results_set4 Tryz.results153 _ _ _ _ _ _ _ ht1 rfl Tryz.underlying88 rfl (by kernel_rfl)) rfl ⟨rfl,below_set4 hbw (by omega) _ _ _ _⟩
end Go.Proofs.YtcgkajlehdgpoaaGreatDoor
