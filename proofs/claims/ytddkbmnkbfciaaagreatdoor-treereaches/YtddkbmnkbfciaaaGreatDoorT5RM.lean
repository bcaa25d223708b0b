/- What the proof stands on: T5R, Kit. -/
import Derived.Test.YtddkbmnkbfciaaaGreatDoorBaseM
import Derived.Test.YtddkbmnkbfciaaaGreatDoorT4PM
import Derived.Test.YtddkbmnkbfciaaaGreatDoorT4SM
import Derived.Test.YtddkbmnkbfciaaaGreatDoorT4ZM
import Derived.ChangeOld
import Derived.ChangeSlices
import Derived.Deep.DeepHandedRow
import Derived.Lib.LaidTab
import Derived.OpenShut
import Derived.ProofKit
import Derived.SizedLaws
import Derived.WalkKit
namespace Go.Proofs.YtddkbmnkbfciaaaGreatDoor
open Go.RowKit Go.Shelf
theorem ex_append {P:Program} {a:Act} {oi:Oper} {w w':World} {u v r:Value} (ts:Array TypeId) (m k:Operand) (ho:oi.op = .call { callee := .builtin .append,args:=#[m,k],argTypes:=ts }) (hm:a.eval m=u) (hk:a.eval k=v) (hrun:(Builtin.append_ ts oi.type #[u,v]).run P w = .ok r w'):(execOp a.eval oi).run P w = .ok (.value r) w':=by
 simp [execOp,ho,resolve,invoke,builtin,hm,hk,hrun,Result.andThen]
structure St2 (B:Nat) (V:World) (v1 v2:Value) (U:World) (a1:Value) (m1:List Int) (a2:Value) (m2:List Int):Prop where
 o1:OwnZ B U a1 m1
 o2:OwnZ B U a2 m2
 bt:But (fun k=>v1.ownBlock=some k∨v2.ownBlock=some k) V U
 q1:a1.ownBlock=v1.ownBlock∨∃ b,a1.ownBlock=some b∧V.heap.size≤b
 q2:a2.ownBlock=v2.ownBlock∨∃ b,a2.ownBlock=some b∧V.heap.size≤b
 ap:a1.ownBlock=none∨a1.ownBlock≠a2.ownBlock
 bs:B≤U.heap.size
theorem OwnZ.lt {B:Nat} {W:World} {v:Value} {l:List Int} (h:OwnZ B W v l) {b:Nat} (hb:v.ownBlock=some b):b<W.heap.size:=by
 obtain ⟨-,⟨rfl,-⟩ | ⟨g,cap,cur,rfl,-,h4,-⟩⟩:=h
 · cases hb
 · cases hb
   exact (Array.getElem?_eq_some_iff.1 h4).1
theorem grown_but {w w':World} {c:Option Nat} (h:w.grownBy w' c):But (fun k=>c=some k) w w':=⟨h.os,h.tape,h.output,h.size,fun k hk hne=>h.block k hk (Ne.symm hne)⟩
theorem St2.app1 {B:Nat} {V:World} {v1 v2:Value} {U:World} {m1:List Int} {a2:Value} {m2:List Int} (h:St2 B V v1 v2 U v1 m1 a2 m2) (hv1:∀ b,v1.ownBlock=some b→b<V.heap.size) (hap:v1.ownBlock=none∨v1.ownBlock≠v2.ownBlock) {ok:Nat→Prop} (g:Nat) (x:Int) (hs:ZO ok U (.slice (some ⟨g,0,none⟩) 1 1) [x]) (hl:m1.length+1≤1000000) (ty:TypeId) :
 ∃ v' U',(Builtin.append_ #[51,51] ty #[v1,.slice (some ⟨g,0,none⟩) 1 1]).run Tryz.prog U = .ok v' U'∧St2 B V v1 v2 U' v' (m1 ++ [x]) a2 m2∧But (fun k=>v1.ownBlock=some k) U U':=by
 obtain ⟨v',U',hrun,own,hg,hli⟩:=run_append_zs U ty B v1 m1 [x] h.o1 (some ⟨g,0,none⟩) 1 1 hs hl h.bs
 have hb:=grown_but hg
 have hVU:=h.bt.size
 refine ⟨v',U',hrun,⟨own,h.o2.same (fun b hb2 hlt=>hb.block b hlt (fun e => ?_)),h.bt.trans (hb.mono fun k e => .inl e),?_,h.q2,?_,Nat.le_trans h.bs hb.size⟩,hb⟩
 · rcases h.q2 with q | ⟨c,q,hc⟩
   · rcases hap with z | z
     · rw [z] at e;cases e
     · exact z (by rw [e,←q,hb2])
   · rw [q] at hb2
     cases hb2
     have:=hv1 _ e
     omega
 · rcases hli with e | e
   · exact .inl e
   · exact .inr ⟨_,e,hVU⟩
 · rcases hli with e | e
   · rw [e]
     rcases hap with z | z
     · exact .inl z
     · refine .inr (fun q => ?_)
       rcases h.q2 with q2 | ⟨c,q2,hc⟩
       · exact z (q.trans q2)
       · rw [q2] at q
         have:=hv1 _ q
         omega
   · refine .inr (fun q => ?_)
     rw [e] at q
     have:=h.o2.lt q.symm
     omega
theorem St2.app2 {B:Nat} {V:World} {v1 v2:Value} {U:World} {a1:Value} {m1:List Int} {m2:List Int} (h:St2 B V v1 v2 U a1 m1 v2 m2) {ok:Nat→Prop} (g:Nat) (x:Int) (hs:ZO ok U (.slice (some ⟨g,0,none⟩) 1 1) [x]) (hl:m2.length+1≤1000000) (ty:TypeId) :
 ∃ v' U',(Builtin.append_ #[51,51] ty #[v2,.slice (some ⟨g,0,none⟩) 1 1]).run Tryz.prog U = .ok v' U'∧St2 B V v1 v2 U' a1 m1 v' (m2 ++ [x]):=by
 obtain ⟨v',U',hrun,own,hg,hli⟩:=run_append_zs U ty B v2 m2 [x] h.o2 (some ⟨g,0,none⟩) 1 1 hs hl h.bs
 have hb:=grown_but hg
 have hVU:=h.bt.size
 refine ⟨v',U',hrun,⟨h.o1.same (fun b hb2 hlt=>hb.block b hlt (fun e => ?_)),own,h.bt.trans (hb.mono fun k e => .inr e),h.q1,?_,?_,Nat.le_trans h.bs hb.size⟩⟩
 · rcases h.ap with z | z
   · rw [z] at hb2;cases hb2
   · exact z (by rw [hb2,e])
 · rcases hli with e | e
   · exact .inl e
   · exact .inr ⟨_,e,hVU⟩
 · rcases hli with e | e
   · rw [e];exact h.ap
   · by_cases z:a1.ownBlock=none
     · exact .inl z
     · refine .inr (fun q => ?_)
       rw [e] at q
       have:=h.o1.lt q
       omega
structure SpJ (w:World) (B wb sb:Nat) (L:List (Nat × Value)) (l1 l2:List Int) (M:Nat→Prop) (W:World):Prop where
 v:∃ v1 v2,RW W wb 0 [v1]∧RW W sb 0 [v2]∧OwnZ B W v1 l1∧OwnZ B W v2 l2∧(∀ b,v1.ownBlock=some b→M b)∧(∀ b,v2.ownBlock=some b→M b)∧(v1.ownBlock=none∨v1.ownBlock≠v2.ownBlock)
 bx:∀ q∈L,RW W q.1 0 [q.2]
 bel:Below w.heap.size w W
 mB:∀ b,M b→B≤b
 sz:B≤W.heap.size
theorem SpJ.loc {w:World} {B wb sb:Nat} {L:List (Nat × Value)} {l1 l2:List Int} {M:Nat→Prop} {W W':World} (h:SpJ w B wb sb L l1 l2 M W) (hL:Loc B M W W') (hw:w.heap.size≤B) (h1:wb<B) (h2:sb<B) (hb:∀ q∈L,q.1<B):SpJ w B wb sb L l1 l2 M W':=by
 obtain ⟨v1,v2,r1,r2,o1,o2,m1,m2,ap⟩:=h.v
 exact ⟨⟨v1,v2,hL.rw r1 (.inl h1),hL.rw r2 (.inl h2),o1.same (fun b hb hl=>hL.block b hl (.inr (m1 b hb))),o2.same (fun b hb hl=>hL.block b hl (.inr (m2 b hb))),m1,m2,ap⟩,fun q hq=>hL.rw (h.bx q hq) (.inl (hb q hq)),h.bel.trans ((hL.mono hw).below h.bel.size),h.mB,Nat.le_trans h.sz hL.size⟩
theorem SpJ.more {w:World} {B wb sb:Nat} {L:List (Nat × Value)} {l1 l2:List Int} {M:Nat→Prop} {V U:World} {x y:Int} {v1 v2 a1 a2:Value} (h:SpJ w B wb sb L l1 l2 M V) (r1:RW V wb 0 [v1]) (r2:RW V sb 0 [v2]) (m1:∀ b,v1.ownBlock=some b→M b) (m2:∀ b,v2.ownBlock=some b→M b) (st:St2 B V v1 v2 U a1 (l1 ++ [x]) a2 (l2 ++ [y])) (h1:wb<B) (h2:sb<B) (hne:wb≠sb) (hw:w.heap.size≤wb∧w.heap.size≤sb) (hb:∀ q∈L,q.1<B∧q.1≠wb∧q.1≠sb) :
 Fro B M V ((U.setCells wb 0 [a1]).setCells sb 0 [a2])∧∃ M':Nat→Prop,(∀ b,M' b→M b∨V.heap.size≤b)∧SpJ w B wb sb L (l1 ++ [x]) (l2 ++ [y]) M' ((U.setCells wb 0 [a1]).setCells sb 0 [a2]):=by
 have hsz:=h.sz
 have nown:∀ q,q<B→¬(v1.ownBlock=some q∨v2.ownBlock=some q):=fun q hq e=>by
  rcases e with e | e
  · have:=h.mB q (m1 q e);omega
  · have:=h.mB q (m2 q e);omega
 have ru1:=r1.but st.bt (nown wb h1)
 have ru2:=r2.but st.bt (nown sb h2)
 have s1:(U.setCells wb 0 [a1]).heap.size=U.heap.size:=by simp [World.setCells]
 have s2:((U.setCells wb 0 [a1]).setCells sb 0 [a2]).heap.size=U.heap.size:=by simp [World.setCells]
 have es:∀ b,b≠wb→b≠sb→((U.setCells wb 0 [a1]).setCells sb 0 [a2]).heap[b]? = U.heap[b]?:=fun b hb1 hb2=>(Below.heap_setCell _ _ _ _ hb2).trans (Below.heap_setCell _ _ _ _ hb1)
 have n1:∀ b,a1.ownBlock=some b→B≤b:=fun b e=>(World.ownsRow.lt st.o1 b e).1
 have n2:∀ b,a2.ownBlock=some b→B≤b:=fun b e=>(World.ownsRow.lt st.o2 b e).1
 have k1:=ru1.stored [a1] rfl
 have k2:=ru2.far wb 0 [a1] (.inl (Ne.symm hne))
 have k3:=k2.stored [a2] rfl
 have k4:=k1.far sb 0 [a2] (.inl hne)
 have hVU:=st.bt.size
 refine ⟨⟨by omega,fun b hb hB hm=>(es b (by omega) (by omega)).trans (st.bt.block b hb (fun e=>hm (by rcases e with e | e;exact m1 b e;exact m2 b e)))⟩,fun b=>a1.ownBlock=some b∨a2.ownBlock=some b,fun b e => ?_,?_⟩
 · rcases e with e | e
   · rcases st.q1 with q | ⟨c,q,hc⟩
     · exact .inl (m1 b (by rw [←q];exact e))
     · rw [q] at e;cases e;exact .inr hc
   · rcases st.q2 with q | ⟨c,q,hc⟩
     · exact .inl (m2 b (by rw [←q];exact e))
     · rw [q] at e;cases e;exact .inr hc
 · refine ⟨⟨a1,a2,k4,k3,st.o1.same (fun b e _=>es b (by have:=n1 b e;omega) (by have:=n1 b e;omega)),st.o2.same (fun b e _=>es b (by have:=n2 b e;omega) (by have:=n2 b e;omega)),fun b e => .inl e,fun b e => .inr e,st.ap⟩,fun q hq=>(((h.bx q hq).but st.bt (nown q.1 (hb q hq).1)).far wb 0 [a1] (.inl (hb q hq).2.1)).far sb 0 [a2] (.inl (hb q hq).2.2),?_,fun b e => ?_,by omega⟩
   · have:Below w.heap.size w U:=h.bel.trans (st.bt.below h.bel.size (fun k e=>by
      rcases e with e | e
      · have:=h.mB k (m1 k e);omega
      · have:=h.mB k (m2 k e);omega))
     exact (this.setCell hw.1 _).setCell hw.2 _
   · rcases e with e | e
     · exact n1 b e
     · exact n2 b e
end Go.Proofs.YtddkbmnkbfciaaaGreatDoor
namespace Go.Proofs.YtddkbmnkbfciaaaGreatDoor
open Go.ChangeShapes Go.WideShapes Go.ChangeAt Go.RowKit
theorem ownKnobs:ownKnob Tryz.prog.godebug=none:=by kernel_rfl
theorem laidOut:laidOutB Tryz.prog=true:=by kernel_rfl
theorem cellsOfByte:Tryz.prog.cellsOf 5=1:=by kernel_rfl
end Go.Proofs.YtddkbmnkbfciaaaGreatDoor
