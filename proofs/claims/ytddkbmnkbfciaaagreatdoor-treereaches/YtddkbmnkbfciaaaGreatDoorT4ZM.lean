/- What the proof stands on: T4Z, T5A, T5B, T5C, T5D. -/
import Derived.Test.YtddkbmnkbfciaaaGreatDoorT4XM
import Derived.Shelf.SlMaps.Clone
namespace Go.Proofs.YtddkbmnkbfciaaaGreatDoor
open Go.RowKit Go.Shelf
attribute [local go_sem] Oper.semAt_some
theorem wpListIn_append_rd {n l:Nat} {w:World} {ops:Array Oper} {rest:List Oper} {o:Oper} {a:Act} {Q:Exit→Act→World→Prop} (hw:Region.wanted o (yielded ops a.tmps)=true) (s x:Operand)
 (ho:o.op = .call { callee := .builtin .append,args:=#[s,x],argTypes:=#[51,51] }) (base:Nat) (v:Value) (l1 l2:List Int) (hs:a.eval s=v) (hown:OwnZ base w v l1) {ok:Nat→Prop} (xo:Option Addr) (m c:Nat) (hx:a.eval x = .slice xo m c) (hsrc:ZO ok w (.slice xo m c) l2)
 (hl:l1.length+l2.length≤1000000) (hbase:base≤w.heap.size) (h:∀ v' w',OwnZ base w' v' (l1 ++ l2)→w.grownBy w' v.ownBlock→Lies w v v'→Below base w w'→wpListIn (Fence.wide.inRound l) n Tryz.prog ops Q rest (a.put o.dst v') w'):wpListIn (Fence.wide.inRound l) n Tryz.prog ops Q (o :: rest) a w :=
 wpListIn_step fun K hK=>by
  obtain ⟨v',w',h1,h2,h3,h4⟩:=run_append_zs w o.type base v l1 l2 hown xo m c hsrc hl hbase
  simp only [hw,if_true]
  refine ⟨fun _ _=>trivial,?_⟩
  have hsem:(o.semAt (Fence.wide.inRound l).round a.eval)=execOp a.eval o:=Oper.semAt_some l _ _ (fun c e=>by rw [ho] at e;cases e)
  rw [hsem]
  unfold execOp
  simp only [ho,resolve,invoke,builtin,Sem.run_bind,Sem.run_pure,Result.andThen_ok,List.map_toArray,List.map_cons,List.map_nil,hs,hx,h1]
  exact hK _ _ (h v' w' h2 h3 h4 (below_grown (Below.refl _ _) h3 hown (Nat.le_refl _) hbase))
theorem OwnZ.same {base:Nat} {w w':World} {v:Value} {l:List Int} (h:OwnZ base w v l) (hs:∀ b,v.ownBlock=some b→b<w.heap.size→w'.heap[b]? = w.heap[b]?):OwnZ base w' v l:=by
 obtain ⟨h1,h2 | ⟨g,cap,cur,hv,hg,r⟩⟩:=h
 · exact ⟨h1,.inl h2⟩
 · refine ⟨h1,.inr ⟨g,cap,cur,hv,hg,?_⟩⟩
   rw [hs g (by rw [hv];rfl) (Array.getElem?_eq_some_iff.1 r.1).1];exact r
structure GatJ (w:World) (B ob:Nat) (L:List (Nat × Value)) (l:List Int) (M:Nat→Prop) (W:World):Prop where
 own:∃ v,RW W ob 0 [v]∧OwnZ B W v l∧∀ b,v.ownBlock=some b→M b
 bx:∀ q∈L,RW W q.1 0 [q.2]
 bel:Below w.heap.size w W
 mB:∀ b,M b→B≤b
 sz:B≤W.heap.size
theorem GatJ.loc {w:World} {B ob:Nat} {L:List (Nat × Value)} {l:List Int} {M:Nat→Prop} {W W':World} (h:GatJ w B ob L l M W) (hL:Loc B M W W') (hw:w.heap.size≤B) (ho:ob<B) (hb:∀ q∈L,q.1<B):GatJ w B ob L l M W':=by
 obtain ⟨v,h1,h2,h3⟩:=h.own
 exact ⟨⟨v,hL.rw h1 (.inl ho),h2.same (fun b e hb=>hL.block b hb (.inr (h3 b e))),h3⟩,fun q hq=>hL.rw (h.bx q hq) (.inl (hb q hq)),h.bel.trans ((hL.below h.sz).mono hw),h.mB,Nat.le_trans h.sz hL.size⟩
theorem GatJ.start {w:World} {B ob:Nat} {L:List (Nat × Value)} {W:World} (ho:RW W ob 0 [.slice none 0 0]) (hb:∀ q∈L,RW W q.1 0 [q.2]) (h:Below w.heap.size w W) (hs:B≤W.heap.size):GatJ w B ob L [] (fun _=>False) W :=
 ⟨⟨_,ho,OwnZ.nil _ _,fun b e=>by cases e⟩,hb,h,fun _ h=>h.elim,hs⟩
theorem GatJ.kept {w:World} {B ob:Nat} {L:List (Nat × Value)} {l:List Int} {M:Nat→Prop} {V V1 V3:World} {y:Int} {v:Value} (h:GatJ w B ob L l M V) (hv:RW V ob 0 [v]) (hvM:∀ b,v.ownBlock=some b→M b)
 (hV1:V1=V.alloc (.cells #[.int .i64 y] 3)) (hg:V1.grownBy V3 v.ownBlock) (ho:ob<B):RW V3 ob 0 [v]:=by
 have b1:Below V.heap.size V V1:=by rw [hV1];exact (Below.refl _ _).alloc (Nat.le_refl _) _
 have s1:V1.heap.size=V.heap.size+1:=by rw [hV1];simp
 have s3:V1.heap.size≤V3.heap.size:=hg.size
 have e3:V3.heap[ob]? = V.heap[ob]?:=(hg.block ob (by have:=h.sz;omega) (fun e=>by have:=h.mB ob (hvM ob e.symm);omega)).trans (b1.block ob (by have:=h.sz;omega))
 exact ⟨fun j x hx=>(World.cell?_of_block (w:=V) e3).trans (hv.range j x hx),fun j hj=>by
  rw [World.cell?_of_block (w:=V) e3,World.frozen?_of_block (w:=V) e3];exact hv.there j hj,by have:=hv.lt;omega⟩
theorem GatJ.more {w:World} {B ob:Nat} {L:List (Nat × Value)} {l:List Int} {M:Nat→Prop} {V V1 V3:World} {y:Int} {v v':Value} (h:GatJ w B ob L l M V) (hv:RW V ob 0 [v]) (how:OwnZ B V v l) (hvM:∀ b,v.ownBlock=some b→M b)
 (hV1:V1=V.alloc (.cells #[.int .i64 y] 3)) (own:OwnZ B V3 v' (l ++ [y])) (hg:V1.grownBy V3 v.ownBlock) (hl:Lies V1 v v') (hw:w.heap.size≤ob) (ho:ob<B) (hb:∀ q∈L,q.1<B∧q.1≠ob) :
 Fro B M V (V3.setCells ob 0 [v'])∧∃ M':Nat→Prop,(∀ b,M' b→M b∨V.heap.size≤b)∧GatJ w B ob L (l ++ [y]) M' (V3.setCells ob 0 [v']):=by
 have b1:Below V.heap.size V V1:=by rw [hV1];exact (Below.refl _ _).alloc (Nat.le_refl _) _
 have s1:V1.heap.size=V.heap.size+1:=by rw [hV1];simp
 have s3:V1.heap.size≤V3.heap.size:=hg.size
 have e3:∀ b,b<V.heap.size→¬M b→V3.heap[b]? = V.heap[b]?:=fun b hb hm=>(hg.block b (by omega) (fun e=>hm (hvM b e.symm))).trans (b1.block b hb)
 have eB:∀ b,b<B→V3.heap[b]? = V.heap[b]?:=fun b hb=>e3 b (by have:=h.sz;omega) (fun hm=>by have:=h.mB b hm;omega)
 have rB:∀ (q:Nat) (u:Value),q<B→RW V q 0 [u]→RW V3 q 0 [u]:=fun q u hq hr =>
  ⟨fun j x hx=>(World.cell?_of_block (w:=V) (eB q hq)).trans (hr.range j x hx),fun j hj=>by
    rw [World.cell?_of_block (w:=V) (eB q hq),World.frozen?_of_block (w:=V) (eB q hq)];exact hr.there j hj,by have:=hr.lt;omega⟩
 have hvo:=rB ob v ho hv
 have ss:(V3.setCells ob 0 [v']).heap.size=V3.heap.size:=by simp [World.setCells]
 have es:∀ b,b≠ob→(V3.setCells ob 0 [v']).heap[b]? = V3.heap[b]?:=fun b hb=>Below.heap_setCell _ _ _ _ hb
 have hne:∀ b,v'.ownBlock=some b→B≤b:=fun b e=>(World.ownsRow.lt own b e).1
 refine ⟨⟨by omega,fun b hb hB hm=>(es b (by omega)).trans (e3 b hb hm)⟩,fun b=>v'.ownBlock=some b,fun b e => ?_,?_⟩
 · rcases hl with hl | hl
   · exact .inl (hvM b (by rw [←hl];exact e))
   · rw [hl] at e;cases e;exact .inr (by omega)
 · refine ⟨⟨v',hvo.stored [v'] rfl,own.same (fun b e _=>es b (by have:=hne b e;omega)),fun b e=>e⟩,fun q hq=>(rB q.1 q.2 (hb q hq).1 (h.bx q hq)).far ob 0 [v'] (.inl (hb q hq).2),?_,hne,by have:=h.sz;omega⟩
   have:Below w.heap.size w V3:=by
    have hg':=below_grown ((Below.refl w.heap.size V1)) hg (own_below how b1) (by omega) (by have:=h.sz;omega)
    exact h.bel.trans ((b1.mono (by have:=h.sz;omega)).trans hg')
   exact this.setCell hw _
def mbL (F:Int→Option Nd):Nat→List Int
 | 0=>[]
 | m+1=>mbL F m ++ (if (F (2*(m:Int))).isSome then [(m:Int)] else [])
theorem mbL_len (F:Int→Option Nd):∀ m,(mbL F m).length≤m
 | 0=>Nat.le_refl _
 | m+1=>by have:=mbL_len F m;unfold mbL;split <;> simp <;> omega
set_option maxRecDepth 100000 in
set_option maxHeartbeats 4000000 in
theorem tMembers_any (ok:Nat→Prop) (tb mb:Nat) (T:Tr) (hK:TrOK T) (w:World) (h:TrAt ok w tb mb T) :
 Calls Tryz.prog 27 #[pA tb 0] w fun e w'=>∃ v,e = .returned v∧OwnZ w.heap.size w' v (mbL T.nd T.n)∧Below w.heap.size w w':=by
 obtain ⟨f,hmp,hh⟩:=h.mp
 have hlv:=h.lv
 have hst:=h.st
 have htl:=h.tlt
 have hml:=h.mlt
 have hn64:=hK.n64
 have cA:=tmade_any tb T.n w hlv
 rw [decide_eq_true (by omega)] at cA
 obtain ⟨W0,hW0⟩:∃ W0,W0=(w.alloc (.cells #[.slice none 0 0] 51)):=⟨_,rfl⟩
 have r0:RW W0 w.heap.size 0 [.slice none 0 0]:=by rw [hW0];exact RW.fresh w [.slice none 0 0] 51
 have b1:Below w.heap.size w W0:=by rw [hW0];exact ((Below.refl _ _).alloc (Nat.le_refl _) _)
 have s1:W0.heap.size=w.heap.size+1:=by rw [hW0];simp
 have cM:=members_any tb W0
 obtain ⟨W2,hW2⟩:∃ W2,W2=W0.alloc (.cells #[pA tb 0] 23):=⟨_,rfl⟩
 have r2:RW W2 W0.heap.size 0 [pA tb 0]:=by rw [hW2];exact RW.fresh W0 [pA tb 0] 23
 have b2:Below W0.heap.size W0 W2:=by rw [hW2];exact (Below.refl _ _).alloc (Nat.le_refl _) _
 have s2:W2.heap.size=w.heap.size+2:=by rw [hW2];simp;omega
 rw [←hW2] at cM
 rw [s1] at cM r2
 replace r0:=r0.still b2
 have bw:=below_next b1 b2
 have hit:=members_it (w.heap.size+1) tb mb T.n hK.may (fun k=>f (k:Int)) (fun k=>hh.shp _)
 have HW0:=Hid.mk' hW0
 have Hs2:=Hid.mk' s2
 clear hW0 hW2 b1 b2 s1
 obtain ⟨nn,-⟩:∃ nn:Nat,True:=⟨1,trivial⟩
 refine (callsIn_wide (n:=nn)).1 ?_
 refine callsIn_of_wp_marks Tryz.func27 rfl trivial ?_ rfl
 simp only [Tryz.ntmps27,List.size_toArray,List.length_cons,List.length_nil,Nat.reduceAdd,Nat.reduceSub,Array.replicate_succ,Array.replicate_zero,List.push_toArray,List.append_toArray,List.nil_append,List.cons_append]
 gi_wp2_with (first
  | (rw [←HW0.out];clear HW0)
  | (refine ⟨trivial,(fun h=>by cases h),?_⟩;gi_at_call 54;refine (callsIn_wide.2 cA).mono ?_;clear cA;rintro e w0 ⟨rfl,rfl⟩)
  | (refine ⟨trivial,(fun h=>by cases h),?_⟩;gi_at_call 86;refine (callsIn_wide.2 cM).mono ?_;clear cM;rintro e w1 ⟨rfl,rfl⟩))
 clear h
 have hbq:∀ q∈[(w0.heap.size+1,pA tb 0)],q.1<w1.heap.size∧q.1≠w0.heap.size:=fun q hq=>by
  cases List.mem_singleton.1 hq;exact ⟨by show w0.heap.size+1<_;omega,by show w0.heap.size+1≠_;omega⟩
 refine range_it hit rfl (enters_of Tryz.func162 (by kernel_rfl) rfl)
  (fun k=>GatJ w0 w1.heap.size w0.heap.size [(w0.heap.size+1,pA tb 0)] (mbL T.nd ((k+1) / 2)))
  (fun _ _ _=>False) (fun _=>False) ?_ ?_ ?_ ?_ ?_ (fun b hb=>hb.elim) ?_ ?_ ?_ ?_
 · intro k M V V' hj hL;exact hj.loc hL (by omega) (by omega) (fun q hq=>(hbq q hq).1)
 · intro c M V V' h;exact h.elim
 · intro k M V hk hj
   exact ⟨⟨(hj.bx _ (List.mem_singleton.2 rfl)).range 0 _ rfl,(hj.bel.cell (p:=⟨tb,0,none⟩) htl).trans hlv,(hj.bel.cell (p:=⟨tb,1,none⟩) htl).trans hst⟩,fun _=>⟨f,hmp.below hj.bel hml,rfl⟩⟩
 · intro k M V hk ha hj
   have e:mbL T.nd ((k+1+1) / 2)=mbL T.nd ((k+1) / 2):=by
    rcases Nat.mod_two_eq_zero_or_one k with h0 | h0
    · have e1:(k+1+1) / 2=(k+1) / 2+1:=by omega
      rw [e1,mbL,show 2*(((k+1) / 2:Nat):Int)=(k:Int) by omega]
      rcases hh.lf (k:Int) with ⟨-,hno⟩ | ⟨cs,d,hl,-⟩
      · cases hF:T.nd (k:Int) with
        | none=>simp
        | some d =>
         cases d with
         | lf d=>exact absurd hF (hno d)
         | pr d=>have:=(hK.pr _ _ hF).1;omega
      · rw [hl] at ha;cases ha
    · rw [show (k+1+1) / 2=(k+1) / 2 by omega]
   show GatJ w0 w1.heap.size w0.heap.size [(w0.heap.size+1,pA tb 0)] (mbL T.nd ((k+1+1) / 2)) M V
   rw [e];exact hj
 · intro k a' ha
   cases hl:lfV (f (k:Int)) with
   | none=>rw [hl] at ha;cases ha
   | some A=>rw [hl] at ha;cases ha;rfl
 · intro V hb
   exact GatJ.start (r0.still hb) (fun q hq=>by cases List.mem_singleton.1 hq;exact r2.still hb) (below_next bw hb) hb.size
 · intro k M V l a' hk ha hj hl1 hl2 hl3
   rcases hh.lf (k:Int) with ⟨hn,-⟩ | ⟨cs,d,hl,hF,-⟩
   · rw [hn] at ha;cases ha
   rw [hl] at ha
   cases ha
   have hev:=(hK.lf _ _ hF).1
   obtain ⟨m,rfl⟩:∃ m,k=2*m:=⟨k / 2,by omega⟩
   rw [show 2*m / 2=m by omega]
   have em:(2*m+1) / 2=m:=by omega
   have em2:(2*m+1+1) / 2=m+1:=by omega
   have eL:mbL T.nd (m+1)=mbL T.nd m ++ [(m:Int)]:=by rw [mbL,show 2*(m:Int)=((2*m:Nat):Int) by omega,hF];rfl
   have hlen:=mbL_len T.nd m
   rw [em] at hj
   rw [em,em2,eL]
   have hm64:m≤64:=by omega
   generalize mbL T.nd m=l1 at *
   clear hl hit hj eL em em2 hev hF hh hmp hk
   gi_wp2
   refine ⟨Below.refl _ _,fun V2 hbt hsz hj2 => ?_⟩
   have Hsz:=Hid.mk' hsz
   have hoB:w0.heap.size<w1.heap.size:=by omega
   clear hsz s2
   obtain ⟨v,hv,how,hvM⟩:=id hj2.own
   obtain ⟨xo,co,rfl⟩:=how.slice
   have q0:=hv.range 0 _ rfl
   rw [Nat.zero_add] at q0
   obtain ⟨V1,hV1⟩:∃ V1,V1=V2.alloc (.cells #[.int .i64 (m:Int)] 3):=⟨_,rfl⟩
   have bV1:Below V2.heap.size V2 V1:=by rw [hV1];exact (Below.refl _ _).alloc (Nat.le_refl _) _
   have ow1:=how.below bV1
   have zo1:=zo_one V2 (m:Int)
   rw [←hV1] at zo1
   have hB1:w1.heap.size≤V1.heap.size:=Nat.le_trans hj2.sz bV1.size
   have HV1:=Hid.mk' hV1
   clear hV1
   gi_wp2_with (first
    | (rw [←HV1.out])
    | (gi_at_builtin;refine wpListIn_append_rd rfl (.tmp 12) (.tmp 14) rfl w1.heap.size _ _ _ rfl ow1 _ _ _ rfl zo1 (by simp;omega) hB1 ?_;intro v3 V3 own3 hg3 hli hb3;(obtain ⟨x3,c3,rfl⟩:=own3.slice);(have k3:=hj2.kept hv hvM HV1.out hg3 hoB);(have q3:=k3.range 0 _ rfl);(have q4:=(k3.there 0 (by simp)).2);(rw [Nat.zero_add] at q3 q4)))
   obtain ⟨hF,M',hM',hj3⟩:=hj2.more hv how hvM HV1.out own3 hg3 hli (Nat.le_refl _) hoB hbq
   have e1:(l1 ++ [(m:Int)]).length=l1.length+1:=by simp
   rw [e1] at hF hj3
   exact ⟨hF,M',fun b hb=>by rw [←Hsz.out];exact hM' b hb,hj3⟩
 · intro D M V hD hDl hDm hj hdf
   have e:(2*T.n - 1+1) / 2=T.n:=by omega
   rw [e] at hj
   obtain ⟨v,hv,how,hvM⟩:=id hj.own
   have q0:=hv.range 0 _ rfl
   rw [Nat.zero_add] at q0
   clear hit hh hmp
   gi_wp2
   refine ⟨by simp,.inl ⟨_,_,rfl,run_takeDeferred hdf,?_⟩⟩
   have hbf:Below w0.heap.size V (V.putObj D (.deferred none)):=(but_put V D _).below (by have:=hj.sz;omega) (fun k hk=>by omega)
   refine ⟨_,results_tmp rfl _ _ _,_,rfl,?_,hj.bel.trans hbf⟩
   show OwnZ w0.heap.size _ v _
   exact (how.mono (by omega)).same (fun b e _=>World.putObj_heap_other (fun h=>by subst h;exact hDm (hvM _ e)))
 · intro D c M V hD hDl hDm h;exact h.elim
theorem tResolution_any (ok:Nat→Prop) (tb mb:Nat) (T:Tr) (hK:TrOK T) (x:Int) (hx:0≤x∧x<2*(T.n:Int) - 1) (w:World) (hT:DbT w) (h:TrAt ok w tb mb T) :
 Calls Tryz.prog 39 #[pA tb 0,.int .i64 x] w fun e w'=>∃ v,e = .returned v∧OwnZ w.heap.size w' v (rso T x)∧Below w.heap.size w w':=by
 have c:=hasPlace_any tb T.n x hK.may w h.lv
 rw [decide_eq_true hx.1,decide_eq_true hx.2] at c
 have hn:=hK.n64
 have cR:=resolution_any ok tb mb T hK 7 x (Nat.le_refl _) hx.1 (by omega) (by have:=lev_le6 (y:=x.toNat) (by omega);omega) w hT h
 clear h hT
 go_enter Tryz.func39,Tryz.ntmps39
 go_wp2_with (first
  | (go_at_call 91;refine c.mono ?_;clear c;rintro e w1 ⟨rfl,rfl⟩)
  | (go_at_call 108;refine cR.mono ?_;clear cR;rintro e w2 ⟨v,rfl,h2⟩))
 go_ret
 exact ⟨_,rfl,h2⟩
end Go.Proofs.YtddkbmnkbfciaaaGreatDoor
namespace Go.Proofs.YtddkbmnkbfciaaaGreatDoor
open Go.RowKit Go.Shelf
attribute [local go_sem] Oper.semAt_some
def filK (T:Tr) (xs ys:List Int):Nat→List Int
 | 0=>[]
 | k+1=>filK T xs ys k ++ (if (rso T ((ys[k]?).getD 0)).isEmpty then [] else [(xs[k]?).getD 0])
theorem filK_len (T:Tr) (xs ys:List Int):∀ m,(filK T xs ys m).length≤m
 | 0=>Nat.le_refl _
 | m+1=>by have:=filK_len T xs ys m;unfold filK;split <;> simp <;> omega
def filL (T:Tr) (i:Int):List Int:=filK T (pathL i T.n) (copathL i T.n) (pathL i T.n).length
set_option maxRecDepth 100000 in
set_option maxHeartbeats 4000000 in
theorem tFiltered_any (ok:Nat→Prop) (tb mb:Nat) (T:Tr) (hK:TrOK T) (i:Int) (hi:0≤i∧i<T.n) (w:World) (hT:DbT w) (h:TrAt ok w tb mb T) :
 Calls Tryz.prog 38 #[pA tb 0,.int .i64 i] w fun e w'=>∃ v,e = .returned v∧OwnZ w.heap.size w' v (filL T i)∧Below w.heap.size w w':=by
 have hlv:=h.lv
 have hn64:=hK.n64
 have htl:=h.tlt
 have cA:=thasLeaf_any tb T.n i (by omega) w hlv
 rw [decide_eq_true hi.1,decide_eq_true hi.2] at cA
 obtain ⟨W0,hW0⟩:∃ W0,W0=(w.alloc (.cells #[.slice none 0 0] 51)):=⟨_,rfl⟩
 have r0:RW W0 w.heap.size 0 [.slice none 0 0]:=by rw [hW0];exact RW.fresh w [.slice none 0 0] 51
 have b1:Below w.heap.size w W0:=by rw [hW0];exact ((Below.refl _ _).alloc (Nat.le_refl _) _)
 have s1:W0.heap.size=w.heap.size+1:=by rw [hW0];simp
 have cM:=filtered_call tb i W0
 obtain ⟨W2,hW2⟩:∃ W2,W2=(W0.alloc (.cells #[pA tb 0] 23)).alloc (.cells #[.int .i64 i] 3):=⟨_,rfl⟩
 have r2:RW W2 W0.heap.size 0 [pA tb 0]:=by
  rw [hW2];exact (RW.fresh W0 [pA tb 0] 23).still ((Below.refl _ _).alloc (Nat.le_refl _) _)
 have r3:RW W2 (W0.heap.size+1) 0 [.int .i64 i]:=by
  have:=RW.fresh (W0.alloc (.cells #[pA tb 0] 23)) [.int .i64 i] 3
  rw [World.size_alloc] at this
  rw [hW2];exact this
 have b2:Below W0.heap.size W0 W2:=by rw [hW2];exact ((Below.refl _ _).alloc (Nat.le_refl _) _).alloc (by simp) _
 have s2:W2.heap.size=w.heap.size+3:=by rw [hW2];simp;omega
 rw [←hW2] at cM
 rw [s1] at cM r2 r3
 replace r0:=r0.still b2
 have bw:=below_next b1 b2
 have hit:=filtered_it ok (w.heap.size+1+1) (w.heap.size+1) tb mb T hK i
 have hx7:=pathL_len i T.n
 have HW0:=Hid.mk' hW0
 have Hs2:=Hid.mk' s2
 unfold filL
 generalize pathL i T.n=xs at *
 generalize copathL i T.n=ys at *
 clear hW0 hW2 b1 b2 s1
 obtain ⟨nn,-⟩:∃ nn:Nat,True:=⟨1,trivial⟩
 refine (callsIn_wide (n:=nn)).1 ?_
 refine callsIn_of_wp_marks Tryz.func38 rfl trivial ?_ rfl
 simp only [Tryz.ntmps38,List.size_toArray,List.length_cons,List.length_nil,Nat.reduceAdd,Nat.reduceSub,Array.replicate_succ,Array.replicate_zero,List.push_toArray,List.append_toArray,List.nil_append,List.cons_append]
 gi_wp2_with (first
  | (rw [←HW0.out];clear HW0)
  | (refine ⟨trivial,(fun h=>by cases h),?_⟩;gi_at_call 87;refine (callsIn_wide.2 cA).mono ?_;clear cA;rintro e w0 ⟨rfl,rfl⟩)
  | (refine ⟨trivial,(fun h=>by cases h),?_⟩;gi_at_call 102;refine (callsIn_wide.2 cM).mono ?_;clear cM;rintro e w1 ⟨rfl,rfl⟩))
 have hbq:∀ q∈[(w0.heap.size+1,pA tb 0),(w0.heap.size+1+1,Value.int .i64 i)],q.1<w1.heap.size∧q.1≠w0.heap.size:=fun q hq=>by
  simp only [List.mem_cons,List.not_mem_nil,or_false] at hq
  rcases hq with rfl | rfl
  · exact ⟨by show w0.heap.size+1<_;omega,by show w0.heap.size+1≠_;omega⟩
  · exact ⟨by show w0.heap.size+1+1<_;omega,by show w0.heap.size+1+1≠_;omega⟩
 refine range_it hit rfl (enters_of Tryz.func170 (by kernel_rfl) rfl)
  (fun k=>GatJ w0 w1.heap.size w0.heap.size [(w0.heap.size+1,pA tb 0),(w0.heap.size+1+1,.int .i64 i)] (filK T xs ys k))
  (fun _ _ _=>False) (fun _=>False) ?_ ?_ ?_ ?_ ?_ (fun b hb=>hb.elim) ?_ ?_ ?_ ?_
 · intro k M V V' hj hL;exact hj.loc hL (by omega) (by omega) (fun q hq=>(hbq q hq).1)
 · intro c M V V' h;exact h.elim
 · intro k M V hk hj
   exact ⟨(hj.bx _ (List.mem_cons_self ..)).range 0 _ rfl,(hj.bx _ (List.mem_cons_of_mem _ (List.mem_cons_self ..))).range 0 _ rfl,hT.keep hj.bel,h.below hj.bel⟩
 · intro k M V hk ha hj
   have e:filK T xs ys (k+1)=filK T xs ys k:=by
    unfold filA at ha
    rw [filK]
    split at ha
    · rename_i hc;rw [if_pos hc,List.append_nil]
    · cases ha
   rw [e];exact hj
 · intro k a' ha
   unfold filA at ha
   split at ha
   · cases ha
   · cases ha;rfl
 · intro V hb
   exact GatJ.start (r0.still hb) (fun q hq=>by
    simp only [List.mem_cons,List.not_mem_nil,or_false] at hq
    rcases hq with rfl | rfl
    · exact r2.still hb
    · exact r3.still hb) (below_next bw hb) hb.size
 · intro k M V l a' hk ha hj hl1 hl2 hl3
   have eL:filK T xs ys (k+1)=filK T xs ys k ++ [(xs[k]?).getD 0]:=by
    unfold filA at ha
    rw [filK]
    split at ha
    · cases ha
    · rename_i hc;rw [if_neg hc]
   have ea:a'=#[.int .i64 ((xs[k]?).getD 0),.int .i64 ((ys[k]?).getD 0)]:=by
    unfold filA at ha
    split at ha
    · cases ha
    · cases ha;rfl
   subst ea
   have hlen:=filK_len T xs ys k
   rw [eL]
   have hm64:k≤64:=by omega
   generalize filK T xs ys k=l1 at *
   generalize (xs[k]?).getD 0=m at *
   generalize (ys[k]?).getD 0=m2 at *
   clear ha hit hj eL hk h hT
   gi_wp2
   refine ⟨Below.refl _ _,fun V2 hbt hsz hj2 => ?_⟩
   have Hsz:=Hid.mk' hsz
   have hoB:w0.heap.size<w1.heap.size:=by omega
   clear hsz s2
   obtain ⟨v,hv,how,hvM⟩:=id hj2.own
   obtain ⟨xo,co,rfl⟩:=how.slice
   have q0:=hv.range 0 _ rfl
   rw [Nat.zero_add] at q0
   obtain ⟨V1,hV1⟩:∃ V1,V1=V2.alloc (.cells #[.int .i64 m] 3):=⟨_,rfl⟩
   have bV1:Below V2.heap.size V2 V1:=by rw [hV1];exact (Below.refl _ _).alloc (Nat.le_refl _) _
   have ow1:=how.below bV1
   have zo1:=zo_one V2 m
   rw [←hV1] at zo1
   have hB1:w1.heap.size≤V1.heap.size:=Nat.le_trans hj2.sz bV1.size
   have HV1:=Hid.mk' hV1
   clear hV1
   gi_wp2_with (first
    | (rw [←HV1.out])
    | (gi_at_builtin;refine wpListIn_append_rd rfl (.tmp 16) (.tmp 18) rfl w1.heap.size _ _ _ rfl ow1 _ _ _ rfl zo1 (by simp;omega) hB1 ?_;intro v3 V3 own3 hg3 hli hb3;(obtain ⟨x3,c3,rfl⟩:=own3.slice);(have k3:=hj2.kept hv hvM HV1.out hg3 hoB);(have q3:=k3.range 0 _ rfl);(have q4:=(k3.there 0 (by simp)).2);(rw [Nat.zero_add] at q3 q4)))
   obtain ⟨hF,M',hM',hj3⟩:=hj2.more hv how hvM HV1.out own3 hg3 hli (Nat.le_refl _) hoB hbq
   have e1:(l1 ++ [m]).length=l1.length+1:=by simp
   rw [e1] at hF hj3
   exact ⟨hF,M',fun b hb=>by rw [←Hsz.out];exact hM' b hb,hj3⟩
 · intro D M V hD hDl hDm hj hdf
   obtain ⟨v,hv,how,hvM⟩:=id hj.own
   have q0:=hv.range 0 _ rfl
   rw [Nat.zero_add] at q0
   clear hit h hT
   gi_wp2
   refine ⟨by simp,.inl ⟨_,_,rfl,run_takeDeferred hdf,?_⟩⟩
   have hbf:Below w0.heap.size V (V.putObj D (.deferred none)):=(but_put V D _).below (by have:=hj.sz;omega) (fun k hk=>by omega)
   refine ⟨_,results_tmp rfl _ _ _,_,rfl,?_,hj.bel.trans hbf⟩
   show OwnZ w0.heap.size _ v _
   exact (how.mono (by omega)).same (fun b e _=>World.putObj_heap_other (fun h=>by subst h;exact hDm (hvM _ e)))
 · intro D c M V hD hDl hDm h;exact h.elim
end Go.Proofs.YtddkbmnkbfciaaaGreatDoor
namespace Go.Proofs.YtddkbmnkbfciaaaGreatDoor
open Go.RowKit Go.Shelf
structure NoT (p:Value) (w:World):Prop where
 made:Calls Tryz.prog 54 #[p] w fun e w'=>e = .returned (.bool false)∧w'=w
 leaf:∀ i:Int,Calls Tryz.prog 87 #[p,.int .i64 i] w fun e w'=>e = .returned (.bool false)∧w'=w
 place:∀ i:Int,Calls Tryz.prog 91 #[p,.int .i64 i] w fun e w'=>e = .returned (.bool false)∧w'=w
theorem NoT.nil (w:World):NoT (.pointer none) w:=⟨tmade_nil w,fun i=>thasLeaf_nil i w,fun i=>hasPlace_nil i w⟩
theorem NoT.zero (tb:Nat) (w:World) (hc:w.cell? ⟨tb,0,none⟩=some (.int .i64 0)):NoT (pA tb 0) w:=⟨tmade_any tb 0 w hc,fun i=>thasLeaf_zero tb i w hc,fun i=>hasPlace_zero tb i w hc⟩
def NoP (p:Value) (w:World):Prop:=p = .pointer none∨∃ tb,p=pA tb 0∧w.cell? ⟨tb,0,none⟩=some (.int .i64 0)
theorem NoP.keep {p:Value} {w w':World} (h:NoP p w) (hb:Below w.heap.size w w'):NoP p w':=by
 rcases h with rfl | ⟨tb,rfl,hc⟩
 · exact .inl rfl
 · exact .inr ⟨tb,rfl,(hb.cell (p:=⟨tb,0,none⟩) (block_lt_of_cell hc)).trans hc⟩
theorem NoP.no {p:Value} {w:World} (h:NoP p w):NoT p w:=by
 rcases h with rfl | ⟨tb,rfl,hc⟩
 · exact NoT.nil w
 · exact NoT.zero tb w hc
end Go.Proofs.YtddkbmnkbfciaaaGreatDoor
namespace Go.Proofs.YtddkbmnkbfciaaaGreatDoor
open Go.RowKit Go.Shelf
section
variable {P:Program} {md:Region.Mode} {ops:Array Oper} {Q:Exit→Act→World→Prop} {S:World→Prop} {fuel:Nat} {listed:Array Bool} {a:Act} {w:World}
theorem ab (i:Nat) {oi:Oper} {cs:Array Value} {t:TypeId} {X:World} (hX:X=w.alloc (.cells cs t)) (hS:S X) (h:wpAnyH P md ops Q S fuel (listed.setIfInBounds i true) (a.put oi.dst (pA w.heap.size 0)) X)
 (hi:ops.toList[i]? = some oi:=by rfl) (hr:Region.ready md ops listed=[i]:=by kernel_rfl) (hw:Region.wanted oi (yielded ops a.tmps)=true:=by rfl) (hrun:(execOp a.eval oi).run P w = .ok (.value (pA w.heap.size 0)) (w.alloc (.cells cs t)):=by kernel_rfl):wpAnyH P md ops Q S (fuel+1) listed a w:=by
 subst hX
 exact wpAnyH_ready hr (by simp) (arA oi ⟨hS,h⟩ AllReadyH.nil hrun (at_list hi) hw)
end
set_option maxRecDepth 20000 in
set_option maxHeartbeats 2000000 in
theorem mclone_any (b:Nat) (es:Array MapEntry) (clock:Nat) (w:World) (hb:w.heap[b]? = some (.map es clock)) :
 Calls Tryz.prog 55 #[.map (some b)] w fun e w'=>e = .returned (.map (some w.heap.size))∧w'=w.alloc (.map es clock):=by
 have hq:=fun w=>run_eql_map_nil_sl (P:=Tryz.prog) w 69 _ _ (some b) und_map
 go_enter Tryz.func55,Tryz.ntmps55
 go_wp2
 rw [run_callFunc_extern Tryz.func127 (by kernel_rfl) (by kernel_rfl) (by kernel_rfl) (e:=Extern.MapsClone.clone) (by kernel_rfl),run_maps_clone_sl w 69 hb]
 simp only [Result.andThen]
 rw [Oper.upon_value]
 go_wp2
 rw [run_typeAssert_map_sl _ 69 _ _ _ _ und_map]
 simp only [Result.andThen]
 rw [Oper.upon_value]
 go_wp2
 go_ret
 exact ⟨rfl,rfl⟩
theorem MpAt.clone {w:World} {b:Nat} {f:Int→Option Value} (h:MpAt w b f):Calls Tryz.prog 55 #[.map (some b)] w fun e w'=>e = .returned (.map (some w.heap.size))∧MpAt w' w.heap.size f∧Below w.heap.size w w'∧w'.heap.size=w.heap.size+1:=by
 obtain ⟨es,clock,h1,h2⟩:=h
 refine (mclone_any b es clock w h1).mono ?_
 rintro e w' ⟨rfl,rfl⟩
 exact ⟨rfl,⟨es,clock,World.alloc_heap_new w _,h2⟩,(Below.refl _ _).alloc (Nat.le_refl _) _,by simp⟩
theorem tCopy_any (ok:Nat→Prop) (tb mb:Nat) (T:Tr) (hn:1≤T.n) (w:World) (h:TrAt ok w tb mb T) :
 Calls Tryz.prog 13 #[pA tb 0] w fun e w'=>∃ t2 m2,e = .returned (pA t2 0)∧w.heap.size≤t2∧w.heap.size≤m2∧TrAt (fun b=>ok b∧b<w.heap.size) w' t2 m2 T∧Below w.heap.size w w':=by
 have cM:=tmade_any tb T.n w h.lv
 rw [decide_eq_true (by omega)] at cM
 obtain ⟨f,hmp,hh⟩:=h.mp
 have hlv:=h.lv
 have hst:=h.st
 have bd:Below w.heap.size w w.drew:=(Below.refl _ _).drew
 have cC:=(hmp.below bd hmp.lt).clone
 have c1:∀ u,Below w.heap.size w u→u.cell? ⟨tb,0,none⟩=some (.int .i64 (T.n:Int)):=fun u hu=>(h.below hu).lv
 have c2:∀ u,Below w.heap.size w u→u.cell? ⟨tb,1,none⟩=some (.map (some mb)):=fun u hu=>(h.below hu).st
 clear hmp hlv hst h
 go_enter Tryz.func13,Tryz.ntmps13
 go_wp2_with (go_at_call 54;refine cM.mono ?_;clear cM;rintro e w1 ⟨rfl,rfl⟩)
 refine wp_region_held_drew (S:=fun u=>Below w1.heap.size w1 u) (by kernel_rfl) bd (fun hS => ?_)
 refine tg 0 hS ?_
 (try simp only [pS])
 refine tg 1 hS ?_
 (try simp only [pS])
 refine tg 2 hS ?_
 (try simp only [pS])
 refine tc 3 hS c1 ?_
 (try simp only [pS])
 refine tg 4 hS ?_
 (try simp only [pS])
 refine tg 5 hS ?_
 (try simp only [pS])
 refine tg 6 hS ?_
 (try simp only [pS])
 refine tc 7 hS c2 ?_
 (try simp only [pS])
 refine cl 8 cC ?_
 rintro e w2 ⟨rfl,hm2,b2,s2⟩
 replace b2:=below_next bd b2
 refine ⟨_,rfl,b2,?_⟩
 (try simp only [pS])
 refine tg 9 b2 (v := .agg #[.int .i64 (T.n:Int),.map (some w1.heap.size)]) ?_
 (try simp only [pS])
 obtain ⟨X,hX⟩:∃ X,X=w2.alloc (.cells #[.int .i64 (T.n:Int),.map (some w1.heap.size)] 71):=⟨_,rfl⟩
 have bX:Below w2.heap.size w2 X:=by rw [hX];exact (Below.refl _ _).alloc (Nat.le_refl _) _
 have b3:=below_next b2 bX
 refine ab 10 hX b3 ?_
 (try simp only [pS])
 refine tg 11 b3 ?_
 (try simp only [pS])
 refine wpAnyH_done (by kernel_rfl) ?_ _
 go_wp2
 go_ret
 refine ⟨w1.heap.size+1,w1.heap.size,rfl,by omega,Nat.le_refl _,?_,b3⟩
 have es:w2.heap.size=w1.heap.size+1:=s2
 have hX0:X.heap[w1.heap.size+1]? = some (.cells #[.int .i64 (T.n:Int),.map (some w1.heap.size)] 71):=by
  rw [hX,←es];exact World.alloc_heap_new w2 _
 have k:RW X (w1.heap.size+1) 0 [.int .i64 (T.n:Int),.map (some w1.heap.size)]:=by rw [←es,hX];exact RW.fresh w2 _ _
 have q0:=k.range 0 _ rfl
 have q1:=k.range 1 _ rfl
 have q2:=(k.there 0 (by simp)).2
 rw [Nat.zero_add] at q0 q1 q2
 have hm3:MpAt X w1.heap.size f:=MpAt.below (w:=w2) hm2 bX (by rw [es];exact Nat.lt_succ_self _)
 exact ⟨q0,q2,q1,⟨f,hm3,(hh.wide (fun b hb ho=>⟨ho,hb⟩)).same b3.size (fun b hb _=>b3.block b hb)⟩,fun h=>by omega,fun h=>by omega⟩
end Go.Proofs.YtddkbmnkbfciaaaGreatDoor
namespace Go.Proofs.YtddkbmnkbfciaaaGreatDoor
open Go.RowKit Go.Shelf
set_option maxRecDepth 20000 in
theorem zIndex_any {ok:Nat→Prop} (s:Value) (l:List Int) (v:Int) (hl:l.length≤100000) (w:World) (hs:ZO ok w s l):Calls Tryz.prog 235 #[s,.int .i64 v] w fun e w'=>(∃ z:Int,e = .returned (.int .i64 z)∧decide (0≤z)=decide (v∈l))∧w'=w:=by
 obtain ⟨xo,co,rfl,hc,-,hz⟩:=hs
 go_enter Tryz.func235,Tryz.ntmps235
 go_wp2
 go_loopw [8] (fun s wr=>∃ k:Nat,k≤l.length∧s = .int .i64 (k:Int)∧(∀ j,j<k→l[j]?≠some v)∧wr=w) (fun s _=>l.length - (intOf s).toNat)
 case atStart=>exact ⟨0,Nat.zero_le _,rfl,fun j h=>absurd h (Nat.not_lt_zero _),rfl⟩
 case round =>
  obtain ⟨k,hk,rfl,hno,rfl⟩:=hrel
  by_cases hlt:k<l.length
  · obtain ⟨x,hx⟩:∃ x,l[k]? = some x:=⟨_,List.getElem?_eq_getElem hlt⟩
    obtain ⟨g,o,rfl,-,-,hgc⟩:=hz k x hx
    have hlt':(k:Int)<(l.length:Int):=by omega
    have hk0:(0:Int)≤(k:Int):=by omega
    have Hno:=Hid.mk' hno
    have Hx:=Hid.mk' hx
    clear hz hno hx
    by_cases e:v=x
    · subst e
      go_wp2
      go_ret
      have hm:v∈l:=List.mem_of_getElem? Hx.out
      exact ⟨⟨_,rfl,by rw [decide_eq_true hk0,decide_eq_true hm]⟩,rfl⟩
    · have hb:(v == x)=false:=by simpa using e
      go_wp2
      refine ⟨⟨k+1,hlt,by simp,fun j hj => ?_,by first | rfl | trivial⟩,by simp [intOf];omega⟩
      by_cases h:j=k
      · subst h;rw [Hx.out];exact fun h=>e (by cases h;rfl)
      · exact Hno.out j (by omega)
  · obtain rfl:k=l.length:=by omega
    have hlt':¬((l.length:Nat):Int)<(l.length:Int):=by omega
    have Hno:=Hid.mk' hno
    clear hz hno
    go_wp2
    go_ret
    have hm:v ∉ l:=fun h=>by
     obtain ⟨j,hj,e⟩:=List.getElem_of_mem h
     exact Hno.out j hj (by rw [List.getElem?_eq_getElem hj,e])
    exact ⟨⟨_,rfl,by simp [hm]⟩,rfl⟩
theorem zContains_any {ok:Nat→Prop} (s:Value) (l:List Int) (v:Int) (hl:l.length≤100000) (w:World) (hs:ZO ok w s l):Calls Tryz.prog 199 #[s,.int .i64 v] w fun e w'=>e = .returned (.bool (decide (v∈l)))∧w'=w:=by
 have c:=zIndex_any s l v hl w hs
 clear hs
 go_enter Tryz.func199,Tryz.ntmps199
 go_wp2_with (go_at_call 235;refine c.mono ?_;clear c;rintro e w1 ⟨⟨z,rfl,hz⟩,rfl⟩)
 go_ret
 exact ⟨rfl,rfl⟩
def delV (gb:Nat):Value := .func (.func 250) #[] #[pA gb 0]
structure DelB (w:World) (gb:Nat) (gone:List Int):Prop where
 bx:∃ s,w.cell? ⟨gb,0,none⟩=some s∧∃ ok,ZO ok w s gone∧∀ b,ok b→b<gb
 len:gone.length≤100000
theorem del_any (gb:Nat) (gone:List Int) (i:Int) (w:World) (h:DelB w gb gone):Calls Tryz.prog 250 #[.int .i64 i,pA gb 0] w fun e w'=>e = .returned (.bool (decide (i∈gone)))∧w'=w:=by
 obtain ⟨s,hc,ok,hz,-⟩:=h.bx
 have c:=zContains_any s gone i h.len w hz
 clear hz h
 go_enter Tryz.func250,Tryz.ntmps250
 go_wp2_with (go_at_call 199;refine c.mono ?_;clear c;rintro e w1 ⟨rfl,rfl⟩)
 go_ret
 exact ⟨rfl,rfl⟩
set_option maxRecDepth 20000 in
theorem zIndexFunc_any {ok:Nat→Prop} (s:Value) (l:List Int) (gb:Nat) (gone:List Int) (hl:l.length≤100000) (w:World) (hs:ZO ok w s l) (hd:DelB w gb gone):Calls Tryz.prog 276 #[s,delV gb] w fun e w'=>((∃ k:Nat,e = .returned (.int .i64 (k:Int))∧k<l.length∧(∀ j x,j<k→l[j]? = some x→x ∉ gone)∧∃ x,l[k]? = some x∧x∈gone)∨e = .returned (.int .i64 (-1))∧∀ x∈l,x ∉ gone)∧w'=w:=by
 obtain ⟨xo,co,rfl,hc,-,hz⟩:=hs
 have cD:=fun i=>del_any gb gone i w hd
 clear hd
 unfold delV
 go_enter Tryz.func276,Tryz.ntmps276
 go_wp2
 go_loopw [8] (fun s wr=>∃ k:Nat,k≤l.length∧s = .int .i64 (k:Int)∧(∀ j x,j<k→l[j]? = some x→x ∉ gone)∧wr=w) (fun s _=>l.length - (intOf s).toNat)
 case atStart=>exact ⟨0,Nat.zero_le _,rfl,fun j x h=>absurd h (Nat.not_lt_zero _),rfl⟩
 case round =>
  obtain ⟨k,hk,rfl,hno,rfl⟩:=hrel
  by_cases hlt:k<l.length
  · obtain ⟨x,hx⟩:∃ x,l[k]? = some x:=⟨_,List.getElem?_eq_getElem hlt⟩
    obtain ⟨g,o,rfl,-,-,hgc⟩:=hz k x hx
    have hlt':(k:Int)<(l.length:Int):=by omega
    have hk0:(0:Int)≤(k:Int):=by omega
    have Hno:=Hid.mk' hno
    have Hx:=Hid.mk' hx
    have c:=cD x
    clear hz hno hx cD
    by_cases e:x∈gone
    · rw [decide_eq_true e] at c
      go_wp2_with (go_at_call 250;refine c.mono ?_;clear c;rintro e w1 ⟨rfl,rfl⟩)
      go_ret
      exact ⟨.inl ⟨k,rfl,hlt,Hno.out,x,Hx.out,e⟩,rfl⟩
    · rw [decide_eq_false e] at c
      go_wp2_with (go_at_call 250;refine c.mono ?_;clear c;rintro e w1 ⟨rfl,rfl⟩)
      refine ⟨⟨k+1,hlt,by simp,fun j y hj hy => ?_,by first | rfl | trivial⟩,by simp [intOf];omega⟩
      by_cases h:j=k
      · subst h;rw [Hx.out] at hy;cases hy;exact e
      · exact Hno.out j y (by omega) hy
  · obtain rfl:k=l.length:=by omega
    have hlt':¬((l.length:Nat):Int)<(l.length:Int):=by omega
    have Hno:=Hid.mk' hno
    clear hz hno cD
    go_wp2
    go_ret
    refine ⟨.inr ⟨rfl,fun x hx => ?_⟩,rfl⟩
    obtain ⟨j,hj,e⟩:=List.getElem_of_mem hx
    exact Hno.out j x hj (by rw [List.getElem?_eq_getElem hj,e])
end Go.Proofs.YtddkbmnkbfciaaaGreatDoor
