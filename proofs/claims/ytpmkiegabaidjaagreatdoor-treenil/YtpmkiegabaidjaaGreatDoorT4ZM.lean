/- What the proof stands on: T4Z, T5A, T5B, T5C, T5D, T5E, T5F. -/
import Derived.Test.YtpmkiegabaidjaaGreatDoorT4QM
import Derived.Shelf.SlMaps.Clone
namespace Go.Proofs.YtpmkiegabaidjaaGreatDoor
open Go.RowKit Go.Shelf
attribute [local go_sem] Oper.semAt_some
theorem wpListIn_append_rd {n l:Nat} {w:World} {ops:Array Oper} {rest:List Oper} {o:Oper} {a:Act} {Q:Exit→Act→World→Prop} (hw:Region.wanted o (yielded ops a.tmps)=true) (s x:Operand)
 (ho:o.op = .call { callee := .builtin .append,args:=#[s,x],argTypes:=#[51,51] }) (base:Nat) (v:Value) (l1 l2:List Int) (hs:a.eval s=v) (hown:OwnZ base w v l1) {ok:Nat→Prop} (xo:Option Addr) (m c:Nat) (hx:a.eval x = .slice xo m c) (hsrc:ZO ok w (.slice xo m c) l2)
 (hl:l1.length+l2.length≤1000000) (hbase:base≤w.heap.size) (h:∀ v' w',OwnZ base w' v' (l1 ++ l2)→w.grownBy w' v.ownBlock→Lies w v v'→Below base w w'→wpListIn (Fence.wide.inRound l) n Tryz.prog ops Q rest (a.put o.dst v') w'):wpListIn (Fence.wide.inRound l) n Tryz.prog ops Q (o :: rest) a w :=
 wpListIn_step fun K hK=>by
  obtain ⟨v',w',h1,h2,h3,h4⟩:=run_append_zs w o.type base v l1 l2 hown xo m c hsrc hl hbase
  simp only [hw,if_true]
  refine ⟨fun _ _=>trivial,?_⟩
  have hsem:(o.semAt (Fence.wide.inRound l).round a.eval)=execOp a.eval o:=Oper.semAt_some l _ _ (fun c e=>by rw [ho] at e;cases e)
  rw [hsem]
  unfold execOp
  simp only [ho,resolve,invoke,builtin,Sem.run_bind,Sem.run_pure,Result.andThen_ok,List.map_toArray,List.map_cons,List.map_nil,hs,hx,h1]
  exact hK _ _ (h v' w' h2 h3 h4 (below_grown (Below.refl _ _) h3 hown (Nat.le_refl _) hbase))
theorem OwnZ.same {base:Nat} {w w':World} {v:Value} {l:List Int} (h:OwnZ base w v l) (hs:∀ b,v.ownBlock=some b→b<w.heap.size→w'.heap[b]? = w.heap[b]?):OwnZ base w' v l:=by
 obtain ⟨h1,h2 | ⟨g,cap,cur,hv,hg,r⟩⟩:=h
 · exact ⟨h1,.inl h2⟩
 · refine ⟨h1,.inr ⟨g,cap,cur,hv,hg,?_⟩⟩
   rw [hs g (by rw [hv];rfl) (Array.getElem?_eq_some_iff.1 r.1).1];exact r
structure GatJ (w:World) (B ob:Nat) (L:List (Nat × Value)) (l:List Int) (M:Nat→Prop) (W:World):Prop where
 own:∃ v,RW W ob 0 [v]∧OwnZ B W v l∧∀ b,v.ownBlock=some b→M b
 bx:∀ q∈L,RW W q.1 0 [q.2]
 bel:Below w.heap.size w W
 mB:∀ b,M b→B≤b
 sz:B≤W.heap.size
theorem GatJ.loc {w:World} {B ob:Nat} {L:List (Nat × Value)} {l:List Int} {M:Nat→Prop} {W W':World} (h:GatJ w B ob L l M W) (hL:Loc B M W W') (hw:w.heap.size≤B) (ho:ob<B) (hb:∀ q∈L,q.1<B):GatJ w B ob L l M W':=by
 obtain ⟨v,h1,h2,h3⟩:=h.own
 exact ⟨⟨v,hL.rw h1 (.inl ho),h2.same (fun b e hb=>hL.block b hb (.inr (h3 b e))),h3⟩,fun q hq=>hL.rw (h.bx q hq) (.inl (hb q hq)),h.bel.trans ((hL.below h.sz).mono hw),h.mB,Nat.le_trans h.sz hL.size⟩
theorem GatJ.start {w:World} {B ob:Nat} {L:List (Nat × Value)} {W:World} (ho:RW W ob 0 [.slice none 0 0]) (hb:∀ q∈L,RW W q.1 0 [q.2]) (h:Below w.heap.size w W) (hs:B≤W.heap.size):GatJ w B ob L [] (fun _=>False) W :=
 ⟨⟨_,ho,OwnZ.nil _ _,fun b e=>by cases e⟩,hb,h,fun _ h=>h.elim,hs⟩
theorem GatJ.kept {w:World} {B ob:Nat} {L:List (Nat × Value)} {l:List Int} {M:Nat→Prop} {V V1 V3:World} {y:Int} {v:Value} (h:GatJ w B ob L l M V) (hv:RW V ob 0 [v]) (hvM:∀ b,v.ownBlock=some b→M b)
 (hV1:V1=V.alloc (.cells #[.int .i64 y] 3)) (hg:V1.grownBy V3 v.ownBlock) (ho:ob<B):RW V3 ob 0 [v]:=by
 have b1:Below V.heap.size V V1:=by rw [hV1];exact (Below.refl _ _).alloc (Nat.le_refl _) _
 have s1:V1.heap.size=V.heap.size+1:=by rw [hV1];simp
 have s3:V1.heap.size≤V3.heap.size:=hg.size
 have e3:V3.heap[ob]? = V.heap[ob]?:=(hg.block ob (by have:=h.sz;omega) (fun e=>by have:=h.mB ob (hvM ob e.symm);omega)).trans (b1.block ob (by have:=h.sz;omega))
 exact ⟨fun j x hx=>(World.cell?_of_block (w:=V) e3).trans (hv.range j x hx),fun j hj=>by
  rw [World.cell?_of_block (w:=V) e3,World.frozen?_of_block (w:=V) e3];exact hv.there j hj,by have:=hv.lt;omega⟩
theorem GatJ.more {w:World} {B ob:Nat} {L:List (Nat × Value)} {l:List Int} {M:Nat→Prop} {V V1 V3:World} {y:Int} {v v':Value} (h:GatJ w B ob L l M V) (hv:RW V ob 0 [v]) (how:OwnZ B V v l) (hvM:∀ b,v.ownBlock=some b→M b)
 (hV1:V1=V.alloc (.cells #[.int .i64 y] 3)) (own:OwnZ B V3 v' (l ++ [y])) (hg:V1.grownBy V3 v.ownBlock) (hl:Lies V1 v v') (hw:w.heap.size≤ob) (ho:ob<B) (hb:∀ q∈L,q.1<B∧q.1≠ob) :
 Fro B M V (V3.setCells ob 0 [v'])∧∃ M':Nat→Prop,(∀ b,M' b→M b∨V.heap.size≤b)∧GatJ w B ob L (l ++ [y]) M' (V3.setCells ob 0 [v']):=by
 have b1:Below V.heap.size V V1:=by rw [hV1];exact (Below.refl _ _).alloc (Nat.le_refl _) _
 have s1:V1.heap.size=V.heap.size+1:=by rw [hV1];simp
 have s3:V1.heap.size≤V3.heap.size:=hg.size
 have e3:∀ b,b<V.heap.size→¬M b→V3.heap[b]? = V.heap[b]?:=fun b hb hm=>(hg.block b (by omega) (fun e=>hm (hvM b e.symm))).trans (b1.block b hb)
 have eB:∀ b,b<B→V3.heap[b]? = V.heap[b]?:=fun b hb=>e3 b (by have:=h.sz;omega) (fun hm=>by have:=h.mB b hm;omega)
 have rB:∀ (q:Nat) (u:Value),q<B→RW V q 0 [u]→RW V3 q 0 [u]:=fun q u hq hr =>
  ⟨fun j x hx=>(World.cell?_of_block (w:=V) (eB q hq)).trans (hr.range j x hx),fun j hj=>by
    rw [World.cell?_of_block (w:=V) (eB q hq),World.frozen?_of_block (w:=V) (eB q hq)];exact hr.there j hj,by have:=hr.lt;omega⟩
 have hvo:=rB ob v ho hv
 have ss:(V3.setCells ob 0 [v']).heap.size=V3.heap.size:=by simp [World.setCells]
 have es:∀ b,b≠ob→(V3.setCells ob 0 [v']).heap[b]? = V3.heap[b]?:=fun b hb=>Below.heap_setCell _ _ _ _ hb
 have hne:∀ b,v'.ownBlock=some b→B≤b:=fun b e=>(World.ownsRow.lt own b e).1
 refine ⟨⟨by omega,fun b hb hB hm=>(es b (by omega)).trans (e3 b hb hm)⟩,fun b=>v'.ownBlock=some b,fun b e => ?_,?_⟩
 · rcases hl with hl | hl
   · exact .inl (hvM b (by rw [←hl];exact e))
   · rw [hl] at e;cases e;exact .inr (by omega)
 · refine ⟨⟨v',hvo.stored [v'] rfl,own.same (fun b e _=>es b (by have:=hne b e;omega)),fun b e=>e⟩,fun q hq=>(rB q.1 q.2 (hb q hq).1 (h.bx q hq)).far ob 0 [v'] (.inl (hb q hq).2),?_,hne,by have:=h.sz;omega⟩
   have:Below w.heap.size w V3:=by
    have hg':=below_grown ((Below.refl w.heap.size V1)) hg (own_below how b1) (by omega) (by have:=h.sz;omega)
    exact h.bel.trans ((b1.mono (by have:=h.sz;omega)).trans hg')
   exact this.setCell hw _
theorem tResolution_none (p:Value) (x:Int) (w:World) (c:Calls Tryz.prog 91 #[p,.int .i64 x] w fun e w'=>e = .returned (.bool false)∧w'=w):Calls Tryz.prog 39 #[p,.int .i64 x] w fun e w'=>e = .returned (.slice none 0 0)∧w'=w:=by
 go_enter Tryz.func39,Tryz.ntmps39
 go_wp2_with (go_at_call 91;refine c.mono ?_;clear c;rintro e w1 ⟨rfl,rfl⟩)
 go_ret
 exact ⟨rfl,rfl⟩
theorem tResolution_any (ok:Nat→Prop) (tb mb:Nat) (T:Tr) (hK:TrOK T) (x:Int) (hx:0≤x∧x<2*(T.n:Int) - 1) (w:World) (hT:DbT w) (h:TrAt ok w tb mb T) :
 Calls Tryz.prog 39 #[pA tb 0,.int .i64 x] w fun e w'=>∃ v,e = .returned v∧OwnZ w.heap.size w' v (rso T x)∧Below w.heap.size w w':=by
 have c:=hasPlace_any tb T.n x hK.may w h.lv
 rw [decide_eq_true hx.1,decide_eq_true hx.2] at c
 have hn:=hK.n64
 have cR:=resolution_any ok tb mb T hK 7 x (Nat.le_refl _) hx.1 (by omega) (by have:=lev_le6 (y:=x.toNat) (by omega);omega) w hT h
 clear h hT
 go_enter Tryz.func39,Tryz.ntmps39
 go_wp2_with (first
  | (go_at_call 91;refine c.mono ?_;clear c;rintro e w1 ⟨rfl,rfl⟩)
  | (go_at_call 108;refine cR.mono ?_;clear cR;rintro e w2 ⟨v,rfl,h2⟩))
 go_ret
 exact ⟨_,rfl,h2⟩
end Go.Proofs.YtpmkiegabaidjaaGreatDoor
namespace Go.Proofs.YtpmkiegabaidjaaGreatDoor
open Go.RowKit Go.Shelf
attribute [local go_sem] Oper.semAt_some
theorem tFiltered_none (p:Value) (x:Int) (w:World) (c:Calls Tryz.prog 87 #[p,.int .i64 x] w fun e w'=>e = .returned (.bool false)∧w'=w):Calls Tryz.prog 38 #[p,.int .i64 x] w fun e w'=>e = .returned (.slice none 0 0)∧w'=w:=by
 go_enter Tryz.func38,Tryz.ntmps38
 go_wp2_with (go_at_call 87;refine c.mono ?_;clear c;rintro e w1 ⟨rfl,rfl⟩)
 go_ret
 exact ⟨rfl,rfl⟩
def filK (T:Tr) (xs ys:List Int):Nat→List Int
 | 0=>[]
 | k+1=>filK T xs ys k ++ (if (rso T ((ys[k]?).getD 0)).isEmpty then [] else [(xs[k]?).getD 0])
theorem filK_len (T:Tr) (xs ys:List Int):∀ m,(filK T xs ys m).length≤m
 | 0=>Nat.le_refl _
 | m+1=>by have:=filK_len T xs ys m;unfold filK;split <;> simp <;> omega
def filL (T:Tr) (i:Int):List Int:=filK T (pathL i T.n) (copathL i T.n) (pathL i T.n).length
set_option maxRecDepth 100000 in
set_option maxHeartbeats 4000000 in
theorem tFiltered_any (ok:Nat→Prop) (tb mb:Nat) (T:Tr) (hK:TrOK T) (i:Int) (hi:0≤i∧i<T.n) (w:World) (hT:DbT w) (h:TrAt ok w tb mb T) :
 Calls Tryz.prog 38 #[pA tb 0,.int .i64 i] w fun e w'=>∃ v,e = .returned v∧OwnZ w.heap.size w' v (filL T i)∧Below w.heap.size w w':=by
 have hlv:=h.lv
 have hn64:=hK.n64
 have htl:=h.tlt
 have cA:=thasLeaf_any tb T.n i (by omega) w hlv
 rw [decide_eq_true hi.1,decide_eq_true hi.2] at cA
 obtain ⟨W0,hW0⟩:∃ W0,W0=(w.alloc (.cells #[.slice none 0 0] 51)):=⟨_,rfl⟩
 have r0:RW W0 w.heap.size 0 [.slice none 0 0]:=by rw [hW0];exact RW.fresh w [.slice none 0 0] 51
 have b1:Below w.heap.size w W0:=by rw [hW0];exact ((Below.refl _ _).alloc (Nat.le_refl _) _)
 have s1:W0.heap.size=w.heap.size+1:=by rw [hW0];simp
 have cM:=filtered_call tb i W0
 obtain ⟨W2,hW2⟩:∃ W2,W2=(W0.alloc (.cells #[pA tb 0] 23)).alloc (.cells #[.int .i64 i] 3):=⟨_,rfl⟩
 have r2:RW W2 W0.heap.size 0 [pA tb 0]:=by
  rw [hW2];exact (RW.fresh W0 [pA tb 0] 23).still ((Below.refl _ _).alloc (Nat.le_refl _) _)
 have r3:RW W2 (W0.heap.size+1) 0 [.int .i64 i]:=by
  have:=RW.fresh (W0.alloc (.cells #[pA tb 0] 23)) [.int .i64 i] 3
  rw [World.size_alloc] at this
  rw [hW2];exact this
 have b2:Below W0.heap.size W0 W2:=by rw [hW2];exact ((Below.refl _ _).alloc (Nat.le_refl _) _).alloc (by simp) _
 have s2:W2.heap.size=w.heap.size+3:=by rw [hW2];simp;omega
 rw [←hW2] at cM
 rw [s1] at cM r2 r3
 replace r0:=r0.still b2
 have bw:=below_next b1 b2
 have hit:=filtered_it ok (w.heap.size+1+1) (w.heap.size+1) tb mb T hK i
 have hx7:=pathL_len i T.n
 have HW0:=Hid.mk' hW0
 have Hs2:=Hid.mk' s2
 unfold filL
 generalize pathL i T.n=xs at *
 generalize copathL i T.n=ys at *
 clear hW0 hW2 b1 b2 s1
 obtain ⟨nn,-⟩:∃ nn:Nat,True:=⟨1,trivial⟩
 refine (callsIn_wide (n:=nn)).1 ?_
 refine callsIn_of_wp_marks Tryz.func38 rfl trivial ?_ rfl
 simp only [Tryz.ntmps38,List.size_toArray,List.length_cons,List.length_nil,Nat.reduceAdd,Nat.reduceSub,Array.replicate_succ,Array.replicate_zero,List.push_toArray,List.append_toArray,List.nil_append,List.cons_append]
 gi_wp2_with (first
  | (rw [←HW0.out];clear HW0)
  | (refine ⟨trivial,(fun h=>by cases h),?_⟩;gi_at_call 87;refine (callsIn_wide.2 cA).mono ?_;clear cA;rintro e w0 ⟨rfl,rfl⟩)
  | (refine ⟨trivial,(fun h=>by cases h),?_⟩;gi_at_call 102;refine (callsIn_wide.2 cM).mono ?_;clear cM;rintro e w1 ⟨rfl,rfl⟩))
 have hbq:∀ q∈[(w0.heap.size+1,pA tb 0),(w0.heap.size+1+1,Value.int .i64 i)],q.1<w1.heap.size∧q.1≠w0.heap.size:=fun q hq=>by
  simp only [List.mem_cons,List.not_mem_nil,or_false] at hq
  rcases hq with rfl | rfl
  · exact ⟨by show w0.heap.size+1<_;omega,by show w0.heap.size+1≠_;omega⟩
  · exact ⟨by show w0.heap.size+1+1<_;omega,by show w0.heap.size+1+1≠_;omega⟩
 refine range_it hit rfl (enters_of Tryz.func170 (by kernel_rfl) rfl)
  (fun k=>GatJ w0 w1.heap.size w0.heap.size [(w0.heap.size+1,pA tb 0),(w0.heap.size+1+1,.int .i64 i)] (filK T xs ys k))
  (fun _ _ _=>False) (fun _=>False) ?_ ?_ ?_ ?_ ?_ (fun b hb=>hb.elim) ?_ ?_ ?_ ?_
 · intro k M V V' hj hL;exact hj.loc hL (by omega) (by omega) (fun q hq=>(hbq q hq).1)
 · intro c M V V' h;exact h.elim
 · intro k M V hk hj
   exact ⟨(hj.bx _ (List.mem_cons_self ..)).range 0 _ rfl,(hj.bx _ (List.mem_cons_of_mem _ (List.mem_cons_self ..))).range 0 _ rfl,hT.keep hj.bel,h.below hj.bel⟩
 · intro k M V hk ha hj
   have e:filK T xs ys (k+1)=filK T xs ys k:=by
    unfold filA at ha
    rw [filK]
    split at ha
    · rename_i hc;rw [if_pos hc,List.append_nil]
    · cases ha
   rw [e];exact hj
 · intro k a' ha
   unfold filA at ha
   split at ha
   · cases ha
   · cases ha;rfl
 · intro V hb
   exact GatJ.start (r0.still hb) (fun q hq=>by
    simp only [List.mem_cons,List.not_mem_nil,or_false] at hq
    rcases hq with rfl | rfl
    · exact r2.still hb
    · exact r3.still hb) (below_next bw hb) hb.size
 · intro k M V l a' hk ha hj hl1 hl2 hl3
   have eL:filK T xs ys (k+1)=filK T xs ys k ++ [(xs[k]?).getD 0]:=by
    unfold filA at ha
    rw [filK]
    split at ha
    · cases ha
    · rename_i hc;rw [if_neg hc]
   have ea:a'=#[.int .i64 ((xs[k]?).getD 0),.int .i64 ((ys[k]?).getD 0)]:=by
    unfold filA at ha
    split at ha
    · cases ha
    · cases ha;rfl
   subst ea
   have hlen:=filK_len T xs ys k
   rw [eL]
   have hm64:k≤64:=by omega
   generalize filK T xs ys k=l1 at *
   generalize (xs[k]?).getD 0=m at *
   generalize (ys[k]?).getD 0=m2 at *
   clear ha hit hj eL hk h hT
   gi_wp2
   refine ⟨Below.refl _ _,fun V2 hbt hsz hj2 => ?_⟩
   have Hsz:=Hid.mk' hsz
   have hoB:w0.heap.size<w1.heap.size:=by omega
   clear hsz s2
   obtain ⟨v,hv,how,hvM⟩:=id hj2.own
   obtain ⟨xo,co,rfl⟩:=how.slice
   have q0:=hv.range 0 _ rfl
   rw [Nat.zero_add] at q0
   obtain ⟨V1,hV1⟩:∃ V1,V1=V2.alloc (.cells #[.int .i64 m] 3):=⟨_,rfl⟩
   have bV1:Below V2.heap.size V2 V1:=by rw [hV1];exact (Below.refl _ _).alloc (Nat.le_refl _) _
   have ow1:=how.below bV1
   have zo1:=zo_one V2 m
   rw [←hV1] at zo1
   have hB1:w1.heap.size≤V1.heap.size:=Nat.le_trans hj2.sz bV1.size
   have HV1:=Hid.mk' hV1
   clear hV1
   gi_wp2_with (first
    | (rw [←HV1.out])
    | (gi_at_builtin;refine wpListIn_append_rd rfl (.tmp 16) (.tmp 18) rfl w1.heap.size _ _ _ rfl ow1 _ _ _ rfl zo1 (by simp;omega) hB1 ?_;intro v3 V3 own3 hg3 hli hb3;(obtain ⟨x3,c3,rfl⟩:=own3.slice);(have k3:=hj2.kept hv hvM HV1.out hg3 hoB);(have q3:=k3.range 0 _ rfl);(have q4:=(k3.there 0 (by simp)).2);(rw [Nat.zero_add] at q3 q4)))
   obtain ⟨hF,M',hM',hj3⟩:=hj2.more hv how hvM HV1.out own3 hg3 hli (Nat.le_refl _) hoB hbq
   have e1:(l1 ++ [m]).length=l1.length+1:=by simp
   rw [e1] at hF hj3
   exact ⟨hF,M',fun b hb=>by rw [←Hsz.out];exact hM' b hb,hj3⟩
 · intro D M V hD hDl hDm hj hdf
   obtain ⟨v,hv,how,hvM⟩:=id hj.own
   have q0:=hv.range 0 _ rfl
   rw [Nat.zero_add] at q0
   clear hit h hT
   gi_wp2
   refine ⟨by simp,.inl ⟨_,_,rfl,run_takeDeferred hdf,?_⟩⟩
   have hbf:Below w0.heap.size V (V.putObj D (.deferred none)):=(but_put V D _).below (by have:=hj.sz;omega) (fun k hk=>by omega)
   refine ⟨_,results_tmp rfl _ _ _,_,rfl,?_,hj.bel.trans hbf⟩
   show OwnZ w0.heap.size _ v _
   exact (how.mono (by omega)).same (fun b e _=>World.putObj_heap_other (fun h=>by subst h;exact hDm (hvM _ e)))
 · intro D c M V hD hDl hDm h;exact h.elim
end Go.Proofs.YtpmkiegabaidjaaGreatDoor
namespace Go.Proofs.YtpmkiegabaidjaaGreatDoor
open Go.RowKit Go.Shelf
structure NoT (p:Value) (w:World):Prop where
 made:Calls Tryz.prog 54 #[p] w fun e w'=>e = .returned (.bool false)∧w'=w
 leaf:∀ i:Int,Calls Tryz.prog 87 #[p,.int .i64 i] w fun e w'=>e = .returned (.bool false)∧w'=w
 place:∀ i:Int,Calls Tryz.prog 91 #[p,.int .i64 i] w fun e w'=>e = .returned (.bool false)∧w'=w
theorem NoT.nil (w:World):NoT (.pointer none) w:=⟨tmade_nil w,fun i=>thasLeaf_nil i w,fun i=>hasPlace_nil i w⟩
theorem NoT.zero (tb:Nat) (w:World) (hc:w.cell? ⟨tb,0,none⟩=some (.int .i64 0)):NoT (pA tb 0) w:=⟨tmade_any tb 0 w hc,fun i=>thasLeaf_zero tb i w hc,fun i=>hasPlace_zero tb i w hc⟩
theorem no_Copy (p:Value) (w:World) (h:NoT p w):Calls Tryz.prog 13 #[p] w fun e w'=>e = .returned (.pointer none)∧w'=w:=by
 have c:=h.made
 clear h
 go_enter Tryz.func13,Tryz.ntmps13
 go_wp2_with (go_at_call 54;refine c.mono ?_;clear c;rintro e w1 ⟨rfl,rfl⟩)
 go_ret
 exact ⟨rfl,rfl⟩
theorem no_Leaves (p:Value) (w:World) (h:NoT p w):Calls Tryz.prog 34 #[p] w fun e w'=>e = .returned (.int .i64 0)∧w'=w:=by
 have c:=h.made
 clear h
 go_enter Tryz.func34,Tryz.ntmps34
 go_wp2_with (go_at_call 54;refine c.mono ?_;clear c;rintro e w1 ⟨rfl,rfl⟩)
 go_ret
 exact ⟨rfl,rfl⟩
theorem no_Remove (p:Value) (i:Int) (w:World) (h:NoT p w):Calls Tryz.prog 36 #[p,.int .i64 i] w fun e w'=>e = .returned (.int .i64 1)∧w'=w:=by
 have c:=h.leaf i
 clear h
 go_enter Tryz.func36,Tryz.ntmps36
 go_wp2_with (go_at_call 87;refine c.mono ?_;clear c;rintro e w1 ⟨rfl,rfl⟩)
 go_ret
 exact ⟨rfl,rfl⟩
theorem no_Valid (p:Value) (w:World) (h:NoT p w):Calls Tryz.prog 20 #[p] w fun e w'=>e = .returned (.int .i64 1)∧w'=w:=by
 have c:=h.made
 clear h
 go_enter Tryz.func20,Tryz.ntmps20
 go_wp2_with (go_at_call 54;refine c.mono ?_;clear c;rintro e w1 ⟨rfl,rfl⟩)
 go_ret
 exact ⟨rfl,rfl⟩
theorem no_Hash (p:Value) (w:World) (h:NoT p w):Calls Tryz.prog 17 #[p] w fun e w'=>e = .returned (.slice none 0 0)∧w'=w:=by
 have c:=h.made
 clear h
 go_enter Tryz.func17,Tryz.ntmps17
 go_wp2_with (go_at_call 54;refine c.mono ?_;clear c;rintro e w1 ⟨rfl,rfl⟩)
 go_ret
 exact ⟨rfl,rfl⟩
theorem no_Encode (p:Value) (w:World) (h:NoT p w):Calls Tryz.prog 15 #[p] w fun e w'=>e = .returned (.slice none 0 0)∧w'=w:=by
 have c:=h.made
 clear h
 go_enter Tryz.func15,Tryz.ntmps15
 go_wp2_with (go_at_call 54;refine c.mono ?_;clear c;rintro e w1 ⟨rfl,rfl⟩)
 go_ret
 exact ⟨rfl,rfl⟩
theorem no_Members (p:Value) (w:World) (h:NoT p w):Calls Tryz.prog 27 #[p] w fun e w'=>e = .returned (.slice none 0 0)∧w'=w:=by
 have c:=h.made
 clear h
 go_enter Tryz.func27,Tryz.ntmps27
 go_wp2_with (go_at_call 54;refine c.mono ?_;clear c;rintro e w1 ⟨rfl,rfl⟩)
 go_ret
 exact ⟨rfl,rfl⟩
def NoP (p:Value) (w:World):Prop:=p = .pointer none∨∃ tb,p=pA tb 0∧w.cell? ⟨tb,0,none⟩=some (.int .i64 0)
theorem NoP.keep {p:Value} {w w':World} (h:NoP p w) (hb:Below w.heap.size w w'):NoP p w':=by
 rcases h with rfl | ⟨tb,rfl,hc⟩
 · exact .inl rfl
 · exact .inr ⟨tb,rfl,(hb.cell (p:=⟨tb,0,none⟩) (block_lt_of_cell hc)).trans hc⟩
theorem NoP.no {p:Value} {w:World} (h:NoP p w):NoT p w:=by
 rcases h with rfl | ⟨tb,rfl,hc⟩
 · exact NoT.nil w
 · exact NoT.zero tb w hc
set_option maxRecDepth 20000 in
theorem no_Leaf (p:Value) (i:Int) (w:World) (h:NoP p w):Calls Tryz.prog 29 #[p,.int .i64 i] w fun e w'=>e = .returned (.tuple #[.agg zLf.toArray,.bool false])∧Below w.heap.size w w':=by
 obtain ⟨V,hV⟩:∃ V,V=w.alloc (.cells #[.slice none 0 0,.slice none 0 0,.slice none 0 0,.int .i64 0,.slice none 0 0,.slice none 0 0] 54):=⟨_,rfl⟩
 have k1:RW V w.heap.size 0 zLf:=by rw [hV];exact RW.fresh w zLf 54
 have b1:Below w.heap.size w V:=by rw [hV];exact (Below.refl _ _).alloc (Nat.le_refl _) _
 have c:=(h.keep b1).no.leaf i
 have HV:=Hid.mk' hV
 have tt:V.there w.heap.size 0 6:=k1.there
 have hi2:(Tryz.prog.info? 54).map (·.size)=some 6:=iszL54 zLf.toArray rfl
 have h1:zLf.toArray.all (·.oneCell')=true:=by rw [List.all_toArray];simp [zLf,Value.oneCell']
 unfold zLf at h1
 clear hV h
 go_enter Tryz.func29,Tryz.ntmps29
 go_wp2_with (first
  | (rw [←HV.out];clear HV)
  | (go_at_call 87;refine c.mono ?_;clear c;rintro e w1 ⟨rfl,rfl⟩)
  | (refine wpList_store_mid rfl 54 _ _ rfl w.heap.size 0 _ rfl rfl tt hi2 h1 ?_))
 have r3:=k1.stored zLf rfl
 refine bodyPost_ret (results_ct Tryz.results29 _ _ w.heap.size zLf _ _ rfl rfl r3.range Tryz.underlying54 rfl hi2) rfl ?_
 exact ⟨rfl,below_setCells (Nat.le_refl _) _ _ _ b1⟩
set_option maxRecDepth 20000 in
theorem no_Parent (p:Value) (i:Int) (w:World) (h:NoP p w):Calls Tryz.prog 30 #[p,.int .i64 i] w fun e w'=>e = .returned (.tuple #[.agg zPr.toArray,.bool false])∧Below w.heap.size w w':=by
 obtain ⟨V,hV⟩:∃ V,V=w.alloc (.cells #[.slice none 0 0,.slice none 0 0,.slice none 0 0] 58):=⟨_,rfl⟩
 have k1:RW V w.heap.size 0 zPr:=by rw [hV];exact RW.fresh w zPr 58
 have b1:Below w.heap.size w V:=by rw [hV];exact (Below.refl _ _).alloc (Nat.le_refl _) _
 have c:=(h.keep b1).no.place i
 have HV:=Hid.mk' hV
 have tt:V.there w.heap.size 0 3:=k1.there
 have hi2:(Tryz.prog.info? 58).map (·.size)=some 3:=by kernel_rfl
 have h1:zPr.toArray.all (·.oneCell')=true:=by rw [List.all_toArray];simp [zPr,Value.oneCell']
 unfold zPr at h1
 clear hV h
 go_enter Tryz.func30,Tryz.ntmps30
 go_wp2_with (first
  | (rw [←HV.out];clear HV)
  | (go_at_call 91;refine c.mono ?_;clear c;rintro e w1 ⟨rfl,rfl⟩)
  | (refine wpList_store_mid rfl 58 _ _ rfl w.heap.size 0 _ rfl rfl tt hi2 h1 ?_))
 have r3:=k1.stored zPr rfl
 refine bodyPost_ret (results_ct Tryz.results30 _ _ w.heap.size zPr _ _ rfl rfl r3.range Tryz.underlying58 rfl hi2) rfl ?_
 exact ⟨rfl,below_setCells (Nat.le_refl _) _ _ _ b1⟩
set_option maxRecDepth 20000 in
theorem no_Set (p:Value) (i:Int) (cs:List Value) (d:LfD) (w:World) (hd:LfIn w cs d) (h:NoP p w):Calls Tryz.prog 35 #[p,.int .i64 i,.agg cs.toArray] w fun e w'=>e = .returned (.int .i64 1)∧Below w.heap.size w w':=by
 obtain ⟨V,hV⟩:∃ V,V=w.alloc (.cells cs.toArray 54):=⟨_,rfl⟩
 have k1:RW V w.heap.size 0 cs:=by rw [hV];exact RW.fresh w cs 54
 have b1:Below w.heap.size w V:=by rw [hV];exact (Below.refl _ _).alloc (Nat.le_refl _) _
 have hil:(Tryz.prog.info? 54).map (·.size)=some cs.length:=by rw [hd.row.1];kernel_rfl
 have cB:=mayBe_any cs d V (hd.keep b1)
 have cL:=fun w' hb=>((h.keep b1).keep (w':=w') hb).no.leaf i
 have HV:=Hid.mk' hV
 have r2:=k1.range
 clear h hd hV
 by_cases hR:lfR d 3
 · go_enter Tryz.func35,Tryz.ntmps35
   go_wp2_with (first
    | (rw [←HV.out];clear HV)
    | (refine wpList_load_wd4 rfl 54 _ rfl _ 0 rfl cs _ r2 Tryz.underlying54 rfl hil ?_)
    | (go_at_call 94;refine cB.mono ?_;clear cB;rintro e w1 ⟨b,rfl,hb,hb1⟩;(obtain rfl:b=true:=hb.2 hR))
    | (go_at_call 87;refine (cL w1 hb1).mono ?_;clear cL;rintro e w2 ⟨rfl,rfl⟩))
   go_ret
   exact ⟨rfl,below_next b1 hb1⟩
 · go_enter Tryz.func35,Tryz.ntmps35
   go_wp2_with (first
    | (rw [←HV.out];clear HV)
    | (refine wpList_load_wd4 rfl 54 _ rfl _ 0 rfl cs _ r2 Tryz.underlying54 rfl hil ?_)
    | (go_at_call 94;refine cB.mono ?_;clear cB;rintro e w1 ⟨b,rfl,hb,hb1⟩;(obtain rfl:b=false:=(by cases b with | false=>rfl | true=>exact absurd (hb.1 rfl) hR))))
   go_ret
   exact ⟨rfl,below_next b1 hb1⟩
set_option maxRecDepth 20000 in
theorem no_PutLeaf (p:Value) (i:Int) (cs:List Value) (d:LfD) (w:World) (hd:LfIn w cs d) (h:NoP p w):Calls Tryz.prog 37 #[p,.int .i64 i,.agg cs.toArray] w fun e w'=>e = .returned (.int .i64 1)∧Below w.heap.size w w':=by
 obtain ⟨V,hV⟩:∃ V,V=w.alloc (.cells cs.toArray 54):=⟨_,rfl⟩
 have k1:RW V w.heap.size 0 cs:=by rw [hV];exact RW.fresh w cs 54
 have b1:Below w.heap.size w V:=by rw [hV];exact (Below.refl _ _).alloc (Nat.le_refl _) _
 have hil:(Tryz.prog.info? 54).map (·.size)=some cs.length:=by rw [hd.row.1];kernel_rfl
 have cB:=mayBe_any cs d V (hd.keep b1)
 have cL:=fun w' hb=>((h.keep b1).keep (w':=w') hb).no.leaf i
 have HV:=Hid.mk' hV
 have r2:=k1.range
 clear h hd hV
 by_cases hR:lfR d 3
 · go_enter Tryz.func37,Tryz.ntmps37
   go_wp2_with (first
    | (rw [←HV.out];clear HV)
    | (refine wpList_load_wd4 rfl 54 _ rfl _ 0 rfl cs _ r2 Tryz.underlying54 rfl hil ?_)
    | (go_at_call 94;refine cB.mono ?_;clear cB;rintro e w1 ⟨b,rfl,hb,hb1⟩;(obtain rfl:b=true:=hb.2 hR))
    | (go_at_call 87;refine (cL w1 hb1).mono ?_;clear cL;rintro e w2 ⟨rfl,rfl⟩))
   go_ret
   exact ⟨rfl,below_next b1 hb1⟩
 · go_enter Tryz.func37,Tryz.ntmps37
   go_wp2_with (first
    | (rw [←HV.out];clear HV)
    | (refine wpList_load_wd4 rfl 54 _ rfl _ 0 rfl cs _ r2 Tryz.underlying54 rfl hil ?_)
    | (go_at_call 94;refine cB.mono ?_;clear cB;rintro e w1 ⟨b,rfl,hb,hb1⟩;(obtain rfl:b=false:=(by cases b with | false=>rfl | true=>exact absurd (hb.1 rfl) hR))))
   go_ret
   exact ⟨rfl,below_next b1 hb1⟩
set_option maxRecDepth 20000 in
theorem no_Add (p:Value) (cs:List Value) (w:World) (h:NoP p w):Calls Tryz.prog 31 #[p,.agg cs.toArray] w fun e w'=>e = .returned (.tuple #[.int .i64 0,.int .i64 1])∧Below w.heap.size w w':=by
 obtain ⟨V,hV⟩:∃ V,V=(w.alloc (.cells #[p] 23)).alloc (.cells cs.toArray 54):=⟨_,rfl⟩
 have k1:RW V w.heap.size 0 [p]:=by rw [hV];exact (RW.fresh w [p] 23).still ((Below.refl _ _).alloc (Nat.le_refl _) _)
 have b1:Below w.heap.size w V:=by rw [hV];exact ((Below.refl _ _).alloc (Nat.le_refl _) _).alloc (by simp) _
 have c:=(h.keep b1).no.made
 have HV:=Hid.mk' hV
 have q1:=k1.range 0 _ rfl
 rw [Nat.zero_add] at q1
 have hp:p = .pointer none∨∃ tb,p=pA tb 0:=h.imp id (fun ⟨tb,e,_⟩=>⟨tb,e⟩)
 clear hV h
 rcases hp with rfl | ⟨tb,rfl⟩
 all_goals
  go_enter Tryz.func31,Tryz.ntmps31
  go_wp2_with (first
   | (rw [←HV.out];clear HV)
   | (go_at_call 54;refine c.mono ?_;clear c;rintro e w1 ⟨rfl,rfl⟩))
  go_ret2
  exact ⟨rfl,b1⟩
set_option maxRecDepth 20000 in
theorem no_SetPath (p:Value) (i:Int) (xo:Option Addr) (n c0:Nat) (w:World) (h:NoP p w):Calls Tryz.prog 33 #[p,.int .i64 i,.slice xo n c0] w fun e w'=>e = .returned (.tuple #[.slice none 0 0,.int .i64 1])∧Below w.heap.size w w':=by
 obtain ⟨V,hV⟩:∃ V,V=(w.alloc (.cells #[p] 23)).alloc (.cells #[.slice xo n c0] 32):=⟨_,rfl⟩
 have k1:RW V w.heap.size 0 [p]:=by rw [hV];exact (RW.fresh w [p] 23).still ((Below.refl _ _).alloc (Nat.le_refl _) _)
 have b1:Below w.heap.size w V:=by rw [hV];exact ((Below.refl _ _).alloc (Nat.le_refl _) _).alloc (by simp) _
 have bV:Below V.heap.size V V.drew:=(Below.refl _ _).drew
 have c:=(h.keep (below_next b1 bV)).no.leaf i
 have HV:=Hid.mk' hV
 have hp:p = .pointer none∨∃ tb,p=pA tb 0:=h.imp id (fun ⟨tb,e,_⟩=>⟨tb,e⟩)
 clear hV h
 rcases hp with rfl | ⟨tb,rfl⟩
 all_goals
  obtain ⟨nn,-⟩:∃ nn:Nat,True:=⟨1,trivial⟩
  refine (callsIn_wide (n:=nn)).1 ?_
  refine callsIn_of_wp_marks Tryz.func33 rfl trivial ?_ rfl
  simp only [Tryz.ntmps33,List.size_toArray,List.length_cons,List.length_nil,Nat.reduceAdd,Nat.reduceSub,Array.replicate_succ,Array.replicate_zero,List.push_toArray,List.append_toArray,List.nil_append,List.cons_append]
  gi_wp2_with (rw [←HV.out];clear HV)
  refine wpIn_heldW (S:=fun u=>Below V.heap.size V u) (by kernel_rfl) (by kernel_rfl) bV (fun hS => ?_)
  refine tc 0 hS (fun u hu=>(k1.still hu).range 0 _ rfl) ?_
  (try simp only [pS])
  refine tg 1 hS ?_
  (try simp only [pS])
  refine cl 2 c ?_
  rintro e W1 ⟨rfl,rfl⟩
  refine ⟨_,rfl,hS,?_⟩
  (try simp only [pS])
  refine tg 3 hS (v := .bool true) ?_
  (try simp only [pS])
  refine tg 4 hS (v := .bool true) ?_
  (try simp only [pS])
  refine tn 5 hS ?_
  (try simp only [pS])
  refine tn 6 hS ?_
  (try simp only [pS])
  refine tn 7 hS ?_
  (try simp only [pS])
  refine tn 8 hS ?_
  (try simp only [pS])
  refine tn 9 hS ?_
  (try simp only [pS])
  refine tn 10 hS ?_
  (try simp only [pS])
  refine tn 11 hS ?_
  (try simp only [pS])
  refine tg 12 hS (v := .bool true) ?_
  (try simp only [pS])
  refine tg 13 hS (v := .bool true) ?_
  (try simp only [pS])
  refine tn 14 hS ?_
  (try simp only [pS])
  refine tn 15 hS ?_
  (try simp only [pS])
  refine tg 16 hS (v := .bool true) ?_
  (try simp only [pS])
  refine wpAnyH_done (by kernel_rfl) ?_ _
  refine OnlyN.normal ?_
  gi_wp2
  exact ⟨_,results_tmp2 rfl _ _ _,rfl,below_next b1 bV⟩
end Go.Proofs.YtpmkiegabaidjaaGreatDoor
namespace Go.Proofs.YtpmkiegabaidjaaGreatDoor
open Go.RowKit Go.Shelf
section
variable {P:Program} {md:Region.Mode} {ops:Array Oper} {Q:Exit→Act→World→Prop} {S:World→Prop} {fuel:Nat} {listed:Array Bool} {a:Act} {w:World}
theorem ab (i:Nat) {oi:Oper} {cs:Array Value} {t:TypeId} {X:World} (hX:X=w.alloc (.cells cs t)) (hS:S X) (h:wpAnyH P md ops Q S fuel (listed.setIfInBounds i true) (a.put oi.dst (pA w.heap.size 0)) X)
 (hi:ops.toList[i]? = some oi:=by rfl) (hr:Region.ready md ops listed=[i]:=by kernel_rfl) (hw:Region.wanted oi (yielded ops a.tmps)=true:=by rfl) (hrun:(execOp a.eval oi).run P w = .ok (.value (pA w.heap.size 0)) (w.alloc (.cells cs t)):=by kernel_rfl):wpAnyH P md ops Q S (fuel+1) listed a w:=by
 subst hX
 exact wpAnyH_ready hr (by simp) (arA oi ⟨hS,h⟩ AllReadyH.nil hrun (at_list hi) hw)
end
set_option maxRecDepth 20000 in
set_option maxHeartbeats 2000000 in
theorem mclone_any (b:Nat) (es:Array MapEntry) (clock:Nat) (w:World) (hb:w.heap[b]? = some (.map es clock)) :
 Calls Tryz.prog 55 #[.map (some b)] w fun e w'=>e = .returned (.map (some w.heap.size))∧w'=w.alloc (.map es clock):=by
 have hq:=fun w=>run_eql_map_nil_sl (P:=Tryz.prog) w 69 _ _ (some b) und_map
 go_enter Tryz.func55,Tryz.ntmps55
 go_wp2
 rw [run_callFunc_extern Tryz.func127 (by kernel_rfl) (by kernel_rfl) (by kernel_rfl) (e:=Extern.MapsClone.clone) (by kernel_rfl),run_maps_clone_sl w 69 hb]
 simp only [Result.andThen]
 rw [Oper.upon_value]
 go_wp2
 rw [run_typeAssert_map_sl _ 69 _ _ _ _ und_map]
 simp only [Result.andThen]
 rw [Oper.upon_value]
 go_wp2
 go_ret
 exact ⟨rfl,rfl⟩
theorem MpAt.clone {w:World} {b:Nat} {f:Int→Option Value} (h:MpAt w b f):Calls Tryz.prog 55 #[.map (some b)] w fun e w'=>e = .returned (.map (some w.heap.size))∧MpAt w' w.heap.size f∧Below w.heap.size w w'∧w'.heap.size=w.heap.size+1:=by
 obtain ⟨es,clock,h1,h2⟩:=h
 refine (mclone_any b es clock w h1).mono ?_
 rintro e w' ⟨rfl,rfl⟩
 exact ⟨rfl,⟨es,clock,World.alloc_heap_new w _,h2⟩,(Below.refl _ _).alloc (Nat.le_refl _) _,by simp⟩
theorem tCopy_any (ok:Nat→Prop) (tb mb:Nat) (T:Tr) (hn:1≤T.n) (w:World) (h:TrAt ok w tb mb T) :
 Calls Tryz.prog 13 #[pA tb 0] w fun e w'=>∃ t2 m2,e = .returned (pA t2 0)∧w.heap.size≤t2∧w.heap.size≤m2∧TrAt (fun b=>ok b∧b<w.heap.size) w' t2 m2 T∧Below w.heap.size w w':=by
 have cM:=tmade_any tb T.n w h.lv
 rw [decide_eq_true (by omega)] at cM
 obtain ⟨f,hmp,hh⟩:=h.mp
 have hlv:=h.lv
 have hst:=h.st
 have bd:Below w.heap.size w w.drew:=(Below.refl _ _).drew
 have cC:=(hmp.below bd hmp.lt).clone
 have c1:∀ u,Below w.heap.size w u→u.cell? ⟨tb,0,none⟩=some (.int .i64 (T.n:Int)):=fun u hu=>(h.below hu).lv
 have c2:∀ u,Below w.heap.size w u→u.cell? ⟨tb,1,none⟩=some (.map (some mb)):=fun u hu=>(h.below hu).st
 clear hmp hlv hst h
 go_enter Tryz.func13,Tryz.ntmps13
 go_wp2_with (go_at_call 54;refine cM.mono ?_;clear cM;rintro e w1 ⟨rfl,rfl⟩)
 refine wp_region_held_drew (S:=fun u=>Below w1.heap.size w1 u) (by kernel_rfl) bd (fun hS => ?_)
 refine tg 0 hS ?_
 (try simp only [pS])
 refine tg 1 hS ?_
 (try simp only [pS])
 refine tg 2 hS ?_
 (try simp only [pS])
 refine tc 3 hS c1 ?_
 (try simp only [pS])
 refine tg 4 hS ?_
 (try simp only [pS])
 refine tg 5 hS ?_
 (try simp only [pS])
 refine tg 6 hS ?_
 (try simp only [pS])
 refine tc 7 hS c2 ?_
 (try simp only [pS])
 refine cl 8 cC ?_
 rintro e w2 ⟨rfl,hm2,b2,s2⟩
 replace b2:=below_next bd b2
 refine ⟨_,rfl,b2,?_⟩
 (try simp only [pS])
 refine tg 9 b2 (v := .agg #[.int .i64 (T.n:Int),.map (some w1.heap.size)]) ?_
 (try simp only [pS])
 obtain ⟨X,hX⟩:∃ X,X=w2.alloc (.cells #[.int .i64 (T.n:Int),.map (some w1.heap.size)] 71):=⟨_,rfl⟩
 have bX:Below w2.heap.size w2 X:=by rw [hX];exact (Below.refl _ _).alloc (Nat.le_refl _) _
 have b3:=below_next b2 bX
 refine ab 10 hX b3 ?_
 (try simp only [pS])
 refine tg 11 b3 ?_
 (try simp only [pS])
 refine wpAnyH_done (by kernel_rfl) ?_ _
 go_wp2
 go_ret
 refine ⟨w1.heap.size+1,w1.heap.size,rfl,by omega,Nat.le_refl _,?_,b3⟩
 have es:w2.heap.size=w1.heap.size+1:=s2
 have hX0:X.heap[w1.heap.size+1]? = some (.cells #[.int .i64 (T.n:Int),.map (some w1.heap.size)] 71):=by
  rw [hX,←es];exact World.alloc_heap_new w2 _
 have k:RW X (w1.heap.size+1) 0 [.int .i64 (T.n:Int),.map (some w1.heap.size)]:=by rw [←es,hX];exact RW.fresh w2 _ _
 have q0:=k.range 0 _ rfl
 have q1:=k.range 1 _ rfl
 have q2:=(k.there 0 (by simp)).2
 rw [Nat.zero_add] at q0 q1 q2
 have hm3:MpAt X w1.heap.size f:=MpAt.below (w:=w2) hm2 bX (by rw [es];exact Nat.lt_succ_self _)
 exact ⟨q0,q2,q1,⟨f,hm3,(hh.wide (fun b hb ho=>⟨ho,hb⟩)).same b3.size (fun b hb _=>b3.block b hb)⟩,fun h=>by omega,fun h=>by omega⟩
end Go.Proofs.YtpmkiegabaidjaaGreatDoor
namespace Go.Proofs.YtpmkiegabaidjaaGreatDoor
open Go.RowKit Go.Shelf
set_option maxRecDepth 20000 in
theorem zIndex_any {ok:Nat→Prop} (s:Value) (l:List Int) (v:Int) (hl:l.length≤100000) (w:World) (hs:ZO ok w s l):Calls Tryz.prog 235 #[s,.int .i64 v] w fun e w'=>(∃ z:Int,e = .returned (.int .i64 z)∧decide (0≤z)=decide (v∈l))∧w'=w:=by
 obtain ⟨xo,co,rfl,hc,-,hz⟩:=hs
 go_enter Tryz.func235,Tryz.ntmps235
 go_wp2
 go_loopw [8] (fun s wr=>∃ k:Nat,k≤l.length∧s = .int .i64 (k:Int)∧(∀ j,j<k→l[j]?≠some v)∧wr=w) (fun s _=>l.length - (intOf s).toNat)
 case atStart=>exact ⟨0,Nat.zero_le _,rfl,fun j h=>absurd h (Nat.not_lt_zero _),rfl⟩
 case round =>
  obtain ⟨k,hk,rfl,hno,rfl⟩:=hrel
  by_cases hlt:k<l.length
  · obtain ⟨x,hx⟩:∃ x,l[k]? = some x:=⟨_,List.getElem?_eq_getElem hlt⟩
    obtain ⟨g,o,rfl,-,-,hgc⟩:=hz k x hx
    have hlt':(k:Int)<(l.length:Int):=by omega
    have hk0:(0:Int)≤(k:Int):=by omega
    have Hno:=Hid.mk' hno
    have Hx:=Hid.mk' hx
    clear hz hno hx
    by_cases e:v=x
    · subst e
      go_wp2
      go_ret
      have hm:v∈l:=List.mem_of_getElem? Hx.out
      exact ⟨⟨_,rfl,by rw [decide_eq_true hk0,decide_eq_true hm]⟩,rfl⟩
    · have hb:(v == x)=false:=by simpa using e
      go_wp2
      refine ⟨⟨k+1,hlt,by simp,fun j hj => ?_,by first | rfl | trivial⟩,by simp [intOf];omega⟩
      by_cases h:j=k
      · subst h;rw [Hx.out];exact fun h=>e (by cases h;rfl)
      · exact Hno.out j (by omega)
  · obtain rfl:k=l.length:=by omega
    have hlt':¬((l.length:Nat):Int)<(l.length:Int):=by omega
    have Hno:=Hid.mk' hno
    clear hz hno
    go_wp2
    go_ret
    have hm:v ∉ l:=fun h=>by
     obtain ⟨j,hj,e⟩:=List.getElem_of_mem h
     exact Hno.out j hj (by rw [List.getElem?_eq_getElem hj,e])
    exact ⟨⟨_,rfl,by simp [hm]⟩,rfl⟩
theorem zContains_any {ok:Nat→Prop} (s:Value) (l:List Int) (v:Int) (hl:l.length≤100000) (w:World) (hs:ZO ok w s l):Calls Tryz.prog 199 #[s,.int .i64 v] w fun e w'=>e = .returned (.bool (decide (v∈l)))∧w'=w:=by
 have c:=zIndex_any s l v hl w hs
 clear hs
 go_enter Tryz.func199,Tryz.ntmps199
 go_wp2_with (go_at_call 235;refine c.mono ?_;clear c;rintro e w1 ⟨⟨z,rfl,hz⟩,rfl⟩)
 go_ret
 exact ⟨rfl,rfl⟩
def delV (gb:Nat):Value := .func (.func 250) #[] #[pA gb 0]
structure DelB (w:World) (gb:Nat) (gone:List Int):Prop where
 bx:∃ s,w.cell? ⟨gb,0,none⟩=some s∧∃ ok,ZO ok w s gone∧∀ b,ok b→b<gb
 len:gone.length≤100000
theorem del_any (gb:Nat) (gone:List Int) (i:Int) (w:World) (h:DelB w gb gone):Calls Tryz.prog 250 #[.int .i64 i,pA gb 0] w fun e w'=>e = .returned (.bool (decide (i∈gone)))∧w'=w:=by
 obtain ⟨s,hc,ok,hz,-⟩:=h.bx
 have c:=zContains_any s gone i h.len w hz
 clear hz h
 go_enter Tryz.func250,Tryz.ntmps250
 go_wp2_with (go_at_call 199;refine c.mono ?_;clear c;rintro e w1 ⟨rfl,rfl⟩)
 go_ret
 exact ⟨rfl,rfl⟩
set_option maxRecDepth 20000 in
theorem zIndexFunc_any {ok:Nat→Prop} (s:Value) (l:List Int) (gb:Nat) (gone:List Int) (hl:l.length≤100000) (w:World) (hs:ZO ok w s l) (hd:DelB w gb gone):Calls Tryz.prog 276 #[s,delV gb] w fun e w'=>((∃ k:Nat,e = .returned (.int .i64 (k:Int))∧k<l.length∧(∀ j x,j<k→l[j]? = some x→x ∉ gone)∧∃ x,l[k]? = some x∧x∈gone)∨e = .returned (.int .i64 (-1))∧∀ x∈l,x ∉ gone)∧w'=w:=by
 obtain ⟨xo,co,rfl,hc,-,hz⟩:=hs
 have cD:=fun i=>del_any gb gone i w hd
 clear hd
 unfold delV
 go_enter Tryz.func276,Tryz.ntmps276
 go_wp2
 go_loopw [8] (fun s wr=>∃ k:Nat,k≤l.length∧s = .int .i64 (k:Int)∧(∀ j x,j<k→l[j]? = some x→x ∉ gone)∧wr=w) (fun s _=>l.length - (intOf s).toNat)
 case atStart=>exact ⟨0,Nat.zero_le _,rfl,fun j x h=>absurd h (Nat.not_lt_zero _),rfl⟩
 case round =>
  obtain ⟨k,hk,rfl,hno,rfl⟩:=hrel
  by_cases hlt:k<l.length
  · obtain ⟨x,hx⟩:∃ x,l[k]? = some x:=⟨_,List.getElem?_eq_getElem hlt⟩
    obtain ⟨g,o,rfl,-,-,hgc⟩:=hz k x hx
    have hlt':(k:Int)<(l.length:Int):=by omega
    have hk0:(0:Int)≤(k:Int):=by omega
    have Hno:=Hid.mk' hno
    have Hx:=Hid.mk' hx
    have c:=cD x
    clear hz hno hx cD
    by_cases e:x∈gone
    · rw [decide_eq_true e] at c
      go_wp2_with (go_at_call 250;refine c.mono ?_;clear c;rintro e w1 ⟨rfl,rfl⟩)
      go_ret
      exact ⟨.inl ⟨k,rfl,hlt,Hno.out,x,Hx.out,e⟩,rfl⟩
    · rw [decide_eq_false e] at c
      go_wp2_with (go_at_call 250;refine c.mono ?_;clear c;rintro e w1 ⟨rfl,rfl⟩)
      refine ⟨⟨k+1,hlt,by simp,fun j y hj hy => ?_,by first | rfl | trivial⟩,by simp [intOf];omega⟩
      by_cases h:j=k
      · subst h;rw [Hx.out] at hy;cases hy;exact e
      · exact Hno.out j y (by omega) hy
  · obtain rfl:k=l.length:=by omega
    have hlt':¬((l.length:Nat):Int)<(l.length:Int):=by omega
    have Hno:=Hid.mk' hno
    clear hz hno cD
    go_wp2
    go_ret
    refine ⟨.inr ⟨rfl,fun x hx => ?_⟩,rfl⟩
    obtain ⟨j,hj,e⟩:=List.getElem_of_mem hx
    exact Hno.out j x hj (by rw [List.getElem?_eq_getElem hj,e])
end Go.Proofs.YtpmkiegabaidjaaGreatDoor
namespace Go.Proofs.YtpmkiegabaidjaaGreatDoor
open Go.RowKit Go.Shelf
theorem DelB.same {w w':World} {gb:Nat} {gone:List Int} (h:DelB w gb gone) (hs:w.heap.size≤w'.heap.size) (e:∀ b,b<w.heap.size→b≤gb→w'.heap[b]? = w.heap[b]?):DelB w' gb gone:=by
 obtain ⟨s,hc,ok,hz,ho⟩:=h.bx
 exact ⟨⟨s,(World.cell?_of_block (w:=w) (e gb (block_lt_of_cell hc) (Nat.le_refl _))).trans hc,ok,hz.same hs (fun b hb h=>e b hb (Nat.le_of_lt (ho b h))),ho⟩,h.len⟩
theorem OwnZ.put {base:Nat} {w:World} {g n cap:Nat} {l:List Int} (h:OwnZ base w (.slice (some ⟨g,0,none⟩) n cap) l) (hn:n=l.length) (i:Nat) (z:Int):OwnZ base (w.setCell ⟨g,i,none⟩ (.int .i64 z)) (.slice (some ⟨g,0,none⟩) n cap) (l.set i z):=by
 subst hn
 have:=(World.ownsRow.stored h i (.int .i64 z)).1
 unfold OwnZ
 rw [List.length_set,List.map_set];exact this
theorem OwnZ.first {base:Nat} {w:World} {g n cap:Nat} {l:List Int} (h:OwnZ base w (.slice (some ⟨g,0,none⟩) n cap) l) (hn:n=l.length) (k:Nat) (hk:k≤n):OwnZ base w (.slice (some ⟨g,0,none⟩) k cap) (l.take k):=by
 subst hn
 obtain ⟨h1,⟨e,-⟩ | ⟨g',cap',cur,e,hg,hh,hc,hm,hs,ht⟩⟩:=h
 · cases e
 · cases e
   have ek:(l.take k).length=k:=by simp;omega
   unfold OwnZ
   rw [ek]
   refine ⟨by simp;omega,.inr ⟨g,cap,cur,rfl,hg,hh,by omega,hm,hs,?_⟩⟩
   rw [List.map_take,←ht,List.take_take]
   congr 1;omega
theorem OwnZ.puts {base:Nat} {g n cap k:Nat}:∀ (vs:List Int) (o:Nat) (w:World) (l:List Int),k≤o→n=l.length→OwnZ base w (.slice (some ⟨g,0,none⟩) n cap) l→∃ l',OwnZ base (w.setCells g o (vs.map fun z => .int .i64 z)) (.slice (some ⟨g,0,none⟩) n cap) l'∧n=l'.length∧l'.take k=l.take k
 | [],o,w,l,_,hn,h=>⟨l,h,hn,rfl⟩
 | v :: vs,o,w,l,hk,hn,h=>by
  obtain ⟨l',h1,h2,h3⟩:=OwnZ.puts (k:=k) vs (o+1) (w.setCell ⟨g,o,none⟩ (.int .i64 v)) (l.set o v) (by omega) (by rw [List.length_set];exact hn) (h.put hn o v)
  refine ⟨l',h1,h2,h3.trans ?_⟩
  rw [List.take_set,List.set_eq_of_length_le (by simp;omega)]
theorem zclear_run {base:Nat} {g n cap:Nat} {w:World} {l:List Int} (h:OwnZ base w (.slice (some ⟨g,0,none⟩) n cap) l) (hn:n=l.length) (k m c:Nat) (hm:k+m≤n) (h0:0<m) (ty:TypeId) :
 (Builtin.clear_ #[51] ty #[.slice (some ⟨g,k,none⟩) m c]).run Tryz.prog w = .ok (.tuple #[]) (w.setCells g k ((List.replicate m 0).map fun z => .int .i64 z)):=by
 subst hn
 obtain ⟨m,rfl⟩:∃ q,m=q+1:=⟨m - 1,by omega⟩
 obtain ⟨i0,hi,hz0,hz1,hz2⟩:=info_parts info_int
 have hz:(zeroValue 3).run Tryz.prog w = .ok (.int .i64 0) w:=by simp [zeroValue,typeInfo,hi,hz0,Result.andThen]
 have ez:(Builtin.zeroCells (Value.int .i64 0).cells (m+1)).toList=(List.replicate (m+1) (0:Int)).map fun z=>Value.int .i64 z:=by
  have e1:(Value.int .i64 0).cells=#[Value.int .i64 0]:=rfl
  rw [e1]
  apply List.ext_getElem?
  intro j
  simp [Builtin.zeroCells,Nat.mod_one]
  by_cases hj:j<m+1
  · rw [List.getElem?_range hj,List.getElem?_replicate,if_pos hj];rfl
  · rw [List.getElem?_eq_none (by simp;omega),List.getElem?_eq_none (by simp;omega)];rfl
 have hst:=run_storeCells_cells (P:=Tryz.prog) g k ((List.replicate (m+1) (0:Int)).map fun z=>Value.int .i64 z) 0 w (fun j hj=>by
  have hj':k+0+j<l.length:=by simp at hj;omega
  rw [World.ownsRow.cellAt h (k+0+j) (by omega),List.getElem?_map,List.getElem?_eq_getElem hj'];rfl) (fun j hj=>World.ownsRow.frozenAt h _) (fun v hv=>by obtain ⟨z,-,rfl⟩:=List.mem_map.1 hv;rfl)
 simp only [List.map_replicate,Nat.add_zero] at hst
 simp [Builtin.clear_,run_underlying und_ints,hz,ez,Result.andThen,hst]
theorem wpList_bltZ {P:Program} {w w':World} {ops:Array Oper} {rest:List Oper} {op:Oper} {a:Act} {Q:Exit→Act→World→Prop} (hgd:op.guard=none) (s:Operand) (ts:Array TypeId)
 (ho:op.op = .call { callee := .builtin .clear,args:=#[s],argTypes:=ts }) {u r:Value} (hs:a.eval s=u) (hrun:(Builtin.clear_ ts op.type #[u]).run P w = .ok r w') (h:wpList P ops Q rest (a.put op.dst r) w'):wpList P ops Q (op :: rest) a w:=by
 refine wpList_plain hgd fun K hK => ?_
 unfold Oper.wp execOp
 simp only [ho,resolve,invoke,builtin,Sem.run_bind,Sem.run_pure,Result.andThen_ok,List.map_toArray,List.map_cons,List.map_nil,hs,hrun]
 exact hK _ _ h
def stay (gone l:List Int):List Int:=l.filter fun x=>decide (x ∉ gone)
theorem stay_all {gone l:List Int} (h:∀ x∈l,x ∉ gone):stay gone l=l:=List.filter_eq_self.2 fun x hx=>decide_eq_true (h x hx)
theorem stay_more {gone l:List Int} {j:Nat} {x:Int} (hx:l[j]? = some x):stay gone (l.take (j+1))=stay gone (l.take j) ++ (if x∈gone then [] else [x]):=by
 unfold stay
 rw [List.take_add_one,hx,List.filter_append]
 by_cases h:x∈gone <;> simp [h]
structure DfJ (w:World) (base g n cap:Nat) (l gone:List Int) (i j:Nat) (wr:World):Prop where
 ij:i<j∧j≤n
 own:∃ m,OwnZ base wr (.slice (some ⟨g,0,none⟩) n cap) m∧n=m.length∧m.take i=stay gone (l.take j)∧∀ q,j≤q→m[q]? = l[q]?
 bt:But (fun b=>b=g) w wr
set_option maxRecDepth 20000 in
set_option maxHeartbeats 4000000 in
theorem zDelete_no (base:Nat) (s:Value) (l:List Int) (gb:Nat) (gone:List Int) (hl:l.length≤100000) (w:World) (hs:OwnZ base w s l) (hd:DelB w gb gone) (hno:∀ x∈l,x ∉ gone) :
 Calls Tryz.prog 249 #[s,delV gb] w fun e w'=>∃ v,e = .returned v∧OwnZ base w' v (stay gone l)∧Below base w w':=by
 have cI:=(zIndexFunc_any s l gb gone hl w (ZO.own hs) hd).mono (fun e w' h=>show e = .returned (.int .i64 (-1))∧w'=w from by
  rcases h with ⟨⟨k,-,-,-,x,hx,hg⟩ | ⟨rfl,-⟩,rfl⟩
  · exact absurd hg (hno x (List.mem_of_getElem? hx))
  · exact ⟨rfl,rfl⟩)
 rw [stay_all hno]
 obtain ⟨xo,co,rfl⟩:=hs.slice
 have Hs:=Hid.mk' hs
 clear hs hd hno
 unfold delV at cI ⊢
 go_enter Tryz.func249,Tryz.ntmps249
 go_wp2_with (go_at_call 276;refine cI.mono ?_;clear cI;rintro e w1 ⟨rfl,rfl⟩)
 go_ret
 exact ⟨_,rfl,Hs.out,Below.refl _ _⟩
set_option maxRecDepth 20000 in
set_option maxHeartbeats 4000000 in
theorem zDelete_yes (base:Nat) (g n cap:Nat) (l:List Int) (gb:Nat) (gone:List Int) (hl:l.length≤100000) (w:World) (hn:n=l.length) (hs:OwnZ base w (.slice (some ⟨g,0,none⟩) n cap) l) (hgb:gb<base) (hd:DelB w gb gone) (hex:∃ x∈l,x∈gone) :
 Calls Tryz.prog 249 #[.slice (some ⟨g,0,none⟩) n cap,delV gb] w fun e w'=>∃ v,e = .returned v∧OwnZ base w' v (stay gone l)∧Below base w w':=by
 have cI:=(zIndexFunc_any _ l gb gone hl w (ZO.own hs) hd).mono (fun e w' h=>show ∃ k:Nat,(e = .returned (.int .i64 (k:Int))∧w'=w)∧k<n∧stay gone (l.take (k+1))=l.take k from by
  rcases h with ⟨⟨k,rfl,hk,hb,x,hx,hg⟩ | ⟨-,h⟩,rfl⟩
  · refine ⟨k,⟨rfl,rfl⟩,by omega,?_⟩
    rw [stay_more hx,if_pos hg,List.append_nil]
    refine stay_all fun y hy => ?_
    obtain ⟨j,hj,e⟩:=List.getElem_of_mem hy
    have hj':j<k:=by simp at hj;omega
    exact hb j y hj' (by rw [List.getElem_take] at e;rw [List.getElem?_eq_getElem (by omega),e])
  · obtain ⟨x,hx,hg⟩:=hex;exact absurd hg (h x hx))
 have hgB:base≤g:=(World.ownsRow.lt hs g rfl).1
 have hgw:g<w.heap.size:=(World.ownsRow.lt hs g rfl).2
 have cD:=fun (wr:World) (hb:But (fun b=>b=g) w wr) (x:Int)=>del_any gb gone x wr (hd.same hb.size (fun b hl hle=>hb.block b hl (by omega)))
 have hcap:n≤cap:=by
  rcases hs.2 with ⟨e,-⟩ | ⟨g',cap',cur,e,-,-,hc,-⟩
  · cases e
  · cases e;omega
 have Hs:=Hid.mk' hs
 have Hn:=Hid.mk' hn
 have HcD:=Hid.mk' cD
 have Hc:=Hid.mk' (And.intro hcap (And.intro hgB (And.intro hgw (And.intro hgb hl))))
 have hn5:n≤100000:=by omega
 clear hs hd hex cD hcap hgB hgw hgb hn hl
 unfold delV at cI ⊢
 go_enter Tryz.func249,Tryz.ntmps249
 go_wp2_with (go_at_call 276;refine cI.mono ?_;clear cI;rintro e w1 ⟨k,⟨rfl,rfl⟩,hkn,hst⟩;(have hk1:((k:Int) == -1)=false:=beq_eq_false_iff_ne.2 (by omega));(have hw:=wrapK (show k≤100000 by omega));(have Hst:=Hid.mk' hst);clear hst)
 have hJ0:DfJ w1 base g n cap l gone k (k+1) w1:=⟨⟨by omega,by omega⟩,⟨l,Hs.out,Hn.out,Hst.out.symm,fun q _=>rfl⟩,But.of_below (Below.refl _ _)⟩
 clear hk1 hw
 go_loopw [5,6] (fun si sj wr=>∃ i j:Nat,si = .int .i64 (i:Int)∧sj = .int .i64 (j:Int)∧DfJ w1 base g n cap l gone i j wr) (fun _ sj _=>n - (intOf sj).toNat)
 case atStart=>exact ⟨k,k+1,rfl,by simp,hJ0⟩
 case round =>
  clear hJ0
  obtain ⟨i,j,rfl,rfl,hJ⟩:=hrel
  have hij:=hJ.ij
  obtain ⟨m,hm,hml,hmt,hmd⟩:=hJ.own
  by_cases hlt:j<n
  · have hln:=Hn.out
    obtain ⟨x,hx⟩:∃ x,l[j]? = some x:=⟨_,List.getElem?_eq_getElem (by omega)⟩
    have hmj:m[j]? = some x:=(hmd j (Nat.le_refl _)).trans hx
    subst hml
    have q1:wr.cell? ⟨g,j,none⟩=some (.int .i64 x):=by rw [World.ownsRow.cellAt hm j (by omega),List.getElem?_map,hmj];rfl
    obtain ⟨y,hy⟩:∃ y,m[i]? = some y:=⟨_,List.getElem?_eq_getElem (by omega)⟩
    have q2:wr.cell? ⟨g,i,none⟩=some (.int .i64 y):=by rw [World.ownsRow.cellAt hm i (by omega),List.getElem?_map,hy];rfl
    have q3:=World.ownsRow.frozenAt hm i
    have hlt':(j:Int)<(m.length:Int):=by omega
    have hlti:(i:Int)<(m.length:Int):=by omega
    have hj0:(0:Int)≤(j:Int):=by omega
    have hi0:(0:Int)≤(i:Int):=by omega
    have hw1:=(wrapK (show j≤100000 by omega)).2
    have hw2:=(wrapK (show i≤100000 by omega)).2
    have c:=HcD.out wr hJ.bt x
    have HJ:=Hid.mk' hJ
    have HM:=Hid.mk' hm
    have Hd:=Hid.mk' (And.intro hmt hmd)
    have Hx:=Hid.mk' hx
    have Hij:=Hid.mk' hij
    clear hJ hm hmt hmd hx hmj hy hij hln
    by_cases e:x∈gone
    · rw [decide_eq_true e] at c
      clear q2 q3
      go_wp2_with (go_at_call 250;refine c.mono ?_;clear c;rintro e w2 ⟨rfl,rfl⟩)
      have hij:=Hij.out
      refine ⟨⟨i,j+1,by first | rfl | simp,by first | rfl | simp,⟨⟨by omega,by omega⟩,⟨m,HM.out,rfl,Hd.out.1.trans ?_,fun q hq=>Hd.out.2 q (by omega)⟩,HJ.out.bt⟩⟩,by simp [intOf];omega⟩
      rw [stay_more Hx.out,if_pos e,List.append_nil]
    · rw [decide_eq_false e] at c
      go_wp2_with (go_at_call 250;refine c.mono ?_;clear c;rintro e w2 ⟨rfl,rfl⟩)
      have hij:=Hij.out
      refine ⟨⟨i+1,j+1,by first | rfl | simp,by first | rfl | simp,⟨⟨by omega,by omega⟩,⟨m.set i x,HM.out.put rfl i x,by simp,?_,fun q hq => ?_⟩,HJ.out.bt.trans ⟨rfl,rfl,rfl,by simp,fun b _ hb=>Below.heap_setCell _ _ _ _ hb⟩⟩⟩,by simp [intOf];omega⟩
      · rw [stay_more Hx.out,if_neg e,←Hd.out.1,List.take_add_one,List.getElem?_set_self (by omega),List.take_set,List.set_eq_of_length_le (by simp;omega)];rfl
      · rw [List.getElem?_set_ne (by omega)];exact Hd.out.2 q (by omega)
  · obtain rfl:j=n:=by omega
    have hlt':¬((j:Nat):Int)<(j:Int):=by omega
    have hs1:=fun W=>zsl_from0 W g j cap i (by omega) (by have:=Hc.out.1;omega)
    have hs2:=fun W=>zsl_to W g 0 j cap i (by have:=Hc.out.1;omega)
    have hcl:=fun ty=>zclear_run hm hml i (j - i) (cap - i) (by omega) (by omega) ty
    have HJ:=Hid.mk' hJ
    have HM:=Hid.mk' (And.intro hm (And.intro hml hmt))
    have Hij:=Hid.mk' hij
    clear hJ hm hml hmt hmd hij
    go_wp2_with (refine wpList_bltZ rfl _ _ rfl rfl (hcl _) ?_;clear hcl)
    go_ret
    obtain ⟨hm,hml,hmt⟩:=HM.out
    have hij:=Hij.out
    have hcc:=Hc.out
    obtain ⟨l',h1,h2,h3⟩:=OwnZ.puts (k:=i) (List.replicate (j - i) 0) i wr m (Nat.le_refl _) hml hm
    rw [List.map_replicate] at h1
    have h4:=h1.first h2 i (by omega)
    rw [h3,hmt,List.take_of_length_le (by have:=Hn.out;omega)] at h4
    exact ⟨_,rfl,h4,below_setCells hcc.2.1 _ _ _ (HJ.out.bt.below (by omega) (fun b hb=>by omega))⟩
theorem zDelete_any (base:Nat) (s:Value) (l:List Int) (gb:Nat) (gone:List Int) (hl:l.length≤100000) (w:World) (hs:OwnZ base w s l) (hgb:gb<base) (hd:DelB w gb gone) :
 Calls Tryz.prog 249 #[s,delV gb] w fun e w'=>∃ v,e = .returned v∧OwnZ base w' v (stay gone l)∧Below base w w':=by
 by_cases hex:∃ x∈l,x∈gone
 · rcases hs.2 with ⟨e,h0⟩ | ⟨g,cap,cur,e,-⟩
   · obtain ⟨x,hx,-⟩:=hex
     have:l=[]:=List.length_eq_zero_iff.1 h0
     subst this;cases hx
   · subst e
     exact zDelete_yes base g l.length cap l gb gone hl w rfl hs hgb hd hex
 · exact zDelete_no base s l gb gone hl w hs hd (fun x hx hg=>hex ⟨x,hx,hg⟩)
end Go.Proofs.YtpmkiegabaidjaaGreatDoor
namespace Go.Proofs.YtpmkiegabaidjaaGreatDoor
open Go.RowKit Go.Shelf
set_option maxRecDepth 20000 in
set_option maxHeartbeats 4000000 in
theorem withoutUnmerged_any (ok:Nat→Prop) (cs:List Value) (d:PrD) (hl:d.um.length≤1000) (gs:Value) (gone:List Int) (hgl:gone.length≤1000) {okg:Nat→Prop} (w:World) (hd:PrO ok w cs d) (hgo:ZO okg w gs gone) :
 Calls Tryz.prog 218 #[.agg cs.toArray,gs] w fun e w'=>∃ cs',e = .returned (.agg cs'.toArray)∧PrO (fun b=>ok b∨w.heap.size≤b) w' cs' { d with um:=stay gone d.um }∧Below w.heap.size w w':=by
 obtain ⟨x0,c0,x1,c1,x2,c2,rfl,h0,h1,h2⟩:=hd.form
 obtain ⟨gx,gc,rfl,-⟩:=id hgo
 clear hd
 obtain ⟨W1,hW1⟩:∃ W1,W1=w.alloc (.cells #[.slice x0 d.enc.n c0,.slice x1 d.hash.n c1,.slice x2 d.um.length c2] 121):=⟨_,rfl⟩
 obtain ⟨W2,hW2⟩:∃ W2,W2=W1.alloc (.cells #[.slice gx gone.length gc] 51):=⟨_,rfl⟩
 obtain ⟨W3,hW3⟩:∃ W3,W3=W2.alloc (.cells #[.slice none 0 0,.slice none 0 0,.slice none 0 0] 121):=⟨_,rfl⟩
 have b1:Below w.heap.size w W1:=by rw [hW1];exact (Below.refl _ _).alloc (Nat.le_refl _) _
 have b2:Below W1.heap.size W1 W2:=by rw [hW2];exact (Below.refl _ _).alloc (Nat.le_refl _) _
 have b3:Below W2.heap.size W2 W3:=by rw [hW3];exact (Below.refl _ _).alloc (Nat.le_refl _) _
 have s1:W1.heap.size=w.heap.size+1:=by rw [hW1];simp
 have s2:W2.heap.size=w.heap.size+1+1:=by rw [hW2];simp [s1]
 have s3:W3.heap.size=w.heap.size+1+1+1:=by rw [hW3];simp [s2]
 have k1:RW W3 w.heap.size 0 [.slice x0 d.enc.n c0,.slice x1 d.hash.n c1,.slice x2 d.um.length c2]:=by
  have:RW W1 w.heap.size 0 [.slice x0 d.enc.n c0,.slice x1 d.hash.n c1,.slice x2 d.um.length c2]:=by rw [hW1];exact RW.fresh w _ _
  exact (this.still b2).still b3
 have k2:RW W3 (w.heap.size+1) 0 [.slice gx gone.length gc]:=by
  have:RW W2 W1.heap.size 0 [.slice gx gone.length gc]:=by rw [hW2];exact RW.fresh W1 _ _
  rw [s1] at this
  exact this.still b3
 have k3:RW W3 (w.heap.size+1+1) 0 zPr:=by
  have:RW W3 W2.heap.size 0 zPr:=by rw [hW3];exact RW.fresh W2 _ _
  rwa [s2] at this
 have bw:=below_next (below_next b1 b2) b3
 have hz2:=h2.keep bw
 have cC:=zclone_any (.slice x2 d.um.length c2) d.um (by omega) W3 hz2
 have hB:DelB W3 (w.heap.size+1) gone:=⟨⟨_,by have:=k2.range 0 _ rfl;rwa [Nat.zero_add] at this,fun b=>b<w.heap.size,ZO.keep (hgo.wide fun b hb _=>hb) bw,fun b h=>Nat.lt_succ_of_lt h⟩,by omega⟩
 have cD:=fun (W:World) (v:Value) (hb:Below W3.heap.size W3 W) (ho:OwnZ W3.heap.size W v d.um)=>zDelete_any W3.heap.size v d.um (w.heap.size+1) gone (by omega) W ho (by omega) (hB.same hb.size (fun b hl _=>hb.block b hl))
 have q2:=k1.range 2 _ rfl
 rw [Nat.zero_add] at q2
 have HW1:=Hid.mk' hW1
 have HW2:=Hid.mk' hW2
 have HW3:=Hid.mk' hW3
 have G0:=Hid.mk' h0
 have G1:=Hid.mk' h1
 have Hs:=Hid.mk' s3
 have hi3:∀ A:Array Value,A.size=3→(Tryz.prog.info? 121).map (·.size)=some A.size:=fun A h=>iszP A h
 clear hW1 hW2 hW3 h0 h1 h2 b1 b2 b3 hz2 hgo hB s3
 unfold delV at cD
 go_enter Tryz.func218,Tryz.ntmps218
 go_wp2_with (first
  | (rw [←HW1.out];clear HW1)
  | (rw [←HW2.out];clear HW2)
  | (rw [←HW3.out];clear HW3)
  | (go_at_call 163;refine cC.mono ?_;clear cC;rintro e w4 ⟨s4,rfl,o4,b4⟩)
  | (go_at_call 249;refine (cD w4 s4 b4 o4).mono ?_;clear cD;rintro e w5 ⟨s5,rfl,o5,b5⟩;(obtain ⟨x5,c5,rfl⟩:=o5.slice);(have b35:Below W3.heap.size W3 w5:=b4.trans b5);(have k15:=k1.still b35);(have k35:=k3.still b35);(have f25:=(k15.there 2 (by simp)).2);(rw [Nat.zero_add] at f25);(have q25:=k15.range 2 _ rfl);(rw [Nat.zero_add] at q25);(have k16:=k15.set2 (.slice x5 (stay gone d.um).length c5));(have k36:=(k35.set2o (b:=w.heap.size) (by omega) 2 (.slice x5 (stay gone d.um).length c5)));(have t36:=k36.there);(have r16:=k16.range);clear q2)
  | (refine wpList_load_mid rfl 121 _ rfl w.heap.size 0 rfl _ _ r16 Tryz.underlying121 rfl (hi3 _ rfl) ?_)
  | (refine wpList_store_mid rfl 121 _ _ rfl (w.heap.size+1+1) 0 _ rfl rfl t36 (hi3 _ rfl) (by simp [Value.oneCell']) ?_))
 have st:=k36.stored [.slice x0 d.enc.n c0,.slice x1 d.hash.n c1,.slice x5 (stay gone d.um).length c5] rfl
 refine bodyPost_ret (results_cell_mid rfl _ _ (w.heap.size+1+1) 0 _ _ rfl st.range Tryz.underlying121 rfl (hi3 _ rfl)) rfl ?_
 have b5':Below w.heap.size w w5:=below_next bw b35
 have bst:Below w.heap.size w ((w5.setCell ⟨w.heap.size,2,none⟩ (.slice x5 (stay gone d.um).length c5)).setCells (w.heap.size+1+1) 0 [.slice x0 d.enc.n c0,.slice x1 d.hash.n c1,.slice x5 (stay gone d.um).length c5]):=below_setCells (by omega) _ _ _ (b5'.setCell (Nat.le_refl _) _)
 refine ⟨_,rfl,?_,bst⟩
 have hz:ZO (fun b=>W3.heap.size≤b) w5 (.slice x5 (stay gone d.um).length c5) (stay gone d.um):=ZO.own o5
 have s3:=Hs.out
 refine ⟨_,_,_,rfl,(G0.out.same bst.size (fun b hb _=>bst.block b hb)).wide (fun b _ h => .inl h),(G1.out.same bst.size (fun b hb _=>bst.block b hb)).wide (fun b _ h => .inl h),(hz.same (by rw [(setCells_same _ _ _ _).2.2.2];simp) (fun b hb h => ?_)).wide (fun b _ h => .inr (by omega))⟩
 rw [heap_setCells_other _ _ _ _ _ (by omega)]
 exact Below.heap_setCell _ _ _ _ (by show b≠w.heap.size;omega)
end Go.Proofs.YtpmkiegabaidjaaGreatDoor
