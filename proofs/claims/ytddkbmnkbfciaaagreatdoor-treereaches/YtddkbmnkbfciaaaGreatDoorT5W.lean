/- SetPath of package tree, walked. -/
import Derived.Test.YtddkbmnkbfciaaaGreatDoorT4MM
import Derived.Test.YtddkbmnkbfciaaaGreatDoorT5V
import Derived.Sort.CutIn
namespace Go.Proofs.YtddkbmnkbfciaaaGreatDoor
open Go.RowKit Go.Shelf
attribute [local go_sem] Oper.semAt_some
section
variable {P:Program} {md:Region.Mode} {ops:Array Oper} {Q:Exit→Act→World→Prop} {S:World→Prop} {fuel:Nat} {listed:Array Bool} {a:Act} {w:World}
theorem rR (i:Nat) {rs:List Nat} {oi:Oper} {v:Value} {w':World} (hrun:(execOp a.eval oi).run P w = .ok (.value v) w') (hk:S w') (h:wpAnyH P md ops Q S fuel (listed.setIfInBounds i true) (a.put oi.dst v) w') (hs:AllReadyH P md ops Q S fuel listed a w rs)
 (hi:ops.toList[i]? = some oi:=by rfl) (hw:Region.wanted oi (yielded ops a.tmps)=true:=by rfl):AllReadyH P md ops Q S fuel listed a w (i :: rs) :=
 AllReadyH.cons (at_list hi) (fun K hK=>by
  rw [if_pos hw]
  unfold Oper.wp
  rw [hrun,Oper.upon_value]
  exact hK.out _ _ hk (fun _=>h)) hs
end
theorem RowAt.far5 {K:IntKind} {w:World} {b o n:Nat} {X:Nat→Nat} (h:RowAt K w b o n X) {g p:Nat} {vs:List Value} (hne:b≠g):RowAt K (w.setCells g p vs) b o n X:=fun j hj =>
 have e:=heap_setCells_other g vs p w b hne
 ⟨(World.cell?_of_block (w:=w) (a:=⟨b,o+j,none⟩) e).trans (h j hj).1,(World.frozen?_of_block (w:=w) (a:=⟨b,o+j,none⟩) e).trans (h j hj).2⟩
theorem zo_rw {w:World} {g:Nat} {x:Int} (r:RW w g 0 [.int .i64 x]):ZO (fun _=>True) w (.slice (some ⟨g,0,none⟩) 1 1) [x] :=
 ⟨_,1,rfl,Nat.le_refl _,(fun h=>by cases h),fun i z hz=>by
   have e:i=0:=by
    obtain ⟨h,-⟩:=List.getElem?_eq_some_iff.1 hz
    simp at h;exact h
   subst e
   cases hz
   exact ⟨g,0,rfl,trivial,r.lt,r.range 0 _ rfl⟩⟩
set_option maxRecDepth 100000 in
set_option maxHeartbeats 8000000 in
theorem tSetPath_yes (ok okk:Nat→Prop) (tb mb:Nat) (T:Tr) (hK:TrOK T) (hR:∀ x d,T.nd x=some d→ndR d) (i:Int) (hi:0≤i∧i<T.n) (v:Value) (ks:List Tx) (w:World) (hT:DbT w) (hH:HTab w cubeK squareK) (h:TrAt ok w tb mb T) (hk:KeysO okk w v ks) (hl:ks.length=(filL T i).length) (h32:∀ t∈ks,t.n=32) (hkb:∀ t∈ks,∀ j,t.b j<256) :
 Calls Tryz.prog 33 #[pA tb 0,.int .i64 i,v] w fun e w'=>∃ s,e = .returned (.tuple #[s,.int .i64 0])∧BO (fun b=>w.heap.size≤b) w' s (spT T i ks).2.n (spT T i ks).2.b∧TrAt (fun b=>ok b∨w.heap.size≤b) w' tb mb (spT T i ks).1∧But (fun j=>j=mb) w w':=by
 obtain ⟨xk,c0,rfl,hkc,-⟩:=id hk
 obtain ⟨V,hV⟩:∃ V,V=(w.alloc (.cells #[pA tb 0] 23)).alloc (.cells #[.slice xk ks.length c0] 32):=⟨_,rfl⟩
 obtain ⟨k1,k2,b1,sV⟩:=sp_boxes tb _ w hV
 have bV:Below V.heap.size V V.drew:=(Below.refl _ _).drew
 have bwV:=below_next b1 bV
 have c:=thasLeaf_any tb T.n i (by have:=hK.n64;omega) V.drew (h.below bwV).lv
 rw [decide_eq_true hi.1,decide_eq_true hi.2] at c
 have cF:=tFiltered_any ok tb mb T hK i hi V.drew (hT.keep bwV) (h.below bwV)
 have hf7:(filL T i).length≤7:=Nat.le_trans (filK_len _ _ _ _) (pathL_len i T.n)
 have cC:=fun (W:World) (hb:Below V.drew.heap.size V.drew W)=>kContains_any (.slice xk ks.length c0) (ks.map Tx.n) (by rw [List.length_map];omega) W (((hk.keep bwV).keep hb).lens)
 have e:decide (∃ n∈ks.map Tx.n,n≠32)=false:=decide_eq_false (fun ⟨n,h1,h2⟩=>by obtain ⟨t,h3,rfl⟩:=List.mem_map.1 h1;exact h2 (h32 t h3))
 rw [e] at cC
 have htl:=h.tlt
 have hml:=h.mlt
 have hno:∀ b,b=mb→∀ o,w.cell? ⟨b,o,none⟩=none:=fun b e o=>by obtain ⟨f,h1,-⟩:=h.mp;rw [e];exact h1.nocell o
 have hk2:=hk.cut (bad:=fun b=>b=mb) (fun t ht e=>by have:=h32 t ht;omega) hno
 have HV:=Hid.mk' hV
 have Hl:=Hid.mk' hl
 have Hh:=Hid.mk' h
 have HT:=Hid.mk' hT
 have HH:=Hid.mk' hH
 have HK:=Hid.mk' hK
 have HR:=Hid.mk' hR
 have Hk:=Hid.mk' hk2
 have H32:=Hid.mk' h32
 have Hkb:=Hid.mk' hkb
 have Hi:=Hid.mk' hi
 have Hs:=Hid.mk' (And.intro hf7 (And.intro htl hml))
 have HsV:=Hid.mk' sV
 clear hV hT h hi hk hl hf7 e hno hk2 hH hK hR h32 hkb htl hml sV hkc
 obtain ⟨nn,-⟩:∃ nn:Nat,True:=⟨1,trivial⟩
 refine (callsIn_wide (n:=nn)).1 ?_
 refine callsIn_of_wp_marks Tryz.func33 rfl trivial ?_ rfl
 simp only [Tryz.ntmps33,List.size_toArray,List.length_cons,List.length_nil,Nat.reduceAdd,Nat.reduceSub,Array.replicate_succ,Array.replicate_zero,List.push_toArray,List.append_toArray,List.nil_append,List.cons_append]
 gi_wp2_with (rw [←HV.out];clear HV)
 refine wpIn_heldW (S:=fun u=>Below V.heap.size V u) (by kernel_rfl) (by kernel_rfl) bV (fun hS => ?_)
 refine tc 0 hS (fun u hu=>(k1.still hu).range 0 _ rfl) ?_
 (try simp only [pS])
 refine tg 1 hS ?_
 (try simp only [pS])
 refine cl 2 c ?_
 rintro e W1 ⟨rfl,hW1⟩
 obtain rfl:=hW1.symm
 refine ⟨_,rfl,hS,?_⟩
 (try simp only [pS])
 refine tg 3 hS (v := .bool false) ?_
 (try simp only [pS])
 refine tg 4 hS (v := .bool false) ?_
 (try simp only [pS])
 refine tc 5 hS (fun u hu=>(k2.still hu).range 0 _ rfl) ?_
 (try simp only [pS])
 refine tg 6 hS (v := .int .i64 (ks.length:Int)) ?_
 (try simp only [pS])
 refine tc 7 hS (fun u hu=>(k1.still hu).range 0 _ rfl) ?_
 (try simp only [pS])
 refine tg 8 hS ?_
 (try simp only [pS])
 refine cl 9 cF ?_
 rintro e W2 ⟨vf,rfl,how,hb2⟩
 obtain ⟨xf,cf,rfl⟩:=how.slice
 rw [←Hl.out]
 have hS2:=below_next hS hb2
 refine ⟨_,rfl,hS2,?_⟩
 (try simp only [pS])
 refine tg 10 hS2 (v := .int .i64 (ks.length:Int)) ?_
 (try simp only [pS])
 refine tg 11 hS2 (v := .bool false) ?_ (hy:=by intro u hu;go_simp)
 (try simp only [pS])
 refine tg 12 hS2 (v := .bool false) ?_
 (try simp only [pS])
 refine tg 13 hS2 (v := .bool false) ?_
 (try simp only [pS])
 refine tc 14 hS2 (fun u hu=>(k2.still hu).range 0 _ rfl) ?_
 (try simp only [pS])
 refine cl 15 (cC W2 hb2) ?_
 rintro e W3 ⟨rfl,hW3⟩
 obtain rfl:=hW3.symm
 refine ⟨_,rfl,hS2,?_⟩
 (try simp only [pS])
 refine tg 16 hS2 (v := .bool false) ?_
 (try simp only [pS])
 refine wpAnyH_done (by kernel_rfl) ?_ _
 refine OnlyN.normal ?_
 have bw2:=below_next b1 hS2
 replace k1:=k1.still hS2
 replace k2:=k2.still hS2
 have hs2:w.heap.size+2≤W2.heap.size:=by have:=HsV.out;have:=hS2.size;omega
 have Hs2:=Hid.mk' hs2
 clear c cF cC how hb2 hS hS2 bV bwV b1 HsV hs2
 obtain ⟨X2,hX2⟩:∃ X2,X2=(W2.alloc (.cells #[.slice none 0 0] 51)).alloc (.cells #[.slice none 0 0] 51):=⟨_,rfl⟩
 have r8:RW X2 W2.heap.size 0 [.slice none 0 0]:=by rw [hX2];exact (RW.fresh W2 [.slice none 0 0] 51).still ((Below.refl _ _).alloc (Nat.le_refl _) _)
 have r9:RW X2 (W2.heap.size+1) 0 [.slice none 0 0]:=by
  have:=RW.fresh (W2.alloc (.cells #[.slice none 0 0] 51)) [.slice none 0 0] 51
  rw [World.size_alloc] at this
  rw [hX2];exact this
 have b2:Below W2.heap.size W2 X2:=by rw [hX2];exact ((Below.refl _ _).alloc (Nat.le_refl _) _).alloc (by simp) _
 have s2:X2.heap.size=W2.heap.size+2:=by rw [hX2];simp
 have cM:=filtered_call tb i X2
 obtain ⟨X3,hX3⟩:∃ X3,X3=(X2.alloc (.cells #[pA tb 0] 23)).alloc (.cells #[.int .i64 i] 3):=⟨_,rfl⟩
 have rP:RW X3 X2.heap.size 0 [pA tb 0]:=by
  rw [hX3];exact (RW.fresh X2 [pA tb 0] 23).still ((Below.refl _ _).alloc (Nat.le_refl _) _)
 have rI:RW X3 (X2.heap.size+1) 0 [.int .i64 i]:=by
  have:=RW.fresh (X2.alloc (.cells #[pA tb 0] 23)) [.int .i64 i] 3
  rw [World.size_alloc] at this
  rw [hX3];exact this
 have b3:Below X2.heap.size X2 X3:=by rw [hX3];exact ((Below.refl _ _).alloc (Nat.le_refl _) _).alloc (by simp) _
 have s3:X3.heap.size=W2.heap.size+4:=by rw [hX3];simp;omega
 rw [←hX3] at cM
 rw [s2] at cM rP rI
 replace r8:=r8.still b3
 replace r9:=r9.still b3
 have bw23:=below_next b2 b3
 have hit:=filtered_it ok (W2.heap.size+2+1) (W2.heap.size+2) tb mb T HK.out i
 have hx7:=pathL_len i T.n
 have pT2:=(k1.still b2).range 0 _ rfl
 rw [Nat.zero_add] at pT2
 have HX2:=Hid.mk' hX2
 have Hs3:=Hid.mk' s3
 clear hX2 hX3 b2 b3 s2 s3
 gi_wp2_with (first
  | (rw [←HX2.out];clear HX2)
  | (refine ⟨trivial,(fun h=>by cases h),?_⟩;gi_at_call 102;refine (callsIn_wide.2 cM).mono ?_;clear cM;rintro e w1 ⟨rfl,hw1⟩;obtain rfl:=hw1.symm))
 have s3:=Hs3.out
 have hbq:∀ q∈[(W2.heap.size+2,pA tb 0),(W2.heap.size+2+1,Value.int .i64 i)],q.1<X3.heap.size∧q.1≠W2.heap.size∧q.1≠W2.heap.size+1:=fun q hq=>by
  simp only [List.mem_cons,List.not_mem_nil,or_false] at hq
  rcases hq with rfl | rfl
  · exact ⟨by show W2.heap.size+2<_;omega,by show W2.heap.size+2≠_;omega,by show W2.heap.size+2≠_;omega⟩
  · exact ⟨by show W2.heap.size+2+1<_;omega,by show W2.heap.size+2+1≠_;omega,by show W2.heap.size+2+1≠_;omega⟩
 have efl:filK T (pathL i T.n) (copathL i T.n) (pathL i T.n).length=filL T i:=rfl
 have ebl:filB T (pathL i T.n) (copathL i T.n) (pathL i T.n).length=besL T i:=rfl
 refine range_it hit rfl (enters_of Tryz.func170 (by kernel_rfl) rfl)
  (fun k=>SpJ W2 X3.heap.size W2.heap.size (W2.heap.size+1) [(W2.heap.size+2,pA tb 0),(W2.heap.size+2+1,.int .i64 i)] (filK T (pathL i T.n) (copathL i T.n) k) (filB T (pathL i T.n) (copathL i T.n) k))
  (fun _ _ _=>False) (fun _=>False) ?_ ?_ ?_ ?_ ?_ (fun b hb=>hb.elim) ?_ ?_ ?_ ?_
 · intro k M V V' hj hL;exact hj.loc hL (by omega) (by omega) (by omega) (fun q hq=>(hbq q hq).1)
 · intro c M V V' h;exact h.elim
 · intro k M V hk hj
   exact ⟨(hj.bx _ (List.mem_cons_self ..)).range 0 _ rfl,(hj.bx _ (List.mem_cons_of_mem _ (List.mem_cons_self ..))).range 0 _ rfl,HT.out.keep (below_next bw2 hj.bel),Hh.out.below (below_next bw2 hj.bel)⟩
 · intro k M V hk ha hj
   obtain ⟨e1,e2⟩:=filB_skip ha
   rw [e1,e2];exact hj
 · intro k a' ha
   rw [(filB_more ha).2.2];rfl
 · intro V hb
   exact SpJ.start (r8.still hb) (r9.still hb) (fun q hq=>by
    simp only [List.mem_cons,List.not_mem_nil,or_false] at hq
    rcases hq with rfl | rfl
    · exact rP.still hb
    · exact rI.still hb) (below_next bw23 hb) hb.size
 · intro k M V l a' hk ha hj hl1 hl2 hl3
   obtain ⟨e1,e2,e3⟩:=filB_more ha
   subst e3
   have hlen:=filK_len T (pathL i T.n) (copathL i T.n) k
   have hlen2:=filB_len T (pathL i T.n) (copathL i T.n) k
   rw [e1,e2]
   have hm64:k≤64:=by omega
   generalize filK T (pathL i T.n) (copathL i T.n) k=l1 at *
   generalize filB T (pathL i T.n) (copathL i T.n) k=l2 at *
   generalize ((pathL i T.n)[k]?).getD 0=x at *
   generalize ((copathL i T.n)[k]?).getD 0=y at *
   clear ha hit hj e1 e2 hk efl ebl hx7
   have Hs3:=Hid.mk' s3
   have Hlen:=Hid.mk' (And.intro hlen hlen2)
   clear s3 hlen hlen2
   gi_wp2
   refine ⟨Below.refl _ _,fun V2 hbt hsz hj2 => ?_⟩
   have Hsz:=Hid.mk' hsz
   clear hsz
   obtain ⟨v1,v2,q1,q2,o1,o2,m1,m2,ap⟩:=hj2.v
   obtain ⟨U,hU⟩:∃ U,U=V2.drew:=⟨_,rfl⟩
   have bU:Below V2.heap.size V2 U:=by rw [hU];exact (Below.refl _ _).drew
   have st0:St2 X3.heap.size V2 v1 v2 U v1 l1 v2 l2:=⟨o1.below bU,o2.below bU,But.of_below bU,.inl rfl,.inl rfl,ap,Nat.le_trans hj2.sz bU.size⟩
   have nown:∀ q,q<X3.heap.size→¬(v1.ownBlock=some q∨v2.ownBlock=some q):=fun q hq e=>by
    rcases e with e | e
    · have:=hj2.mB q (m1 q e);omega
    · have:=hj2.mB q (m2 q e);omega
   have hown1:∀ b,v1.ownBlock=some b→b<V2.heap.size:=fun b e=>o1.lt e
   have n8:¬(v1.ownBlock=some W2.heap.size∨v2.ownBlock=some W2.heap.size):=nown _ (by have:=Hs3.out;omega)
   have n9:¬(v1.ownBlock=some (W2.heap.size+1)∨v2.ownBlock=some (W2.heap.size+1)):=nown _ (by have:=Hs3.out;omega)
   have hbx:∀ {a1 a2:Value} {p1 p2:List Int} {u:World},St2 X3.heap.size V2 v1 v2 u a1 p1 a2 p2→RW u W2.heap.size 0 [v1]∧RW u (W2.heap.size+1) 0 [v2]:=fun hs=>⟨q1.but hs.bt n8,q2.but hs.bt n9⟩
   have hgr:∀ (u u':World),(RW u W2.heap.size 0 [v1]∧RW u (W2.heap.size+1) 0 [v2])→Below u.heap.size u u'→(RW u' W2.heap.size 0 [v1]∧RW u' (W2.heap.size+1) 0 [v2]):=fun u u' h hb=>⟨h.1.still hb,h.2.still hb⟩
   have hl1:l1.length+1≤1000000∧l2.length+1≤1000000:=by have:=Hlen.out;omega
   have Hfin:Hid (∀ (a1 a2:Value) (Z:World),St2 X3.heap.size V2 v1 v2 Z a1 (l1 ++ [x]) a2 (l2 ++ [y])→RoundQ X3.heap.size V.heap.size M (SpJ W2 X3.heap.size W2.heap.size (W2.heap.size+1) [(W2.heap.size+2,pA tb 0),(W2.heap.size+2+1,.int .i64 i)] (l1 ++ [x]) (l2 ++ [y])) (fun _ _ _=>False) V2 .normal { tmps:=#[],defers:=[] } ((Z.setCells W2.heap.size 0 [a1]).setCells (W2.heap.size+1) 0 [a2])):=Hid.mk' (fun a1 a2 Z hz=>by
    have hs3:=Hs3.out
    obtain ⟨h1,M',h2,h3⟩:=hj2.more q1 q2 m1 m2 hz (by omega) (by omega) (by omega) ⟨Nat.le_refl _,by omega⟩ hbq
    exact ⟨h1,M',fun b hb=>by rw [←Hsz.out];exact h2 b hb,h3⟩)
   gi_wp2
   refine wpIn_last2 8 (S:=fun u=>RW u W2.heap.size 0 [v1]∧RW u (W2.heap.size+1) 0 [v2]) (by kernel_rfl) (by kernel_rfl) (by kernel_rfl) (by kernel_rfl) (by kernel_rfl) (by kernel_rfl) (by rw [←hU];exact hbx st0) (fun hS => ?_)
   rw [←hU] at hS ⊢
   clear hU
   refine tc 0 hS (fun u hu=>hu.1.range 0 _ rfl) ?_
   (try simp only [pS])
   refine tg 1 hS ?_
   (try simp only [pS])
   refine tc 4 hS (fun u hu=>hu.2.range 0 _ rfl) ?_
   (try simp only [pS])
   refine tg 5 hS ?_
   (try simp only [pS])
   refine wpAnyH_ready (rs:=[2,6]) (by kernel_rfl) (by simp) (rG 2 (fun g => .slice (some ⟨g,0,none⟩) 1 1) [.int .i64 x] 3 (fun u hu=>hgr _ _ hS hu) (fun u1 g1 hg1 hb1 r1 => ?ordA) (rG 6 (fun g => .slice (some ⟨g,0,none⟩) 1 1) [.int .i64 y] 3 (fun u hu=>hgr _ _ hS hu) (fun u1 g2 hg2 hb1 r2 => ?ordB) AllReadyH.nil))
   case ordA =>
    have hS1:=hgr _ _ hS hb1
    have st1:=st0.keep hb1
    (try simp only [pS])
    obtain ⟨a1,U2,hr2,st2,-⟩:=st1.app1 hown1 ap (ok:=fun _=>True) g1 x (zo_rw r1) hl1.1 51
    have hS2:=hbx st2
    refine wpAnyH_ready (rs:=[3,6]) (by kernel_rfl) (by simp) (rR 3 (ex_append #[51,51] (.tmp 38) (.tmp 40) rfl rfl rfl hr2) hS2 ?ordAA (rG 6 (fun g => .slice (some ⟨g,0,none⟩) 1 1) [.int .i64 y] 3 (fun u hu=>hgr _ _ hS1 hu) (fun u3 g2 hg2 hb3 r2 => ?ordAB) AllReadyH.nil))
    case ordAA =>
     (try simp only [pS])
     refine wpAnyH_ready (rs:=[6]) (by kernel_rfl) (by simp) (rG 6 (fun g => .slice (some ⟨g,0,none⟩) 1 1) [.int .i64 y] 3 (fun u hu=>hgr _ _ hS2 hu) (fun u3 g2 hg2 hb3 r2 => ?_) AllReadyH.nil)
     have hS3:=hgr _ _ hS2 hb3
     have st3:=st2.keep hb3
     (try simp only [pS])
     obtain ⟨a2,U4,hr4,st4⟩:=st3.app2 (ok:=fun _=>True) g2 y (zo_rw r2) hl1.2 51
     have hS4:=hbx st4
     refine onr 7 (ex_append #[51,51] (.tmp 42) (.tmp 44) rfl rfl rfl hr4) hS4 ?_
     (try simp only [pS])
     have rz:=hbx st4
     obtain ⟨xa,ca,rfl⟩:=st4.o1.slice
     obtain ⟨xb,cb,rfl⟩:=st4.o2.slice
     have hfin:=Hfin.out _ _ _ st4
     have p8:=rz.1.range 0 _ rfl
     have f8:=(rz.1.there 0 (by simp)).2
     have rz9:=rz.2.far W2.heap.size 0 [.slice xa (l1 ++ [x]).length ca] (.inl (by omega))
     have p9:=rz9.range 0 _ rfl
     have f9:=(rz9.there 0 (by simp)).2
     have e1:(l1 ++ [x]).length=l1.length+1:=by simp
     have e2:(l2 ++ [y]).length=l2.length+1:=by simp
     rw [Nat.zero_add] at p8 f8 p9 f9
     rw [e1] at p9 f9 hfin
     rw [e2] at hfin
     change (U4.setCell ⟨W2.heap.size,0,none⟩ (.slice xa (l1.length+1) ca)).cell? _=_ at p9
     change (U4.setCell ⟨W2.heap.size,0,none⟩ (.slice xa (l1.length+1) ca)).frozen? _=_ at f9
     rw [e1,e2]
     refine wpAnyH_done (by kernel_rfl) ?_ _
     refine lastRun 8 (w':=U4.setCell ⟨W2.heap.size,0,none⟩ (.slice xa (l1.length+1) ca)) ?_
     refine lastRun 9 (w':=(U4.setCell ⟨W2.heap.size,0,none⟩ (.slice xa (l1.length+1) ca)).setCell ⟨W2.heap.size+1,0,none⟩ (.slice xb (l2.length+1) cb)) ?_
     refine OnlyN.normal ?_
     gi_wp2
     exact hfin
    case ordAB =>
     clear hr2 st2 hS2
     have hS3:=hgr _ _ hS1 hb3
     have st3:=st1.keep hb3
     (try simp only [pS])
     have r1b:=r1.still hb3
     obtain ⟨a1,U4,hr4,st4,hbt4⟩:=st3.app1 hown1 ap (ok:=fun _=>True) g1 x (zo_rw r1b) hl1.1 51
     have hS4:=hbx st4
     have r2b:=r2.but hbt4 (fun e=>by have:=hown1 _ e;have:=st1.bt.size;omega)
     refine onr 3 (ex_append #[51,51] (.tmp 38) (.tmp 40) rfl rfl rfl hr4) hS4 ?_
     (try simp only [pS])
     obtain ⟨a2,U5,hr5,st5⟩:=st4.app2 (ok:=fun _=>True) g2 y (zo_rw r2b) hl1.2 51
     have hS5:=hbx st5
     refine onr 7 (ex_append #[51,51] (.tmp 42) (.tmp 44) rfl rfl rfl hr5) hS5 ?_
     (try simp only [pS])
     have rz:=hbx st5
     obtain ⟨xa,ca,rfl⟩:=st5.o1.slice
     obtain ⟨xb,cb,rfl⟩:=st5.o2.slice
     have hfin:=Hfin.out _ _ _ st5
     have p8:=rz.1.range 0 _ rfl
     have f8:=(rz.1.there 0 (by simp)).2
     have rz9:=rz.2.far W2.heap.size 0 [.slice xa (l1 ++ [x]).length ca] (.inl (by omega))
     have p9:=rz9.range 0 _ rfl
     have f9:=(rz9.there 0 (by simp)).2
     have e1:(l1 ++ [x]).length=l1.length+1:=by simp
     have e2:(l2 ++ [y]).length=l2.length+1:=by simp
     rw [Nat.zero_add] at p8 f8 p9 f9
     rw [e1] at p9 f9 hfin
     rw [e2] at hfin
     change (U5.setCell ⟨W2.heap.size,0,none⟩ (.slice xa (l1.length+1) ca)).cell? _=_ at p9
     change (U5.setCell ⟨W2.heap.size,0,none⟩ (.slice xa (l1.length+1) ca)).frozen? _=_ at f9
     rw [e1,e2]
     refine wpAnyH_done (by kernel_rfl) ?_ _
     refine lastRun 8 (w':=U5.setCell ⟨W2.heap.size,0,none⟩ (.slice xa (l1.length+1) ca)) ?_
     refine lastRun 9 (w':=(U5.setCell ⟨W2.heap.size,0,none⟩ (.slice xa (l1.length+1) ca)).setCell ⟨W2.heap.size+1,0,none⟩ (.slice xb (l2.length+1) cb)) ?_
     refine OnlyN.normal ?_
     gi_wp2
     exact hfin
   case ordB =>
    have hS1:=hgr _ _ hS hb1
    have st1:=st0.keep hb1
    (try simp only [pS])
    refine wpAnyH_ready (rs:=[2]) (by kernel_rfl) (by simp) (rG 2 (fun g => .slice (some ⟨g,0,none⟩) 1 1) [.int .i64 x] 3 (fun u hu=>hgr _ _ hS1 hu) (fun u3 g1 hg1 hb3 r1 => ?_) AllReadyH.nil)
    have hS3:=hgr _ _ hS1 hb3
    have st3:=st1.keep hb3
    (try simp only [pS])
    have r2a:=r2.still hb3
    obtain ⟨a1,U4,hr4,st4,hbt4⟩:=st3.app1 hown1 ap (ok:=fun _=>True) g1 x (zo_rw r1) hl1.1 51
    have hS4:=hbx st4
    have r2b:=r2a.but hbt4 (fun e=>by have:=hown1 _ e;have:=bU.size;omega)
    refine onr 3 (ex_append #[51,51] (.tmp 38) (.tmp 40) rfl rfl rfl hr4) hS4 ?_
    (try simp only [pS])
    obtain ⟨a2,U5,hr5,st5⟩:=st4.app2 (ok:=fun _=>True) g2 y (zo_rw r2b) hl1.2 51
    have hS5:=hbx st5
    refine onr 7 (ex_append #[51,51] (.tmp 42) (.tmp 44) rfl rfl rfl hr5) hS5 ?_
    (try simp only [pS])
    have rz:=hbx st5
    obtain ⟨xa,ca,rfl⟩:=st5.o1.slice
    obtain ⟨xb,cb,rfl⟩:=st5.o2.slice
    have hfin:=Hfin.out _ _ _ st5
    have p8:=rz.1.range 0 _ rfl
    have f8:=(rz.1.there 0 (by simp)).2
    have rz9:=rz.2.far W2.heap.size 0 [.slice xa (l1 ++ [x]).length ca] (.inl (by omega))
    have p9:=rz9.range 0 _ rfl
    have f9:=(rz9.there 0 (by simp)).2
    have e1:(l1 ++ [x]).length=l1.length+1:=by simp
    have e2:(l2 ++ [y]).length=l2.length+1:=by simp
    rw [Nat.zero_add] at p8 f8 p9 f9
    rw [e1] at p9 f9 hfin
    rw [e2] at hfin
    change (U5.setCell ⟨W2.heap.size,0,none⟩ (.slice xa (l1.length+1) ca)).cell? _=_ at p9
    change (U5.setCell ⟨W2.heap.size,0,none⟩ (.slice xa (l1.length+1) ca)).frozen? _=_ at f9
    rw [e1,e2]
    refine wpAnyH_done (by kernel_rfl) ?_ _
    refine lastRun 8 (w':=U5.setCell ⟨W2.heap.size,0,none⟩ (.slice xa (l1.length+1) ca)) ?_
    refine lastRun 9 (w':=(U5.setCell ⟨W2.heap.size,0,none⟩ (.slice xa (l1.length+1) ca)).setCell ⟨W2.heap.size+1,0,none⟩ (.slice xb (l2.length+1) cb)) ?_
    refine OnlyN.normal ?_
    gi_wp2
    exact hfin
 · intro D M V hD hDl hDm hj hdf
   obtain ⟨v1,v2,q1,q2,o1,o2,m1,m2,ap⟩:=hj.v
   rw [efl] at o1
   rw [ebl] at o2
   have bwV:=below_next bw2 hj.bel
   have kT:=k1.still hj.bel
   have kK:=k2.still hj.bel
   obtain ⟨x1,c1,rfl⟩:=o1.slice
   obtain ⟨x2,c2,rfl⟩:=o2.slice
   have hss:=Hs.out
   have hs2:=Hs2.out
   have hw0:=Hh.out.wide (ok':=fun b=>ok b∧b<w.heap.size) (fun b hb h=>⟨h,hb⟩) (fun h=>Hh.out.ntb h.1) (fun h=>Hh.out.nmb h.1)
   have hTV:=hw0.below bwV
   have cB:=blankAbove_any (fun b=>ok b∧b<w.heap.size) tb mb T i V (HT.out.keep bwV) hTV
   have hn8:¬W2.heap.size=mb:=by omega
   have hn9:¬W2.heap.size+1=mb:=by omega
   have hnT:¬w.heap.size=mb:=by omega
   have hnK:¬w.heap.size+1=mb:=by omega
   have pT:=kT.range 0 _ rfl
   rw [Nat.zero_add] at pT
   have Hlbes:=Hid.mk' (filB_len T (pathL i T.n) (copathL i T.n) (pathL i T.n).length)
   have Hj:=Hid.mk' hj
   have Hq:=Hid.mk' (And.intro hss hs2)
   clear hit hj ap hss hs2 efl ebl
   gi_wp2_with (first
    | (refine ⟨trivial,(fun h=>by cases h),?_⟩;gi_at_call 103;refine (callsIn_wide.2 cB).mono ?_;clear cB;rintro e V2 ⟨⟨vb,rfl⟩,hT2,hb2⟩;(have bX:Below V2.heap.size V2 (V2.alloc (.cells #[.slice none 0 0] 29)):=(Below.refl _ _).alloc (Nat.le_refl _) _);(have p8:=((q1.but hb2 hn8).still bX).range 0 _ rfl);(rw [Nat.zero_add] at p8))
    | (refine ⟨trivial,(fun h=>by cases h),?_⟩;gi_at_call 104;refine (callsIn_wide.2 (backward_call x1 _ c1 _)).mono ?_;rintro e V4 ⟨rfl,hV4⟩;(have HV4:=Hid.mk' hV4);clear hV4))
   have kH:=RW.fresh V2 [.slice none 0 0] 29
   replace kH:RW (V2.alloc (.cells #[.slice none 0 0] 29)) V2.heap.size 0 [.slice none 0 0]:=kH
   have sX:(V2.alloc (.cells #[.slice none 0 0] 29)).heap.size=V2.heap.size+1:=World.size_alloc _ _
   have hV4:=HV4.out
   generalize V2.alloc (.cells #[.slice none 0 0] 29)=X at *
   have b4:Below X.heap.size X V4:=by rw [hV4];exact (Below.refl _ _).alloc (Nat.le_refl _) _
   have s4:V4.heap.size=X.heap.size+1:=by rw [hV4];exact World.size_alloc _ _
   have kC:RW V4 (V2.heap.size+1) 0 [.slice x1 (filL T i).length c1]:=by rw [←sX,hV4];exact RW.fresh X [.slice x1 (filL T i).length c1] 51
   have kH4:=kH.still b4
   have b24:=below_next bX b4
   have kT4:=(kT.but hb2 hnT).still b24
   have kK4:=(kK.but hb2 hnK).still b24
   have kS4:=(q2.but hb2 hn9).still b24
   have hj:=Hj.out
   have hbel:=hj.bel.size
   have hVV2:=hb2.size
   have hss:=Hq.out.1
   have hs2:=Hq.out.2
   have hm1:∀ b,((Value.slice x1 (filL T i).length c1).ownBlock=some b∨(Value.slice x2 (besL T i).length c2).ownBlock=some b)→X3.heap.size≤b:=fun b e=>by
    rcases e with e | e
    · exact hj.mB b (m1 b e)
    · exact hj.mB b (m2 b e)
   have z1:ZO (fun b=>w.heap.size≤b∧b<V2.heap.size) V4 (.slice x1 (filL T i).length c1) (filL T i):=((ZO.own o1).wide (ok':=fun b=>w.heap.size≤b∧b<V2.heap.size) (fun b hb h=>by omega)).same (Nat.le_trans hVV2 b24.size) (fun b hb h=>(b24.block b (by omega)).trans (hb2.block b hb (by omega)))
   have z2:ZO (fun b=>w.heap.size≤b∧b<V2.heap.size) V4 (.slice x2 (besL T i).length c2) (besL T i):=((ZO.own o2).wide (ok':=fun b=>w.heap.size≤b∧b<V2.heap.size) (fun b hb h=>by omega)).same (Nat.le_trans hVV2 b24.size) (fun b hb h=>(b24.block b (by omega)).trans (hb2.block b hb (by omega)))
   have hD4:V4.heap[D]? = some (.deferred (some [])):=(b24.block D (by omega)).trans ((hb2.block D hDl (by omega)).trans hdf)
   obtain ⟨f4,hf4⟩:=(hT2.below b24).f
   have bt4:But (fun j=>j=mb) w V4:=((But.of_below bwV).trans hb2).trans (But.of_below b24)
   have hlB:w.heap.size<V4.heap.size∧w.heap.size+1<V4.heap.size∧V2.heap.size+1<V4.heap.size∧W2.heap.size+1<V4.heap.size∧V2.heap.size<V4.heap.size∧tb<V4.heap.size∧mb<V4.heap.size∧D<V4.heap.size:=by omega
   have hge:w.heap.size≤w.heap.size∧w.heap.size≤w.heap.size+1∧w.heap.size≤V2.heap.size+1∧w.heap.size≤W2.heap.size+1∧w.heap.size≤D∧w.heap.size≤V2.heap.size:=by omega
   have hne:w.heap.size≠V2.heap.size∧w.heap.size+1≠V2.heap.size∧V2.heap.size+1≠V2.heap.size∧W2.heap.size+1≠V2.heap.size∧D≠V2.heap.size:=by omega
   have hok0:TrOK ⟨T.n,delL T.nd (pathL i T.n)⟩:=TrOK.sub (F:=T.nd) HK.out delL_sub
   have hxs:∀ (j:Nat) z,(filL T i)[j]? = some z→(0≤z∧z<2*(T.n:Int) - 1)∧z%2=1:=fun j z hz=>by
    obtain ⟨k,hk,e⟩:=filK_mem (List.mem_of_getElem? hz)
    rw [List.getElem?_eq_getElem hk,Option.getD_some] at e
    exact path_in (n:=T.n) (by rw [e];exact List.getElem_mem hk)
   have hse:∀ m,m<(filL T i).length→0≤((besL T i)[m]?).getD 0∧((besL T i)[m]?).getD 0<127∧levN (((besL T i)[m]?).getD 0).toNat<7:=fun m hm=>by
    have hlb:(besL T i).length=(filL T i).length:=Hlbes.out
    have hm2:m<(besL T i).length:=by omega
    rw [List.getElem?_eq_getElem hm2,Option.getD_some]
    obtain ⟨k,hk,e⟩:=filB_mem (List.getElem_mem hm2)
    obtain ⟨c1,c2⟩:=copath_at i T.n
    have hk2:k<(copathL i T.n).length:=by omega
    rw [e,List.getElem?_eq_getElem hk2,Option.getD_some]
    exact c2 k _ (List.getElem?_eq_getElem hk2)
   have hka:∀ j,j<(filL T i).length→(keyA ks j).n=32:=fun j hj=>by
    have hl:j<ks.length:=by have:=Hl.out;omega
    rw [keyA_at (List.getElem?_eq_getElem hl)]
    exact H32.out _ (List.getElem_mem hl)
   have hit2:=backward_it (V2.heap.size+1) (.slice x1 (filL T i).length c1) (filL T i) (by omega)
   have Hlw:=Hid.mk' (And.intro hlB (And.intro hge (And.intro hne hss)))
   clear hlB hge hne hj Hj hbel hVV2 hss hs2 hm1 hV4 HV4 kH bX b4 s4 sX o1 o2 q1 q2 m1 m2 p8 hTV hT2 kT kK bwV b24 Hq hdf hD hDl hDm
   refine range_it hit2 rfl (enters_of Tryz.func172 (by kernel_rfl) rfl)
    (fun k=>SqJ w V4.heap.size D w.heap.size (w.heap.size+1) (V2.heap.size+1) (W2.heap.size+1) V2.heap.size tb mb (.slice xk ks.length c0) (.slice x1 (filL T i).length c1) (.slice x2 (besL T i).length c2) ks T.n (filL T i) (besL T i) (fun b=>ok b∧b<w.heap.size) (delL T.nd (pathL i T.n)) k)
    (fun _ _ _=>False) (fun _=>False) ?_ ?_ ?_ ?_ ?_ (fun b hb=>hb.elim) ?_ ?_ ?_ ?_
   · intro k M W W' hj hL
     have hq:=Hlw.out
     exact hj.loc hL (by omega) (fun b h=>by omega) (by omega)
   · intro c M W W' h;exact h.elim
   · intro k M W hk hj
     exact ⟨hj.kC.range 0 _ rfl,_,hj.zW⟩
   · intro k M W hk ha hj;cases ha
   · intro k a' ha;cases ha;rfl
   · intro W hb
     exact ⟨kT4.still hb,kK4.still hb,kC.still hb,kS4.still hb,z1.keep hb,z2.keep hb,⟨f4,(hf4.same hb.size (fun b hl _=>hb.block b hl)).wide (fun b _ h => .inl h) (fun h=>by rcases h with h | h;exact hf4.ntb h;exact h) (fun h=>by rcases h with h | h;exact hf4.nmb h;exact h)⟩,⟨_,kH4.still hb,.inl ⟨none,rfl,rfl⟩⟩,(hb.block D Hlw.out.1.2.2.2.2.2.2.2).trans hD4,bt4.trans (But.of_below hb),(fun b h=>h.elim),hb.size⟩
   · intro k M U l a' hk ha hj hl1 hl2 hl3
     cases ha
     obtain ⟨m,hm⟩:∃ m,m=(filL T i).length - 1 - k:=⟨_,rfl⟩
     have hmlt:m<(filL T i).length:=by omega
     rw [←hm]
     have ex:((filL T i)[m]?).getD 0=(filL T i)[m]:=by rw [List.getElem?_eq_getElem hmlt];rfl
     obtain ⟨x,hx⟩:∃ x,x=((filL T i)[m]?).getD 0:=⟨_,rfl⟩
     rw [←hx]
     have hkl:m<ks.length:=by have:=Hl.out;omega
     have e9:spS T.n (filL T i) (besL T i) ks (delL T.nd (pathL i T.n)) (k+1)=(upn (spS T.n (filL T i) (besL T i) ks (delL T.nd (pathL i T.n)) k).1 x (some (.pr (spP ks m (spS T.n (filL T i) (besL T i) ks (delL T.nd (pathL i T.n)) k)))),⟨32,hbN ⟨T.n,upn (spS T.n (filL T i) (besL T i) ks (delL T.nd (pathL i T.n)) k).1 x (some (.pr (spP ks m (spS T.n (filL T i) (besL T i) ks (delL T.nd (pathL i T.n)) k))))⟩ (spP ks m (spS T.n (filL T i) (besL T i) ks (delL T.nd (pathL i T.n)) k)) (((besL T i)[m]?).getD 0)⟩):=by rw [hx,hm];rfl
     have hokk:=spS_ok (ss:=besL T i) (ks:=ks) hok0 hxs hka (k+1) hk
     have hokR:=spS_R (ss:=besL T i) (ks:=ks) hok0 hxs hka Hkb.out (fun x d h=>HR.out x d (delL_sub x d h)) (k+1) hk
     have hsi:=(spS_ok (ss:=besL T i) (ks:=ks) hok0 hxs hka k (by omega)).2
     have hslt:=spS_lt (n:=T.n) (xs:=filL T i) (ss:=besL T i) (ks:=ks) (F:=delL T.nd (pathL i T.n)) k
     have hsr:=hse m hmlt
     have hPR:prR (spP ks m (spS T.n (filL T i) (besL T i) ks (delL T.nd (pathL i T.n)) k)):=spP_R (hka m hmlt) hsi
     have hPK:prK (spP ks m (spS T.n (filL T i) (besL T i) ks (delL T.nd (pathL i T.n)) k)):=spP_K Hkb.out hslt
     rw [e9] at hokk hokR
     have hlb:m<(besL T i).length:=by have:=Hlbes.out;show m<(filB T (pathL i T.n) (copathL i T.n) (pathL i T.n).length).length;rw [this];exact hmlt
     have H9:=Hid.mk' e9
     have Hm:=Hid.mk' (And.intro hm (And.intro hmlt (And.intro hkl hlb)))
     have Hx:=Hid.mk' (And.intro hx ex)
     have Hoks:=Hid.mk' (And.intro hokk.1 (And.intro hokR (And.intro hPR hPK)))
     clear e9 hm hx ex hokk hokR hit2 hj
     gi_wp2
     refine ⟨Below.refl _ _,fun U2 hbt hsz hj2 => ?_⟩
     have Hsz:=Hid.mk' (And.intro hsz (And.intro hl1 (And.intro hl2 hl3)))
     obtain ⟨hv,qh,hB⟩:=hj2.hs
     obtain ⟨xh,kh,rfl,-⟩:=hB.of.src
     have hkey:=Hk.out.same hj2.bt.size (fun b hb ho=>hj2.bt.block b hb ho.2)
     obtain ⟨xk',co',ek,-,hkz⟩:=id hkey
     obtain ⟨rfl,rfl⟩:xk=xk'∧c0=co':=by injection ek with h1 h2 h3;exact ⟨h1,h3⟩
     obtain ⟨go,oo,u,rfl,-,-,hcu,hBu⟩:=hkz m _ (List.getElem?_eq_getElem Hm.out.2.2.1)
     have h32m:=H32.out _ (List.getElem_mem Hm.out.2.2.1)
     rw [h32m] at hBu
     have hBk:=hBu.of
     obtain ⟨xu,cu,rfl,-⟩:=hBk.src
     have eky:keyA ks m=ks[m]:=keyA_at (List.getElem?_eq_getElem Hm.out.2.2.1)
     have hm0:(0:Int)≤(m:Int):=by omega
     have hmk:(m:Int)<(ks.length:Int):=by have:=Hm.out;omega
     have Hek:=Hid.mk' (And.intro eky h32m)
     obtain ⟨tk,htk⟩:∃ tk,tk=ks[m].b:=⟨_,rfl⟩
     rw [←htk] at hBk
     have Htk:=Hid.mk' htk
     clear hkz hBu ek hbt hsz hl1 hl2 hl3 eky h32m htk hkey
     obtain ⟨Y,hY⟩:∃ Y,Y=U2.drew:=⟨_,rfl⟩
     have bY:Below U2.heap.size U2 Y:=by rw [hY];exact (Below.refl _ _).drew
     have kKY:=hj2.kK.still bY
     have qhY:=qh.still bY
     have hcY:Y.cell? ⟨go,oo+m,none⟩=some (.slice xu 32 cu):=(bY.cell (p:=⟨go,oo+m,none⟩) (block_lt_of_cell hcu)).trans hcu
     gi_upto_region 13 with (fail)
     gi_cut [15] from 53 (fun pv wc=>∃ gp,pv=pA gp 0∧U2.heap.size≤gp∧∃ g4 c4,32≤c4∧U2.heap.size≤g4∧g4<wc.heap.size∧RowAt .u8 wc g4 0 32 tk∧RW wc gp 0 [.slice (some ⟨g4,0,none⟩) 32 c4,.slice xh (spS T.n (filL T i) (besL T i) ks (delL T.nd (pathL i T.n)) k).2.n kh,.slice none 0 0]∧Below U2.heap.size U2 wc)
     case first =>
      rename_i J0 K0 hJ0 hK0
      refine wpIn_last4 8 (S:=fun u=>Below Y.heap.size Y u) (by kernel_rfl) (by kernel_rfl) (by kernel_rfl) (by kernel_rfl) (by kernel_rfl) (by rw [hY];exact Below.refl _ _) (fun hS => ?_)
      rw [←hY] at hS ⊢
      refine tc 0 hS (fun u hu=>(kKY.still hu).range 0 _ rfl) ?_
      (try simp only [pS])
      refine tg 1 hS ?_
      (try simp only [pS])
      refine tg 2 hS (v:=pA go (oo+m)) ?_
      (try simp only [pS])
      refine tc 3 hS (fun u hu=>(hu.cell (p:=⟨go,oo+m,none⟩) (block_lt_of_cell hcY)).trans hcY) ?_
      (try simp only [pS])
      refine tc 5 hS (fun u hu=>(qhY.still hu).range 0 _ rfl) ?_
      (try simp only [pS])
      refine wpAnyH_ready (rs:=[4,7]) (by kernel_rfl) (by simp) (rC 4 (kClone_any _ _ Y (hBk.keep bY)) (fun e Y1 hr => ?_) (rG 7 (fun g=>pA g 0) [.slice none 0 0,.slice none 0 0,.slice none 0 0] 121 (fun u hu=>hu) (fun Y1 gp hgp hb1 rp => ?ordC) AllReadyH.nil))
      · obtain ⟨g4,c4,rfl,hg4,hgl4,hc4,r4,hb1⟩:=hr
        refine ⟨_,rfl,hb1,?_⟩
        (try simp only [pS])
        refine tg 6 hb1 (v := .agg #[.slice (some ⟨g4,0,none⟩) 32 c4,.slice xh (spS T.n (filL T i) (besL T i) ks (delL T.nd (pathL i T.n)) k).2.n kh,.slice none 0 0]) ?_ (hy:=by intro u _;kernel_rfl)
        (try simp only [pS])
        refine wpAnyH_ready (rs:=[7]) (by kernel_rfl) (by simp) (rG 7 (fun g=>pA g 0) [.slice none 0 0,.slice none 0 0,.slice none 0 0] 121 (fun u hu=>below_next hb1 hu) (fun Y2 gp hgp hb2 rp => ?_) AllReadyH.nil)
        (try simp only [pS])
        have r42:RowAt .u8 Y2 g4 0 32 tk:=r4.below hb2 hgl4
        refine wpAnyH_done (by kernel_rfl) ?_ _
        refine lastRow 8 121 15 59 [.slice (some ⟨g4,0,none⟩) 32 c4,.slice xh (spS T.n (filL T i) (besL T i) ks (delL T.nd (pathL i T.n)) k).2.n kh,.slice none 0 0] rp rfl (by kernel_rfl) (by simp [Value.oneCell']) (fun rr => ?_)
        refine OnlyN.normal ?_
        dsimp only [Act.put]
        refine hK0 _ _ (Met.intro (hJ0 _ _ ?_))
        refine ⟨_,_,_,_,_,_,_,_,_,_,_,_,_,_,_,_,_,_,_,_,_,_,_,⟨gp,rfl,?_,g4,c4,hc4,?_,?_,?_,rr,?_⟩,rfl⟩
        · have:=bY.size;have:=hb1.size;omega
        · have:=bY.size;omega
        · rw [(setCells_same gp _ 0 Y2).2.2.2];have:=hb2.size;omega
        · exact r42.far5 (by omega)
        · exact below_setCells (by have:=bY.size;have:=hb1.size;omega) _ _ _ (below_next bY (below_next hb1 hb2))
      case ordC =>
       (try simp only [pS])
       refine cl 4 (kClone_any _ _ Y1 (hBk.keep (below_next bY hb1))) (fun e Y2 hr => ?_)
       obtain ⟨g4,c4,rfl,hg4,hgl4,hc4,r4,hb2⟩:=hr
       have hS2:=below_next hb1 hb2
       refine ⟨_,rfl,hS2,?_⟩
       (try simp only [pS])
       refine tg 6 hS2 (v := .agg #[.slice (some ⟨g4,0,none⟩) 32 c4,.slice xh (spS T.n (filL T i) (besL T i) ks (delL T.nd (pathL i T.n)) k).2.n kh,.slice none 0 0]) ?_ (hy:=by intro u _;kernel_rfl)
       (try simp only [pS])
       have rp2:=rp.still hb2
       have hgl:=rp.lt
       refine wpAnyH_done (by kernel_rfl) ?_ _
       refine lastRow 8 121 15 59 [.slice (some ⟨g4,0,none⟩) 32 c4,.slice xh (spS T.n (filL T i) (besL T i) ks (delL T.nd (pathL i T.n)) k).2.n kh,.slice none 0 0] rp2 rfl (by kernel_rfl) (by simp [Value.oneCell']) (fun rr => ?_)
       refine OnlyN.normal ?_
       dsimp only [Act.put]
       refine hK0 _ _ (Met.intro (hJ0 _ _ ?_))
       refine ⟨_,_,_,_,_,_,_,_,_,_,_,_,_,_,_,_,_,_,_,_,_,_,_,⟨gp,rfl,?_,g4,c4,hc4,?_,?_,?_,rr,?_⟩,rfl⟩
       · have:=bY.size;omega
       · have:=bY.size;have:=hb1.size;omega
       · rw [(setCells_same gp _ 0 Y2).2.2.2];exact hgl4
       · exact r4.far5 (by omega)
       · exact below_setCells (by have:=bY.size;omega) _ _ _ (below_next bY hS2)
     case rest =>
      obtain ⟨gp,rfl,hgp,g4,c4,hc4,hg4,hgl4,r4,rp,bwc⟩:=hcut
      obtain ⟨Z,hZ⟩:∃ Z,Z=wc.drew:=⟨_,rfl⟩
      have bZ:Below wc.heap.size wc Z:=by rw [hZ];exact (Below.refl _ _).drew
      have b2Z:=below_next bwc bZ
      have kTZ:=hj2.kT.still b2Z
      have rpZ:=rp.still bZ
      have hgl4Z:g4<Z.heap.size:=Nat.lt_of_lt_of_le hgl4 bZ.size
      have r4Z:RowAt .u8 Z g4 0 32 tk:=r4.below bZ hgl4
      obtain ⟨f,hf⟩:=hj2.tr
      have hfZ:=hf.same b2Z.size (fun b hb _=>b2Z.block b hb)
      have hBZ:=hB.same b2Z.size (fun b hb _=>b2Z.block b hb)
      clear hY bY kKY qhY hcY hcu hBk rp bwc hgl4 r4 hf hB
      gi_upto_region 14 with (fail)
      refine wpIn_last4 7 (S:=fun u=>Below Z.heap.size Z u) (by kernel_rfl) (by kernel_rfl) (by kernel_rfl) (by kernel_rfl) (by kernel_rfl) (by rw [hZ];exact Below.refl _ _) (fun hS => ?_)
      rw [←hZ] at hS ⊢
      clear hZ bZ
      refine tc 0 hS (fun u hu=>(kTZ.still hu).range 0 _ rfl) ?_
      (try simp only [pS])
      refine tg 1 hS ?_
      (try simp only [pS])
      refine tg 2 hS ?_
      (try simp only [pS])
      refine tc 3 hS (fun u hu=>(hfZ.same hu.size (fun b hb _=>hu.block b hb)).st) ?_
      (try simp only [pS])
      refine tg 4 hS ?_
      (try simp only [pS])
      refine tl 5 rpZ hS 121 Tryz.underlying121 (by kernel_rfl) ?_
      (try simp only [pS])
      refine tg 6 hS (v := .iface 121 (.agg [.slice (some ⟨g4,0,none⟩) 32 c4,.slice xh (spS T.n (filL T i) (besL T i) ks (delL T.nd (pathL i T.n)) k).2.n kh,.slice none 0 0].toArray)) ?_ (hy:=by intro u _;rfl)
      (try simp only [pS])
      have hq:=Hlw.out
      have hM2:∀ b,(M b∨U.heap.size≤b)→V4.heap.size≤b:=fun b hb=>by
       rcases hb with hb | hb
       · exact hj2.mB b hb
       · have:=hj2.sz;have:=Hsz.out.1;omega
      have hfW:TrF (fun b=>(ok b∧b<w.heap.size)∨(M b∨U.heap.size≤b)) Z tb mb T.n f (spS T.n (filL T i) (besL T i) ks (delL T.nd (pathL i T.n)) k).1 :=
       hfZ.wide (fun b _ h=>h.imp id .inl) (fun h=>by rcases h with h | h;exact hfZ.ntb (.inl h);have:=hM2 _ h;omega) (fun h=>by rcases h with h | h;exact hfZ.nmb (.inl h);have:=hM2 _ h;omega)
      have hO:PrO (fun b=>(ok b∧b<w.heap.size)∨(M b∨U.heap.size≤b)) Z [.slice (some ⟨g4,0,none⟩) 32 c4,.slice xh (spS T.n (filL T i) (besL T i) ks (delL T.nd (pathL i T.n)) k).2.n kh,.slice none 0 0] (spP ks m (spS T.n (filL T i) (besL T i) ks (delL T.nd (pathL i T.n)) k)):=by
       refine ⟨_,_,_,rfl,?_,hBZ.wide (fun b _ h => .inr (.inl h)),ZO.nil _ _⟩
       show BO _ Z _ (keyA ks m).n (keyA ks m).b
       rw [Hek.out.1,Hek.out.2,←Htk.out]
       exact .inr ⟨g4,0,c4,rfl,.inr (.inr (by have:=Hsz.out.1;omega)),hgl4Z,hc4,fun j hj=>(r4Z j hj).1⟩
      obtain ⟨Z2,hrun,h7,hb3,hs3⟩:=hfW.put x (.iface 121 (.agg [.slice (some ⟨g4,0,none⟩) 32 c4,.slice xh (spS T.n (filL T i) (besL T i) ks (delL T.nd (pathL i T.n)) k).2.n kh,.slice none 0 0].toArray)) (d := .pr (spP ks m (spS T.n (filL T i) (besL T i) ks (delL T.nd (pathL i T.n)) k))) ⟨_,rfl,hO⟩
      refine wpAnyH_done (by kernel_rfl) ?_ _
      refine lastRun 7 (w':=Z2) ?_ (hrun:=ex_mapUpdate 69 (.tmp 63) (.tmp 64) (.tmp 66) rfl rfl rfl rfl hrun)
      refine OnlyN.normal ?_
      dsimp only [Act.put]
      have b2Z2:But (fun j=>j=mb) U2 Z2:=(But.of_below b2Z).trans hb3
      have kT2:=hj2.kT.but b2Z2 (by omega)
      have rp2:=rpZ.but hb3 (by have:=hj2.bt.size;omega)
      have kS2:=hj2.kS.but b2Z2 (by omega)
      have qh2:=qh.but b2Z2 (by omega)
      have hwU:=hj2.bt.size
      have zS2:=hj2.zS.same b2Z2.size (fun b hb ho=>b2Z2.block b hb (by omega))
      have hO2:=hO.same (Nat.le_of_eq hs3.symm) (fun b hb ho=>hb3.block b hb (by
       rcases ho with ho | ho
       · exact fun e=>Hh.out.nmb (e ▸ ho.1)
       · have:=hM2 b ho;omega))
      have hsv:=hsr
      obtain ⟨sv,hsv0⟩:∃ sv,sv=((besL T i)[m]?).getD 0:=⟨_,rfl⟩
      have hsv1:(besL T i)[m]? = some sv:=by rw [hsv0,List.getElem?_eq_getElem Hm.out.2.2.2];rfl
      rw [←hsv0] at hsr
      obtain ⟨xs',cs',es',-,-,hzs⟩:=id zS2
      obtain ⟨rfl,rfl⟩:x2=xs'∧c2=cs':=by injection es' with h1 h2 h3;exact ⟨h1,h3⟩
      obtain ⟨gs,os,rfl,-,-,hcs⟩:=hzs m sv hsv1
      have hml:(m:Int)<((besL T i).length:Int):=by have:=Hm.out;omega
      have bt2:But (fun j=>j=mb) w Z2:=hj2.bt.trans b2Z2
      have Hsv:=Hid.mk' hsv0
      have Hq2:=Hid.mk' (And.intro hwU hq)
      have HM2:=Hid.mk' hM2
      obtain ⟨Y5,hY5⟩:∃ Y5,Y5=Z2.drew:=⟨_,rfl⟩
      have bY5:Below Z2.heap.size Z2 Y5:=by rw [hY5];exact (Below.refl _ _).drew
      have kT5:=kT2.still bY5
      have rp5:=rp2.still bY5
      have kS5:=kS2.still bY5
      have qh5:=qh2.still bY5
      have hc5:Y5.cell? ⟨gs,os+m,none⟩=some (.int .i64 sv):=(bY5.cell (p:=⟨gs,os+m,none⟩) (block_lt_of_cell hcs)).trans hcs
      have bt5:=bt2.trans (But.of_below bY5)
      have hO5:=hO2.same bY5.size (fun b hb _=>bY5.block b hb)
      have hT5:=((h7.same bY5.size (fun b hb _=>bY5.block b hb)).at)
      have cH:=hashBeside_any _ _ tb mb ⟨T.n,(upn (spS T.n (filL T i) (besL T i) ks (delL T.nd (pathL i T.n)) k).1 x (some (.pr (spP ks m (spS T.n (filL T i) (besL T i) ks (delL T.nd (pathL i T.n)) k)))))⟩ Hoks.out.1 Hoks.out.2.1 [.slice (some ⟨g4,0,none⟩) 32 c4,.slice xh (spS T.n (filL T i) (besL T i) ks (delL T.nd (pathL i T.n)) k).2.n kh,.slice none 0 0] (spP ks m (spS T.n (filL T i) (besL T i) ks (delL T.nd (pathL i T.n)) k)) Hoks.out.2.2.1 Hoks.out.2.2.2 sv ⟨hsr.1,hsr.2.1⟩ hsr.2.2 Y5 (Hh.out.dbt HT.out (bt5.mono fun _ h => .inl h)) (Hh.out.htab HH.out (bt5.mono fun _ h => .inl h)) hT5 hO5
      clear hrun hfW hO hO2 rp2 kS2 qh2 zS2 hzs es' hcs hfZ hBZ rpZ kTZ hgl4Z r4Z hsv0 hsv1 hsv hwU hq hM2 kT2 hS bt2 hO5 hT5
      gi_upto_region 15 with (fail)
      refine wpIn_last4 7 (S:=fun u=>Below Y5.heap.size Y5 u) (by kernel_rfl) (by kernel_rfl) (by kernel_rfl) (by kernel_rfl) (by kernel_rfl) (by rw [hY5];exact Below.refl _ _) (fun hS => ?_)
      rw [←hY5] at hS ⊢
      clear hY5
      refine tc 0 hS (fun u hu=>(kT5.still hu).range 0 _ rfl) ?_
      (try simp only [pS])
      refine tl 1 rp5 hS 121 Tryz.underlying121 (by kernel_rfl) ?_
      (try simp only [pS])
      refine tc 2 hS (fun u hu=>(kS5.still hu).range 0 _ rfl) ?_
      (try simp only [pS])
      refine tg 3 hS ?_
      (try simp only [pS])
      refine tg 4 hS (v:=pA gs (os+m)) ?_
      (try simp only [pS])
      refine tc 5 hS (fun u hu=>(hu.cell (p:=⟨gs,os+m,none⟩) (block_lt_of_cell hc5)).trans hc5) ?_
      (try simp only [pS])
      refine cl 6 cH (fun e Y6 hr => ?_)
      obtain ⟨g6,rfl,hg6,r6,hb6⟩:=hr
      refine ⟨_,rfl,hb6,?_⟩
      (try simp only [pS])
      have qh6:=qh5.still hb6
      have p6:=qh6.range 0 _ rfl
      have f6:=(qh6.there 0 (by simp)).2
      rw [Nat.zero_add] at p6 f6
      have hgl6:g6<Y6.heap.size:=block_lt_of_cell (r6 0 (by decide)).1
      have b26:But (fun j=>j=mb) U2 Y6:=(b2Z2.trans (But.of_below bY5)).trans (But.of_below hb6)
      have h76:=h7.same (Nat.le_trans bY5.size hb6.size) (fun b hb _=>((hb6.block b (Nat.lt_of_lt_of_le hb bY5.size)).trans (bY5.block b hb)))
      refine wpAnyH_done (by kernel_rfl) ?_ _
      refine lastRun 7 (w':=Y6.setCell ⟨V2.heap.size,0,none⟩ (.slice (some ⟨g6,0,none⟩) 32 32)) ?_
      refine OnlyN.normal ?_
      have hq:=Hq2.out.2
      have hwU:=Hq2.out.1
      have hM2:=HM2.out
      have hUs:=Hsz.out.1
      have b67:But (fun j=>j=V2.heap.size) Y6 (Y6.setCell ⟨V2.heap.size,0,none⟩ (.slice (some ⟨g6,0,none⟩) 32 32)):=⟨rfl,rfl,rfl,by simp,fun b _ hb=>Below.heap_setCell _ _ _ _ hb⟩
      have b27:But (fun j=>j=mb∨j=V2.heap.size) U2 (Y6.setCell ⟨V2.heap.size,0,none⟩ (.slice (some ⟨g6,0,none⟩) 32 32)):=(b26.mono fun _ h => .inl h).trans (b67.mono fun _ h => .inr h)
      have hZs:U2.heap.size≤Y5.heap.size:=Nat.le_trans b2Z2.size bY5.size
      have hin:RoundQ V4.heap.size U.heap.size M (SqJ w V4.heap.size D w.heap.size (w.heap.size+1) (V2.heap.size+1) (W2.heap.size+1) V2.heap.size tb mb (.slice (some ⟨go,oo,none⟩) ks.length c0) (.slice x1 (filL T i).length c1) (.slice (some ⟨gs,os,none⟩) (besL T i).length c2) ks T.n (filL T i) (besL T i) (fun b=>ok b∧b<w.heap.size) (delL T.nd (pathL i T.n)) (k+1)) (fun _ _ _=>False) U2 .normal { tmps:=#[],defers:=[] } (Y6.setCell ⟨V2.heap.size,0,none⟩ (.slice (some ⟨g6,0,none⟩) 32 32)):=by
       refine ⟨Fro.of_but b27 (fun b hb => .inl (by omega)),fun b=>M b∨U.heap.size≤b,fun b hb=>hb,?_⟩
       refine hj2.next b27 (by omega) (by omega) (by omega) (by omega) ?_ ?_ hM2
       · rw [H9.out]
         exact ⟨_,h76.same b67.size (fun b hb ho=>b67.block b hb (by
          rcases ho with (ho | ho) | ho | ho
          · omega
          · have hho:=ho
            rcases ho with ho | ho
            · intro e
              have:=hj2.mB b ho
              omega
            · have:=hM2 b hho;omega
          · omega
          · omega))⟩
       · rw [H9.out]
         refine ⟨_,qh6.stored [.slice (some ⟨g6,0,none⟩) 32 32] rfl,.inr ⟨g6,0,32,rfl,.inr (by omega),by rw [World.size_setCell];exact hgl6,Nat.le_refl _,fun j hj => ?_⟩⟩
         have:=(r6.far (a:=⟨V2.heap.size,0,none⟩) (by show V2.heap.size≠g6;have:=hj2.sz;omega) (.slice (some ⟨g6,0,none⟩) 32 32) j hj).1
         rw [←Hsv.out]
         exact this
      gi_wp2
      exact hin
   · intro D2 M U hD2 hD2l hD2m hj hdf2
     obtain ⟨f,hf⟩:=hj.tr
     obtain ⟨hv,qh,hB⟩:=hj.hs
     have hdf1:=hj.df
     have p12:=qh.range 0 _ rfl
     rw [Nat.zero_add] at p12
     obtain ⟨xh,kh,rfl,-⟩:=hB.of.src
     clear hit2
     gi_wp2
     have hq:=Hlw.out
     have hne2:D≠D2:=by omega
     have hsz:=hj.sz
     have bp2:=but_put U D2 (.deferred none)
     have hdf3:(U.putObj D2 (.deferred none)).heap[D]? = some (.deferred (some [])):=(bp2.block D (by omega) hne2).trans hdf1
     have bp1:=but_put (U.putObj D2 (.deferred none)) D (.deferred none)
     have hall:∀ b,b<U.heap.size→b≠D2→b≠D→((U.putObj D2 (.deferred none)).putObj D (.deferred none)).heap[b]? = U.heap[b]?:=fun b hb h1 h2=>(bp1.block b (Nat.lt_of_lt_of_le hb bp2.size) h2).trans (bp2.block b hb h1)
     have hMD:∀ b,M b→b≠D2∧b≠D:=fun b hb=>⟨fun e=>hD2m (e ▸ hb),fun e=>by have:=hj.mB b hb;omega⟩
     refine ⟨by simp,.inl ⟨_,_,rfl,run_takeDeferred hdf2,?_⟩⟩
     refine ⟨by simp,.inl ⟨_,_,rfl,run_takeDeferred hdf3,?_⟩⟩
     refine ⟨_,results_tmp2 rfl _ _ _,_,rfl,?_,?_,?_⟩
     · exact (hB.same (Nat.le_trans bp2.size bp1.size) (fun b hb ho=>hall b hb (hMD b ho).1 (hMD b ho).2)).wide (fun b _ ho=>by have:=hj.mB b ho;omega)
     · have h5:=hf.same (Nat.le_trans bp2.size bp1.size) (fun b hb ho=>hall b hb (by
        rcases ho with (ho | ho) | ho | ho
        · omega
        · exact (hMD b ho).1
        · omega
        · omega) (by
        rcases ho with (ho | ho) | ho | ho
        · omega
        · exact (hMD b ho).2
        · omega
        · omega))
       exact (h5.wide (fun b _ ho=>by
        rcases ho with ho | ho
        · exact .inl ho.1
        · exact .inr (by have:=hj.mB b ho;omega)) (fun h=>by rcases h with h | h;exact Hh.out.ntb h;omega) (fun h=>by rcases h with h | h;exact Hh.out.nmb h;omega)).at
     · exact ⟨bp1.os.trans (bp2.os.trans hj.bt.os),bp1.tape.trans (bp2.tape.trans hj.bt.tape),bp1.output.trans (bp2.output.trans hj.bt.output),Nat.le_trans hj.bt.size (Nat.le_trans bp2.size bp1.size),fun b hb hn=>(hall b (Nat.lt_of_lt_of_le hb hj.bt.size) (by omega) (by omega)).trans (hj.bt.block b hb hn)⟩
   · intro D2 c M U hD hDl hDm h;exact h.elim
 · intro D c M V hD hDl hDm h;exact h.elim
end Go.Proofs.YtddkbmnkbfciaaaGreatDoor
