/- What the proof stands on: R9C, R9O, R8L. -/
import Derived.Test.YtbbikhlbkpjpjaaGreatDoorCards
import Derived.Test.YtbbikhlbkpjpjaaGreatDoorHRefSmallM
import Derived.Test.YtbbikhlbkpjpjaaGreatDoorL5AM
import Derived.Test.YtbbikhlbkpjpjaaGreatDoorR7EM
import Derived.Test.YtbbikhlbkpjpjaaGreatDoorR8TM
import Derived.Test.YtbbikhlbkpjpjaaGreatDoorR8VM
import Derived.Test.YtbbikhlbkpjpjaaGreatDoorTie
import Derived.Lib.LaidTab
import Derived.Lib.SmallJoins
namespace Go.Proofs.YtbbikhlbkpjpjaaGreatDoor
open Go.RowKit
set_option maxRecDepth 100000 in
set_option maxHeartbeats 8000000 in
theorem ratchetApart_any (sv:Value) (n:Nat) (bs:Nat→Nat) (hbs:∀ j,bs j<256) (lv:Value) (ss:List Op17) (lf:Int) (t:Bool) (w:World) (hT:TabAt w) (hD:DbT w) (hv:BytesIn w sv n bs) (hl:OpsAt17 w lv ss) (hsz:ss.length≤140737488355328) :
 Calls Tryz.prog 6 #[sv,lv,.int .i64 lf,.bool t] w fun e w'=>e = .returned (.bool true)∧Below w.heap.size w w':=by
 obtain ⟨i,hi4,ei⟩:=norm17 lf 4 (by decide) (by decide)
 replace ei:Int.tmod (wrap64 (Int.tmod lf 4+4)) 4=(i:Int):=ei
 obtain ⟨xo,cp,rfl,hops⟩:=hl
 have cF:=fit17_any sv n bs w hv
 have hR:=fit17_lt (n:=n) hbs
 obtain ⟨R,hRe⟩:∃ R,R=fit17 n bs:=⟨_,rfl⟩
 rw [←hRe] at cF hR
 have Hops:=Hid.mk' hops
 clear hv hRe hops
 go_enter Tryz.func6,Tryz.ntmps6
 go_upto_region 4 with (first
  | (go_at_call 19;refine cF.mono ?_;clear cF;rintro e w1 ⟨rfl,hlt,hrow,hb1⟩;have cN:=kNew w.heap.size 0 32 R hR (n:=4) (by decide) hlt hrow)
  | (go_at_call 7;refine cN.mono ?_;clear cN;rintro e w2 ⟨r1,r2,r3,r4,rfl,hr,hb2,hrn⟩))
 have cM:=kNew w.heap.size 0 32 R hR (n:=4) (by decide) (Nat.lt_of_lt_of_le hlt hb2.size) (range_keep hrow hlt hb2)
 go_upto_region 5 with (go_at_call 7;refine cM.mono ?_;clear cM;rintro e w3 ⟨s1,s2,s3,s4,rfl,hs,hb3,hsn⟩)
 have hb12:=below_next hb1 hb2
 have J:ApJ w r1 r2 r3 r4 s1 s2 s3 s4 R i t w3:=by
  have l2:=hr.lts
  have z1:=hb1.size
  have z2:=hb2.size
  refine ⟨⟨ab0,rfl,hr.still hb3⟩,hs,below_next hb12 hb3,⟨by omega,by omega,by omega,by omega⟩,⟨by omega,by omega,by omega,by omega⟩,fun x e => ?_⟩
  rcases e with e | e | e | e
  · exact ⟨by omega,by omega,by omega,by omega⟩
  · exact ⟨by omega,by omega,by omega,by omega⟩
  · exact ⟨by omega,by omega,by omega,by omega⟩
  · exact ⟨by omega,by omega,by omega,by omega⟩
 clear hr hs hb3 hb2 hb1 hb12 hrow hlt hrn hsn
 go_wp2_with (first
  | (go_at_call 9;refine (num17_any _ _).mono ?_;rintro e wn ⟨rfl,hwn⟩;obtain rfl:=hwn.symm)
  | (go_at_call 10;refine (knows17_any _ (hT.still J.b) (hD.keep J.b)).mono ?_;rintro e w4 ⟨rfl,hb4⟩;replace J:=J.still hb4;clear hb4))
 go_loopw [13] (fun x wr=>∃ k:Nat,k≤ss.length∧x = .int .i64 (k:Int)∧ApJ w r1 r2 r3 r4 s1 s2 s3 s4 R i t wr) (fun x _=>ss.length - (intOf x).toNat)
 case atStart=>exact ⟨0,Nat.zero_le _,rfl,J⟩
 case round =>
  clear J
  obtain ⟨k,hk,rfl,J⟩:=hrel
  by_cases hlt:k<ss.length
  · have hlt':(k:Int)<(ss.length:Int):=by omega
    have hk0:(0:Int)≤(k:Int):=by omega
    have ewk:wrap64 ((k:Int)+1)=(k:Int)+1:=by unfold wrap64;omega
    obtain ⟨q,hq⟩:∃ q,ss[k]? = some q:=⟨_,List.getElem?_eq_getElem hlt⟩
    obtain ⟨g,o,rfl,hgl,hgc⟩:=Hops.out k q hq
    have hrd:=range_keep hgc hgl J.b
    obtain ⟨kd,lf2,gn,tx⟩:=q
    obtain ⟨j,hj4,ej⟩:=norm17 lf2 4 (by decide) (by decide)
    replace ej:Int.tmod (wrap64 (Int.tmod lf2 4+4)) 4=(j:Int):=ej
    obtain ⟨u,hu40,eu⟩:=norm17 gn 40 (by decide) (by decide)
    replace eu:Int.tmod (wrap64 (Int.tmod gn 40+40)) 40=(u:Int):=eu
    obtain ⟨bY,rY,hthY⟩:=op_new wr ⟨kd,lf2,gn,tx⟩
    have hiX:=info_op ⟨kd,lf2,gn,tx⟩
    have hiY:=info_opA ⟨kd,lf2,gn,tx⟩
    have hoY:=one_op ⟨kd,lf2,gn,tx⟩
    obtain ⟨Q,hQ⟩:∃ Q,Q=Op17.row ⟨kd,lf2,gn,tx⟩:=⟨_,rfl⟩
    rw [←hQ] at hrd bY rY hthY hiX hiY hoY
    obtain ⟨U,hU⟩:∃ W,W=(wr.alloc (.cells #[.int .i64 0,.int .i64 0,.int .i64 0,.bool false] 34)).setCells wr.heap.size 0 Q:=⟨_,rfl⟩
    rw [←hU] at bY rY
    have HU:=Hid.mk' hU
    have HQ:=Hid.mk' hQ
    clear hU hQ hgc hq hgl
    go_upto_region 11 with (first
     | (refine wpList_load_mid rfl 34 _ rfl g (o+k*4) rfl Q _ hrd Tryz.underlying34 rfl hiX ?_;clear hrd)
     | (refine wpList_store_mid rfl 34 _ _ rfl wr.heap.size 0 Q.toArray rfl rfl ?_ ?_ ?_ ?_;(with_reducible exact hthY);exact hiY;exact hoY;rw [List.toList_toArray,←HU.out];clear HU hthY hiY hoY))
    rw [putN]
    rw [HQ.out] at rY
    have rlt:=rY.lt
    have q1:=rY.range 1 _ rfl
    have q2:=rY.range 2 _ rfl
    have q3:=rY.range 3 _ rfl
    have q1f:=(rY.there 1 (by simp [Op17.row])).2
    dsimp only at q1 q2 q3
    rw [Nat.zero_add] at q1 q2 q3 q1f
    have b2:=bY.setCell (p:=⟨wr.heap.size,1,none⟩) (Nat.le_refl _) (.int .i64 (j:Int))
    have c1:=World.cell?_setCell_same (w:=U) (a:=⟨wr.heap.size,1,none⟩) (v := .int .i64 (j:Int)) q1
    have c2:=(World.cell?_setCell_other (w:=U) (a:=⟨wr.heap.size,1,none⟩) (b:=⟨wr.heap.size,2,none⟩) (v := .int .i64 (j:Int)) (by simp)).trans q2
    have c3:=(World.cell?_setCell_other (w:=U) (a:=⟨wr.heap.size,1,none⟩) (b:=⟨wr.heap.size,3,none⟩) (v := .int .i64 (j:Int)) (by simp)).trans q3
    replace J:=J.still b2
    clear rY bY hiX hk0 b2 q2 q3
    go_upto_region 12 with (fail)
    generalize U.setCell ⟨wr.heap.size,1,none⟩ (.int .i64 (j:Int))=U2 at *
    clear q1 q1f ej rlt
    by_cases hsame:i=j∧t=tx
    · obtain ⟨rfl,rfl⟩:=hsame
      go_wp2
      go_roundw
      case rel=>exact ⟨k+1,by omega,by go_num,J⟩
      case measure=>simp [intOf];omega
    · have cU:=J.use hT hD hj4 hsame (u:Int)
      by_cases hij:(j:Int)=(i:Int)
      · have htx:tx=!t:=by
         have:¬t=tx:=fun e=>hsame ⟨by omega,e⟩
         cases t <;> cases tx <;> simp_all
        subst htx
        have hj':j=i:=by omega
        subst hj'
        clear hsame
        go_wp2_with (go_at_call 18;refine cU.mono ?_;clear cU;rintro e W5 ⟨⟨z5,rfl⟩,J5⟩)
        go_roundw
        case rel=>exact ⟨k+1,by omega,by go_num,J5⟩
        case measure=>simp [intOf];omega
      · clear hsame
        go_wp2_with (go_at_call 18;refine cU.mono ?_;clear cU;rintro e W5 ⟨⟨z5,rfl⟩,J5⟩)
        go_roundw
        case rel=>exact ⟨k+1,by omega,by go_num,J5⟩
        case measure=>simp [intOf];omega
  · have hlt':¬(k:Int)<(ss.length:Int):=by omega
    obtain ⟨a,h0,hLr⟩:=J.r
    have cA:=aNext hLr (hT.still J.b) (hD.keep J.b) t hi4 (by rw [h0];decide)
    rw [h0] at cA
    have hap1:=J.ap s1 (.inl rfl)
    have hap2:=J.ap s2 (.inr (.inl rfl))
    have hap3:=J.ap s3 (.inr (.inr (.inl rfl)))
    have hap4:=J.ap s4 (.inr (.inr (.inr rfl)))
    have hrn:=J.rn
    have hsn:=J.sn
    have hbw:=J.b
    have hLs:=J.s
    have hlw:=J.s.lts
    have hrnc:=hLr.nocell
    clear J hLr
    go_upto_region 15 with (go_at_call 14;refine cA.mono ?_;clear cA;rintro e w5 ⟨q,rfl,hq,rq,-,hb5⟩)
    replace hLs:=hLs.but hb5 ⟨fun e=>Or.elim e hap1.2.1 (fun e=>Or.elim e hap1.2.2.1 hap1.2.2.2),fun e=>Or.elim e hap2.2.1 (fun e=>Or.elim e hap2.2.2.1 hap2.2.2.2),fun e=>Or.elim e hap3.2.1 (fun e=>Or.elim e hap3.2.2.1 hap3.2.2.2),fun e=>Or.elim e hap4.2.1 (fun e=>Or.elim e hap4.2.2.1 hap4.2.2.2)⟩
    have b5:Below w.heap.size w w5:=hbw.trans (hb5.below hbw.size (fun x e=>Or.elim e (fun e=>Nat.le_trans hrn.2.1 (Nat.le_of_eq e.symm)) (fun e=>Or.elim e (fun e=>Nat.le_trans hrn.2.2.1 (Nat.le_of_eq e.symm)) (fun e=>Nat.le_trans hrn.2.2.2 (Nat.le_of_eq e.symm)))))
    have cB:=aNext hLs (hT.still b5) (hD.keep b5) t hi4 (by show 0<4294967295;decide)
    have e0:ab0.su i t=0:=rfl
    rw [e0] at cB
    clear hLs
    go_upto_region 16 with (go_at_call 14;refine cB.mono ?_;clear cB;rintro e w6 ⟨p,rfl,hp,rp,-,hb6⟩)
    have rq6:=rq.but7 hb6 (fun e=>Or.elim e (fun e=>by have:=hlw.2.1;omega) (fun e=>Or.elim e (fun e=>by have:=hlw.2.2.1;omega) (fun e=>by have:=hlw.2.2.2;omega)))
    have b6:Below w.heap.size w w6:=b5.trans (hb6.below b5.size (fun x e=>Or.elim e (fun e=>Nat.le_trans hsn.2.1 (Nat.le_of_eq e.symm)) (fun e=>Or.elim e (fun e=>Nat.le_trans hsn.2.2.1 (Nat.le_of_eq e.symm)) (fun e=>Nat.le_trans hsn.2.2.2 (Nat.le_of_eq e.symm)))))
    obtain ⟨x1,x2⟩:=ky_cs rq6 (gnK_lt 4 R i t 0) (gnN_lt 4 R i t 0)
    obtain ⟨y1,y2⟩:=ky_cs rp (gnK_lt 4 R i t 0) (gnN_lt 4 R i t 0)
    have v1:=x1.conv w6 (Below.refl _ _)
    have v2:=x2.conv w6 (Below.refl _ _)
    have v3:=y1.conv w6 (Below.refl _ _)
    have v4:=y2.conv w6 (Below.refl _ _)
    generalize strB 16 (gnK 4 R i t 0)=SK at *
    generalize strB 12 (gnN 4 R i t 0)=SN at *
    clear hap1 hap2 hap3 hap4 hrn hsn hrnc rq rp rq6 hb5 hb6 x1 x2 y1 y2 hlw hbw hq hp
    go_wp2_with (go_at_call 9;refine (num17_any _ _).mono ?_;rintro e wn ⟨rfl,hwn⟩;obtain rfl:=hwn.symm)
    go_ret
    exact ⟨rfl,b6⟩
end Go.Proofs.YtbbikhlbkpjpjaaGreatDoor
namespace Go.Proofs.YtbbikhlbkpjpjaaGreatDoor
open Go.ChangeShapes Go.WideShapes Go.ChangeAt Go.RowKit Go.Joins Go.Deep
instance op17I:Inhabited Op17:=⟨⟨0,0,0,false⟩⟩
theorem cellsOfOp17:Tryz.prog.cellsOf 34=4:=by kernel_rfl
theorem bytesOfOp17:Tryz.prog.bytesOf 34=32:=by kernel_rfl
set_option maxRecDepth 20000 in
theorem open_ops17 {H:Type} {enc:TypeId × Value→H} {W:World} {base:Nat} {v:Value} {d:DataW H} {ps:List MemPlace} {ts:List TypeId} {ds:List (DataW H)} (hval:Value.okWide Tryz.prog W .any base 23 v) (h:DataW.Trod enc Tryz.prog W 0 (fun _=>true) true 23 v d ps)
 (hR:(DataW.weightsEach Tryz.prog ts ds).all (·≤reachBytes)=true) {j:Nat} (ht:ts[j]? = some 23) (hd:ds[j]? = some d) :
 ∃ (ss:List Op17),OpsAt17 W v ss∧ss.length≤140737488355328:=by
 obtain ⟨a0,len,cap,rfl⟩:=okWide_slice Tryz.underlying23 hval
 obtain ⟨fuel,hf⟩:=h
 have hc:Cell.ok Tryz.prog W .any base 23 (.slice a0 len cap):=by
  unfold Value.okWide Cell.okWide at hval
  simp only [Tryz.underlying23] at hval
  exact hval
 have hw:∀ n∈d.weights Tryz.prog 23,n≤reachBytes:=fun n hn =>
  of_decide_eq_true (List.all_eq_true.1 hR n (DataW.weights_mem_each ht hd n hn))
 rcases Deep.open_slice Tryz.underlying23 hf with ⟨hcs,hx⟩ | ⟨a,len',cap',m,n,D,Pl,hcs,_,hl,hm,hmm,hx,hrow⟩
 · simp [Value.cells] at hcs
   obtain ⟨rfl,rfl,rfl⟩:=hcs
   exact ⟨[],⟨none,0,rfl,fun j s hs=>by simp at hs⟩,by simp⟩
 · simp [Value.cells] at hcs
   obtain ⟨rfl,rfl,rfl⟩:=hcs
   simp only [if_true] at hmm
   unfold Cell.ok at hc
   simp only [Tryz.underlying23] at hc
   obtain ⟨_,_,_,hs,_⟩:=hc
   obtain ⟨b,off,spot⟩:=a
   subst hs
   rw [cellsOfOp17] at hrow
   obtain ⟨hx1,-⟩:=Prod.mk.inj hx
   rw [hx1] at hw
   simp only [DataW.weights,Tryz.underlying23,List.mem_cons,List.mem_append] at hw
   have hcnt:len<140737488355000:=by
    have:=hw _ (.inl rfl)
    rw [bytesOfOp17] at this
    simp only [List.length_map,List.length_range] at this
    unfold reachBytes at this
    omega
   have each:∀ i,i<len→∃ q:Op17,W.cell? ⟨b,off+i*4,none⟩=some (.int .i64 q.kd)∧W.cell? ⟨b,off+i*4+1,none⟩=some (.int .i64 q.lf)∧W.cell? ⟨b,off+i*4+2,none⟩=some (.int .i64 q.gn)∧W.cell? ⟨b,off+i*4+3,none⟩=some (.bool q.tx):=by
    intro i hi
    obtain ⟨cs',h1,h2⟩:=hrow i (by omega)
    obtain ⟨_,hlen,hcell⟩:=World.cells?_some h1
    obtain ⟨xs,k,hk,hxy,_,hxl,hfd⟩:=DataW.trod_struct Tryz.underlying34 h2
    match xs,hxl,cs',hlen with
    | [y0,y1,y2,y3],_,[v0,v1,v2,v3],_ =>
     have g0:=hfd 0 _ rfl
     have g1:=hfd 1 _ rfl
     have g2:=hfd 2 _ rfl
     have g3:=hfd 3 _ rfl
     have k2:Tryz.prog.cellsOf 3=1:=by kernel_rfl
     have k3:Tryz.prog.cellsOf 4=1:=by kernel_rfl
     simp [k2,k3] at g0 g1 g2 g3
     obtain ⟨z0,hz0,-,-⟩:=DataW.trod_int Tryz.underlying3 g0
     obtain ⟨z1,hz1,-,-⟩:=DataW.trod_int Tryz.underlying3 g1
     obtain ⟨z2,hz2,-,-⟩:=DataW.trod_int Tryz.underlying3 g2
     obtain ⟨z3,hz3,-⟩:=DataW.trod_bool Tryz.underlying4 g3
     obtain rfl:v0 = .int .i64 z0:=by simpa using hz0
     obtain rfl:v1 = .int .i64 z1:=by simpa using hz1
     obtain rfl:v2 = .int .i64 z2:=by simpa using hz2
     obtain rfl:v3 = .bool z3:=by simpa using hz3
     have e0:=hcell 0 (by omega)
     have e1:=hcell 1 (by omega)
     have e2:=hcell 2 (by omega)
     have e3:=hcell 3 (by omega)
     rw [Addr.add_mid,Addr.add_mid] at e0 e1 e2 e3
     exact ⟨⟨z0,z1,z2,z3⟩,by simpa using e0,by simpa using e1,by simpa using e2,by simpa using e3⟩
   obtain ⟨q,hq⟩:=Deep.choose_lt (α:=Op17) each
   refine ⟨(List.range len).map q,⟨some ⟨b,off,none⟩,cap,by simp,fun j s hs => ?_⟩,by simp;omega⟩
   have hj:j<len:=by have:=(List.getElem?_eq_some_iff.1 hs).1;simpa using this
   have e:s=q j:=by simp [hj] at hs;exact hs.symm
   subst e
   obtain ⟨r0,r1,r2,r3⟩:=hq j hj
   refine ⟨b,off,rfl,block_lt_of_cell r0,fun i v hv => ?_⟩
   match i,hv with
   | 0,hv=>cases hv;exact r0
   | 1,hv=>cases hv;exact r1
   | 2,hv=>cases hv;exact r2
   | 3,hv=>cases hv;exact r3
   | i+4,hv=>simp [Op17.row] at hv
end Go.Proofs.YtbbikhlbkpjpjaaGreatDoor
namespace Go.Proofs.YtbbikhlbkpjpjaaGreatDoor
open Go Go.RowKit
def lay (cs:Array Value):Obj→Obj
 | .cells _ t frozen => .cells cs t frozen
 | o=>o
theorem cellsOfI:Tryz.prog.cellsOf 3=1:=by kernel_rfl
theorem cellsOfU:Tryz.prog.cellsOf 105=1:=by kernel_rfl
theorem cellsOf3U:Tryz.prog.cellsOf 187=3:=by kernel_rfl
theorem cellsOfW:Tryz.prog.cellsOf 156=1:=by kernel_rfl
theorem cellsOf80W:Tryz.prog.cellsOf 211=80:=by kernel_rfl
theorem cellsOf8W:Tryz.prog.cellsOf 198=8:=by kernel_rfl
theorem rules_parts {H:Type} {enc:TypeId × Value→H} {w:World} {base:Nat} {sp:Nat→Bool} {held:Bool} {fuel:Nat} {cs:List Value} {a b:Int} {x y z u:List Int} {p:List MemPlace}
 (h:DataW.trod enc Tryz.prog w base sp held fuel 189 cs=some (.agg [.lit (.int .i64 a),.lit (.int .i64 b),Lib.tabData .u64 x,Lib.tabData .u64 y,Lib.tabData .u64 z,Lib.tabData .u64 u],p)) :
 (cs.drop 0).take 1=[.int .i64 a]∧(cs.drop 1).take 1=[.int .i64 b]∧(cs.drop 2).take 3=x.map (fun v=>Value.int .u64 v)∧(cs.drop 5).take 3=y.map (fun v=>Value.int .u64 v)∧(cs.drop 8).take 3=z.map (fun v=>Value.int .u64 v)∧(cs.drop 11).take 3=u.map (fun v=>Value.int .u64 v):=by
 cases fuel with
 | zero=>simp [DataW.trod] at h
 | succ fuel =>
  simp only [DataW.trod,Tryz.underlying189] at h
  split at h
  · obtain ⟨xs,hm,hx⟩:=Option.map_eq_some_iff.1 h
    have hxs:=congrArg Prod.fst hx
    simp only [DataW.agg.injEq] at hxs
    have hlen:xs.length=6:=by have:=congrArg List.length hxs;simpa using this
    have g:∀ i f,(i<6)→[(3,0),(3,1),(187,2),(187,5),(187,8),(187,11)][i]? = some f→∃ y,xs[i]? = some y∧DataW.trod enc Tryz.prog w base sp held fuel f.1 ((cs.drop f.2).take (Tryz.prog.cellsOf f.1))=some y:=fun i f hi hf=>by
     match i,hi,hf with
     | 0,_,hf=>cases hf;exact Lib.mapM_at hm 0 _ rfl
     | 1,_,hf=>cases hf;exact Lib.mapM_at hm 1 _ rfl
     | 2,_,hf=>cases hf;exact Lib.mapM_at hm 2 _ rfl
     | 3,_,hf=>cases hf;exact Lib.mapM_at hm 3 _ rfl
     | 4,_,hf=>cases hf;exact Lib.mapM_at hm 4 _ rfl
     | 5,_,hf=>cases hf;exact Lib.mapM_at hm 5 _ rfl
    match xs,hlen,hxs,g with
    | [x0,x1,x2,x3,x4,x5],_,hxs,g =>
     simp only [List.map_cons,List.map_nil,List.cons.injEq,and_true] at hxs
     obtain ⟨e0,e1,e2,e3,e4,e5⟩:=hxs
     obtain ⟨_,h0,t0⟩:=g 0 _ (by decide) rfl
     obtain ⟨_,h1,t1⟩:=g 1 _ (by decide) rfl
     obtain ⟨_,h2,t2⟩:=g 2 _ (by decide) rfl
     obtain ⟨_,h3,t3⟩:=g 3 _ (by decide) rfl
     obtain ⟨_,h4,t4⟩:=g 4 _ (by decide) rfl
     obtain ⟨_,h5,t5⟩:=g 5 _ (by decide) rfl
     cases h0;cases h1;cases h2;cases h3;cases h4;cases h5
     rw [cellsOfI] at t0 t1
     rw [cellsOf3U] at t2 t3 t4 t5
     obtain ⟨z0,c0,r0,_⟩:=DataW.trod_int Tryz.underlying3 t0
     obtain ⟨z1,c1,r1,_⟩:=DataW.trod_int Tryz.underlying3 t1
     subst r0 r1
     cases e0;cases e1
     have k:∀ {o:Nat} {v:DataW H × List MemPlace} {l:List Int},DataW.trod enc Tryz.prog w base sp held fuel 187 ((cs.drop o).take 3)=some v→v.1=Lib.tabData .u64 l→(cs.drop o).take 3=l.map (fun v=>Value.int .u64 v):=fun {o v l} ht he=>by
      obtain ⟨v1,v2⟩:=v
      cases he
      exact Lib.cells_of_tab Tryz.underlying187 Tryz.underlying105 cellsOfU cellsOf3U ht
     exact ⟨c0,c1,k t2 e2,k t3 e3,k t4 e4,k t5 e5⟩
  · cases h
theorem at_of_part {cs:List Value} {o n:Nat} {l:List Value} (h:(cs.drop o).take n=l) (i:Nat) (hi:i<n):cs[o+i]? = l[i]?:=by
 rw [←h,List.getElem?_take,if_pos hi,List.getElem?_drop]
theorem cubesL_eq:Rows.laid_synod_sha_cubes=(Lib.tabData .u64 (cubesL.map fun n:Nat=>(n:Int)):DataW Unit):=rfl
theorem squaresL_eq:Rows.laid_synod_sha_squares=(Lib.tabData .u64 (squaresL.map fun n:Nat=>(n:Int)):DataW Unit):=rfl
theorem gCubes:Tryz.prog.globalNamed "synod/sha.cubes" = some 5:=by kernel_rfl
theorem gSquares:Tryz.prog.globalNamed "synod/sha.squares" = some 3:=by kernel_rfl
theorem gNarrow:Tryz.prog.globalNamed "synod/sha.narrowRules" = some 2:=by kernel_rfl
theorem gWide:Tryz.prog.globalNamed "synod/sha.wideRules" = some 4:=by kernel_rfl
theorem tCubes:(Tryz.prog.globals[5]?).map (·.type)=some 211:=by kernel_rfl
theorem tSquares:(Tryz.prog.globals[3]?).map (·.type)=some 198:=by kernel_rfl
theorem tNarrow:(Tryz.prog.globals[2]?).map (·.type)=some 189:=by kernel_rfl
theorem tWide:(Tryz.prog.globals[4]?).map (·.type)=some 189:=by kernel_rfl
theorem tab_cell {W:World} {name:String} {g:Nat} {l:List Nat} {cs:Array Value} (hg:Tryz.prog.globalNamed name=some g) (hv:W.var? Tryz.prog name=some cs) (hc:cs.toList=(l.map fun n:Nat=>(n:Int)).map fun z=>Value.int .u64 z) (j:Nat) (hj:j<l.length):W.cell? ⟨g,j,none⟩=some (.int .u64 ((l.getD j 0:Nat):Int)):=by
 rw [World.var?_cell hg hv j,←Array.getElem?_toList,hc]
 simp [List.getD,hj]
theorem cellsOfDb:Tryz.prog.cellsOf 164=64:=by kernel_rfl
theorem db_eq:Rows.laid_math_bits_deBruijn64tab=(Lib.tabData .u8 (Lib.deBruijn64tab.map fun n:Nat=>(n:Int)):DataW Unit):=rfl
theorem gDb:Tryz.prog.globalNamed "math/bits.deBruijn64tab" = some 1:=by kernel_rfl
theorem tDb:(Tryz.prog.globals[1]?).map (·.type)=some 164:=by kernel_rfl
theorem tabs_of_laid {W:World} (h:laidMetH Tryz.prog [("math/bits.deBruijn64tab", Rows.laid_math_bits_deBruijn64tab),("synod/sha.cubes", Rows.laid_synod_sha_cubes),("synod/sha.squares", Rows.laid_synod_sha_squares),("synod/sha.narrowRules", Rows.laid_synod_sha_narrowRules),("synod/sha.wideRules", Rows.laid_synod_sha_wideRules)] W):DbT W∧TabAt W:=by
 have h':laidMet Tryz.prog [("math/bits.deBruijn64tab", Rows.laid_math_bits_deBruijn64tab),("synod/sha.cubes", Rows.laid_synod_sha_cubes),("synod/sha.squares", Rows.laid_synod_sha_squares),("synod/sha.narrowRules", Rows.laid_synod_sha_narrowRules),("synod/sha.wideRules", Rows.laid_synod_sha_wideRules)] W:=h
 obtain ⟨ps,⟨g0,t0,cs0,f0,p0,q0,hg0,ht0,hv0,hd0,⟨g1,t1,cs1,f1,p1,q1,hg1,ht1,hv1,hd1,⟨g2,t2,cs2,f2,p2,q2,hg2,ht2,hv2,hd2,⟨g3,t3,cs3,f3,p3,q3,hg3,ht3,hv3,hd3,⟨g4,t4,cs4,f4,p4,q4,hg4,ht4,hv4,hd4,_,_⟩,_⟩,_⟩,_⟩,_⟩,_⟩:=h'
 obtain rfl:=Option.some.inj (gDb.symm.trans hg0)
 obtain rfl:=Option.some.inj (tDb.symm.trans ht0)
 obtain rfl:=Option.some.inj (gCubes.symm.trans hg1)
 obtain rfl:=Option.some.inj (tCubes.symm.trans ht1)
 obtain rfl:=Option.some.inj (gSquares.symm.trans hg2)
 obtain rfl:=Option.some.inj (tSquares.symm.trans ht2)
 obtain rfl:=Option.some.inj (gNarrow.symm.trans hg3)
 obtain rfl:=Option.some.inj (tNarrow.symm.trans ht3)
 obtain rfl:=Option.some.inj (gWide.symm.trans hg4)
 obtain rfl:=Option.some.inj (tWide.symm.trans ht4)
 rw [db_eq] at hd0
 rw [cubesL_eq] at hd1
 rw [squaresL_eq] at hd2
 have c0:=Lib.cells_of_tab Tryz.underlying164 Tryz.underlying5 cellsOfByte cellsOfDb hd0
 have hc:∀ j,j<64→W.cell? ⟨1,j,none⟩=some (.int .u8 ((Lib.deBruijn64tab.getD j 0:Nat):Int)):=by
  intro j hj
  rw [World.var?_cell gDb hv0 j,←Array.getElem?_toList,c0,List.map_map,List.getElem?_map]
  have hl:j<Lib.deBruijn64tab.length:=hj
  rw [List.getElem?_eq_getElem hl,List.getD_eq_getElem?_getD,List.getElem?_eq_getElem hl]
  rfl
 have c1:=Lib.cells_of_tab Tryz.underlying211 Tryz.underlying156 cellsOfW cellsOf80W hd1
 have c2:=Lib.cells_of_tab Tryz.underlying198 Tryz.underlying156 cellsOfW cellsOf8W hd2
 obtain ⟨a0,a1,a2,a3,a4,a5⟩:=rules_parts (a:=32) (b:=64) (x:=[7,18,3]) (y:=[17,19,10]) (z:=[2,13,22]) (u:=[6,11,25]) hd3
 obtain ⟨b0,b1,b2,b3,b4,b5⟩:=rules_parts (a:=64) (b:=80) (x:=[1,8,7]) (y:=[19,61,6]) (z:=[28,34,39]) (u:=[14,18,41]) hd4
 have n:∀ j,W.cell? ⟨2,j,none⟩=cs3.toList[j]?:=fun j=>by rw [World.var?_cell gNarrow hv3 j,Array.getElem?_toList]
 have v:∀ j,W.cell? ⟨4,j,none⟩=cs4.toList[j]?:=fun j=>by rw [World.var?_cell gWide hv4 j,Array.getElem?_toList]
 refine ⟨⟨World.block_lt_of_cell? W _ (hc 0 (by decide)),hc⟩,⟨fun j hj=>tab_cell gCubes hv1 c1 j hj,fun j hj=>tab_cell gSquares hv2 c2 j hj,?_,?_,cubeK_lt,squareK_lt⟩⟩
 · exact ⟨(n 0).trans (at_of_part a0 0 (by decide)),(n 1).trans (at_of_part a1 0 (by decide)),(n 2).trans (at_of_part a2 0 (by decide)),(n 3).trans (at_of_part a2 1 (by decide)),(n 4).trans (at_of_part a2 2 (by decide)),(n 5).trans (at_of_part a3 0 (by decide)),(n 6).trans (at_of_part a3 1 (by decide)),(n 7).trans (at_of_part a3 2 (by decide)),(n 8).trans (at_of_part a4 0 (by decide)),(n 9).trans (at_of_part a4 1 (by decide)),(n 10).trans (at_of_part a4 2 (by decide)),(n 11).trans (at_of_part a5 0 (by decide)),(n 12).trans (at_of_part a5 1 (by decide)),(n 13).trans (at_of_part a5 2 (by decide))⟩
 · exact ⟨(v 0).trans (at_of_part b0 0 (by decide)),(v 1).trans (at_of_part b1 0 (by decide)),(v 2).trans (at_of_part b2 0 (by decide)),(v 3).trans (at_of_part b2 1 (by decide)),(v 4).trans (at_of_part b2 2 (by decide)),(v 5).trans (at_of_part b3 0 (by decide)),(v 6).trans (at_of_part b3 1 (by decide)),(v 7).trans (at_of_part b3 2 (by decide)),(v 8).trans (at_of_part b4 0 (by decide)),(v 9).trans (at_of_part b4 1 (by decide)),(v 10).trans (at_of_part b4 2 (by decide)),(v 11).trans (at_of_part b5 0 (by decide)),(v 12).trans (at_of_part b5 1 (by decide)),(v 13).trans (at_of_part b5 2 (by decide))⟩
def tabA (l:List Nat):Array Value:=(l.map fun n:Nat=>Value.int .u64 (n:Int)).toArray
def rulA (m r:Nat) (l:List Nat):Array Value:=([Value.int .i64 m,.int .i64 r] ++ l.map fun n:Nat=>Value.int .u64 (n:Int)).toArray
noncomputable def laidWorldR (os:Os):World :=
 { World.holding Tryz.prog os ⟨#[],#[],[]⟩ with heap:=(((((World.holding Tryz.prog os ⟨#[],#[],[]⟩).heap.modify 5 (lay (tabA cubesL))).modify 3 (lay (tabA squaresL))).modify 2 (lay (rulA 32 64 [7,18,3,17,19,10,2,13,22,6,11,25]))).modify 4 (lay (rulA 64 80 [1,8,7,19,61,6,28,34,39,14,18,41]))).modify 1 (lay (Lib.deBruijn64tab.map fun n:Nat=>Value.int .u8 (n:Int)).toArray) }
end Go.Proofs.YtbbikhlbkpjpjaaGreatDoor
