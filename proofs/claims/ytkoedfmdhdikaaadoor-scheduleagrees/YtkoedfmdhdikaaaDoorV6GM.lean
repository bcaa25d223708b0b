/- What the proof stands on: V6G, V6R, V7C, V6L, V6P, V7D, V7FA. -/
import Derived.Test.YtkoedfmdhdikaaaDoorD1CE5M
import Derived.Test.YtkoedfmdhdikaaaDoorD1RQM
import Derived.Test.YtkoedfmdhdikaaaDoorHExpandM
import Derived.Test.YtkoedfmdhdikaaaDoorL5AM
import Derived.Test.YtkoedfmdhdikaaaDoorQAppM
import Derived.Test.YtkoedfmdhdikaaaDoorRFnM
import Derived.Test.YtkoedfmdhdikaaaDoorV6EM
import Derived.Test.YtkoedfmdhdikaaaDoorV7AM
import Derived.Deep.CutBlock
import Derived.Deep.CutRange
namespace Go.Proofs.YtkoedfmdhdikaaaDoor
open Go.RowKit
theorem RdC.putC {lo hi:Nat} {w:World} {g L:Nat} {B:Nat→Nat} {r:Rd} (h:RdC lo hi w g L B r) {c:Nat} (hc:c<lo) (o:Nat) (v:Value):RdC lo hi (w.setCell ⟨c,o,none⟩ v) g L B r :=
 h.same (SameIn.of_out (Out.setCell (n:=1) w v (Nat.le_refl o) (Nat.lt_succ_self o)) (.inl hc) h.size)
abbrev z4C:List Value:=[.slice none 0 0,.int .i64 0,.slice none 0 0,.slice none 0 0]
theorem zCx (w:World):Sem.run Tryd.prog (zeroValue 40) w = .ok (.agg z4C.toArray) w:=by kernel_rfl
theorem one4 {a b c:Value} {e:Int} (h1:∃ x n k,a = .slice x n k) (h2:∃ x n k,b = .slice x n k) (h3:∃ x n k,c = .slice x n k):[a,.int .i64 e,b,c].toArray.all (·.oneCell')=true:=by
 obtain ⟨_,_,_,rfl⟩:=h1
 obtain ⟨_,_,_,rfl⟩:=h2
 obtain ⟨_,_,_,rfl⟩:=h3
 simp [Value.oneCell']
structure GcS (w W:World) (lo hi g L:Nat) (B:Nat→Nat) (p:Rd) (vs:List Value):Prop where
 rd:RdC lo hi W g L B p
 kc:RW W (w.heap.size+1) 0 vs
 kr:RW W w.heap.size 0 z4C
 hb:Below w.heap.size w W
 low:w.heap.size+2≤lo
theorem GcS.put {w W:World} {lo hi g L:Nat} {B:Nat→Nat} {p:Rd} {vs:List Value} (h:GcS w W lo hi g L B p vs) (i:Nat) (hiv:i<vs.length) (v:Value):GcS w (W.setCell ⟨w.heap.size+1,i,none⟩ v) lo hi g L B p (vs.set i v):=by
 have hl:=h.low
 exact ⟨h.rd.putC (by omega) _ _,h.kc.put i hiv v,h.kr.far (w.heap.size+1) i [v] (.inl (by omega)),h.hb.setCell (show w.heap.size≤(⟨w.heap.size+1,i,none⟩:Addr).block from Nat.le_succ _) v,h.low⟩
theorem GcS.cell {w W:World} {lo hi g L:Nat} {B:Nat→Nat} {p:Rd} {vs:List Value} (h:GcS w W lo hi g L B p vs) (i:Nat) (v:Value) (hv:vs[i]? = some v):W.cell? ⟨w.heap.size+1,i,none⟩=some v∧W.frozen? ⟨w.heap.size+1,i,none⟩=false:=by
 have h1:=h.kc.range i v hv
 have h2:=(h.kc.there i (List.getElem?_eq_some_iff.1 hv).1).2
 rw [Nat.zero_add] at h1 h2
 exact ⟨h1,h2⟩
end Go.Proofs.YtkoedfmdhdikaaaDoor
namespace Go.Proofs.YtkoedfmdhdikaaaDoor
open Go.RowKit
theorem infoRx (v0 v1 v2 v3:Value):(Tryd.prog.info? 38).map (·.size)=some [v0,v1,v2,v3].length:=by kernel_rfl
end Go.Proofs.YtkoedfmdhdikaaaDoor
namespace Go.Proofs.YtkoedfmdhdikaaaDoor
open Go.RowKit
section
variable {P:Program} {md:Region.Mode} {ops:Array Oper} {Q:Exit→Act→World→Prop} {S:World→Prop} {fuel:Nat} {listed:Array Bool} {a:Act} {w:World}
theorem zA (i:Nat) {rs:List Nat} {oi:Oper} {v:Value} (cs:Array Value) (t:TypeId) (hk:S (w.alloc (.cells cs t))) (h:wpAnyH P md ops Q S fuel (listed.setIfInBounds i true) (a.put oi.dst v) (w.alloc (.cells cs t))) (hs:AllReadyH P md ops Q S fuel listed a w rs)
 (hi:ops.toList[i]? = some oi:=by rfl) (hrun:(execOp a.eval oi).run P w = .ok (.value v) (w.alloc (.cells cs t)):=by kernel_rfl) (hw:Region.wanted oi (yielded ops a.tmps)=true:=by rfl):AllReadyH P md ops Q S fuel listed a w (i :: rs):=by
 refine AllReadyH.cons (at_list hi) (fun K hK => ?_) hs
 rw [if_pos hw]
 unfold Oper.wp
 rw [hrun,Oper.upon_value]
 exact hK.out _ _ hk (fun _=>h)
theorem zX (i:Nat) {rs:List Nat} {oi:Oper} {x y:Operand} {t1 t2:TypeId} {u v r:Value} {w':World} (ho:oi.op = .call { callee := .builtin .append,args:=#[x,y],argTypes:=#[t1,t2] }) (hx:a.eval x=u) (hy:a.eval y=v) (hrun:(Builtin.append_ #[t1,t2] oi.type #[u,v]).run P w = .ok r w') (hk:S w') (h:wpAnyH P md ops Q S fuel (listed.setIfInBounds i true) (a.put oi.dst r) w') (hs:AllReadyH P md ops Q S fuel listed a w rs)
 (hi:ops.toList[i]? = some oi:=by rfl) (hw:Region.wanted oi (yielded ops a.tmps)=true:=by rfl):AllReadyH P md ops Q S fuel listed a w (i :: rs):=by
 refine AllReadyH.cons (at_list hi) (fun K hK => ?_) hs
 rw [if_pos hw]
 unfold Oper.wp execOp
 simp only [ho,resolve,invoke,builtin,Sem.run_bind,Sem.run_pure,Result.andThen_ok,List.map_toArray,List.map_cons,List.map_nil,hx,hy,hrun]
 exact hK.out _ _ hk (fun _=>h)
end
theorem app_run (ty:TypeId) (w:World) (base:Nat) (v:Value) (n:Nat) (X:Nat→Nat) (hown:Own base w v n X) (s:Value) (m:Nat) (bs:Nat→Nat) (hs:BytesIn w s m bs) (hl:n+m≤140737488355328) (hbase:base≤w.heap.size) :
 ∃ v' w',(Builtin.append_ #[24,24] ty #[v,s]).run Tryd.prog w = .ok v' w'∧Own base w' v' (n+m) (cat n X bs)∧w.grownBy w' v.ownBlock:=by
 obtain ⟨i0,hi,hz0,hz1,hz2⟩:=info_parts Tryd.info5
 obtain ⟨xo,c,rfl,hxn,-,hsrc⟩:=hs.src
 obtain ⟨v',w',h1,h2,h3⟩:=run_append_any (P:=Tryd.prog) w 24 ty base 5 i0 (.int .u8 0) 1 Tryd.underlying24 hi hz0 hz1 hz2 rfl v n _ hown xo m c bs (hsrc w (Below.refl _ _)) hxn (by unfold maxLen;omega) (by omega) hbase
 exact ⟨v',w',h1,by unfold Own;rw [←ints_add];exact h2,h3⟩
end Go.Proofs.YtkoedfmdhdikaaaDoor
namespace Go.Proofs.YtkoedfmdhdikaaaDoor
open Go.RowKit
set_option maxRecDepth 20000 in
set_option maxHeartbeats 4000000 in
theorem knows16 (w:World) (hT:TabAt w):Calls Tryd.prog 9 #[] w fun e w'=>e = .returned (.bool true)∧Below w.heap.size w w':=by
 have hE:=fun (v:Value) (W:World) (hT:TabAt W) (hz:BytesIn W v 32 lZ)=>epoch_good v v 32 32 lZ lZ lZ_lt5 lZ_lt5 (by decide) (by decide) [.slice none 0 0,.int .i64 0,.slice none 0 0,.slice none 0 0] d0C ⟨lZ_lt5,lZ_lt5,lZ_lt5⟩ (by decide) W hT hz hz ⟨_,_,_,rfl,nil_bytes W lZ,nil_bytes W lZ,nil_bytes W lZ⟩
 have hne:=strB_ne (n:=32) (exN_lt 32 (exN 32 (xtN 32 lZ 32 lZ) lEpo (cxL d0C) (cxT d0C) 32) (labS 8) 0 lZ 32) (exN_lt 32 (exN 32 (xtN 32 lZ 32 lZ) lEpo (cxL d0C) (cxT d0C) 32) (labS 4) 0 lZ 32) (by decide) ic_ne
 have lB:∀ i j,seB (xtN 32 lZ 32 lZ) (exN 32 (xtN 32 lZ 32 lZ) lEpo (cxL d0C) (cxT d0C) 32) lZ i j<256:=seB_lt lZ_lt5
 have i8:seB (xtN 32 lZ 32 lZ) (exN 32 (xtN 32 lZ 32 lZ) lEpo (cxL d0C) (cxT d0C) 32) lZ 8=exN 32 (exN 32 (xtN 32 lZ 32 lZ) lEpo (cxL d0C) (cxT d0C) 32) (labS 8) 0 lZ 32:=rfl
 have i4:seB (xtN 32 lZ 32 lZ) (exN 32 (xtN 32 lZ 32 lZ) lEpo (cxL d0C) (cxT d0C) 32) lZ 4=exN 32 (exN 32 (xtN 32 lZ 32 lZ) lEpo (cxL d0C) (cxT d0C) 32) (labS 4) 0 lZ 32:=rfl
 rw [←i8,←i4] at hne
 clear i8 i4
 generalize seB (xtN 32 lZ 32 lZ) (exN 32 (xtN 32 lZ 32 lZ) lEpo (cxL d0C) (cxT d0C) 32) lZ=SB at *
 have hTag:=fun (cs:List Value) (v:Value) (W:World) (hT:TabAt W) (hx:TxRow W cs 11 (seL 32) SB) (hz:BytesIn W v 32 lZ)=>tagS_any cs (seL 32) SB lB v 32 lZ lZ_lt5 (by decide) (by decide) W hT hx hz
 have c8:=fun (W:World) (v:Value) (h:BytesIn W v 32 (SB 8))=>h.cs (lB 8)
 have c4:=fun (W:World) (v:Value) (h:BytesIn W v 32 (SB 4))=>h.cs (lB 4)
 generalize strB 32 (SB 8)=SI at *
 generalize strB 32 (SB 4)=SC at *
 have e2:(SI.toList == SC.toList)=false:=by
  rw [beq_eq_false_iff_ne]
  exact fun e=>hne (WideShapes.bytes_inj (by simpa [ByteArray.toList_eq] using e))
 have e3:(SI.toList != SC.toList)=true:=by rw [bne,e2];rfl
 have cz:=fun (W:World) (v:Value) (h:BytesIn W v 32 lZ)=>h.cs lZ_lt5
 generalize strB 32 lZ=SZ at *
 have e1:(SZ.toList == SZ.toList)=true:=beq_self_eq_true _
 have hzb:BytesIn (w.alloc (.cells (zb 32) 5)) (.slice (some ⟨w.heap.size,0,none⟩) 32 32) 32 lZ:=(Own.made w.heap.size w 32 (by decide) (Nat.le_refl _)).bytesIn
 have b1:Below w.heap.size w (w.alloc (.cells (zb 32) 5)):=(Below.refl _ _).alloc (Nat.le_refl _) _
 have hm:=make_bytes w 32 32 rfl (by decide)
 have hp:=psk_nil (w.alloc (.cells (zb 32) 5))
 have HB:=Hid.mk' hzb
 have B1:=Hid.mk' b1
 have HT:=Hid.mk' hT
 clear hzb b1 hT hne
 go_enter Tryd.func9,Tryd.ntmps9
 go_upto_region 3 with (first
  | rw [hm]
  | (go_at_call 6;refine hp.mono ?_;clear hp;rintro e w2 ⟨x2,c2,rfl,P2,hb2⟩;have Z2:=HB.out.keep hb2;have b2:=below_next B1.out hb2;have hE2:=hE _ w2 (HT.out.still b2) Z2;clear hE HB B1))
 go_upto_region 4 with (first
  | (go_at_call 12;refine hE2.mono ?_;clear hE2;rintro e w3 ⟨L,rfl,T3,hb3⟩;(obtain ⟨v0,v1,v2,v3,v4,v5,v6,v7,v8,v9,v10,rfl⟩:∃ v0 v1 v2 v3 v4 v5 v6 v7 v8 v9 v10,L=[v0,v1,v2,v3,v4,v5,v6,v7,v8,v9,v10]:=(by match L,T3.1 with | [v0,v1,v2,v3,v4,v5,v6,v7,v8,v9,v10],_=>exact ⟨_,_,_,_,_,_,_,_,_,_,_,rfl⟩));(obtain ⟨y0,n0,d0,e0⟩:=(T3.2 0 _ rfl).isSl);subst e0;(obtain ⟨y1,n1,d1,e1⟩:=(T3.2 1 _ rfl).isSl);subst e1;(obtain ⟨y2,n2,d2,e2⟩:=(T3.2 2 _ rfl).isSl);subst e2;(obtain ⟨y3,n3,d3,e3⟩:=(T3.2 3 _ rfl).isSl);subst e3;(obtain ⟨y4,n4,d4,e4⟩:=(T3.2 4 _ rfl).isSl);subst e4;(obtain ⟨y5,n5,d5,e5⟩:=(T3.2 5 _ rfl).isSl);subst e5;(obtain ⟨y6,n6,d6,e6⟩:=(T3.2 6 _ rfl).isSl);subst e6;(obtain ⟨y7,n7,d7,e7⟩:=(T3.2 7 _ rfl).isSl);subst e7;(obtain ⟨y8,n8,d8,e8⟩:=(T3.2 8 _ rfl).isSl);subst e8;(obtain ⟨y9,n9,d9,e9⟩:=(T3.2 9 _ rfl).isSl);subst e9;(obtain ⟨y10,n10,d10,e10⟩:=(T3.2 10 _ rfl).isSl);subst e10;have Z3:=Z2.keep hb3;have P3:=P2.keep hb3;have b3:=below_next b2 hb3;clear Z2 P2 b2 hb2))
 have hbs:Below w3.heap.size w3 (w3.alloc (.cells #[.slice y0 n0 d0,.slice y1 n1 d1,.slice y2 n2 d2,.slice y3 n3 d3,.slice y4 n4 d4,.slice y5 n5 d5,.slice y6 n6 d6,.slice y7 n7 d7,.slice y8 n8 d8,.slice y9 n9 d9,.slice y10 n10 d10] 43)):=(Below.refl _ _).alloc (Nat.le_refl _) _
 have k:=RW.fresh w3 [.slice y0 n0 d0,.slice y1 n1 d1,.slice y2 n2 d2,.slice y3 n3 d3,.slice y4 n4 d4,.slice y5 n5 d5,.slice y6 n6 d6,.slice y7 n7 d7,.slice y8 n8 d8,.slice y9 n9 d9,.slice y10 n10 d10] 43
 have hw:=below_next b3 hbs
 have hT:=HT.out.still hw
 have hTx:=T3.still hbs
 have bz:=Z3.keep hbs
 have tz:=cz _ _ bz
 have tp:=cz _ _ (P3.keep hbs)
 have ti:=c8 _ _ (hTx.2 8 _ rfl)
 have tc:=c4 _ _ (hTx.2 4 _ rfl)
 have l4:(n8:Int)=32:=by
  obtain ⟨xx,cc,ee,-⟩:=(hTx.2 8 _ rfl).src
  injection ee with _ e2 _
  rw [e2];rfl
 clear hbs b3 Z3 P3 T3 HT c8 c4 cz hb3
 obtain ⟨d,hd⟩:∃ d,d=w3.heap.size:=⟨_,rfl⟩
 rw [←hd] at k ⊢
 clear hd
 generalize w3.alloc (.cells #[.slice y0 n0 d0,.slice y1 n1 d1,.slice y2 n2 d2,.slice y3 n3 d3,.slice y4 n4 d4,.slice y5 n5 d5,.slice y6 n6 d6,.slice y7 n7 d7,.slice y8 n8 d8,.slice y9 n9 d9,.slice y10 n10 d10] 43)=W4 at *
 have qz:=tz.conv W4 (Below.refl _ _)
 have qp:=tp.conv W4 (Below.refl _ _)
 have qi:=ti.conv W4 (Below.refl _ _)
 have qc:=tc.conv W4 (Below.refl _ _)
 have hk8:W4.cell? ⟨d,8,none⟩=some (.slice y8 n8 d8):=by simpa using k.range 8 _ rfl
 have hk4:W4.cell? ⟨d,4,none⟩=some (.slice y4 n4 d4):=by simpa using k.range 4 _ rfl
 have ht:=hTag _ _ W4 hT hTx bz
 have hlen:([.slice y0 n0 d0,.slice y1 n1 d1,.slice y2 n2 d2,.slice y3 n3 d3,.slice y4 n4 d4,.slice y5 n5 d5,.slice y6 n6 d6,.slice y7 n7 d7,.slice y8 n8 d8,.slice y9 n9 d9,.slice y10 n10 d10]:List Value).length=11:=rfl
 clear hTag hT hTx bz tz tp ti tc
 go_wp2_with (first
  | rw [qp]
  | rw [qz]
  | rw [qi]
  | rw [qc]
  | (go_at_call 8;refine (num16_any _ _).mono ?_;rintro e wn ⟨rfl,hwn⟩;obtain rfl:=hwn.symm)
  | (refine wpList_load_on (by rfl) 43 (.tmp 4) rfl d 0 rfl [.slice y0 n0 d0,.slice y1 n1 d1,.slice y2 n2 d2,.slice y3 n3 d3,.slice y4 n4 d4,.slice y5 n5 d5,.slice y6 n6 d6,.slice y7 n7 d7,.slice y8 n8 d8,.slice y9 n9 d9,.slice y10 n10 d10] _ k.range Tryd.underlying43 rfl (infoSec hlen) ?_)
  | (go_at_call 24;refine ht.mono ?_;clear ht;rintro e w9 ⟨x9,c9,rfl,-,hb9⟩;(replace hw:=below_next hw hb9)))
 go_ret
 exact ⟨rfl,hw⟩
end Go.Proofs.YtkoedfmdhdikaaaDoor
namespace Go.Proofs.YtkoedfmdhdikaaaDoor
open Go.RowKit
theorem copied16_any (v:Value) (n:Nat) (b:Nat→Nat) (hn:n<140737488355000) (w:World) (hv:BytesIn w v n b):Calls Tryd.prog 5 #[v] w fun e w'=>∃ x c,e = .returned (.slice x n c)∧BytesIn w' (.slice x n c) n b∧Below w.heap.size w w':=by
 obtain ⟨x1,c1,rfl,hxn,-,hsrc⟩:=hv.src
 have hsu:=hsrc _ ((Below.refl w.heap.size w).alloc (Nat.le_refl _) (.cells #[] 5))
 clear hv hsrc
 go_enter Tryd.func5,Tryd.ntmps5
 go_wp2_with (at_builtin;refine wpList_append_empty rfl (.tmp 3) (.tmp 4) rfl w.heap.size b w.heap.size rfl rfl x1 n c1 rfl hsu hxn (by omega) (Nat.le_refl _) ?_;intro v3 w3 own3 hb3;(obtain ⟨y3,d3,e3⟩:=own3.slice);subst e3)
 go_ret
 exact ⟨_,_,rfl,own3.bytesIn,hb3⟩
theorem lawCx_any (cs:List Value) (d:CxD) (hl:d.gn<140737488355000∧d.tn<140737488355000∧d.rn<140737488355000) (w:World) (h:CxIn w cs d) :
 Calls Tryd.prog 11 #[.agg cs.toArray] w fun e w'=>∃ ds:List Value,e = .returned (.agg ds.toArray)∧CxIn w' ds d∧Below w.heap.size w w':=by
 obtain ⟨v0,v1,v2,rfl,h0,h1,h2⟩:=h
 obtain ⟨gn,gB,E,tn,tB,rn,rB⟩:=d
 obtain ⟨l0,l1,l2⟩:=hl
 dsimp only at l0 l1 l2 h0 h1 h2 ⊢
 obtain ⟨x0,c0,rfl,-⟩:=h0.src
 obtain ⟨x1,c1,rfl,-⟩:=h1.src
 obtain ⟨x2,c2,rfl,-⟩:=h2.src
 have b1:Below w.heap.size w (w.alloc (.cells #[.slice x0 gn c0,.int .i64 E,.slice x1 tn c1,.slice x2 rn c2] 38)):=(Below.refl _ _).alloc (Nat.le_refl _) _
 have k1:=RW.fresh w [.slice x0 gn c0,.int .i64 E,.slice x1 tn c1,.slice x2 rn c2] 38
 have b2:Below (w.alloc (.cells #[.slice x0 gn c0,.int .i64 E,.slice x1 tn c1,.slice x2 rn c2] 38)).heap.size _ ((w.alloc (.cells #[.slice x0 gn c0,.int .i64 E,.slice x1 tn c1,.slice x2 rn c2] 38)).alloc (.cells z4C.toArray 40)):=(Below.refl _ _).alloc (Nat.le_refl _) _
 have kz:=RW.fresh (w.alloc (.cells #[.slice x0 gn c0,.int .i64 E,.slice x1 tn c1,.slice x2 rn c2] 38)) z4C 40
 rw [World.size_alloc] at kz
 have k:=k1.still b2
 have hw:=below_next b1 b2
 replace h0:=h0.keep hw
 replace h1:=h1.keep hw
 replace h2:=h2.keep hw
 clear b1 b2 k1
 go_enter Tryd.func11,Tryd.ntmps11
 go_upto_region 1 with (rw [zCx])
 generalize (w.alloc (.cells #[.slice x0 gn c0,.int .i64 E,.slice x1 tn c1,.slice x2 rn c2] 38)).alloc (.cells z4C.toArray 40)=W0 at *
 have hdr:Below W0.heap.size W0 W0.drew:=(Below.refl _ _).drew
 replace k:=k.still hdr
 replace kz:=kz.still hdr
 replace h0:=h0.keep hdr
 replace h1:=h1.keep hdr
 replace h2:=h2.keep hdr
 replace hw:=below_next hw hdr
 clear hdr
 refine wp_last 12 (S:=fun u=>Below W0.drew.heap.size W0.drew u) (by kernel_rfl) (by kernel_rfl) (by kernel_rfl) (by kernel_rfl) (Below.refl _ _) (fun hS => ?_)
 generalize W0.drew=V at *
 refine tg 0 hS ?_
 (try simp only [pS])
 refine tc 1 hS (fun u hu=>by simpa using (k.still hu).range 0 _ rfl) ?_
 (try simp only [pS])
 refine tg 3 hS ?_
 (try simp only [pS])
 refine tc 4 hS (fun u hu=>by simpa using (k.still hu).range 1 _ rfl) ?_
 (try simp only [pS])
 refine tg 5 hS ?_
 (try simp only [pS])
 refine tc 6 hS (fun u hu=>by simpa using (k.still hu).range 2 _ rfl) ?_
 (try simp only [pS])
 refine tg 8 hS ?_
 (try simp only [pS])
 refine tc 9 hS (fun u hu=>by simpa using (k.still hu).range 3 _ rfl) ?_
 (try simp only [pS])
 refine cn 2 (copied16_any (.slice x0 gn c0) gn gB l0 V h0) ?_
 rintro e u1 ⟨y0,m0,rfl,Y0,hb⟩
 refine ⟨_,rfl,hb,?_⟩
 replace k:=k.still hb
 replace kz:=kz.still hb
 replace h0:=h0.keep hb
 replace h1:=h1.keep hb
 replace h2:=h2.keep hb
 replace hw:=below_next hw hb
 clear hS hb
 have hS:=Below.refl u1.heap.size u1
 (try simp only [pS])
 refine cn 7 (copied16_any (.slice x1 tn c1) tn tB l1 u1 h1) ?_
 rintro e u2 ⟨y1,m1,rfl,Y1,hb⟩
 refine ⟨_,rfl,hb,?_⟩
 replace k:=k.still hb
 replace kz:=kz.still hb
 replace h0:=h0.keep hb
 replace h1:=h1.keep hb
 replace h2:=h2.keep hb
 replace Y0:=Y0.keep hb
 replace hw:=below_next hw hb
 clear hS hb
 have hS:=Below.refl u2.heap.size u2
 (try simp only [pS])
 refine cn 10 (copied16_any (.slice x2 rn c2) rn rB l2 u2 h2) ?_
 rintro e u3 ⟨y2,m2,rfl,Y2,hb⟩
 refine ⟨_,rfl,hb,?_⟩
 replace k:=k.still hb
 replace kz:=kz.still hb
 replace h0:=h0.keep hb
 replace h1:=h1.keep hb
 replace h2:=h2.keep hb
 replace Y0:=Y0.keep hb
 replace Y1:=Y1.keep hb
 replace hw:=below_next hw hb
 clear hS hb
 have hS:=Below.refl u3.heap.size u3
 (try simp only [pS])
 refine tg 11 hS ?_
 (try simp only [pS])
 refine wpAnyH_done (by kernel_rfl) ?_ _
 refine lastRow 12 40 2 14 [.slice y0 gn m0,.int .i64 E,.slice y1 tn m1,.slice y2 rn m2] kz rfl (infoCx _ _ _ _) (one4 ⟨_,_,_,rfl⟩ ⟨_,_,_,rfl⟩ ⟨_,_,_,rfl⟩) (fun rz => ?_)
 refine NoPanic.normal ?_
 go_wp2
 have ho:Out (w.heap.size+1) 0 4 u3 (u3.setCells (w.heap.size+1) 0 [.slice y0 gn m0,.int .i64 E,.slice y1 tn m1,.slice y2 rn m2]):=Out.setCells u3 _ (Nat.le_refl _) (Nat.le_refl _)
 have hno:∀ i,i<4→∃ u,u3.cell? ⟨w.heap.size+1,i,none⟩=some u∧∀ z,u ≠ .int .u8 z:=fun i hi=>by
  have hr:=kz.range
  match i,hi with
  | 0,_=>exact ⟨_,by simpa using hr 0 _ rfl,fun z e=>by cases e⟩
  | 1,_=>exact ⟨_,by simpa using hr 1 _ rfl,fun z e=>by cases e⟩
  | 2,_=>exact ⟨_,by simpa using hr 2 _ rfl,fun z e=>by cases e⟩
  | 3,_=>exact ⟨_,by simpa using hr 3 _ rfl,fun z e=>by cases e⟩
 exact bodyPost_ret (results_cell_mid Tryd.results11 _ _ (w.heap.size+1) 0 [.slice y0 gn m0,.int .i64 E,.slice y1 tn m1,.slice y2 rn m2] _ rfl rz.range Tryd.underlying40 rfl (infoCx _ _ _ _)) rfl ⟨_,rfl,⟨_,_,_,rfl,Y0.outV ho hno,Y1.outV ho hno,Y2.outV ho hno⟩,below_setCells (Nat.le_succ _) _ 0 _ hw⟩
end Go.Proofs.YtkoedfmdhdikaaaDoor
namespace Go.Proofs.YtkoedfmdhdikaaaDoor
open Go.RowKit
theorem range3 {w:World} {b o:Nat} {v0 v1 v2:Value} (h0:w.cell? ⟨b,o,none⟩=some v0) (h1:w.cell? ⟨b,o+1,none⟩=some v1) (h2:w.cell? ⟨b,o+2,none⟩=some v2):w.rangeAt b o [v0,v1,v2]:=fun j v hv=>by
 match j,hv with
 | 0,hv=>cases hv;exact h0
 | 1,hv=>cases hv;exact h1
 | 2,hv=>cases hv;exact h2
 | j+3,hv=>simp at hv
def PkL (base:Nat) (w:World) (v:Value) (n:Nat) (L:List Value):Prop:=w.ownsRow base 28 3 v n L
theorem info_pk:(Tryd.prog.info? 28).map (fun i=>(i.zero,i.size,i.bytes))=some (some (.agg #[.slice none 0 0,.slice none 0 0,.slice none 0 0]),3,72):=by kernel_rfl
theorem und_pks:Tryd.prog.underlying 23=some (.slice 28):=by kernel_rfl
theorem PkL.nil (base:Nat) (w:World):PkL base w (.slice none 0 0) 0 []:=World.ownsRow_nil w base _ _
theorem PkL.len {base:Nat} {w:World} {v:Value} {n:Nat} {L:List Value} (h:PkL base w v n L):L.length=n*3:=h.1
theorem PkL.slice {base:Nat} {w:World} {v:Value} {n:Nat} {L:List Value} (h:PkL base w v n L):∃ x c,v = .slice x n c:=by
 rcases h.2 with ⟨rfl,rfl⟩ | ⟨g,cap,cur,rfl,_⟩
 · exact ⟨_,_,rfl⟩
 · exact ⟨_,_,rfl⟩
theorem PkL.below {base:Nat} {w w':World} {v:Value} {n:Nat} {L:List Value} (h:PkL base w v n L) (hb:Below w.heap.size w w'):PkL base w' v n L:=own_below h hb
theorem PkL.range {base:Nat} {w:World} {x:Option Addr} {n c:Nat} {L:List Value} (h:PkL base w (.slice x n c) n L) (i:Nat) (hi:i<n):∃ g v0 v1 v2,x=some ⟨g,0,none⟩∧g<w.heap.size∧L[i*3]? = some v0∧L[i*3+1]? = some v1∧L[i*3+2]? = some v2∧w.rangeAt g (0+i*3) [v0,v1,v2]:=by
 have hl:=h.len
 rcases h.2 with ⟨e,e2⟩ | ⟨g,cap,cur,e,_⟩
 · omega
 · cases e
   have e0:i*3<L.length:=by omega
   have e1:i*3+1<L.length:=by omega
   have e2:i*3+2<L.length:=by omega
   refine ⟨g,L[i*3],L[i*3+1],L[i*3+2],rfl,(World.ownsRow.lt h g rfl).2,List.getElem?_eq_getElem e0,List.getElem?_eq_getElem e1,List.getElem?_eq_getElem e2,?_⟩
   rw [Nat.zero_add]
   refine range3 ?_ ?_ ?_
   · rw [World.ownsRow.cellAt h (i*3) (by omega)];exact List.getElem?_eq_getElem e0
   · rw [World.ownsRow.cellAt h (i*3+1) (by omega)];exact List.getElem?_eq_getElem e1
   · rw [World.ownsRow.cellAt h (i*3+2) (by omega)];exact List.getElem?_eq_getElem e2
theorem own_apartP {base base':Nat} {w:World} {p v:Value} {n m:Nat} {X:Nat→Nat} {L:List Value} (hp:Own base w p n X) (hv:PkL base' w v m L):p.ownBlock=none∨p.ownBlock≠v.ownBlock:=by
 rcases hp.2 with ⟨rfl,_⟩ | ⟨g,cap,cur,rfl,_,hg,_⟩
 · exact .inl rfl
 · right
   rcases hv.2 with ⟨rfl,_⟩ | ⟨g',cap',cur',rfl,_,hg',_⟩
   · intro e;cases e
   · intro e
     have e':g=g':=by simpa [Value.ownBlock] using e
     subst e'
     rw [hg] at hg'
     cases hg'
theorem rows3 {v0 v1 v2:Value} (h0:∃ x n c,v0 = .slice x n c) (h1:∃ x n c,v1 = .slice x n c) (h2:∃ x n c,v2 = .slice x n c):∀ u∈[v0,v1,v2],u.oneCell'=true:=by
 obtain ⟨x0,n0,c0,rfl⟩:=h0
 obtain ⟨x1,n1,c1,rfl⟩:=h1
 obtain ⟨x2,n2,c2,rfl⟩:=h2
 intro u hu
 simp only [List.mem_cons,List.not_mem_nil,or_false] at hu
 rcases hu with rfl | rfl | rfl <;> rfl
theorem run_append_pk (ty:TypeId) (W:World) (base:Nat) (v:Value) (n:Nat) (L:List Value) (hown:PkL base W v n L) (v0 v1 v2:Value) (h1:∀ u∈[v0,v1,v2],u.oneCell'=true) (hn:(n+1)*72≤140737488355328) (hbase:base≤W.heap.size) :
 ∃ v' w',(Builtin.append_ #[23,23] ty #[v,.slice (some ⟨W.heap.size,0,none⟩) 1 1]).run Tryd.prog (W.alloc (.cells #[v0,v1,v2] 28)) = .ok v' w'∧PkL base w' v' (n+1) (L ++ [v0,v1,v2])∧(W.alloc (.cells #[v0,v1,v2] 28)).grownBy w' v.ownBlock:=by
 obtain ⟨i0,hi,hz0,hz1,hz2⟩:=info_parts info_pk
 have hr:=(RW.fresh W [v0,v1,v2] 28).range
 obtain ⟨v',w',e1,e2,e3,-⟩:=run_append_own (P:=Tryd.prog) (W.alloc (.cells #[v0,v1,v2] 28)) base 23 ty 28 i0 _ 3 72 und_pks hi hz0 hz1 hz2 rfl (by decide) v n L (World.ownsRow.alloc hown _) ⟨W.heap.size,0,none⟩ 1 1 [v0,v1,v2] rfl (fun j u hu=>by
  rw [Addr.add_mid]
  exact hr j u hu) h1 (by unfold maxLen;omega) (by omega) (by simp only [World.size_alloc];omega)
 exact ⟨v',w',e1,e2,e3⟩
structure PsOwn (base:Nat) (w:World) (v:Value) (n:Nat) (L:List Value) (D:Nat→PkD):Prop where
 list:PkL base w v n L
 each:∀ i,i<n→∃ v0 v1 v2,L[i*3]? = some v0∧L[i*3+1]? = some v1∧L[i*3+2]? = some v2∧Own base w v0 (D i).an (D i).a∧Own base w v1 (D i).bn (D i).b∧Own base w v2 (D i).kn (D i).k
theorem PsOwn.nil (base:Nat) (w:World) (D:Nat→PkD):PsOwn base w (.slice none 0 0) 0 [] D:=⟨PkL.nil base w,fun _ hi=>absurd hi (Nat.not_lt_zero _)⟩
theorem PsOwn.below {base:Nat} {w w':World} {v:Value} {n:Nat} {L:List Value} {D:Nat→PkD} (h:PsOwn base w v n L D) (hb:Below w.heap.size w w'):PsOwn base w' v n L D :=
 ⟨h.list.below hb,fun i hi=>by
   obtain ⟨v0,v1,v2,e0,e1,e2,o0,o1,o2⟩:=h.each i hi
   exact ⟨v0,v1,v2,e0,e1,e2,o0.below hb,o1.below hb,o2.below hb⟩⟩
theorem PsOwn.pks {base:Nat} {w:World} {x:Option Addr} {n c:Nat} {L:List Value} {D:Nat→PkD} (h:PsOwn base w (.slice x n c) n L D):PksIn w x n D:=fun i hi=>by
 obtain ⟨g,v0,v1,v2,e,hg,e0,e1,e2,hr⟩:=h.list.range i hi
 obtain ⟨u0,u1,u2,f0,f1,f2,o0,o1,o2⟩:=h.each i hi
 rw [e0] at f0;cases f0
 rw [e1] at f1;cases f1
 rw [e2] at f2;cases f2
 exact ⟨g,0,[v0,v1,v2],e,hg,hr,v0,v1,v2,rfl,o0.bytesIn,o1.bytesIn,o2.bytesIn⟩
theorem PsOwn.next {base:Nat} {w w1 w':World} {v v' v0 v1 v2:Value} {n:Nat} {L:List Value} {D:Nat→PkD} (h:PsOwn base w v n L D) (hb:Below w.heap.size w w1) (o0:Own base w v0 (D n).an (D n).a) (o1:Own base w v1 (D n).bn (D n).b) (o2:Own base w v2 (D n).kn (D n).k) (hl:PkL base w' v' (n+1) (L ++ [v0,v1,v2])) (hg:w1.grownBy w' v.ownBlock):PsOwn base w' v' (n+1) (L ++ [v0,v1,v2]) D:=by
 have hL:=h.list.below hb
 have hlen:=h.list.len
 have kp:∀ {s:Value} {m:Nat} {X:Nat→Nat},Own base w s m X→Own base w' s m X:=fun ho=>World.ownsRow.kept (ho.below hb) hg (own_apartP (ho.below hb) hL)
 refine ⟨hl,fun i hi => ?_⟩
 by_cases e:i=n
 · subst e
   refine ⟨v0,v1,v2,?_,?_,?_,kp o0,kp o1,kp o2⟩
   · rw [List.getElem?_append_right (by omega),show i*3 - L.length=0 by omega];rfl
   · rw [List.getElem?_append_right (by omega),show i*3+1 - L.length=1 by omega];rfl
   · rw [List.getElem?_append_right (by omega),show i*3+2 - L.length=2 by omega];rfl
 · obtain ⟨u0,u1,u2,f0,f1,f2,p0,p1,p2⟩:=h.each i (by omega)
   refine ⟨u0,u1,u2,?_,?_,?_,kp p0,kp p1,kp p2⟩
   · rw [List.getElem?_append_left (by omega)];exact f0
   · rw [List.getElem?_append_left (by omega)];exact f1
   · rw [List.getElem?_append_left (by omega)];exact f2
end Go.Proofs.YtkoedfmdhdikaaaDoor
namespace Go.Proofs.YtkoedfmdhdikaaaDoor
open Go.RowKit
structure AgL (base:Nat) (w:World) (W:World) (v:Value) (n:Nat) (L:List Value) (E:Nat→PkD):Prop where
 list:PkL base W v n L
 each:∀ i,i<n→∃ x0 n0 c0 x1 n1 c1 x2 n2 c2,L[i*3]? = some (.slice x0 n0 c0)∧L[i*3+1]? = some (.slice x1 n1 c1)∧L[i*3+2]? = some (.slice x2 n2 c2)∧PkIn w [.slice x0 n0 c0,.slice x1 n1 c1,.slice x2 n2 c2] (E i)
 bytes:∀ i,i<n→pkB (E i)
 ok:pkAll E n=true
theorem AgL.nil (base:Nat) (w W:World) (E:Nat→PkD):AgL base w W (.slice none 0 0) 0 [] E:=⟨PkL.nil base W,fun _ hi=>absurd hi (Nat.not_lt_zero _),fun _ hi=>absurd hi (Nat.not_lt_zero _),rfl⟩
theorem AgL.next {base:Nat} {w W W':World} {v v':Value} {n:Nat} {L:List Value} {E:Nat→PkD} (h:AgL base w W v n L E) (d:PkD) (x0:Option Addr) (n0 c0:Nat) (x1:Option Addr) (n1 c1:Nat) (x2:Option Addr) (n2 c2:Nat) (hd:PkIn w [.slice x0 n0 c0,.slice x1 n1 c1,.slice x2 n2 c2] d) (hB:pkB d) (ok:pkOk d=true) (hl:PkL base W' v' (n+1) (L ++ [.slice x0 n0 c0,.slice x1 n1 c1,.slice x2 n2 c2])):AgL base w W' v' (n+1) (L ++ [.slice x0 n0 c0,.slice x1 n1 c1,.slice x2 n2 c2]) (fun i=>if i=n then d else E i):=by
 have hlen:=h.list.len
 refine ⟨hl,fun i hi => ?_,fun i hi => ?_,pkAll_all fun i hi => ?_⟩
 · by_cases e:i=n
   · subst e
     refine ⟨x0,n0,c0,x1,n1,c1,x2,n2,c2,?_,?_,?_,by rw [if_pos rfl];exact hd⟩
     · rw [List.getElem?_append_right (by omega),show i*3 - L.length=0 by omega];rfl
     · rw [List.getElem?_append_right (by omega),show i*3+1 - L.length=1 by omega];rfl
     · rw [List.getElem?_append_right (by omega),show i*3+2 - L.length=2 by omega];rfl
   · obtain ⟨y0,m0,d0,y1,m1,d1,y2,m2,d2,f0,f1,f2,p⟩:=h.each i (by omega)
     refine ⟨y0,m0,d0,y1,m1,d1,y2,m2,d2,?_,?_,?_,by rw [if_neg e];exact p⟩
     · rw [List.getElem?_append_left (by omega)];exact f0
     · rw [List.getElem?_append_left (by omega)];exact f1
     · rw [List.getElem?_append_left (by omega)];exact f2
 · show pkB (if i=n then d else E i)
   by_cases e:i=n
   · rw [if_pos e];exact hB
   · rw [if_neg e];exact h.bytes i (by omega)
 · show pkOk (if i=n then d else E i)=true
   by_cases e:i=n
   · rw [if_pos e];exact ok
   · rw [if_neg e];exact pkAll_at h.ok i (by omega)
theorem AgL.below {base:Nat} {w W W':World} {v:Value} {n:Nat} {L:List Value} {E:Nat→PkD} (h:AgL base w W v n L E) (hb:Below W.heap.size W W'):AgL base w W' v n L E:=⟨h.list.below hb,h.each,h.bytes,h.ok⟩
theorem AgL.pks {base:Nat} {w W:World} {x:Option Addr} {n c:Nat} {L:List Value} {E:Nat→PkD} (h:AgL base w W (.slice x n c) n L E) (hb:Below w.heap.size w W):PksIn W x n E:=fun i hi=>by
 obtain ⟨g,v0,v1,v2,e,hg,e0,e1,e2,hr⟩:=h.list.range i hi
 obtain ⟨y0,m0,d0,y1,m1,d1,y2,m2,d2,f0,f1,f2,p⟩:=h.each i hi
 rw [e0] at f0;cases f0
 rw [e1] at f1;cases f1
 rw [e2] at f2;cases f2
 exact ⟨g,0,_,e,hg,hr,p.keep hb⟩
theorem AgL.one {base:Nat} {w W:World} {v:Value} {n:Nat} {L:List Value} {E:Nat→PkD} (h:AgL base w W v n L E):∀ u∈L,u.oneCell'=true:=fun u hu=>by
 obtain ⟨j,hj,e⟩:=List.getElem_of_mem hu
 have hlen:=h.list.len
 obtain ⟨y0,m0,d0,y1,m1,d1,y2,m2,d2,f0,f1,f2,-⟩:=h.each (j / 3) (by omega)
 have ej:L[j]? = some u:=by rw [List.getElem?_eq_getElem hj,e]
 have h3:j=j / 3*3∨j=j / 3*3+1∨j=j / 3*3+2:=by omega
 rcases h3 with h3 | h3 | h3
 · rw [←h3,ej] at f0;cases f0;rfl
 · rw [←h3,ej] at f1;cases f1;rfl
 · rw [←h3,ej] at f2;cases f2;rfl
theorem run_copy_pk (ty:TypeId) (W:World) (base:Nat) (v:Value) (n:Nat) (L:List Value) (h:PkL base W v n L) (h1:∀ u∈L,u.oneCell'=true) (hn:n≤1000) :
 ∃ v' w',(Builtin.append_ #[23,23] ty #[.slice (some ⟨W.heap.size,0,none⟩) 0 0,v]).run Tryd.prog (W.alloc (.cells #[] 28)) = .ok v' w'∧PkL W.heap.size w' v' n L∧Below W.heap.size W w':=by
 obtain ⟨i0,hi,hz0,hz1,hz2⟩:=info_parts info_pk
 have hlit:(W.alloc (.cells #[] 28)).ownsRow W.heap.size 28 3 (.slice (some ⟨W.heap.size,0,none⟩) 0 0) 0 []:=World.ownsRow_lit W #[] 0 (Nat.le_refl _) (Nat.zero_le _) rfl
 have hb:Below W.heap.size W (W.alloc (.cells #[] 28)):=(Below.refl _ _).alloc (Nat.le_refl _) _
 have hlen:=h.len
 rcases h.2 with ⟨rfl,rfl⟩ | ⟨g,cap,cur,rfl,_⟩
 · have hL:L=[]:=List.length_eq_zero_iff.1 (by omega)
   subst hL
   exact ⟨_,_,run_append_owned_none (P:=Tryd.prog) (W.alloc (.cells #[] 28)) W.heap.size 23 ty 28 i0 3 und_pks hi _ 0 [] hlit,hlit,hb⟩
 · have h':PkL base (W.alloc (.cells #[] 28)) (.slice (some ⟨g,0,none⟩) n cap) n L:=h.below hb
   obtain ⟨v',w',e1,e2,e3,-⟩:=run_append_own (P:=Tryd.prog) (W.alloc (.cells #[] 28)) W.heap.size 23 ty 28 i0 _ 3 72 und_pks hi hz0 hz1 hz2 rfl (by decide) _ 0 [] hlit ⟨g,0,none⟩ n cap L hlen (fun j u hu=>by
    rw [Addr.add_mid,Nat.zero_add,World.ownsRow.cellAt h' j (by rw [←hlen];exact (List.getElem?_eq_some_iff.1 hu).1)]
    exact hu) h1 (by unfold maxLen;omega) (by omega) (by simp only [World.size_alloc];omega)
   refine ⟨v',w',e1,?_,below_grown hb e3 hlit (Nat.le_refl _) (by simp only [World.size_alloc];omega)⟩
   rw [Nat.zero_add,List.nil_append] at e2
   exact e2
theorem wpList_append_run {P:Program} {w w':World} {ops:Array Oper} {rest:List Oper} {o:Oper} {a:Act} {Q:Exit→Act→World→Prop} (hgd:o.guard=none) (s x:Operand) {t u:TypeId} {p q r:Value}
 (ho:o.op = .call { callee := .builtin .append,args:=#[s,x],argTypes:=#[t,u] }) (hs:a.eval s=p) (hx:a.eval x=q) (hrun:(Builtin.append_ #[t,u] o.type #[p,q]).run P w = .ok r w')
 (h:wpList P ops Q rest (a.put o.dst r) w'):wpList P ops Q (o :: rest) a w:=by
 refine wpList_plain hgd fun K hK => ?_
 unfold Oper.wp execOp
 simp only [ho,resolve,invoke,builtin,Sem.run_bind,Sem.run_pure,Result.andThen_ok,List.map_toArray,List.map_cons,List.map_nil,hs,hx,hrun]
 exact hK _ _ h
abbrev AnR7 (args:Array Value) (W:World) (N:Nat→Nat) (B:Nat→Nat→Nat) (E:Int):Prop:=Calls Tryd.prog 12 args W fun e w'=>∃ L:List Value,e = .returned (.tuple #[.agg L.toArray,.int .i64 E])∧TxRow w' L 11 N B∧Below W.heap.size W w'
theorem z11_row7 (W:World):TxRow W z11 11 (fun _=>0) (fun _=>lZ):=⟨z11_len,fun i v hv=>by
 have hm:=List.mem_of_getElem? hv
 simp only [z11,List.mem_cons,List.not_mem_nil,or_false,or_self] at hm
 subst hm
 exact nil_bytes W lZ⟩
theorem seB9 (M S jb:Nat→Nat):seB M S jb 9=exN 32 M lWel 0 lZ 32:=by unfold seB;rw [if_neg (by decide),if_pos rfl]
theorem seB10 (M S jb:Nat→Nat):seB M S jb 10=jb:=by unfold seB;rw [if_neg (by decide),if_neg (by decide)]
theorem TxRow.set {W:World} {L cs ds:List Value} {m g:Nat} {N:Nat→Nat} {B:Nat→Nat→Nat} (h:TxRow W L m N B) (r:RW W g 0 cs) (hs:∀ (i:Nat) (v:Value),cs[i]? = some v→∃ x n c,v = .slice x n c) (hl:ds.length=cs.length):TxRow (W.setCells g 0 ds) L m N B :=
 ⟨h.1,fun i v hv=>(h.2 i v hv).outV (m:=cs.length) (by rw [←hl];exact Out.setCells W ds (Nat.le_refl _) (Nat.le_refl _)) fun j hj=>by
   have hc:=r.range j cs[j] (List.getElem?_eq_getElem hj)
   obtain ⟨x,n,c,e⟩:=hs j cs[j] (List.getElem?_eq_getElem hj)
   rw [Nat.zero_add] at hc
   exact ⟨_,hc,fun z ez=>by rw [e] at ez;cases ez⟩⟩
theorem z11_sls7 (i:Nat) (v:Value) (h:z11[i]? = some v):∃ x n c,v = .slice x n c:=by
 have hm:=List.mem_of_getElem? h
 simp only [z11,List.mem_cons,List.not_mem_nil,or_false,or_self] at hm
 exact ⟨_,_,_,hm⟩
theorem RW.grown0 {W W':World} {g b base:Nat} {cs:List Value} {X:Nat→Nat} (r:RW W g 0 cs) (h0:0<cs.length) (ho:Own base W (.slice (some ⟨b,0,none⟩) 0 0) 0 X) (hg:W.grownBy W' (some b)):RW W' g 0 cs:=by
 have hne:g≠b:=by
  rintro rfl
  rcases ho.2 with ⟨e,-⟩ | ⟨g',cap',cur,e,-,hh,-,-,hcs,-⟩
  · cases e
  · cases e
    have hc:=r.range 0 cs[0] (List.getElem?_eq_getElem h0)
    rw [Nat.zero_add,cell_of_row W g 0 cur _ (0,0) hh] at hc
    have h1:=(Array.getElem?_eq_some_iff.1 hc).1
    omega
 have hs:some g≠some b:=fun e=>hne (Option.some.inj e)
 refine ⟨fun j v hv=>(hg.cell_far ⟨g,0+j,none⟩ r.lt hs).trans (r.range j v hv),fun j hj => ?_,Nat.lt_of_lt_of_le r.lt hg.size⟩
 rw [hg.cell_far ⟨g,0+j,none⟩ r.lt hs,hg.frozen_far ⟨g,0+j,none⟩ r.lt hs]
 exact r.there j hj
section
variable {P:Program} {md:Region.Mode} {ops:Array Oper} {Q:Exit→Act→World→Prop} {S:World→Prop} {fuel:Nat} {listed:Array Bool} {a:Act} {w:World}
theorem zS (i:Nat) {rs:List Nat} {oi:Oper} (ty x y:Nat) {g off:Nat} {cs:List Value} (ds:List Value) (r:RW w g off cs) (hl:ds.length=cs.length) (hin:(P.info? ty).map (·.size)=some ds.toArray.size) (h1:ds.toArray.all (·.oneCell')=true) (hk:S (w.setCells g off ds)) (h:RW (w.setCells g off ds) g off ds→wpAnyH P md ops Q S fuel (listed.setIfInBounds i true) (a.put oi.dst undef) (w.setCells g off ds)) (hs:AllReadyH P md ops Q S fuel listed a w rs)
 (hi:ops.toList[i]? = some oi:=by rfl) (ho:oi.op = .store ty (.tmp x) (.tmp y):=by rfl) (hx:a.eval (.tmp x) = .pointer (some ⟨g,off,none⟩):=by rfl) (hy:a.eval (.tmp y) = .agg ds.toArray:=by rfl) (hw:Region.wanted oi (yielded ops a.tmps)=true:=by rfl):AllReadyH P md ops Q S fuel listed a w (i :: rs):=by
 refine AllReadyH.cons (at_list hi) (fun K hK => ?_) hs
 rw [if_pos hw]
 exact wp_store_mid ty _ _ ho g off ds.toArray hx hy (by rw [List.size_toArray,hl];exact r.there) hin h1 (hK.out _ _ hk (fun _=>h (r.stored ds hl)))
end
set_option maxRecDepth 20000 in
theorem epochs7 (S J:Nat→Nat) (hS:∀ j,S j<256) (hJ:∀ j,J j<256) (c d:CxD) (hBc:cxB c) (hBd:cxB d) (okc:cxOk c=true) :
 ∃ (B:Nat→Nat→Nat) (N':Nat→Nat) (B':Nat→Nat→Nat) (E':Int),(∀ i j,B i j<256)∧(∀ i j,B' i j<256)∧(E'=1∨E'=0∧N' 9=32∧B' 9=B 9)∧B 10=J∧(∀ u v cs W,TabAt W→BytesIn W u 32 J→BytesIn W v 32 S→CxIn W cs c→AnR7 #[u,v,.agg cs.toArray] W (seL 32) B 0)∧∀ u v cs W,TabAt W→BytesIn W u 32 J→BytesIn W v 32 S→CxIn W cs d→AnR7 #[u,v,.agg cs.toArray] W N' B' E':=by
 have g:=fun (e:CxD) (hBe:cxB e) (oke:cxOk e=true) (u v:Value) (cs:List Value) (W:World) (hT:TabAt W) (h1:BytesIn W u 32 J) (h2:BytesIn W v 32 S) (hc:CxIn W cs e)=>epoch_good u v 32 32 J S hJ hS (by decide) (by decide) cs e hBe oke W hT h1 h2 hc
 have b:=fun (e:CxD) (oke:cxOk e=false) (u v:Value) (cs:List Value) (W:World) (hT:TabAt W) (h1:BytesIn W u 32 J) (h2:BytesIn W v 32 S) (hc:CxIn W cs e)=>epoch_bad u v 32 32 J S hJ hS (by decide) (by decide) cs e oke W hT h1 h2 hc
 have e9:∀ S' S'':Nat→Nat,seB (xtN 32 J 32 S) S' J 9=seB (xtN 32 J 32 S) S'' J 9:=fun S' S''=>by rw [seB9,seB9]
 have e10:∀ S':Nat→Nat,seB (xtN 32 J 32 S) S' J 10=J:=fun S'=>seB10 _ S' J
 have lt:∀ (S':Nat→Nat) i j,seB (xtN 32 J 32 S) S' J i j<256:=fun _=>seB_lt hJ
 have n9:seL 32 9=32:=rfl
 refine ⟨seB (xtN 32 J 32 S) (exN 32 (xtN 32 J 32 S) lEpo (cxL c) (cxT c) 32) J,?_⟩
 cases okd:cxOk d with
 | false=>exact ⟨fun _=>0,fun _=>lZ,1,lt _,fun _=>lZ_lt5,.inl rfl,e10 _,g c hBc okc,fun u v cs W hT h1 h2 hc=>(b d okd u v cs W hT h1 h2 hc).mono fun _ _ ⟨p1,p2⟩=>⟨_,p1,z11_row7 _,p2⟩⟩
 | true=>exact ⟨seL 32,seB (xtN 32 J 32 S) (exN 32 (xtN 32 J 32 S) lEpo (cxL d) (cxT d) 32) J,0,lt _,lt _,.inr ⟨rfl,n9,e9 _ _⟩,e10 _,g c hBc okc,g d hBd okd⟩
end Go.Proofs.YtkoedfmdhdikaaaDoor
