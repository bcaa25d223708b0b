/- The law HpkeBack in the model. -/
import Derived.Test.YtcgkajlehdgpoaaGreatDoorQLBm
namespace Go.Proofs.YtcgkajlehdgpoaaGreatDoor
open Go.RowKit
set_option maxRecDepth 20000 in
set_option maxHeartbeats 16000000 in
theorem hpkeBack_any (v0 v1 v2:Value) (n0 n1 n2:Nat) (b0 b1 b2:Nat→Nat) (l0:∀ j,b0 j<256) (l1:∀ j,b1 j<256) (l2:∀ j,b2 j<256) (k0:n0+300<140737488355000) (k1:n1+300<140737488355000) (xo:Option Addr) (cnt cap:Nat) (kd nn:Nat→Int) (mv tv:Nat→Value) (mn tn:Nat→Nat) (mb tb:Nat→Nat→Nat) (x:Nat) (hx:x<256) (w:World) (hT:HTab w cubeK squareK) (h0:BytesIn w v0 n0 b0) (h1:BytesIn w v1 n1 b1) (h2:BytesIn w v2 n2 b2) (ho:OpsQ w xo cnt kd nn mv tv mn tn mb tb) :
 Calls Tryz.prog 7 #[v0,v1,v2,.slice xo cnt cap,.int .u8 (x:Int)] w fun e w'=>e = .returned (.bool true)∧Below w.heap.size w w':=by
 have hnum:=num10_any
 have hK:=fun W hb=>knows10 W (hT.keep hb)
 have zo:=zeroOp
 obtain ⟨x2,d2,rfl,-,-,-⟩:=h2.src
 by_cases h6:n2≤65536
 · have i6:¬((65536:Int)<(n2:Int)):=by omega
   have ag:=sd_both (dsN n1 b1) (dsN n0 b0)
   have c1:=cDerive_any v0 n0 b0 l0 k0 w hT h0
   have c2:=fun p W hb hp=>cEncap_some p v1 n1 (puN (dsN n0 b0)) b1 (puN_lt _) l1 k1 ag.1 W (hT.keep hb) hp (h1.keep hb)
   have c3:=fun s p W hb hs hp=>cDecap_some s p (dsN n0 b0) (puN (dsN n1 b1)) (dsN_lt _ _) (puN_lt _) (by rw [ag.2];exact ag.1) W (hT.keep hb) hs hp
   rw [ag.2] at c3
   have lS:∀ j,shN2 (byt (sdN (dsN n1 b1) (puN (dsN n0 b0)))) (puN (dsN n1 b1)) (puN (dsN n0 b0)) j<256:=shN2_lt _ _ _
   generalize shN2 (byt (sdN (dsN n1 b1) (puN (dsN n0 b0)))) (puN (dsN n1 b1)) (puN (dsN n0 b0))=S at *
   have c4:=fun s W hb hs=>cNew_good s (.slice x2 n2 d2) n2 S b2 lS l2 h6 W (hT.keep hb) hs (h2.keep hb)
   have lK:∀ j,ckN lKey 16 S n2 b2 j<256:=ckN_lt _ _ _ _ _
   have lN:∀ j,ckN lBn 12 S n2 b2 j<256:=ckN_lt _ _ _ _ _
   have lX:∀ j,ckN lExp 32 S n2 b2 j<256:=ckN_lt _ _ _ _ _
   generalize ckN lKey 16 S n2 b2=K at *
   generalize ckN lBn 12 S n2 b2=N at *
   generalize ckN lExp 32 S n2 b2=X at *
   generalize puN (dsN n1 b1)=P1 at *
   generalize puN (dsN n0 b0)=P0 at *
   generalize dsN n0 b0=D0 at *
   have c7:=fun g m W hb hc=>cExport_good g m K N X lX (.slice x2 n2 d2) n2 40 b2 l2 h6 (by decide) W (hT.keep hb) hc (h2.keep hb)
   have lE:∀ j,leN lAll 32 X lSec n2 b2 40 j<256:=leN_lt _ _ _ _ _ _ _
   generalize leN lAll 32 X lSec n2 b2 40=EX at *
   have s0:=fun S:ByteArray=>beq_self_eq_true S.toList
   have e1:=s0 (strB 32 S)
   have e2:=s0 (strB 40 EX)
   clear ag h2 hT s0
   go_enter Tryz.func7,Tryz.ntmps7
   go_upto_region 6 with (first
    | (go_at_call 9;refine c1.mono ?_;clear c1;rintro e w1 ⟨s1,p1,rfl,o1,q1,b1⟩;(have y1:=c2 p1 w1 b1 q1);clear c2 q1)
    | (go_at_call 11;refine y1.mono ?_;clear y1;rintro e w2 ⟨s2,p2,rfl,o2,q2,hb2⟩;(have b2:=below_next b1 hb2);(replace o1:=o1.keep hb2);(have y2:=c3 s1 p2 w2 b2 o1 q2);clear c3 hb2 b1 q2 o1)
    | (go_at_call 13;refine y2.mono ?_;clear y2;rintro e w3 ⟨s3,rfl,o3,hb3⟩;(have b3:=below_next b2 hb3);(replace o2:=o2.keep hb3);clear hb3 b2))
   have r1:=o2.conv lS w3 (Below.refl _ _)
   have r2:=o3.conv lS w3 (Below.refl _ _)
   have z1:=hK w3 b3
   clear hK
   generalize strB 32 S=SS at *
   go_upto_region 8 with (first
    | (go_at_call 15;refine (hnum _ _).mono ?_;rintro e wn ⟨rfl,rfl⟩)
    | rw [r1]
    | rw [r2]
    | (go_at_call 17;refine z1.mono ?_;clear z1;rintro e w4 ⟨rfl,hb4⟩;(have b4:=below_next b3 hb4);(replace o2:=o2.keep hb4);(replace o3:=o3.keep hb4);(have y4:=c4 _ w4 b4 o2);clear r1 r2 o2 hb4 b3))
   go_upto_region 12 with (first
    | (go_at_call 18;refine y4.mono ?_;clear y4;rintro e w5 ⟨g5,rfl,hg5,x5,hb5⟩;(have l5:w.heap.size≤g5:=Nat.le_trans b4.size hg5);(have b5:=below_next b4 hb5);(replace o3:=o3.keep hb5);(have y5:=c4 _ w5 b5 o3);clear hb5 b4 c4 hg5)
    | (go_at_call 18;refine y5.mono ?_;clear y5;rintro e w6 ⟨g6,rfl,hg6,x6,hb6⟩;(have ne:g6≠g5:=Nat.ne_of_gt (Nat.lt_of_lt_of_le x5.lt hg6));(have l6:w.heap.size≤g6:=Nat.le_trans b5.size hg6);(have b6:=below_next b5 hb6);(replace x5:=x5.keep hb6);clear hb6 b5 hg6 o3)
    | (go_at_call 15;refine (hnum _ _).mono ?_;rintro e wn ⟨rfl,rfl⟩))
   clear e1 lS
   go_wp2
   go_loopw [22] (fun i wr=>∃ k m:Nat,k≤cnt∧k≤20∧m≤k∧i = .int .i64 (k:Int)∧CCtx wr g5 K N X m∧CCtx wr g6 K N X m∧Below w.heap.size w wr) (fun i _=>20 - (intOf i).toNat)
   case atStart=>exact ⟨0,0,Nat.zero_le _,Nat.zero_le _,Nat.le_refl _,by go_num,x5,x6,b6⟩
   case round =>
    clear x5 x6 b6
    obtain ⟨k,m,hk1,hk2,hmk,rfl,xc,xd,b⟩:=hrel
    by_cases hlt:k<cnt∧k<20
    · obtain ⟨q1,q2⟩:=hlt
      have q1':(k:Int)<(cnt:Int):=by omega
      have q2':(k:Int)<20:=by omega
      obtain ⟨lb,lo,hxo,hlb,hcells⟩:=ho.cell k q1
      subst hxo
      obtain ⟨hm,lm,-⟩:=ho.more k q1
      obtain ⟨ht,lt,-⟩:=ho.text k q1
      obtain ⟨xm,dm,em,-,-,-⟩:=hm.src
      obtain ⟨xt,dt,et,-,-,-⟩:=ht.src
      have hrange:wr.rangeAt lb (lo+k*4) (o4 (kd k) (nn k) (mv k) (tv k)):=fun j v hv=>(b.cell (p:=⟨lb,lo+k*4+j,none⟩) hlb).trans (hcells j v hv)
      rw [em] at hm hrange
      rw [et] at ht hrange
      generalize kd k=ik at *
      generalize nn k=ni at *
      generalize mn k=ml at *
      generalize tn k=n at *
      generalize mb k=M at *
      generalize tb k=T at *
      have hz:=RW.fresh wr (o4 0 0 (.slice none 0 0) (.slice none 0 0)) 41
      have th:(wr.alloc (.cells (o4 0 0 (.slice none 0 0) (.slice none 0 0)).toArray 41)).there wr.heap.size 0 (o4 ik ni (.slice xm ml dm) (.slice xt n dt)).toArray.size:=hz.there
      obtain ⟨V,hV⟩:∃ V,V=(wr.alloc (.cells (o4 0 0 (.slice none 0 0) (.slice none 0 0)).toArray 41)).setCells wr.heap.size 0 (o4 ik ni (.slice xm ml dm) (.slice xt n dt)):=⟨_,rfl⟩
      have r:RW V wr.heap.size 0 (o4 ik ni (.slice xm ml dm) (.slice xt n dt)):=by rw [hV];exact hz.stored _ rfl
      have bV:Below wr.heap.size wr V:=by rw [hV];exact below_setCells (Nat.le_refl _) _ _ _ ((Below.refl _ _).alloc (Nat.le_refl _) _)
      have HV:=Hid.mk' hV
      clear hV hz hcells em et c7
      go_upto_region 16 with (first
       | (refine wpList_load_mid rfl 41 _ rfl lb (lo+k*4) rfl (o4 ik ni (.slice xm ml dm) (.slice xt n dt)) _ hrange Tryz.underlying41 rfl (infoOp _ _ _ _) ?_)
       | (with_reducible (refine id (?_:wpList _ _ _ _ _ _));refine wpList_store_mid rfl 41 _ _ rfl wr.heap.size 0 (o4 ik ni (.slice xm ml dm) (.slice xt n dt)).toArray rfl rfl th (infoOpA _ _ _ _) (oneOp _ _ _ _ _ _ _ _) ?_;rw [List.toList_toArray,←HV.out];clear th HV))
      (try dsimp only [Act.put])
      have ng:wr.heap.size≠g5:=Nat.ne_of_gt xc.lt
      have ng6:wr.heap.size≠g6:=Nat.ne_of_gt xd.lt
      replace xc:=xc.keep bV
      replace xd:=xd.keep bV
      replace b:=below_next b bV
      generalize wr.heap.size=go at *
      clear hrange bV
      have f2:V.cell? ⟨go,2,none⟩=some (.slice xm ml dm):=r.range 2 _ rfl
      have f3:V.cell? ⟨go,3,none⟩=some (.slice xt n dt):=r.range 3 _ rfl
      by_cases hs:ml≤65536∧n≤65536
      · obtain ⟨hs1,hs2⟩:=hs
        have i1:¬((65536:Int)<(ml:Int)):=by omega
        have i2:¬((65536:Int)<(n:Int)):=by omega
        have lNm:∀ j,ncN N m j<256:=ncN_lt lN m
        have y1:=cSeal g5 m K N X lN (.slice xm ml dm) (.slice xt n dt) (n+16) _ 0 (.inl rfl) (by omega) V xc (fun kv nv W hb h1 h2=>sealA K (ncN N m) M T ml n hs1 hs2 lK lNm lm lt kv nv _ _ W h1 h2 (hm.keep (below_next b hb)) (ht.keep (below_next b hb)))
        have lY:∀ j,slB K (ncN N m) ml M n T j<256:=slB_lt _ _ _ _ _ _
        have oB:∀ z W W',BytesIn W z (n+16) (slB K (ncN N m) ml M n T)→Below w.heap.size w W→CCtx W g6 K N X m→Below W.heap.size W W'→True:=fun _ _ _ _ _ _ _=>trivial
        have aB:∀ z W,BytesIn W z (n+16) (slB K (ncN N m) ml M n T)→Below w.heap.size w W→CCtx W g6 K N X m→Calls Tryz.prog 22 #[.pointer (some ⟨g6,0,none⟩),.slice xm ml dm,z] W fun e w'=>∃ s,e = .returned (.tuple #[s,.int .i64 0])∧BytesIn w' s n T∧CCtx w' g6 K N X (m+1)∧Out g6 3 1 W w':=fun z W hz hb hc =>
         cOpen g6 m K N X lN _ _ n T 0 (.inl rfl) (by omega) W hc (fun kv nv W' hb' h1 h2=>open_back kv nv _ z ml n K (ncN N m) M T hs1 hs2 lK lNm lm lt W' h1 h2 (hm.keep (below_next hb hb')) (hz.keep hb'))
        have aN:¬x=0→∀ z W,BytesIn W z (n+16) (upd (slB K (ncN N m) ml M n T) (n+15) (slB K (ncN N m) ml M n T (n+15) ^^^ x))→Below w.heap.size w W→CCtx W g6 K N X m→Calls Tryz.prog 22 #[.pointer (some ⟨g6,0,none⟩),.slice xm ml dm,z] W fun e w'=>∃ s,e = .returned (.tuple #[s,.int .i64 32])∧BytesIn w' s 0 z0∧CCtx w' g6 K N X m∧Out g6 3 1 W w':=fun h0 z W hz hb hc =>
         cOpen g6 m K N X lN _ _ 0 z0 32 (.inr rfl) (by omega) W hc (fun kv nv W' hb' h1 h2=>open_none kv nv _ z ml n K (ncN N m) M T 15 x (by decide) hx h0 hs1 hs2 lK lNm lm lt W' h1 h2 (hm.keep (below_next hb hb')) (hz.keep hb'))
        clear oB
        obtain ⟨Y,hY⟩:∃ Y,Y=slB K (ncN N m) ml M n T:=⟨_,rfl⟩
        rw [←hY] at y1 lY aB aN
        have hn6:n≤65536:=hs2
        clear hY hs1 hs2
        obtain ⟨L,hL⟩:∃ L,L=n+16:=⟨_,rfl⟩
        obtain ⟨q,hq⟩:∃ q,q=n+15:=⟨_,rfl⟩
        rw [←hL] at y1 aB aN
        rw [←hq] at aN
        have iL:(n:Int)+16=(L:Int):=by omega
        have iL2:IntKind.i64.wrap ((n:Int)+16)=(L:Int):=by simp only [IntKind.wrap_i64];omega
        have iq:(L:Int) - 1=(q:Int):=by omega
        have iq2:IntKind.i64.wrap ((L:Int) - 1)=(q:Int):=by simp only [IntKind.wrap_i64];omega
        have t1:(0:Int)≤(q:Int)∧(q:Int)<(L:Int):=by omega
        have t3:q<L:=by omega
        have hL6:L≤140737488355328:=by omega
        have HL:=Hid.mk' hL
        clear hL hq hn6
        go_upto_region 18 with (go_at_call 21;refine y1.mono ?_;clear y1;rintro e w1 ⟨s1,rfl,o1,c1,u1⟩;(replace c1:CCtx w1 g5 K N X (m+1):=c1);(have bb1:Below w.heap.size w w1:=b.trans (u1.below l5 b.size));(replace r:=r.out u1 ng);(replace xd:=xd.outU xc.num ne u1);clear f2 f3;(have f2:w1.cell? ⟨go,2,none⟩=some (.slice xm ml dm):=r.range 2 _ rfl);(have f3:w1.cell? ⟨go,3,none⟩=some (.slice xt n dt):=r.range 3 _ rfl);(obtain ⟨xy,dy,ey,hxn,-,hsrc⟩:=o1.src);subst ey;(have hsu:=hsrc _ ((Below.refl w1.heap.size w1).alloc (Nat.le_refl _) (.cells #[] 5)));clear xc u1 b hsrc)
        go_upto_region 22 with (first
         | (go_at_call 15;refine (hnum _ _).mono ?_;rintro e wn ⟨rfl,hwn⟩;obtain rfl:=hwn.symm)
         | (at_builtin;refine wpList_append_empty rfl (.tmp 137) (.tmp 138) rfl w1.heap.size Y w1.heap.size rfl rfl xy L dy rfl hsu hxn hL6 (Nat.le_refl _) ?_;intro v2 w2 own2 hb2;(obtain ⟨g2,c2,hv2,hg2,-,hc2,r2⟩:=own2.form.resolve_left (fun h=>by omega));subst hv2;clear own2 hsu;(have z1:=(r2 q t3).1);(have z2:=(r2 q t3).2);(have rz:=r2.set (i:=q) t3 (v:=((Y q ^^^ x:Nat):Int)) rfl);(have x1:=u8_xor_nat (Y q) x (lY q) hx);rw [Nat.zero_add] at z1 z2 rz;(have b3:=hb2.setCell (p:=⟨g2,q,none⟩) hg2 (.int .u8 ((Y q ^^^ x:Nat):Int)));(have Hx:=Hid.mk' rz);clear rz;(obtain ⟨u,hu⟩:∃ u,u=Y q:=⟨_,rfl⟩);(obtain ⟨z,hz⟩:∃ z,z=Y q ^^^ x:=⟨_,rfl⟩);rw [←hz] at x1 b3;rw [←hu] at z1 x1;(have Hz:=Hid.mk' hz);clear hu hz r2 hb2))
        have rz:=Hx.out
        rw [←Hz.out] at rz aN
        obtain ⟨W3,hW3⟩:∃ W,W=w2.setCell ⟨g2,q,none⟩ (.int .u8 (z:Int)):=⟨_,rfl⟩
        rw [←hW3] at rz b3 ⊢
        have b:=below_next bb1 b3
        replace c1:=c1.keep b3
        replace xd:=xd.keep b3
        replace r:=r.still b3
        replace o1:=o1.keep b3
        clear f2 f3 z1 z2 x1 hW3 Hx b3 bb1
        have f2:W3.cell? ⟨go,2,none⟩=some (.slice xm ml dm):=r.range 2 _ rfl
        have hzb:BytesIn W3 (.slice (some ⟨g2,0,none⟩) L c2) L (upd Y q z) := .inr ⟨g2,0,c2,rfl,block_lt_of_cell (rz q t3).1,hc2,fun j hj=>(rz j hj).1⟩
        have e3:=beq_self_eq_true (strB n T).toList
        clear rz
        by_cases h0:x=0
        · have i0:(x:Int)=0:=by omega
          have H0:=Hid.mk' (congrArg (Value.int .u8) i0.symm)
          have hzy:BytesIn W3 (.slice (some ⟨g2,0,none⟩) L c2) L Y:=hzb.like fun j hj=>by
           unfold upd
           by_cases e:j=q
           · rw [if_pos e,Hz.out,h0,Nat.xor_zero,e]
           · rw [if_neg e]
          have y2:=aB _ W3 hzy b xd
          clear aB aN h0 hzb hzy
          go_upto_region 23 with (go_at_call 22;refine y2.mono ?_;clear y2;rintro e w4 ⟨s4,rfl,-,x4,u4⟩;(have b4:Below w.heap.size w w4:=b.trans (u4.below l6 b.size));(replace c1:=c1.outU xd.num ne.symm u4);clear xd u4 r f2 o1)
          go_wp2_with (go_at_call 15;refine (hnum _ _).mono ?_;rintro e wn ⟨rfl,hwn⟩;obtain rfl:=hwn.symm)
          rw [H0.out]
          go_roundw
          case rel=>exact ⟨k+1,m+1,by omega,by omega,by omega,by go_num,c1,x4,b4⟩
          case measure=>simp [intOf];omega
        · have i0:¬((x:Int)=0):=by omega
          have y2:=aN h0 _ W3 hzb b xd
          clear aN h0 hzb
          go_upto_region 26 with (first
           | (go_at_call 22;refine y2.mono ?_;clear y2;rintro e w4 ⟨s4,rfl,-,x4,u4⟩;(have b4:Below w.heap.size w w4:=b.trans (u4.below l6 b.size));(replace c1:=c1.outU xd.num ne.symm u4);(replace o1:=o1.outU xd.num u4);(replace r:=r.out u4 ng6);clear f2;(have f2:w4.cell? ⟨go,2,none⟩=some (.slice xm ml dm):=r.range 2 _ rfl);(have y3:=aB _ w4 o1 b4 x4);clear xd u4 o1 aB)
           | (go_at_call 15;refine (hnum _ _).mono ?_;rintro e wn ⟨rfl,hwn⟩;obtain rfl:=hwn.symm))
          go_upto_region 27 with (go_at_call 22;refine y3.mono ?_;clear y3;rintro e w5 ⟨s5,rfl,o5,x5,u5⟩;(have b5:Below w.heap.size w w5:=b4.trans (u5.below l6 b4.size));(replace c1:=c1.outU x4.num ne.symm u5);(replace r:=r.out u5 ng6);clear f2;(have f3:w5.cell? ⟨go,3,none⟩=some (.slice xt n dt):=r.range 3 _ rfl);clear x4 u5 b4)
          have r1:=o5.conv lt w5 (Below.refl _ _)
          have r2:=(ht.keep b5).conv lt w5 (Below.refl _ _)
          clear o5
          generalize strB n T=ST at *
          go_wp2_with (first
           | (go_at_call 15;refine (hnum _ _).mono ?_;rintro e wn ⟨rfl,hwn⟩;obtain rfl:=hwn.symm)
           | rw [r1]
           | rw [r2])
          go_roundw
          case rel=>exact ⟨k+1,m+1,by omega,by omega,by omega,by go_num,c1,x5,b5⟩
          case measure=>simp [intOf];omega
      · have hcase:(65536:Int)<(ml:Int)∨(¬((65536:Int)<(ml:Int))∧(65536:Int)<(n:Int)):=by omega
        clear hs
        rcases hcase with hz | ⟨hz,hz2⟩
        · go_wp2
          go_roundw
          case rel=>exact ⟨k+1,m,by omega,by omega,by omega,by go_num,xc,xd,b⟩
          case measure=>simp [intOf];omega
        · go_wp2
          go_roundw
          case rel=>exact ⟨k+1,m,by omega,by omega,by omega,by go_num,xc,xd,b⟩
          case measure=>simp [intOf];omega
    · have hend:¬((k:Int)<(cnt:Int))∨((k:Int)<(cnt:Int)∧¬((k:Int)<20)):=by omega
      clear hlt
      have y1:=c7 g5 m wr b xc
      have y2:=fun W hb=>c7 g6 m W (below_next b hb) (xd.keep hb)
      clear c7
      rcases hend with hz | ⟨hz,hz2⟩
      · go_upto_region 33 with (first
         | (go_at_call 23;refine y1.mono ?_;clear y1;rintro e w7 ⟨s7,rfl,o7,hb7⟩;(have b7:=below_next b hb7);(replace o7:=NewR.bytes (by decide) o7);(have y3:=y2 w7 hb7);clear y2)
         | (go_at_call 23;refine y3.mono ?_;clear y3;rintro e w8 ⟨s8,rfl,o8,hb8⟩;(have b8:=below_next b7 hb8);(replace o8:=NewR.bytes (by decide) o8);(replace o7:=o7.keep hb8);clear hb8 b7))
        have r1:=o7.conv lE w8 (Below.refl _ _)
        have r2:=o8.conv lE w8 (Below.refl _ _)
        generalize strB 40 EX=SX at *
        go_wp2_with (first
         | (go_at_call 15;refine (hnum _ _).mono ?_;rintro e wn ⟨rfl,rfl⟩)
         | rw [r1]
         | rw [r2])
        go_ret
        exact ⟨rfl,b8⟩
      · go_upto_region 33 with (first
         | (go_at_call 23;refine y1.mono ?_;clear y1;rintro e w7 ⟨s7,rfl,o7,hb7⟩;(have b7:=below_next b hb7);(replace o7:=NewR.bytes (by decide) o7);(have y3:=y2 w7 hb7);clear y2)
         | (go_at_call 23;refine y3.mono ?_;clear y3;rintro e w8 ⟨s8,rfl,o8,hb8⟩;(have b8:=below_next b7 hb8);(replace o8:=NewR.bytes (by decide) o8);(replace o7:=o7.keep hb8);clear hb8 b7))
        have r1:=o7.conv lE w8 (Below.refl _ _)
        have r2:=o8.conv lE w8 (Below.refl _ _)
        generalize strB 40 EX=SX at *
        go_wp2_with (first
         | (go_at_call 15;refine (hnum _ _).mono ?_;rintro e wn ⟨rfl,rfl⟩)
         | rw [r1]
         | rw [r2])
        go_ret
        exact ⟨rfl,b8⟩
 · have i6:(65536:Int)<(n2:Int):=by omega
   have cK:=hK w (Below.refl _ _)
   go_enter Tryz.func7,Tryz.ntmps7
   go_wp2_with (go_at_call 17;refine cK.mono ?_;clear cK;rintro e w5 ⟨rfl,hb5⟩)
   go_ret
   exact ⟨rfl,hb5⟩
end Go.Proofs.YtcgkajlehdgpoaaGreatDoor
