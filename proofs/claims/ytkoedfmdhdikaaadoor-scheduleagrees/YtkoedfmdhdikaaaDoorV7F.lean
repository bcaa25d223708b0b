/- ScheduleAgrees: who has the same keys and context has the same epoch. -/
import Derived.Test.YtkoedfmdhdikaaaDoorV6GM
namespace Go.Proofs.YtkoedfmdhdikaaaDoor
open Go.RowKit
set_option maxRecDepth 40000 in
set_option maxHeartbeats 16000000 in
theorem schedAgrees_any (v0 v1:Value) (n0 n1:Nat) (b0 b1:Nat→Nat) (lb0:∀ j,b0 j<256) (lb1:∀ j,b1 j<256) (k0:n0<140737488355000) (k1:n1<140737488355000) (xo:Option Addr) (cnt cap:Nat) (D:Nat→PkD) (hB:∀ i,i<cnt→pkB (D i)) (cs ds:List Value) (c d:CxD) (hBc:cxB c) (hBd:cxB d) (hlc:c.gn<140737488355000∧c.tn<140737488355000∧c.rn<140737488355000) (hld:d.gn<140737488355000∧d.tn<140737488355000∧d.rn<140737488355000) (w:World) (hT:TabAt w) (h0:BytesIn w v0 n0 b0) (h1:BytesIn w v1 n1 b1) (hp:PksIn w xo cnt D) (hc:CxIn w cs c) (hd:CxIn w ds d) :
 Calls Tryd.prog 4 #[v0,v1,.slice xo cnt cap,.agg cs.toArray,.agg ds.toArray] w fun e w'=>e = .returned (.bool true)∧Below w.heap.size w w':=by
 obtain ⟨P,hPd⟩:∃ P:World→Prop,P=fun W=>TabAt W∧BytesIn W v0 n0 b0∧BytesIn W v1 n1 b1∧CxIn W cs c∧CxIn W ds d:=⟨_,rfl⟩
 have kp:∀ W W',P W→Below W.heap.size W W'→P W':=by
  rw [hPd]
  exact fun W W' h hb=>⟨h.1.still hb,h.2.1.keep hb,h.2.2.1.keep hb,h.2.2.2.1.keep hb,h.2.2.2.2.keep hb⟩
 have hP0:P w:=by rw [hPd];exact ⟨hT,h0,h1,hc,hd⟩
 have pT:∀ W,P W→TabAt W:=fun W h=>by rw [hPd] at h;exact h.1
 have cC:=fun (W:World) (h:P W)=>lawCx_any cs c hlc W (by rw [hPd] at h;exact h.2.2.2.1)
 have cD:=fun (W:World) (h:P W)=>lawCx_any ds d hld W (by rw [hPd] at h;exact h.2.2.2.2)
 have cJb:=fun (ok:cxOk c=false) (es:List Value) (W:World) (h:P W) (X:CxIn W es c)=>joiner_bad v0 v1 n0 n1 b0 b1 lb0 lb1 k0 k1 es c ok W (pT W h) (by rw [hPd] at h;exact h.2.1) (by rw [hPd] at h;exact h.2.2.1) X
 have cJg:=fun (ok:cxOk c=true) (es:List Value) (W:World) (h:P W) (X:CxIn W es c)=>joiner_good v0 v1 n0 n1 b0 b1 lb0 lb1 k0 k1 es c hBc ok W (pT W h) (by rw [hPd] at h;exact h.2.1) (by rw [hPd] at h;exact h.2.2.1) X
 have lJ:=exN_lt 32 (xtN n0 b0 n1 b1) lJoi (cxL c) (cxT c) 32
 have cE:=fun (S:Nat→Nat) (hS:∀ j,S j<256) (ok:cxOk c=true)=>epochs7 S (exN 32 (xtN n0 b0 n1 b1) lJoi (cxL c) (cxT c) 32) hS lJ c d hBc hBd ok
 generalize exN 32 (xtN n0 b0 n1 b1) lJoi (cxL c) (cxT c) 32=J at *
 have hKn:=fun (W:World) (h:P W)=>knows16 W (pT W h)
 have HB:=Hid.mk' hB
 have HH:=Hid.mk' hp
 clear hT hB hp
 obtain ⟨x0,d0,rfl,-⟩:=h0.src
 obtain ⟨x1,d1,rfl,-⟩:=h1.src
 obtain ⟨y0,y1,y2,rfl,hy0,hy1,hy2⟩:=hc
 obtain ⟨z0,z1,z2,rfl,hz0,hz1,hz2⟩:=hd
 obtain ⟨NC,hNC⟩:∃ N,N=c.e:=⟨_,rfl⟩
 obtain ⟨ND,hND⟩:∃ N,N=d.e:=⟨_,rfl⟩
 rw [←hNC] at cC ⊢
 rw [←hND] at cD ⊢
 have okc:cxOk c=true∨cxOk c=false:=by cases cxOk c;exact .inr rfl;exact .inl rfl
 have ba:Below w.heap.size w (w.alloc (.cells #[y0,.int .i64 NC,y1,y2] 38)):=(Below.refl _ _).alloc (Nat.le_refl _) _
 have bb:Below w.heap.size w ((w.alloc (.cells #[y0,.int .i64 NC,y1,y2] 38)).alloc (.cells #[z0,.int .i64 ND,z1,z2] 38)):=ba.alloc ba.size _
 have kc:=(RW.fresh w [y0,.int .i64 NC,y1,y2] 38).still ((Below.refl _ _).alloc (Nat.le_refl _) (.cells #[z0,.int .i64 ND,z1,z2] 38))
 have kd:=RW.fresh (w.alloc (.cells #[y0,.int .i64 NC,y1,y2] 38)) [z0,.int .i64 ND,z1,z2] 38
 rw [World.size_alloc] at kd
 have P0:=kp _ _ hP0 bb
 clear hPd h0 h1 hy0 hy1 hy2 hz0 hz1 hz2 hNC hND hBc hBd hlc hld lb0 lb1 k0 k1 ba hP0
 go_enter Tryd.func4,Tryd.ntmps4
 go_upto_block 0 with (fail)
 obtain ⟨w0,hw0⟩:∃ W,W=(w.alloc (.cells #[y0,.int .i64 NC,y1,y2] 38)).alloc (.cells #[z0,.int .i64 ND,z1,z2] 38):=⟨_,rfl⟩
 have kc':RW w0 w.heap.size 0 [y0,.int .i64 NC,y1,y2]:=by rw [hw0];exact kc
 have kd':RW w0 (w.heap.size+1) 0 [z0,.int .i64 ND,z1,z2]:=by rw [hw0];exact kd
 rw [←hw0] at bb P0
 clear kc kd
 rw [←hw0]
 clear hw0
 go_cut [11,12] from 25 (fun s11 _ wc=>∃ (n:Nat) (x:Option Addr) (c':Nat) (L:List Value) (E:Nat→PkD),s11 = .slice x n c'∧n≤100∧AgL w0.heap.size w wc (.slice x n c') n L E∧Below w0.heap.size w0 wc)
 case first =>
  clear cC cD cJb cJg cE hKn kp kc' kd' P0 okc pT lJ
  go_wp2
  go_loopw [11,12] (fun xv i wr=>∃ (q n:Nat) (L:List Value) (E:Nat→PkD),q≤cnt∧q≤100∧n≤q∧i = .int .i64 (q:Int)∧AgL w0.heap.size w wr xv n L E∧Below w0.heap.size w0 wr) (fun _ i _=>cnt - (intOf i).toNat)
  case atStart=>exact ⟨0,0,[],D,Nat.zero_le _,Nat.zero_le _,Nat.le_refl _,rfl,AgL.nil _ _ _ _,Below.refl _ _⟩
  case round =>
   obtain ⟨q,n,L,E,hq1,hq2,hnq,rfl,hA,hb⟩:=hrel
   obtain ⟨xl,cl',el⟩:=hA.list.slice
   subst el
   by_cases q1:q<cnt
   · by_cases q2:q<100
     · obtain ⟨b,off,cs,rfl,hl,hr,hp3⟩:=HH.out q q1
       obtain ⟨u0,u1,u2,rfl,j0,j1,j2⟩:=id hp3
       obtain ⟨x0,c0,rfl,-⟩:=j0.src
       obtain ⟨x1,c1,rfl,-⟩:=j1.src
       obtain ⟨x2,c2,rfl,-⟩:=j2.src
       clear j0 j1 j2
       have q1':(q:Int)<(cnt:Int):=by omega
       have q2':(q:Int)<100:=by omega
       have hk0:(0:Int)≤(q:Int):=by omega
       have hbw:=below_next bb hb
       have hl0:b<w0.heap.size:=Nat.lt_of_lt_of_le hl bb.size
       have e0:w0.cell? ⟨b,off+q*3,none⟩=some (.slice x0 (D q).an c0):=(bb.cell (p:=⟨b,off+q*3,none⟩) hl).trans (by simpa using hr 0 _ rfl)
       have e1:w0.cell? ⟨b,off+q*3+1,none⟩=some (.slice x1 (D q).bn c1):=(bb.cell (p:=⟨b,off+q*3+1,none⟩) hl).trans (hr 1 _ rfl)
       have e2:w0.cell? ⟨b,off+q*3+2,none⟩=some (.slice x2 (D q).kn c2):=(bb.cell (p:=⟨b,off+q*3+2,none⟩) hl).trans (hr 2 _ rfl)
       have g0:=(hb.cell (p:=⟨b,off+q*3,none⟩) hl0).trans e0
       have g1:=(hb.cell (p:=⟨b,off+q*3+1,none⟩) hl0).trans e1
       have g2:=(hb.cell (p:=⟨b,off+q*3+2,none⟩) hl0).trans e2
       have HO:Hid (pkOk (D q)=((decide ((D q).an≤255) && decide ((D q).bn≤255)) && decide ((D q).kn≤65528))):=Hid.mk' rfl
       clear hr
       by_cases i0:(D q).an≤255
       · have m0:((D q).an:Int)≤255:=by omega
         by_cases i1:(D q).bn≤255
         · have m1:((D q).bn:Int)≤255:=by omega
           by_cases i2:(D q).kn≤1000
           · have m2:((D q).kn:Int)≤1000:=by omega
             have bd:Below wr.heap.size wr wr.drew:=(Below.refl _ _).drew
             have bB:=hb.drew
             have hAd:=hA.below bd
             have okq:pkOk (D q)=true:=by rw [HO.out,decide_eq_true i0,decide_eq_true i1,decide_eq_true (show (D q).kn≤65528 by omega)];rfl
             go_upto_region 6 with (fail)
             refine wp_region_noPanic ?_
             refine wp_region_held_drew (S:=fun u=>Below w0.heap.size w0 u) (by kernel_rfl) bB (fun hS => ?_)
             generalize wr.drew=V at *
             refine tg 0 hS ?_
             (try simp only [pS])
             refine tg 1 hS ?_
             (try simp only [pS])
             refine tg 2 hS ?_
             (try simp only [pS])
             refine tg 3 hS (v:=pA b (off+q*3)) ?_
             (try simp only [pS])
             refine tg 4 hS (v:=pA b (off+q*3)) ?_
             (try simp only [pS])
             refine tc 5 hS (fun u hu=>(hu.cell (p:=⟨b,off+q*3,none⟩) hl0).trans e0) ?_
             (try simp only [pS])
             refine tg 6 hS ?_
             (try simp only [pS])
             refine tg 7 hS ?_
             (try simp only [pS])
             refine tg 8 hS (v:=pA b (off+q*3)) ?_
             (try simp only [pS])
             refine tg 9 hS (v:=pA b (off+q*3+1)) ?_
             (try simp only [pS])
             refine tc 10 hS (fun u hu=>(hu.cell (p:=⟨b,off+q*3+1,none⟩) hl0).trans e1) ?_
             (try simp only [pS])
             refine tg 11 hS ?_
             (try simp only [pS])
             refine tg 12 hS ?_
             (try simp only [pS])
             refine tg 13 hS (v:=pA b (off+q*3)) ?_
             (try simp only [pS])
             refine tg 14 hS (v:=pA b (off+q*3+2)) ?_
             (try simp only [pS])
             refine tc 15 hS (fun u hu=>(hu.cell (p:=⟨b,off+q*3+2,none⟩) hl0).trans e2) ?_
             (try simp only [pS])
             refine tg 16 hS ?_
             (try simp only [pS])
             obtain ⟨vN,wN,hrun,hlN,hgN⟩:=run_append_pk 23 V w0.heap.size _ n L hAd.list (.slice x0 (D q).an c0) (.slice x1 (D q).bn c1) (.slice x2 (D q).kn c2) (rows3 ⟨_,_,_,rfl⟩ ⟨_,_,_,rfl⟩ ⟨_,_,_,rfl⟩) (by omega) hS.size
             have hAN:=hAd.next (D q) x0 (D q).an c0 x1 (D q).bn c1 x2 (D q).kn c2 hp3 (HB.out q q1) okq hlN
             have hS4:=hS.alloc hS.size (.cells #[.slice x0 (D q).an c0,.slice x1 (D q).bn c1,.slice x2 (D q).kn c2] 28)
             have hwN:=below_grown hS4 hgN (World.ownsRow.alloc hAd.list _) (Nat.le_refl _) hS4.size
             refine wpAnyH_ready (rs:=[17]) (by kernel_rfl) (by simp) ?_
             refine zA 17 (v := .slice (some ⟨V.heap.size,0,none⟩) 1 1) #[.slice x0 (D q).an c0,.slice x1 (D q).bn c1,.slice x2 (D q).kn c2] 28 hS4 ?_ AllReadyH.nil
             (try simp only [pS])
             refine wpAnyH_ready (rs:=[18]) (by kernel_rfl) (by simp) ?_
             refine zX 18 rfl rfl rfl hrun hwN ?_ AllReadyH.nil
             (try simp only [pS])
             clear hrun hgN hlN hS4 hS hAd hA
             refine tg 19 hwN ?_
             (try simp only [pS])
             refine wpAnyH_done (by kernel_rfl) ?_ _
             refine NoPanic.normal ?_
             go_wp2
             go_roundw
             case rel=>exact ⟨q+1,n+1,_,_,q1,q2,by omega,by go_num,hAN,hwN⟩
             case measure=>simp [intOf];omega
           · have m2:¬((D q).kn:Int)≤1000:=by omega
             go_wp2
             go_roundw
             case rel=>exact ⟨q+1,n,L,E,q1,q2,by omega,by go_num,hA,hb⟩
             case measure=>simp [intOf];omega
         · have m1:¬((D q).bn:Int)≤255:=by omega
           go_wp2
           go_roundw
           case rel=>exact ⟨q+1,n,L,E,q1,q2,by omega,by go_num,hA,hb⟩
           case measure=>simp [intOf];omega
       · have m0:¬((D q).an:Int)≤255:=by omega
         go_wp2
         go_roundw
         case rel=>exact ⟨q+1,n,L,E,q1,q2,by omega,by go_num,hA,hb⟩
         case measure=>simp [intOf];omega
     · have q1':(q:Int)<(cnt:Int):=by omega
       have q2':¬(q:Int)<100:=by omega
       go_wp2
       go_meet
       case rel=>exact ⟨n,xl,cl',L,E,rfl,Nat.le_trans hnq hq2,hA,hb⟩
   · have q1':¬(q:Int)<(cnt:Int):=by omega
     go_wp2
     go_meet
     case rel=>exact ⟨n,xl,cl',L,E,rfl,Nat.le_trans hnq hq2,hA,hb⟩
 case rest =>
  obtain ⟨n,x,c',L,E,rfl,hn,A,hbc⟩:=hcut
  have hw:=below_next bb hbc
  have hP:=kp _ _ P0 hbc
  have kc:=kc'.still hbc
  have kd:=kd'.still hbc
  have lS:=pskS_lt E n n
  have p1:=psk_good x n c' E hn A.bytes A.ok wc (pT _ hP) (A.pks hw)
  have p2:=fun (W:World) (y:Option Addr) (m:Nat) (hPW:P W) (h:PksIn W y n E)=>psk_good y n m E hn A.bytes A.ok W (pT _ hPW) h
  have A1:=A.one
  clear HH HB P0 kc' kd' hbc
  generalize pskS E n n=S at *
  go_upto_region 8 with (go_at_call 6;refine p1.mono ?_;clear p1;rintro e w1 ⟨x2,c2,rfl,B1,hb⟩;(replace hP:=kp _ _ hP hb);(replace hw:=below_next hw hb);(replace kc:=kc.still hb);(replace kd:=kd.still hb);(replace A:=A.below hb);clear hb)
  obtain ⟨v9,w9,hrun,l9,hb9⟩:=run_copy_pk 23 w1 w0.heap.size _ n L A.list A1 (by omega)
  (obtain ⟨x9,c9,e9⟩:=l9.slice);subst e9
  have A9:AgL w1.heap.size w w9 (.slice x9 n c9) n L E:=⟨l9,A.each,A.bytes,A.ok⟩
  (replace hP:=kp _ _ hP hb9)
  (replace hw:=below_next hw hb9)
  (replace kc:=kc.still hb9)
  (replace kd:=kd.still hb9)
  (replace B1:=B1.keep hb9)
  have p3:=p2 w9 x9 c9 hP (A9.pks hw)
  clear A A9 A1 l9 hb9 p2 hn
  go_upto_region 9 with (first
   | (at_builtin;refine wpList_append_run rfl (.tmp 85) (.tmp 86) rfl rfl rfl hrun ?_;clear hrun)
   | (go_at_call 6;refine p3.mono ?_;clear p3;rintro e w2 ⟨x3,c3,rfl,B3,hb⟩;(replace hP:=kp _ _ hP hb);(replace hw:=below_next hw hb);(replace kc:=kc.still hb);(replace kd:=kd.still hb);(replace B1:=B1.keep hb);clear hb))
  have CS:=fun (W:World) (v:Value) (h:BytesIn W v 32 S)=>h.cs lS
  have eS:((strB 32 S).toList != (strB 32 S).toList)=false:=by rw [bne,beq_self_eq_true];rfl
  rcases okc with okc | okc
  · have cJ:=cJg okc
    obtain ⟨EB,N',EB',E',lB,lB',hE',e10,cE0,cF0⟩:=cE S lS okc
    have pE:=fun (u v:Value) (es:List Value) (W:World) (h:P W) (h1:BytesIn W u 32 J) (h2:BytesIn W v 32 S) (h3:CxIn W es c)=>cE0 u v es W (pT W h) h1 h2 h3
    have pF:=fun (u v:Value) (es:List Value) (W:World) (h:P W) (h1:BytesIn W u 32 J) (h2:BytesIn W v 32 S) (h3:CxIn W es d)=>cF0 u v es W (pT W h) h1 h2 h3
    clear cE cE0 cF0 cJb cJg
    go_upto_region 10 with (first
     | (refine wpList_load_mid rfl 38 (.tmp 8) rfl w.heap.size 0 rfl _ _ kc.range Tryd.underlying38 rfl (infoRx _ _ _ _) ?_)
     | (go_at_call 11;refine (cC _ hP).mono ?_;rintro e w3 ⟨es,rfl,X3,hb⟩;(replace hP:=kp _ _ hP hb);(replace hw:=below_next hw hb);(replace kc:=kc.still hb);(replace kd:=kd.still hb);(replace B1:=B1.keep hb);(replace B3:=B3.keep hb);clear hb)
     | (go_at_call 10;refine (cJ es _ hP X3).mono ?_;clear cJ X3;rintro e w4 ⟨x4,c4,rfl,B4,hb⟩;(replace hP:=kp _ _ hP hb);(replace hw:=below_next hw hb);(replace kc:=kc.still hb);(replace kd:=kd.still hb);(replace B1:=B1.keep hb);(replace B3:=B3.keep hb);clear hb))
    have qa:=(CS _ _ B1).conv w4 (Below.refl _ _)
    have qb:=(CS _ _ B3).conv w4 (Below.refl _ _)
    generalize strB 32 S=SS at *
    go_upto_region 15 with (first
     | rw [qa]
     | rw [qb]
     | (go_at_call 8;refine (num16_any _ _).mono ?_;rintro e wn ⟨rfl,hwn⟩;obtain rfl:=hwn.symm)
     | (go_at_call 9;refine (hKn _ hP).mono ?_;rintro e w5 ⟨rfl,hb⟩;(replace hP:=kp _ _ hP hb);(replace hw:=below_next hw hb);(replace kc:=kc.still hb);(replace kd:=kd.still hb);(replace B1:=B1.keep hb);(replace B3:=B3.keep hb);(replace B4:=B4.keep hb);clear hb qa qb)
     | (refine wpList_load_mid rfl 38 (.tmp 8) rfl w.heap.size 0 rfl _ _ kc.range Tryd.underlying38 rfl (infoRx _ _ _ _) ?_)
     | (go_at_call 11;refine (cC _ hP).mono ?_;rintro e w6 ⟨es,rfl,X6,hb⟩;(replace hP:=kp _ _ hP hb);(replace hw:=below_next hw hb);(replace kc:=kc.still hb);(replace kd:=kd.still hb);(replace B1:=B1.keep hb);(replace B3:=B3.keep hb);(replace B4:=B4.keep hb);clear hb)
     | (go_at_call 12;refine (pE _ _ es _ hP B4 B1 X6).mono ?_;clear X6;rintro e w7 ⟨L6,rfl,T6,hb⟩;(replace hP:=kp _ _ hP hb);(replace hw:=below_next hw hb);(replace kc:=kc.still hb);(replace kd:=kd.still hb);(replace B1:=B1.keep hb);(replace B3:=B3.keep hb);(replace B4:=B4.keep hb);clear hb;(obtain ⟨pv0,pv1,pv2,pv3,pv4,pv5,pv6,pv7,pv8,pv9,pv10,rfl⟩:∃ pv0 pv1 pv2 pv3 pv4 pv5 pv6 pv7 pv8 pv9 pv10,L6=[pv0,pv1,pv2,pv3,pv4,pv5,pv6,pv7,pv8,pv9,pv10]:=(by match L6,T6.1 with | [pv0,pv1,pv2,pv3,pv4,pv5,pv6,pv7,pv8,pv9,pv10],_=>exact ⟨_,_,_,_,_,_,_,_,_,_,_,rfl⟩));(obtain ⟨px0,pn0,pc0,pe0⟩:=(T6.2 0 _ rfl).isSl);subst pe0;(obtain ⟨px1,pn1,pc1,pe1⟩:=(T6.2 1 _ rfl).isSl);subst pe1;(obtain ⟨px2,pn2,pc2,pe2⟩:=(T6.2 2 _ rfl).isSl);subst pe2;(obtain ⟨px3,pn3,pc3,pe3⟩:=(T6.2 3 _ rfl).isSl);subst pe3;(obtain ⟨px4,pn4,pc4,pe4⟩:=(T6.2 4 _ rfl).isSl);subst pe4;(obtain ⟨px5,pn5,pc5,pe5⟩:=(T6.2 5 _ rfl).isSl);subst pe5;(obtain ⟨px6,pn6,pc6,pe6⟩:=(T6.2 6 _ rfl).isSl);subst pe6;(obtain ⟨px7,pn7,pc7,pe7⟩:=(T6.2 7 _ rfl).isSl);subst pe7;(obtain ⟨px8,pn8,pc8,pe8⟩:=(T6.2 8 _ rfl).isSl);subst pe8;(obtain ⟨px9,pn9,pc9,pe9⟩:=(T6.2 9 _ rfl).isSl);subst pe9;(obtain ⟨px10,pn10,pc10,pe10⟩:=(T6.2 10 _ rfl).isSl);subst pe10;have ks:=RW.fresh w7 [.slice px0 pn0 pc0,.slice px1 pn1 pc1,.slice px2 pn2 pc2,.slice px3 pn3 pc3,.slice px4 pn4 pc4,.slice px5 pn5 pc5,.slice px6 pn6 pc6,.slice px7 pn7 pc7,.slice px8 pn8 pc8,.slice px9 pn9 pc9,.slice px10 pn10 pc10] 43;have hb:Below w7.heap.size w7 (w7.alloc (.cells #[.slice px0 pn0 pc0,.slice px1 pn1 pc1,.slice px2 pn2 pc2,.slice px3 pn3 pc3,.slice px4 pn4 pc4,.slice px5 pn5 pc5,.slice px6 pn6 pc6,.slice px7 pn7 pc7,.slice px8 pn8 pc8,.slice px9 pn9 pc9,.slice px10 pn10 pc10] 43)):=(Below.refl _ _).alloc (Nat.le_refl _) _;(replace hP:=kp _ _ hP hb);(replace hw:=below_next hw hb);(replace kc:=kc.still hb);(replace kd:=kd.still hb);(replace B1:=B1.keep hb);(replace B3:=B3.keep hb);(replace B4:=B4.keep hb);(replace T6:=T6.still hb);clear hb))
    obtain ⟨gs,hgs⟩:∃ g,g=w7.heap.size:=⟨_,rfl⟩
    rw [←hgs] at ks ⊢
    clear hgs
    generalize w7.alloc (.cells #[.slice px0 pn0 pc0,.slice px1 pn1 pc1,.slice px2 pn2 pc2,.slice px3 pn3 pc3,.slice px4 pn4 pc4,.slice px5 pn5 pc5,.slice px6 pn6 pc6,.slice px7 pn7 pc7,.slice px8 pn8 pc8,.slice px9 pn9 pc9,.slice px10 pn10 pc10] 43)=W0 at *
    go_cut [21,22] from 25 (fun s21 s22 wc=>∃ (g:Nat) (L7:List Value),s21=pA g 0∧s22 = .int .i64 0∧RW wc g 0 L7∧TxRow wc L7 11 (seL 32) EB∧Below W0.heap.size W0 wc)
    case first =>
     have hdr:Below W0.heap.size W0 W0.drew:=(Below.refl _ _).drew
     replace hP:=kp _ _ hP hdr
     replace kc:=kc.still hdr
     replace B3:=B3.keep hdr
     replace B4:=B4.keep hdr
     clear hE' e10 lB lB' pF cD kd B1 T6 ks hw hKn CS
     refine wp_region_noPanic ?_
     refine wp_region_held_drew (S:=fun u=>Below W0.drew.heap.size W0.drew u) (by kernel_rfl) (Below.refl _ _) (fun hS => ?_)
     generalize W0.drew=V at *
     refine tg 1 hS ?_
     (try simp only [pS])
     refine tg 3 hS ?_
     (try simp only [pS])
     refine tl 4 kc hS 38 Tryd.underlying38 (infoRx _ _ _ _) ?_
     (try simp only [pS])
     refine wpAnyH_ready (rs:=[0,10]) (by kernel_rfl) (by simp) ?_
     refine zA 0 (v := .slice (some ⟨V.heap.size,0,none⟩) 0 0) #[] 5 (hS.alloc hS.size _) ?_ ?_
     · have hb:Below V.heap.size V (V.alloc (.cells #[] 5)):=(Below.refl _ _).alloc (Nat.le_refl _) _
       have oL:=Own.lit V.heap.size V J hS.size
       replace hS:=below_next hS hb
       generalize V.alloc (.cells #[] 5)=y0_0_0 at *
       (try simp only [pS])
       refine wpAnyH_ready (rs:=[2,10]) (by kernel_rfl) (by simp) ?_
       obtain ⟨vA,y1_1_2,hrun,oA,hg⟩:=app_run 24 y0_0_0 V.heap.size _ 0 J oL _ 32 J (B4.keep hS) (by decide) hS.size
       rw [Nat.zero_add,catZ] at oA
       have hS2:=Own.grown hS hg oL (Nat.le_refl _) hS.size
       refine zX 2 rfl rfl rfl hrun hS2 ?_ ?_
       · (try simp only [pS])
         replace hS:=hS2
         clear hS2 hrun hg oL
         refine wpAnyH_ready (rs:=[5,10]) (by kernel_rfl) (by simp) ?_
         refine zC 5 (cC y1_1_2 (kp _ _ hP hS)) (fun e y2_2_5 hr => ?_) ?_
         · obtain ⟨es7,rfl,X7,hb⟩:=hr
           replace hS:=below_next hS hb
           refine ⟨_,rfl,hS,?_⟩
           (try simp only [pS])
           replace oA:=oA.below hb
           refine wpAnyH_ready (rs:=[6,10]) (by kernel_rfl) (by simp) ?_
           refine zC 6 (pE _ _ es7 y2_2_5 (kp _ _ hP hS) oA.bytesIn (B3.keep hS) X7) (fun e y3_3_6 hr => ?_) ?_
           · obtain ⟨L7,rfl,T7,hb⟩:=hr
             replace hS:=below_next hS hb
             refine ⟨_,rfl,hS,?_⟩
             (try simp only [pS])
             replace oA:=oA.below hb
             replace X7:=X7.keep hb
             refine tg 7 hS ?_
             (try simp only [pS])
             refine tg 8 hS ?_
             (try simp only [pS])
             refine tg 9 hS ?_
             (try simp only [pS])
             refine wpAnyH_ready (rs:=[10]) (by kernel_rfl) (by simp) ?_
             refine zG 10 (fun g=>pA g 0) z11 43 (fun u hb=>below_next hS hb) (fun y4_4_10 gz lgz hb kz => ?_) ?_
             · have hgz:=Nat.le_trans hS.size lgz
               replace hS:=below_next hS hb
               (try simp only [pS])
               replace T7:=T7.still hb
               refine wpAnyH_ready (rs:=[11]) (by kernel_rfl) (by simp) ?_
               refine zS 11 43 21 138 L7 kz (by rw [T7.1];rfl) (by rw [List.size_toArray];exact infoSec T7.1) (sls_one fun i v hv=>(T7.2 i v hv).isSl) (below_setCells hgz _ _ _ hS) (fun rz => ?_) AllReadyH.nil
               have hT7:=T7.set (ds:=L7) kz z11_sls7 (by rw [T7.1];rfl)
               have hS9:Below V.heap.size V (y4_4_10.setCells gz 0 L7):=below_setCells hgz _ _ _ hS
               refine tg 12 hS9 ?_
               (try simp only [pS])
               refine wpAnyH_done (by kernel_rfl) ?_ _
               refine NoPanic.normal ?_
               go_wp2
               go_meet
               case rel=>exact ⟨gz,L7,rfl,rfl,rz,hT7,below_next hdr hS9⟩
             exact AllReadyH.nil
           refine zG 10 (fun g=>pA g 0) z11 43 (fun u hb=>below_next hS hb) (fun y3_3_10 gz lgz hb kz => ?_) ?_
           · have hgz:=Nat.le_trans hS.size lgz
             replace hS:=below_next hS hb
             (try simp only [pS])
             replace oA:=oA.below hb
             replace X7:=X7.keep hb
             refine wpAnyH_ready (rs:=[6]) (by kernel_rfl) (by simp) ?_
             refine zC 6 (pE _ _ es7 y3_3_10 (kp _ _ hP hS) oA.bytesIn (B3.keep hS) X7) (fun e y4_3_6 hr => ?_) ?_
             · obtain ⟨L7,rfl,T7,hb⟩:=hr
               replace hS:=below_next hS hb
               refine ⟨_,rfl,hS,?_⟩
               (try simp only [pS])
               replace oA:=oA.below hb
               replace X7:=X7.keep hb
               replace kz:=kz.still hb
               refine tg 7 hS ?_
               (try simp only [pS])
               refine tg 8 hS ?_
               (try simp only [pS])
               refine tg 9 hS ?_
               (try simp only [pS])
               refine wpAnyH_ready (rs:=[11]) (by kernel_rfl) (by simp) ?_
               refine zS 11 43 21 138 L7 kz (by rw [T7.1];rfl) (by rw [List.size_toArray];exact infoSec T7.1) (sls_one fun i v hv=>(T7.2 i v hv).isSl) (below_setCells hgz _ _ _ hS) (fun rz => ?_) AllReadyH.nil
               have hT7:=T7.set (ds:=L7) kz z11_sls7 (by rw [T7.1];rfl)
               have hS9:Below V.heap.size V (y4_3_6.setCells gz 0 L7):=below_setCells hgz _ _ _ hS
               refine tg 12 hS9 ?_
               (try simp only [pS])
               refine wpAnyH_done (by kernel_rfl) ?_ _
               refine NoPanic.normal ?_
               go_wp2
               go_meet
               case rel=>exact ⟨gz,L7,rfl,rfl,rz,hT7,below_next hdr hS9⟩
             exact AllReadyH.nil
           exact AllReadyH.nil
         refine zG 10 (fun g=>pA g 0) z11 43 (fun u hb=>below_next hS hb) (fun y2_2_10 gz lgz hb kz => ?_) ?_
         · have hgz:=Nat.le_trans hS.size lgz
           replace hS:=below_next hS hb
           (try simp only [pS])
           replace oA:=oA.below hb
           refine wpAnyH_ready (rs:=[5]) (by kernel_rfl) (by simp) ?_
           refine zC 5 (cC y2_2_10 (kp _ _ hP hS)) (fun e y3_2_5 hr => ?_) ?_
           · obtain ⟨es7,rfl,X7,hb⟩:=hr
             replace hS:=below_next hS hb
             refine ⟨_,rfl,hS,?_⟩
             (try simp only [pS])
             replace oA:=oA.below hb
             replace kz:=kz.still hb
             refine wpAnyH_ready (rs:=[6]) (by kernel_rfl) (by simp) ?_
             refine zC 6 (pE _ _ es7 y3_2_5 (kp _ _ hP hS) oA.bytesIn (B3.keep hS) X7) (fun e y4_3_6 hr => ?_) ?_
             · obtain ⟨L7,rfl,T7,hb⟩:=hr
               replace hS:=below_next hS hb
               refine ⟨_,rfl,hS,?_⟩
               (try simp only [pS])
               replace oA:=oA.below hb
               replace kz:=kz.still hb
               replace X7:=X7.keep hb
               refine tg 7 hS ?_
               (try simp only [pS])
               refine tg 8 hS ?_
               (try simp only [pS])
               refine tg 9 hS ?_
               (try simp only [pS])
               refine wpAnyH_ready (rs:=[11]) (by kernel_rfl) (by simp) ?_
               refine zS 11 43 21 138 L7 kz (by rw [T7.1];rfl) (by rw [List.size_toArray];exact infoSec T7.1) (sls_one fun i v hv=>(T7.2 i v hv).isSl) (below_setCells hgz _ _ _ hS) (fun rz => ?_) AllReadyH.nil
               have hT7:=T7.set (ds:=L7) kz z11_sls7 (by rw [T7.1];rfl)
               have hS9:Below V.heap.size V (y4_3_6.setCells gz 0 L7):=below_setCells hgz _ _ _ hS
               refine tg 12 hS9 ?_
               (try simp only [pS])
               refine wpAnyH_done (by kernel_rfl) ?_ _
               refine NoPanic.normal ?_
               go_wp2
               go_meet
               case rel=>exact ⟨gz,L7,rfl,rfl,rz,hT7,below_next hdr hS9⟩
             exact AllReadyH.nil
           exact AllReadyH.nil
         exact AllReadyH.nil
       refine zG 10 (fun g=>pA g 0) z11 43 (fun u hb=>below_next hS hb) (fun y1_1_10 gz lgz hb kz => ?_) ?_
       · have hgz:=Nat.le_trans hS.size lgz
         replace hS:=below_next hS hb
         (try simp only [pS])
         replace oL:=oL.below hb
         refine wpAnyH_ready (rs:=[2]) (by kernel_rfl) (by simp) ?_
         obtain ⟨vA,y2_1_2,hrun,oA,hg⟩:=app_run 24 y1_1_10 V.heap.size _ 0 J oL _ 32 J (B4.keep hS) (by decide) hS.size
         rw [Nat.zero_add,catZ] at oA
         have hS2:=Own.grown hS hg oL (Nat.le_refl _) hS.size
         refine zX 2 rfl rfl rfl hrun hS2 ?_ ?_
         · (try simp only [pS])
           replace kz:=kz.grown0 (by decide) oL hg
           replace hS:=hS2
           clear hS2 hrun hg oL
           refine wpAnyH_ready (rs:=[5]) (by kernel_rfl) (by simp) ?_
           refine zC 5 (cC y2_1_2 (kp _ _ hP hS)) (fun e y3_2_5 hr => ?_) ?_
           · obtain ⟨es7,rfl,X7,hb⟩:=hr
             replace hS:=below_next hS hb
             refine ⟨_,rfl,hS,?_⟩
             (try simp only [pS])
             replace kz:=kz.still hb
             replace oA:=oA.below hb
             refine wpAnyH_ready (rs:=[6]) (by kernel_rfl) (by simp) ?_
             refine zC 6 (pE _ _ es7 y3_2_5 (kp _ _ hP hS) oA.bytesIn (B3.keep hS) X7) (fun e y4_3_6 hr => ?_) ?_
             · obtain ⟨L7,rfl,T7,hb⟩:=hr
               replace hS:=below_next hS hb
               refine ⟨_,rfl,hS,?_⟩
               (try simp only [pS])
               replace kz:=kz.still hb
               replace oA:=oA.below hb
               replace X7:=X7.keep hb
               refine tg 7 hS ?_
               (try simp only [pS])
               refine tg 8 hS ?_
               (try simp only [pS])
               refine tg 9 hS ?_
               (try simp only [pS])
               refine wpAnyH_ready (rs:=[11]) (by kernel_rfl) (by simp) ?_
               refine zS 11 43 21 138 L7 kz (by rw [T7.1];rfl) (by rw [List.size_toArray];exact infoSec T7.1) (sls_one fun i v hv=>(T7.2 i v hv).isSl) (below_setCells hgz _ _ _ hS) (fun rz => ?_) AllReadyH.nil
               have hT7:=T7.set (ds:=L7) kz z11_sls7 (by rw [T7.1];rfl)
               have hS9:Below V.heap.size V (y4_3_6.setCells gz 0 L7):=below_setCells hgz _ _ _ hS
               refine tg 12 hS9 ?_
               (try simp only [pS])
               refine wpAnyH_done (by kernel_rfl) ?_ _
               refine NoPanic.normal ?_
               go_wp2
               go_meet
               case rel=>exact ⟨gz,L7,rfl,rfl,rz,hT7,below_next hdr hS9⟩
             exact AllReadyH.nil
           exact AllReadyH.nil
         exact AllReadyH.nil
       exact AllReadyH.nil
     refine zG 10 (fun g=>pA g 0) z11 43 (fun u hb=>below_next hS hb) (fun y0_0_10 gz lgz hb kz => ?_) ?_
     · have hgz:=Nat.le_trans hS.size lgz
       replace hS:=below_next hS hb
       (try simp only [pS])
       refine wpAnyH_ready (rs:=[0]) (by kernel_rfl) (by simp) ?_
       refine zA 0 (v := .slice (some ⟨y0_0_10.heap.size,0,none⟩) 0 0) #[] 5 (hS.alloc hS.size _) ?_ ?_
       · have hb:Below y0_0_10.heap.size y0_0_10 (y0_0_10.alloc (.cells #[] 5)):=(Below.refl _ _).alloc (Nat.le_refl _) _
         have oL:=Own.lit V.heap.size y0_0_10 J hS.size
         replace hS:=below_next hS hb
         generalize y0_0_10.alloc (.cells #[] 5)=y1_0_0 at *
         (try simp only [pS])
         replace kz:=kz.still hb
         refine wpAnyH_ready (rs:=[2]) (by kernel_rfl) (by simp) ?_
         obtain ⟨vA,y2_1_2,hrun,oA,hg⟩:=app_run 24 y1_0_0 V.heap.size _ 0 J oL _ 32 J (B4.keep hS) (by decide) hS.size
         rw [Nat.zero_add,catZ] at oA
         have hS2:=Own.grown hS hg oL (Nat.le_refl _) hS.size
         refine zX 2 rfl rfl rfl hrun hS2 ?_ ?_
         · (try simp only [pS])
           replace kz:=kz.grown0 (by decide) oL hg
           replace hS:=hS2
           clear hS2 hrun hg oL
           refine wpAnyH_ready (rs:=[5]) (by kernel_rfl) (by simp) ?_
           refine zC 5 (cC y2_1_2 (kp _ _ hP hS)) (fun e y3_2_5 hr => ?_) ?_
           · obtain ⟨es7,rfl,X7,hb⟩:=hr
             replace hS:=below_next hS hb
             refine ⟨_,rfl,hS,?_⟩
             (try simp only [pS])
             replace kz:=kz.still hb
             replace oA:=oA.below hb
             refine wpAnyH_ready (rs:=[6]) (by kernel_rfl) (by simp) ?_
             refine zC 6 (pE _ _ es7 y3_2_5 (kp _ _ hP hS) oA.bytesIn (B3.keep hS) X7) (fun e y4_3_6 hr => ?_) ?_
             · obtain ⟨L7,rfl,T7,hb⟩:=hr
               replace hS:=below_next hS hb
               refine ⟨_,rfl,hS,?_⟩
               (try simp only [pS])
               replace kz:=kz.still hb
               replace oA:=oA.below hb
               replace X7:=X7.keep hb
               refine tg 7 hS ?_
               (try simp only [pS])
               refine tg 8 hS ?_
               (try simp only [pS])
               refine tg 9 hS ?_
               (try simp only [pS])
               refine wpAnyH_ready (rs:=[11]) (by kernel_rfl) (by simp) ?_
               refine zS 11 43 21 138 L7 kz (by rw [T7.1];rfl) (by rw [List.size_toArray];exact infoSec T7.1) (sls_one fun i v hv=>(T7.2 i v hv).isSl) (below_setCells hgz _ _ _ hS) (fun rz => ?_) AllReadyH.nil
               have hT7:=T7.set (ds:=L7) kz z11_sls7 (by rw [T7.1];rfl)
               have hS9:Below V.heap.size V (y4_3_6.setCells gz 0 L7):=below_setCells hgz _ _ _ hS
               refine tg 12 hS9 ?_
               (try simp only [pS])
               refine wpAnyH_done (by kernel_rfl) ?_ _
               refine NoPanic.normal ?_
               go_wp2
               go_meet
               case rel=>exact ⟨gz,L7,rfl,rfl,rz,hT7,below_next hdr hS9⟩
             exact AllReadyH.nil
           exact AllReadyH.nil
         exact AllReadyH.nil
       exact AllReadyH.nil
     exact AllReadyH.nil
    case rest =>
     rename_i wD
     obtain ⟨gt,L7,rfl,rfl,kt,T7,hb⟩:=hcut
     (replace hP:=kp _ _ hP hb)
     (replace hw:=below_next hw hb)
     (replace kc:=kc.still hb)
     (replace kd:=kd.still hb)
     (replace B1:=B1.keep hb)
     (replace B3:=B3.keep hb)
     (replace B4:=B4.keep hb)
     (replace T6:=T6.still hb)
     (replace ks:=ks.still hb)
     clear hb
     (obtain ⟨qv0,qv1,qv2,qv3,qv4,qv5,qv6,qv7,qv8,qv9,qv10,rfl⟩:∃ qv0 qv1 qv2 qv3 qv4 qv5 qv6 qv7 qv8 qv9 qv10,L7=[qv0,qv1,qv2,qv3,qv4,qv5,qv6,qv7,qv8,qv9,qv10]:=(by match L7,T7.1 with | [qv0,qv1,qv2,qv3,qv4,qv5,qv6,qv7,qv8,qv9,qv10],_=>exact ⟨_,_,_,_,_,_,_,_,_,_,_,rfl⟩))
     (obtain ⟨qx0,qn0,qc0,qe0⟩:=(T7.2 0 _ rfl).isSl)
     subst qe0
     (obtain ⟨qx1,qn1,qc1,qe1⟩:=(T7.2 1 _ rfl).isSl)
     subst qe1
     (obtain ⟨qx2,qn2,qc2,qe2⟩:=(T7.2 2 _ rfl).isSl)
     subst qe2
     (obtain ⟨qx3,qn3,qc3,qe3⟩:=(T7.2 3 _ rfl).isSl)
     subst qe3
     (obtain ⟨qx4,qn4,qc4,qe4⟩:=(T7.2 4 _ rfl).isSl)
     subst qe4
     (obtain ⟨qx5,qn5,qc5,qe5⟩:=(T7.2 5 _ rfl).isSl)
     subst qe5
     (obtain ⟨qx6,qn6,qc6,qe6⟩:=(T7.2 6 _ rfl).isSl)
     subst qe6
     (obtain ⟨qx7,qn7,qc7,qe7⟩:=(T7.2 7 _ rfl).isSl)
     subst qe7
     (obtain ⟨qx8,qn8,qc8,qe8⟩:=(T7.2 8 _ rfl).isSl)
     subst qe8
     (obtain ⟨qx9,qn9,qc9,qe9⟩:=(T7.2 9 _ rfl).isSl)
     subst qe9
     (obtain ⟨qx10,qn10,qc10,qe10⟩:=(T7.2 10 _ rfl).isSl)
     subst qe10
     go_upto_region 17 with (first
      | (refine wpList_load_mid rfl 38 (.tmp 9) rfl (w.heap.size+1) 0 rfl _ _ kd.range Tryd.underlying38 rfl (infoRx _ _ _ _) ?_)
      | (go_at_call 11;refine (cD _ hP).mono ?_;rintro e w8 ⟨fs,rfl,X8,hb⟩;(replace hP:=kp _ _ hP hb);(replace hw:=below_next hw hb);(replace kc:=kc.still hb);(replace kd:=kd.still hb);(replace B1:=B1.keep hb);(replace B3:=B3.keep hb);(replace B4:=B4.keep hb);(replace T6:=T6.still hb);(replace ks:=ks.still hb);(replace T7:=T7.still hb);(replace kt:=kt.still hb);clear hb)
      | (go_at_call 12;refine (pF _ _ fs _ hP B4 B1 X8).mono ?_;clear X8 pF;rintro e w9 ⟨L8,rfl,T8,hb⟩;(replace hP:=kp _ _ hP hb);(replace hw:=below_next hw hb);(replace kc:=kc.still hb);(replace kd:=kd.still hb);(replace B1:=B1.keep hb);(replace B3:=B3.keep hb);(replace B4:=B4.keep hb);(replace T6:=T6.still hb);(replace ks:=ks.still hb);(replace T7:=T7.still hb);(replace kt:=kt.still hb);clear hb;(obtain ⟨rv0,rv1,rv2,rv3,rv4,rv5,rv6,rv7,rv8,rv9,rv10,rfl⟩:∃ rv0 rv1 rv2 rv3 rv4 rv5 rv6 rv7 rv8 rv9 rv10,L8=[rv0,rv1,rv2,rv3,rv4,rv5,rv6,rv7,rv8,rv9,rv10]:=(by match L8,T8.1 with | [rv0,rv1,rv2,rv3,rv4,rv5,rv6,rv7,rv8,rv9,rv10],_=>exact ⟨_,_,_,_,_,_,_,_,_,_,_,rfl⟩));(obtain ⟨rx0,rn0,rc0,re0⟩:=(T8.2 0 _ rfl).isSl);subst re0;(obtain ⟨rx1,rn1,rc1,re1⟩:=(T8.2 1 _ rfl).isSl);subst re1;(obtain ⟨rx2,rn2,rc2,re2⟩:=(T8.2 2 _ rfl).isSl);subst re2;(obtain ⟨rx3,rn3,rc3,re3⟩:=(T8.2 3 _ rfl).isSl);subst re3;(obtain ⟨rx4,rn4,rc4,re4⟩:=(T8.2 4 _ rfl).isSl);subst re4;(obtain ⟨rx5,rn5,rc5,re5⟩:=(T8.2 5 _ rfl).isSl);subst re5;(obtain ⟨rx6,rn6,rc6,re6⟩:=(T8.2 6 _ rfl).isSl);subst re6;(obtain ⟨rx7,rn7,rc7,re7⟩:=(T8.2 7 _ rfl).isSl);subst re7;(obtain ⟨rx8,rn8,rc8,re8⟩:=(T8.2 8 _ rfl).isSl);subst re8;(obtain ⟨rx9,rn9,rc9,re9⟩:=(T8.2 9 _ rfl).isSl);subst re9;(obtain ⟨rx10,rn10,rc10,re10⟩:=(T8.2 10 _ rfl).isSl);subst re10;have ku:=RW.fresh w9 [.slice rx0 rn0 rc0,.slice rx1 rn1 rc1,.slice rx2 rn2 rc2,.slice rx3 rn3 rc3,.slice rx4 rn4 rc4,.slice rx5 rn5 rc5,.slice rx6 rn6 rc6,.slice rx7 rn7 rc7,.slice rx8 rn8 rc8,.slice rx9 rn9 rc9,.slice rx10 rn10 rc10] 43;have hb:Below w9.heap.size w9 (w9.alloc (.cells #[.slice rx0 rn0 rc0,.slice rx1 rn1 rc1,.slice rx2 rn2 rc2,.slice rx3 rn3 rc3,.slice rx4 rn4 rc4,.slice rx5 rn5 rc5,.slice rx6 rn6 rc6,.slice rx7 rn7 rc7,.slice rx8 rn8 rc8,.slice rx9 rn9 rc9,.slice rx10 rn10 rc10] 43)):=(Below.refl _ _).alloc (Nat.le_refl _) _;(replace hP:=kp _ _ hP hb);(replace hw:=below_next hw hb);(replace kc:=kc.still hb);(replace kd:=kd.still hb);(replace B4:=B4.keep hb);(replace T6:=T6.still hb);(replace ks:=ks.still hb);(replace T7:=T7.still hb);(replace kt:=kt.still hb);(replace T8:=T8.still hb);clear hb B1 B3))
     obtain ⟨gu,hgu⟩:∃ g,g=w9.heap.size:=⟨_,rfl⟩
     rw [←hgu] at ku ⊢
     clear hgu
     generalize w9.alloc (.cells #[.slice rx0 rn0 rc0,.slice rx1 rn1 rc1,.slice rx2 rn2 rc2,.slice rx3 rn3 rc3,.slice rx4 rn4 rc4,.slice rx5 rn5 rc5,.slice rx6 rn6 rc6,.slice rx7 rn7 rc7,.slice rx8 rn8 rc8,.slice rx9 rn9 rc9,.slice rx10 rn10 rc10] 43)=WZ at *
     have cs8:WZ.cell? ⟨gs,8,none⟩=some (.slice px8 pn8 pc8):=by simpa using ks.range 8 _ rfl
     have cs1:WZ.cell? ⟨gs,1,none⟩=some (.slice px1 pn1 pc1):=by simpa using ks.range 1 _ rfl
     have cs10:WZ.cell? ⟨gs,10,none⟩=some (.slice px10 pn10 pc10):=by simpa using ks.range 10 _ rfl
     have cs9:WZ.cell? ⟨gs,9,none⟩=some (.slice px9 pn9 pc9):=by simpa using ks.range 9 _ rfl
     have ct8:WZ.cell? ⟨gt,8,none⟩=some (.slice qx8 qn8 qc8):=by simpa using kt.range 8 _ rfl
     have ct1:WZ.cell? ⟨gt,1,none⟩=some (.slice qx1 qn1 qc1):=by simpa using kt.range 1 _ rfl
     have cu9:WZ.cell? ⟨gu,9,none⟩=some (.slice rx9 rn9 rc9):=by simpa using ku.range 9 _ rfl
     have f8:=(T6.2 8 _ rfl).cs (lB 8)
     have f1:=(T6.2 1 _ rfl).cs (lB 1)
     have f9:=(T6.2 9 _ rfl).cs (lB 9)
     have f10:Cs WZ (.slice px10 pn10 pc10) (strB 32 J):=by
      have h:=(T6.2 10 _ rfl).cs (lB 10)
      rw [e10] at h
      exact h
     have h8:=(T7.2 8 _ rfl).cs (lB 8)
     have h1:=(T7.2 1 _ rfl).cs (lB 1)
     have i9:=(T8.2 9 _ rfl).cs (lB' 9)
     have j0:=B4.cs lJ
     clear T6 T7 T8 ks kt ku B4 e10 lB lB' kc kd hP
     rcases hE' with rfl | ⟨rfl,n9,b9⟩
     · generalize strB (seL 32 8) (EB 8)=S8 at *
       generalize strB (seL 32 1) (EB 1)=S1 at *
       generalize strB (seL 32 9) (EB 9)=S9 at *
       generalize strB 32 J=SJ at *
       have g8:(S8.toList != S8.toList)=false:=by rw [bne,beq_self_eq_true];rfl
       have g1:(S1.toList != S1.toList)=false:=by rw [bne,beq_self_eq_true];rfl
       have g9:(S9.toList == S9.toList)=true:=beq_self_eq_true _
       have gJ:(SJ.toList != SJ.toList)=false:=by rw [bne,beq_self_eq_true];rfl
       have qf8:=f8.conv WZ (Below.refl _ _)
       have qf1:=f1.conv WZ (Below.refl _ _)
       have qf9:=f9.conv WZ (Below.refl _ _)
       have qf10:=f10.conv WZ (Below.refl _ _)
       have qh8:=h8.conv WZ (Below.refl _ _)
       have qh1:=h1.conv WZ (Below.refl _ _)
       have qj0:=j0.conv WZ (Below.refl _ _)
       clear f8 f1 f9 f10 h8 h1 i9 j0
       go_wp2_with (first
        | rw [qf8]
        | rw [qf1]
        | rw [qf10]
        | rw [qf9]
        | rw [qh8]
        | rw [qh1]
        | rw [qj0]
        | (go_at_call 8;refine (num16_any _ _).mono ?_;rintro e wn ⟨rfl,hwn⟩;obtain rfl:=hwn.symm))
       go_ret
       exact ⟨rfl,hw⟩
     · have i9:Cs WZ (.slice rx9 rn9 rc9) (strB (seL 32 9) (EB 9)):=by
        rw [n9,b9] at i9
        exact i9
       generalize strB (seL 32 8) (EB 8)=S8 at *
       generalize strB (seL 32 1) (EB 1)=S1 at *
       generalize strB (seL 32 9) (EB 9)=S9 at *
       generalize strB 32 J=SJ at *
       have g8:(S8.toList != S8.toList)=false:=by rw [bne,beq_self_eq_true];rfl
       have g1:(S1.toList != S1.toList)=false:=by rw [bne,beq_self_eq_true];rfl
       have g9:(S9.toList == S9.toList)=true:=beq_self_eq_true _
       have gJ:(SJ.toList != SJ.toList)=false:=by rw [bne,beq_self_eq_true];rfl
       have qf8:=f8.conv WZ (Below.refl _ _)
       have qf1:=f1.conv WZ (Below.refl _ _)
       have qf9:=f9.conv WZ (Below.refl _ _)
       have qf10:=f10.conv WZ (Below.refl _ _)
       have qh8:=h8.conv WZ (Below.refl _ _)
       have qh1:=h1.conv WZ (Below.refl _ _)
       have qj0:=j0.conv WZ (Below.refl _ _)
       have qi9:=i9.conv WZ (Below.refl _ _)
       clear f8 f1 f9 f10 h8 h1 i9 j0
       go_wp2_with (first
        | rw [qf8]
        | rw [qf1]
        | rw [qf10]
        | rw [qf9]
        | rw [qh8]
        | rw [qh1]
        | rw [qj0]
        | rw [qi9]
        | (go_at_call 8;refine (num16_any _ _).mono ?_;rintro e wn ⟨rfl,hwn⟩;obtain rfl:=hwn.symm))
       go_ret
       exact ⟨rfl,hw⟩
  · have cJ:=cJb okc
    clear cE cJb cJg
    go_upto_region 10 with (first
     | (refine wpList_load_mid rfl 38 (.tmp 8) rfl w.heap.size 0 rfl _ _ kc.range Tryd.underlying38 rfl (infoRx _ _ _ _) ?_)
     | (go_at_call 11;refine (cC _ hP).mono ?_;rintro e w3 ⟨es,rfl,X3,hb⟩;(replace hP:=kp _ _ hP hb);(replace hw:=below_next hw hb);(replace kc:=kc.still hb);(replace kd:=kd.still hb);(replace B1:=B1.keep hb);(replace B3:=B3.keep hb);clear hb)
     | (go_at_call 10;refine (cJ es _ hP X3).mono ?_;clear cJ X3;rintro e w4 ⟨rfl,hb⟩;(replace hP:=kp _ _ hP hb);(replace hw:=below_next hw hb);(replace kc:=kc.still hb);(replace kd:=kd.still hb);(replace B1:=B1.keep hb);(replace B3:=B3.keep hb);clear hb))
    have qa:=(CS _ _ B1).conv w4 (Below.refl _ _)
    have qb:=(CS _ _ B3).conv w4 (Below.refl _ _)
    generalize strB 32 S=SS at *
    go_wp2_with (first
     | rw [qa]
     | rw [qb]
     | (go_at_call 8;refine (num16_any _ _).mono ?_;rintro e wn ⟨rfl,hwn⟩;obtain rfl:=hwn.symm)
     | (go_at_call 9;refine (hKn _ hP).mono ?_;rintro e w5 ⟨rfl,hb⟩;(replace hP:=kp _ _ hP hb);(replace hw:=below_next hw hb);(replace kc:=kc.still hb);(replace kd:=kd.still hb);clear hb qa qb))
    go_ret
    exact ⟨rfl,hw⟩
end Go.Proofs.YtkoedfmdhdikaaaDoor
