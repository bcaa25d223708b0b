/- Layer 16: both sides answer the same: Joiner, Epoch, Welcome; the law ScheduleEpochs. -/
import Derived.Test.YtibmlmmoifgliaaGreatDoorV6TM
namespace Go.Proofs.YtibmlmmoifgliaaGreatDoor
open Go.RowKit
theorem joiner_both (n m:Nat) (a b:Nat→Nat) (la:∀ j,a j<256) (lb:∀ j,b j<256) (hn:n<140737488354000) (hm:m<140737488354000) (d:CxD) (hB:cxB d) :
 ∃ S E,(∀ u v cs W,TabAt W→BytesIn W u n a→BytesIn W v m b→CxIn W cs d→AnE5 16 #[u,v,.agg cs.toArray] W S E)∧(∀ u v cs W,BytesIn W u n a→BytesIn W v m b→CxIn W cs d→AnE5 17 #[u,v,.agg cs.toArray] W S E):=by
 cases ok:cxOk d
 · exact ⟨_,1,fun u v cs W hT h1 h2 hc=>anE50 (joiner_bad u v n m a b la lb (by omega) (by omega) cs d ok W hT h1 h2 hc),fun u v cs W h1 h2 hc=>anE50 (rJoiner_bad u v n m a b cs d ok W h1 h2 hc)⟩
 · exact ⟨_,0,fun u v cs W hT h1 h2 hc=>anE5 (exN_lt _ _ _ _ _ _) ((joiner_good u v n m a b la lb (by omega) (by omega) cs d hB ok W hT h1 h2 hc).mono fun _ _ ⟨x,c,p1,p2,p3⟩=>⟨_,p1,p2,p3⟩),fun u v cs W h1 h2 hc=>anE5 (exN_lt _ _ _ _ _ _) ((rJoiner_good u v n m a b la lb hn hm cs d hB ok W h1 h2 hc).mono fun _ _ ⟨x,c,p1,p2,p3⟩=>⟨_,p1,p2,p3⟩)⟩
abbrev AnR6 (f:FuncId) (args:Array Value) (W:World) (N:Nat→Nat) (B:Nat→Nat→Nat) (E:Int):Prop:=Calls Tryz.prog f args W fun e w'=>∃ L:List Value,e = .returned (.tuple #[.agg L.toArray,.int .i64 E])∧TxRow w' L 11 N B∧Below W.heap.size W w'
theorem z11_row (W:World):TxRow W z11 11 (fun _=>0) (fun _=>lZ):=⟨z11_len,fun i v hv=>by
 have hm:=List.mem_of_getElem? hv
 simp only [z11,List.mem_cons,List.not_mem_nil,or_false,or_self] at hm
 subst hm
 exact nil_bytes W lZ⟩
theorem epoch_both (n m:Nat) (a b:Nat→Nat) (la:∀ j,a j<256) (lb:∀ j,b j<256) (hn:n<140737488354000) (hm:m<140737488354000) (d:CxD) (hB:cxB d) :
 ∃ N B E,(∀ i j,B i j<256)∧(∀ u v cs W,TabAt W→BytesIn W u n a→BytesIn W v m b→CxIn W cs d→AnR6 18 #[u,v,.agg cs.toArray] W N B E)∧(∀ u v cs W,BytesIn W u n a→BytesIn W v m b→CxIn W cs d→AnR6 19 #[u,v,.agg cs.toArray] W N B E):=by
 cases ok:cxOk d
 · exact ⟨fun _=>0,fun _=>lZ,1,fun _=>lZ_lt5,fun u v cs W hT h1 h2 hc=>(epoch_bad u v n m a b la lb (by omega) (by omega) cs d ok W hT h1 h2 hc).mono fun _ _ ⟨p1,p2⟩=>⟨_,p1,z11_row _,p2⟩,fun u v cs W h1 h2 hc=>(rEpoch_bad u v cs d ok W hc).mono fun _ _ ⟨p1,p2⟩=>⟨_,p1,z11_row _,p2⟩⟩
 · exact ⟨_,_,0,seB_lt la,fun u v cs W hT h1 h2 hc=>epoch_good u v n m a b la lb (by omega) (by omega) cs d hB ok W hT h1 h2 hc,fun u v cs W h1 h2 hc=>rEpoch_good u v n m a b la lb hn hm cs d hB ok W h1 h2 hc⟩
abbrev AnW6 (f:FuncId) (args:Array Value) (W:World) (S T:ByteArray):Prop:=Calls Tryz.prog f args W fun e w'=>∃ x n c y m d,e = .returned (.tuple #[.slice x n c,.slice y m d])∧Cs w' (.slice x n c) S∧Cs w' (.slice y m d) T∧Below W.heap.size W w'
theorem welcome_both (n m:Nat) (a b:Nat→Nat) (la:∀ j,a j<256) (lb:∀ j,b j<256) (hn:n<140737488354000) (hm:m<140737488354000) :
 ∃ S T,(∀ u v W,TabAt W→BytesIn W u n a→BytesIn W v m b→AnW6 20 #[u,v] W S T)∧(∀ u v W,BytesIn W u n a→BytesIn W v m b→AnW6 21 #[u,v] W S T) :=
 ⟨_,_,fun u v W hT h1 h2=>(welcome_any u v n m a b la lb (by omega) (by omega) W hT h1 h2).mono fun _ _ ⟨x,c,y,d,p1,p2,p3,p4⟩=>⟨x,16,c,y,12,d,p1,p2.cs (exN_lt _ _ _ _ _ _),p3.cs (exN_lt _ _ _ _ _ _),p4⟩,
   fun u v W h1 h2=>(rWelcome_any u v n m a b la lb hn hm W h1 h2).mono fun _ _ ⟨x,c,y,d,p1,p2,p3,p4⟩=>⟨x,16,c,y,12,d,p1,p2.cs (exN_lt _ _ _ _ _ _),p3.cs (exN_lt _ _ _ _ _ _),p4⟩⟩
set_option maxRecDepth 40000 in
set_option maxHeartbeats 16000000 in
theorem schedEpochs_any (v0 v1 v2:Value) (cs:List Value) (n0 n1 n2:Nat) (b0 b1 b2:Nat→Nat) (lb0:∀ j,b0 j<256) (lb1:∀ j,b1 j<256) (lb2:∀ j,b2 j<256) (k0:n0<140737488354000) (k1:n1<140737488354000) (k2:n2<140737488354000) (d:CxD) (hB:cxB d) (hld:d.gn<140737488355000∧d.tn<140737488355000∧d.rn<140737488355000) (w:World) (hT:TabAt w) (h0:BytesIn w v0 n0 b0) (h1:BytesIn w v1 n1 b1) (h2:BytesIn w v2 n2 b2) (hc:CxIn w cs d) :
 Calls Tryz.prog 4 #[v0,v1,v2,.agg cs.toArray] w fun e w'=>e = .returned (.bool true)∧Below w.heap.size w w':=by
 obtain ⟨SJ,EJ,cJ0,rJ0⟩:=joiner_both n0 n1 b0 b1 lb0 lb1 k0 k1 d hB
 obtain ⟨EN,EB,EE,lE,cE0,rE0⟩:=epoch_both n0 n2 b0 b2 lb0 lb2 k0 k2 d hB
 obtain ⟨SK,SN,cW0,rW0⟩:=welcome_both n0 n2 b0 b2 lb0 lb2 k0 k2
 obtain ⟨P,hPd⟩:∃ P:World→Prop,P=fun W=>TabAt W∧BytesIn W v0 n0 b0∧BytesIn W v1 n1 b1∧BytesIn W v2 n2 b2∧CxIn W cs d:=⟨_,rfl⟩
 have kp:∀ W W',P W→Below W.heap.size W W'→P W':=by
  rw [hPd]
  exact fun W W' h hb=>⟨h.1.still hb,h.2.1.keep hb,h.2.2.1.keep hb,h.2.2.2.1.keep hb,h.2.2.2.2.keep hb⟩
 have hP0:P w:=by rw [hPd];exact ⟨hT,h0,h1,h2,hc⟩
 have cL0:=fun (W:World) (h:P W)=>lent_any v0 n0 b0 W (by rw [hPd] at h;exact h.2.1) (by omega)
 have cL2:=fun (W:World) (h:P W)=>lent_any v2 n2 b2 W (by rw [hPd] at h;exact h.2.2.2.1) (by omega)
 have cL:=fun (W:World) (h:P W)=>lent_any v1 n1 b1 W (by rw [hPd] at h;exact h.2.2.1) (by omega)
 have cC:=fun (W:World) (h:P W)=>lawCx_any cs d hld W (by rw [hPd] at h;exact h.2.2.2.2)
 have cJ:=fun (x y:Value) (ds:List Value) (W:World) (h:P W) (q1:BytesIn W x n0 b0) (q2:BytesIn W y n1 b1) (q3:CxIn W ds d)=>cJ0 x y ds W (by rw [hPd] at h;exact h.1) q1 q2 q3
 have cE:=fun (x y:Value) (ds:List Value) (W:World) (h:P W) (q1:BytesIn W x n0 b0) (q2:BytesIn W y n2 b2) (q3:CxIn W ds d)=>cE0 x y ds W (by rw [hPd] at h;exact h.1) q1 q2 q3
 have cW:=fun (x y:Value) (W:World) (h:P W) (q1:BytesIn W x n0 b0) (q2:BytesIn W y n2 b2)=>cW0 x y W (by rw [hPd] at h;exact h.1) q1 q2
 have rJ:=fun (W:World) (h:P W)=>rJ0 v0 v1 cs W (by rw [hPd] at h;exact h.2.1) (by rw [hPd] at h;exact h.2.2.1) (by rw [hPd] at h;exact h.2.2.2.2)
 have rE:=fun (W:World) (h:P W)=>rE0 v0 v2 cs W (by rw [hPd] at h;exact h.2.1) (by rw [hPd] at h;exact h.2.2.2.1) (by rw [hPd] at h;exact h.2.2.2.2)
 have rW:=fun (W:World) (h:P W)=>rW0 v0 v2 W (by rw [hPd] at h;exact h.2.1) (by rw [hPd] at h;exact h.2.2.2.1)
 have sS:=fun (L M:List Value) (W:World) (q1:TxRow W L 11 EN EB) (q2:TxRow W M 11 EN EB)=>sameSec_any L M EN EB lE W q1 q2
 have st0:=fun (g m:Nat) (W:World) (h:P W) (l:LntAt W g m n0 b0)=>stays_any g m n0 _ b0 lb0 _ (by omega:n0<140737488355000) l.cap l.row (by rw [hPd] at h;exact h.2.1:BytesIn W v0 n0 b0)
 have st2:=fun (g m:Nat) (W:World) (h:P W) (l:LntAt W g m n2 b2)=>stays_any g m n2 _ b2 lb2 _ (by omega:n2<140737488355000) l.cap l.row (by rw [hPd] at h;exact h.2.2.2.1:BytesIn W v2 n2 b2)
 have hKn:=fun (W:World) (h:P W)=>knows16 W (by rw [hPd] at h;exact h.1)
 obtain ⟨x0,d0,rfl,-⟩:=h0.src
 obtain ⟨x1,d1,rfl,-⟩:=h1.src
 obtain ⟨x2,d2,rfl,-⟩:=h2.src
 obtain ⟨w0,w1,w2,rfl,-⟩:=hc
 have eJ:(SJ.toList == SJ.toList)=true:=beq_self_eq_true _
 have eK:(SK.toList == SK.toList)=true:=beq_self_eq_true _
 have eN:(SN.toList == SN.toList)=true:=beq_self_eq_true _
 obtain ⟨N,hN⟩:∃ N,N=d.e:=⟨_,rfl⟩
 rw [←hN] at cC rJ rE ⊢
 have bx:Below w.heap.size w (w.alloc (.cells #[w0,.int .i64 N,w1,w2] 24)):=(Below.refl _ _).alloc (Nat.le_refl _) _
 have kx0:=RW.fresh w [w0,.int .i64 N,w1,w2] 24
 have P0:=kp _ _ hP0 bx
 have HX:=Hid.mk' bx
 have HK:=Hid.mk' kx0
 clear hPd hT h0 h1 h2 cJ0 cE0 cW0 rJ0 rE0 rW0 lE lb0 lb1 lb2 k0 k1 k2 hB hld hN hP0 bx kx0
 go_enter Tryz.func4,Tryz.ntmps4
 go_upto_region 3 with (first
  | (go_at_call 6;refine (cL0 _ P0).mono ?_;clear cL0;rintro e w1_ ⟨g1,m1,rfl,hc1,-,r1,hb1⟩;(have l1:LntAt w1_ g1 m1 n0 b0:=⟨hc1,r1⟩);have P1:=kp _ _ P0 hb1;have hw1:=below_next HX.out hb1;have kx1:=HK.out.still hb1;clear P0 hc1 r1 HX HK hb1)
  | (go_at_call 6;refine (cL2 _ P1).mono ?_;clear cL2;rintro e w2_ ⟨g2,m2,rfl,hc2,-,r2,hb2⟩;(have l2:LntAt w2_ g2 m2 n2 b2:=⟨hc2,r2⟩);(replace l1:=l1.still hb2);have hP:=kp _ _ P1 hb2;have hw:=below_next hw1 hb2;have kx:=kx1.still hb2;clear P1 hc2 r2 hw1 kx1 hb2))
 have hdr:Below w2_.heap.size w2_ w2_.drew:=(Below.refl _ _).drew
 replace hP:=kp _ _ hP hdr
 replace l1:=l1.still hdr
 replace l2:=l2.still hdr
 replace kx:=kx.still hdr
 replace hw:=below_next hw hdr
 clear hdr
 refine wp_region_noPanic ?_
 refine wp_region_held_drew (S:=fun u=>Below w2_.drew.heap.size w2_.drew u) (by kernel_rfl) (Below.refl _ _) (fun hS => ?_)
 generalize w2_.drew=V at *
 refine tg 0 hS ?_
 (try simp only [pS])
 refine tg 1 hS ?_
 (try simp only [pS])
 refine tl 3 kx hS 24 Tryz.underlying24 (infoRx _ _ _ _) ?_
 (try simp only [pS])
 refine cn 2 (cL V hP) ?_
 rintro e u1 ⟨g3,m3,rfl,hc3,-,r3,hb⟩
 have l3:LntAt u1 g3 m3 n1 b1:=⟨hc3,r3⟩
 clear hc3 r3
 refine ⟨_,rfl,hb,?_⟩
 replace hP:=kp _ _ hP hb
 replace l1:=l1.still hb
 replace l2:=l2.still hb
 replace kx:=kx.still hb
 replace hw:=below_next hw hb
 clear hS hb
 have hS:=Below.refl u1.heap.size u1
 (try simp only [pS])
 refine cn 4 (cC u1 hP) ?_
 rintro e u2 ⟨ds,rfl,X3,hb⟩
 refine ⟨_,rfl,hb,?_⟩
 replace hP:=kp _ _ hP hb
 replace l1:=l1.still hb
 replace l2:=l2.still hb
 replace kx:=kx.still hb
 replace l3:=l3.still hb
 replace hw:=below_next hw hb
 clear hS hb
 have hS:=Below.refl u2.heap.size u2
 (try simp only [pS])
 refine cn 5 (cJ _ _ _ u2 hP l1.bytes l3.bytes X3) ?_
 rintro e u3 ⟨x5,n5,c5,rfl,t5,hb⟩
 refine ⟨_,rfl,hb,?_⟩
 clear l3
 clear X3
 replace hP:=kp _ _ hP hb
 replace l1:=l1.still hb
 replace l2:=l2.still hb
 replace kx:=kx.still hb
 replace hw:=below_next hw hb
 clear hS hb
 have hS:=Below.refl u3.heap.size u3
 (try simp only [pS])
 refine tg 6 hS ?_
 (try simp only [pS])
 refine tg 7 hS ?_
 (try simp only [pS])
 refine tg 8 hS ?_
 (try simp only [pS])
 refine tg 9 hS ?_
 (try simp only [pS])
 refine tg 10 hS ?_
 (try simp only [pS])
 refine wpAnyH_done (by kernel_rfl) ?_ _
 refine NoPanic.normal ?_
 go_upto_region 9 with (first
  | (refine wpList_load_mid rfl 24 (.tmp 7) rfl w.heap.size 0 rfl _ _ kx.range Tryz.underlying24 rfl (infoRx _ _ _ _) ?_)
  | (go_at_call 17;refine (rJ _ hP).mono ?_;clear rJ;rintro e w4 ⟨x6,n6,c6,rfl,t6,hb⟩;(replace hP:=kp _ _ hP hb);(replace kx:=kx.still hb);(replace hw:=below_next hw hb);(replace l1:=l1.still hb);(replace l2:=l2.still hb);(replace t5:=t5.still hb);clear hb)
  | (go_at_call 7;refine (cC _ hP).mono ?_;clear cC;rintro e w5 ⟨ds5,rfl,X5,hb⟩;(replace hP:=kp _ _ hP hb);(replace kx:=kx.still hb);(replace hw:=below_next hw hb);(replace l1:=l1.still hb);(replace l2:=l2.still hb);(replace t5:=t5.still hb);(replace t6:=t6.still hb);clear hb)
  | (go_at_call 18;refine (cE _ _ _ _ hP l1.bytes l2.bytes X5).mono ?_;clear cE X5;rintro e w6 ⟨L6,rfl,T6,hb⟩;(replace hP:=kp _ _ hP hb);(replace kx:=kx.still hb);(replace hw:=below_next hw hb);(replace l1:=l1.still hb);(replace l2:=l2.still hb);(replace t5:=t5.still hb);(replace t6:=t6.still hb);clear hb;(obtain ⟨pv0,pv1,pv2,pv3,pv4,pv5,pv6,pv7,pv8,pv9,pv10,rfl⟩:∃ pv0 pv1 pv2 pv3 pv4 pv5 pv6 pv7 pv8 pv9 pv10,L6=[pv0,pv1,pv2,pv3,pv4,pv5,pv6,pv7,pv8,pv9,pv10]:=(by match L6,T6.1 with | [pv0,pv1,pv2,pv3,pv4,pv5,pv6,pv7,pv8,pv9,pv10],_=>exact ⟨_,_,_,_,_,_,_,_,_,_,_,rfl⟩));(obtain ⟨px0,pn0,pc0,pe0⟩:=(T6.2 0 _ rfl).isSl);subst pe0;(obtain ⟨px1,pn1,pc1,pe1⟩:=(T6.2 1 _ rfl).isSl);subst pe1;(obtain ⟨px2,pn2,pc2,pe2⟩:=(T6.2 2 _ rfl).isSl);subst pe2;(obtain ⟨px3,pn3,pc3,pe3⟩:=(T6.2 3 _ rfl).isSl);subst pe3;(obtain ⟨px4,pn4,pc4,pe4⟩:=(T6.2 4 _ rfl).isSl);subst pe4;(obtain ⟨px5,pn5,pc5,pe5⟩:=(T6.2 5 _ rfl).isSl);subst pe5;(obtain ⟨px6,pn6,pc6,pe6⟩:=(T6.2 6 _ rfl).isSl);subst pe6;(obtain ⟨px7,pn7,pc7,pe7⟩:=(T6.2 7 _ rfl).isSl);subst pe7;(obtain ⟨px8,pn8,pc8,pe8⟩:=(T6.2 8 _ rfl).isSl);subst pe8;(obtain ⟨px9,pn9,pc9,pe9⟩:=(T6.2 9 _ rfl).isSl);subst pe9;(obtain ⟨px10,pn10,pc10,pe10⟩:=(T6.2 10 _ rfl).isSl);subst pe10;have hb:Below w6.heap.size w6 (w6.alloc (.cells #[.slice px0 pn0 pc0,.slice px1 pn1 pc1,.slice px2 pn2 pc2,.slice px3 pn3 pc3,.slice px4 pn4 pc4,.slice px5 pn5 pc5,.slice px6 pn6 pc6,.slice px7 pn7 pc7,.slice px8 pn8 pc8,.slice px9 pn9 pc9,.slice px10 pn10 pc10] 45)):=(Below.refl _ _).alloc (Nat.le_refl _) _;have kp6:=RW.fresh w6 [.slice px0 pn0 pc0,.slice px1 pn1 pc1,.slice px2 pn2 pc2,.slice px3 pn3 pc3,.slice px4 pn4 pc4,.slice px5 pn5 pc5,.slice px6 pn6 pc6,.slice px7 pn7 pc7,.slice px8 pn8 pc8,.slice px9 pn9 pc9,.slice px10 pn10 pc10] 45;(replace hP:=kp _ _ hP hb);(replace kx:=kx.still hb);(replace hw:=below_next hw hb);(replace l1:=l1.still hb);(replace l2:=l2.still hb);(replace t5:=t5.still hb);(replace t6:=t6.still hb);(replace T6:=T6.still hb);clear hb)
  | (go_at_call 19;refine (rE _ hP).mono ?_;clear rE;rintro e w7 ⟨L7,rfl,T7,hb⟩;(replace hP:=kp _ _ hP hb);(replace hw:=below_next hw hb);(replace l1:=l1.still hb);(replace l2:=l2.still hb);(replace t5:=t5.still hb);(replace t6:=t6.still hb);(replace T6:=T6.still hb);(replace kp6:=kp6.still hb);clear hb kx;(obtain ⟨qv0,qv1,qv2,qv3,qv4,qv5,qv6,qv7,qv8,qv9,qv10,rfl⟩:∃ qv0 qv1 qv2 qv3 qv4 qv5 qv6 qv7 qv8 qv9 qv10,L7=[qv0,qv1,qv2,qv3,qv4,qv5,qv6,qv7,qv8,qv9,qv10]:=(by match L7,T7.1 with | [qv0,qv1,qv2,qv3,qv4,qv5,qv6,qv7,qv8,qv9,qv10],_=>exact ⟨_,_,_,_,_,_,_,_,_,_,_,rfl⟩));(obtain ⟨qx0,qn0,qc0,qe0⟩:=(T7.2 0 _ rfl).isSl);subst qe0;(obtain ⟨qx1,qn1,qc1,qe1⟩:=(T7.2 1 _ rfl).isSl);subst qe1;(obtain ⟨qx2,qn2,qc2,qe2⟩:=(T7.2 2 _ rfl).isSl);subst qe2;(obtain ⟨qx3,qn3,qc3,qe3⟩:=(T7.2 3 _ rfl).isSl);subst qe3;(obtain ⟨qx4,qn4,qc4,qe4⟩:=(T7.2 4 _ rfl).isSl);subst qe4;(obtain ⟨qx5,qn5,qc5,qe5⟩:=(T7.2 5 _ rfl).isSl);subst qe5;(obtain ⟨qx6,qn6,qc6,qe6⟩:=(T7.2 6 _ rfl).isSl);subst qe6;(obtain ⟨qx7,qn7,qc7,qe7⟩:=(T7.2 7 _ rfl).isSl);subst qe7;(obtain ⟨qx8,qn8,qc8,qe8⟩:=(T7.2 8 _ rfl).isSl);subst qe8;(obtain ⟨qx9,qn9,qc9,qe9⟩:=(T7.2 9 _ rfl).isSl);subst qe9;(obtain ⟨qx10,qn10,qc10,qe10⟩:=(T7.2 10 _ rfl).isSl);subst qe10;have hb:Below w7.heap.size w7 (w7.alloc (.cells #[.slice qx0 qn0 qc0,.slice qx1 qn1 qc1,.slice qx2 qn2 qc2,.slice qx3 qn3 qc3,.slice qx4 qn4 qc4,.slice qx5 qn5 qc5,.slice qx6 qn6 qc6,.slice qx7 qn7 qc7,.slice qx8 qn8 qc8,.slice qx9 qn9 qc9,.slice qx10 qn10 qc10] 48)):=(Below.refl _ _).alloc (Nat.le_refl _) _;have kq6:=RW.fresh w7 [.slice qx0 qn0 qc0,.slice qx1 qn1 qc1,.slice qx2 qn2 qc2,.slice qx3 qn3 qc3,.slice qx4 qn4 qc4,.slice qx5 qn5 qc5,.slice qx6 qn6 qc6,.slice qx7 qn7 qc7,.slice qx8 qn8 qc8,.slice qx9 qn9 qc9,.slice qx10 qn10 qc10] 48;(replace hP:=kp _ _ hP hb);(replace hw:=below_next hw hb);(replace l1:=l1.still hb);(replace l2:=l2.still hb);(replace t5:=t5.still hb);(replace t6:=t6.still hb);(replace T6:=T6.still hb);(replace T7:=T7.still hb);(replace kp6:=kp6.still hb);clear hb)
  | (go_at_call 20;refine (cW _ _ _ hP l1.bytes l2.bytes).mono ?_;clear cW;rintro e w8 ⟨x8,n8,c8,y8,m8,d8,rfl,t8,s8,hb⟩;(replace hP:=kp _ _ hP hb);(replace hw:=below_next hw hb);(replace l1:=l1.still hb);(replace l2:=l2.still hb);(replace t5:=t5.still hb);(replace t6:=t6.still hb);(replace T6:=T6.still hb);(replace T7:=T7.still hb);(replace kp6:=kp6.still hb);(replace kq6:=kq6.still hb);clear hb)
  | (go_at_call 21;refine (rW _ hP).mono ?_;clear rW;rintro e w9 ⟨x9,n9,c9,y9,m9,d9,rfl,t9,s9,hb⟩;(replace hP:=kp _ _ hP hb);(replace hw:=below_next hw hb);(replace l1:=l1.still hb);(replace l2:=l2.still hb);(replace t5:=t5.still hb);(replace t6:=t6.still hb);(replace T6:=T6.still hb);(replace T7:=T7.still hb);(replace kp6:=kp6.still hb);(replace kq6:=kq6.still hb);(replace t8:=t8.still hb);(replace s8:=s8.still hb);clear hb))
 have q5:=t5.conv w9 (Below.refl _ _)
 have q6:=t6.conv w9 (Below.refl _ _)
 clear t5 t6
 go_wp2_with (first
  | rw [q5]
  | rw [q6]
  | (go_at_call 12;refine (num16_any _ _).mono ?_;rintro e wn ⟨rfl,hwn⟩;obtain rfl:=hwn.symm)
  | (refine wpList_load_on (by rfl) 45 (.tmp 15) rfl w6.heap.size 0 rfl [.slice px0 pn0 pc0,.slice px1 pn1 pc1,.slice px2 pn2 pc2,.slice px3 pn3 pc3,.slice px4 pn4 pc4,.slice px5 pn5 pc5,.slice px6 pn6 pc6,.slice px7 pn7 pc7,.slice px8 pn8 pc8,.slice px9 pn9 pc9,.slice px10 pn10 pc10] _ kp6.range Tryz.underlying45 rfl (infoSec T6.1) ?_)
  | (refine wpList_load_on (by rfl) 48 (.tmp 17) rfl w7.heap.size 0 rfl [.slice qx0 qn0 qc0,.slice qx1 qn1 qc1,.slice qx2 qn2 qc2,.slice qx3 qn3 qc3,.slice qx4 qn4 qc4,.slice qx5 qn5 qc5,.slice qx6 qn6 qc6,.slice qx7 qn7 qc7,.slice qx8 qn8 qc8,.slice qx9 qn9 qc9,.slice qx10 qn10 qc10] _ kq6.range Tryz.underlying48 rfl (infoSecR T7.1) ?_)
  | (go_at_call 22;refine (sS _ _ _ T6 T7).mono ?_;clear sS kp6 kq6 T6 T7 q5 q6;rintro e w10 ⟨rfl,hb⟩;(replace hP:=kp _ _ hP hb);(replace hw:=below_next hw hb);(replace l1:=l1.still hb);(replace l2:=l2.still hb);have q8:=(t8.still hb).conv w10 (Below.refl _ _);have q9:=(t9.still hb).conv w10 (Below.refl _ _);have r8:=(s8.still hb).conv w10 (Below.refl _ _);have r9:=(s9.still hb).conv w10 (Below.refl _ _);clear hb t8 t9 s8 s9)
  | rw [q8]
  | rw [q9]
  | rw [r8]
  | rw [r9]
  | (go_at_call 14;refine (st0 g1 m1 _ hP l1).mono ?_;clear st0 l1;rintro e w11 ⟨rfl,hb⟩;(replace hP:=kp _ _ hP hb);(replace hw:=below_next hw hb);(replace l2:=l2.still hb);clear hb)
  | (go_at_call 14;refine (st2 g2 m2 _ hP l2).mono ?_;clear st2 l2;rintro e w12 ⟨rfl,hb⟩;(replace hP:=kp _ _ hP hb);(replace hw:=below_next hw hb);clear hb)
  | (go_at_call 15;refine (hKn _ hP).mono ?_;clear hKn;rintro e w13 ⟨rfl,hb⟩;(replace hw:=below_next hw hb)))
 go_ret
 exact ⟨rfl,hw⟩
end Go.Proofs.YtibmlmmoifgliaaGreatDoor
