/- What the proof stands on: PAt, PTw. -/
import Derived.Test.YtdgkmloabificaaGreatDoorRMulM
namespace Go.Proofs.YtdgkmloabificaaGreatDoor
open Go.RowKit
abbrev qa1x7:Oper:=oS (Op.store 53 (oT 4) (oT 11)) "curve.go:41" #[jD 6,jC 5,jP 0,jP 1,jP 2,jP 3,jP 4,jP 5,jP 6]
abbrev qa2x13:Oper:=oS (Op.store 53 (oT 8) (oT 21)) "curve.go:70" #[jD 12,jC 11,jP 0,jP 1,jP 2,jP 3,jP 4,jP 5,jP 6,jP 7,jP 8,jP 9,jP 10,jP 11,jP 12]
set_option maxRecDepth 20000 in
set_option maxHeartbeats 4000000 in
theorem pat_raw (x y t:Nat)
 (ct:∀ W,Calls Tryz.prog 53 #[numV x,numV y] W fun e w'=>e = .returned (numV t)∧Below W.heap.size W w')
 (w:World):Calls Tryz.prog 47 #[numV x,numV y] w fun e w'=>e = .returned (pV x y 1 t)∧Below w.heap.size w w':=by
 have hzp:=zeroP
 have c1:∀ W,Calls Tryz.prog 89 #[.int .i64 1] W fun e w'=>e = .returned (numV 1)∧Below W.heap.size W w':=fsmall_pos 1 (by decide)
 obtain ⟨V1,g2,eg2,hg2,bg2,hx⟩:∃ V g,w.alloc (.cells (c4 x).toArray 51)=V∧w.heap.size=g∧Below w.heap.size w V∧RW V g 0 (c4 x):=⟨_,_,rfl,rfl,(Below.refl _ _).alloc (Nat.le_refl _) _,RW.fresh w _ _⟩
 obtain ⟨V2,g3,eg3,hg3,bg3,hy⟩:∃ V g,V1.alloc (.cells (c4 y).toArray 51)=V∧V1.heap.size=g∧Below V1.heap.size V1 V∧RW V g 0 (c4 y):=⟨_,_,rfl,rfl,(Below.refl _ _).alloc (Nat.le_refl _) _,RW.fresh V1 _ _⟩
 obtain ⟨W,g4,e4,hg4,b4,hres⟩:=fresh16 V2
 have t1:V1.heap.size=w.heap.size+1:=by rw [←eg2];simp
 have t2:V2.heap.size=V1.heap.size+1:=by rw [←eg3];simp
 have HW:Hid (W=((w.alloc (.cells (c4 x).toArray 51)).alloc (.cells (c4 y).toArray 51)).alloc (.cells zP 53)):=Hid.mk' (by rw [←e4,←eg3,←eg2])
 have q2:Hid (w.heap.size=g2):=Hid.mk' hg2
 have q3:Hid (w.heap.size+1=g3):=Hid.mk' (by omega)
 have q4:Hid (w.heap.size+1+1=g4):=Hid.mk' (by omega)
 replace hx:=(hx.still bg3).still b4
 replace hy:=hy.still b4
 have hbW:Below w.heap.size w W:=(bg2.trans (bg3.mono (by omega))).trans (b4.mono (by omega))
 have w4:w.heap.size≤g4:=by omega
 have n24:g2≠g4:=by omega
 have n34:g3≠g4:=by omega
 have l4:=hres.lt
 clear eg2 eg3 e4 hg2 hg3 hg4 bg2 bg3 b4 t1 t2 V1 V2
 rw [show numV x = .agg (c4 x).toArray from rfl,show numV y = .agg (c4 y).toArray from rfl]
 go_enter Tryz.func47,Tryz.ntmps47
 go_upto_region 1 with (fail)
 rw [←HW.out,q4.out,q3.out,q2.out]
 clear HW q2 q3 q4
 have hdrew:Below W.heap.size W W.drew:=(Below.refl _ _).drew
 replace hx:=hx.still hdrew
 replace hy:=hy.still hdrew
 replace hres:=hres.still hdrew
 refine wp_region_noPanic ?_
 replace l4:=Nat.lt_of_lt_of_le l4 hdrew.size
 refine wp_region_held_drew (S:=fun w'=>Out g4 0 16 W.drew w') (by kernel_rfl) (Out.refl _ _ _ _) (fun hS => ?_)
 generalize W.drew=Va1_ at *
 refine tkH 0 (oN 5 (Op.load 51 (oT 2)) 51 "curve.go:41" #[]) (numV x) hS (ldO hx n24 51 2 Tryz.underlying51 info4) ?_
 (try simp only [pS])
 refine tkH 1 (oN 6 (Op.load 51 (oT 3)) 51 "curve.go:41" #[]) (numV y) hS (ldO hy n34 51 3 Tryz.underlying51 info4) ?_
 (try simp only [pS])
 refine tkH 3 (oN 8 (Op.load 51 (oT 2)) 51 "curve.go:41" #[]) (numV x) hS (ldO hx n24 51 2 Tryz.underlying51 info4) ?_
 (try simp only [pS])
 refine tkH 4 (oN 9 (Op.load 51 (oT 3)) 51 "curve.go:41" #[]) (numV y) hS (ldO hy n34 51 3 Tryz.underlying51 info4) ?_
 (try simp only [pS])
 refine callH 2 (oN 7 (cF1 89 #[Operand.const (Value.int IntKind.i64 1)] #[3]) 51 "curve.go:41" #[]) (c1 _) ?_
 (clear c1;rintro e wa1_1 ⟨rfl,hba1_1⟩)
 have hSa1_1:=hS.trans (Out.of_below hba1_1 l4)
 replace l4:=Nat.lt_of_lt_of_le l4 hba1_1.size
 replace hres:=hres.still hba1_1
 refine ⟨_,rfl,hSa1_1,?_⟩
 clear hba1_1
 (try simp only [pS])
 refine callH 5 (oN 10 (cF1 53 #[oT 8,oT 9] #[51,51]) 51 "curve.go:41" #[jD 3,jD 4,jC 2]) (ct _) ?_
 (clear ct;rintro e wa1_2 ⟨rfl,hba1_2⟩)
 have hSa1_2:=hSa1_1.trans (Out.of_below hba1_2 l4)
 replace l4:=Nat.lt_of_lt_of_le l4 hba1_2.size
 replace hres:=hres.still hba1_2
 refine ⟨_,rfl,hSa1_2,?_⟩
 clear hba1_2
 (try simp only [pS])
 refine tkH 6 (oN 11 (Op.build 53 #[(0,oT 5),(1,oT 6),(2,oT 7),(3,oT 10)]) 53 "curve.go:41" #[jD 0,jD 1,jD 2,jD 5]) (pV x y 1 t) hSa1_2 (yields_build4 (by rfl) 53 _ _ _ _ rfl (numV x) (numV y) (numV 1) (numV t) rfl rfl rfl rfl _ (builtP4 _ _ _ _)) ?_
 (try simp only [pS])
 refine wpAnyH_ready (rs:=[7]) (by kernel_rfl) (by simp) ?_
 refine AllReadyH.cons (o:=qa1x7) rfl (fun K hK => ?_) (AllReadyH.nil)
 unfold qa1x7
 rw [if_pos (by rfl)]
 refine wp_store_mid 53 _ _ rfl g4 0 (p16 x y 1 t).toArray rfl rfl (thr16 hres _ _ _ _) (info16A _ _ _ _) (one16 _ _ _ _) ?_
 have hSa1_3:=hSa1_2.trans (Out.setCells (b:=g4) (o:=0) (n:=16) wa1_2 (p16 x y 1 t) (Nat.le_refl _) (by rw [p16_len];exact Nat.le_refl _))
 replace hres:=hres.stored (p16 x y 1 t) (p16_same _ _ _ _ _ _ _ _)
 obtain ⟨wa1_3,hwa1_3⟩:∃ W,wa1_2.setCells g4 0 (p16 x y 1 t)=W:=⟨_,rfl⟩
 rw [hwa1_3] at hres
 rw [hwa1_3] at hSa1_3
 rw [show wa1_2.setCells g4 0 (p16 x y 1 t).toArray.toList=wa1_3 from hwa1_3]
 refine hK.out _ _ hSa1_3 (fun h => ?_)
 clear h hK K hwa1_3
 (try dsimp only [Act.put])
 refine wpAnyH_done (by kernel_rfl) ?_ _
 refine NoPanic.normal ?_
 have fin:=(hbW.trans (hdrew.mono hbW.size)).trans (hSa1_3.below w4 (Nat.le_trans hbW.size hdrew.size))
 go_wp2
 exact bodyPost_ret (results_cell_mid Tryz.results47 _ _ g4 0 (p16 x y 1 t) _ rfl hres.range Tryz.underlying53 rfl (info16 _ _ _ _)) rfl ⟨rfl,fin⟩
theorem pat_any (x y:Nat) (hx:x<pF) (hy:y<pF) (w:World):Calls Tryz.prog 47 #[numV x,numV y] w fun e w'=>e = .returned (pV x y 1 (fmul x y))∧Below w.heap.size w w' :=
 pat_raw x y (fmul x y) (fun W=>times_any x y hx hy W) w
set_option maxRecDepth 20000 in
set_option maxHeartbeats 8000000 in
theorem quot_raw (a b c d o1 o2 o3 o4:Nat)
 (k1:∀ W,Calls Tryz.prog 53 #[numV a,numV d] W fun e w'=>e = .returned (numV o1)∧Below W.heap.size W w')
 (k2:∀ W,Calls Tryz.prog 53 #[numV c,numV b] W fun e w'=>e = .returned (numV o2)∧Below W.heap.size W w')
 (k3:∀ W,Calls Tryz.prog 53 #[numV b,numV d] W fun e w'=>e = .returned (numV o3)∧Below W.heap.size W w')
 (k4:∀ W,Calls Tryz.prog 53 #[numV a,numV c] W fun e w'=>e = .returned (numV o4)∧Below W.heap.size W w')
 (w:World):Calls Tryz.prog 106 #[numV a,numV b,numV c,numV d] w fun e w'=>e = .returned (pV o1 o2 o3 o4)∧Below w.heap.size w w':=by
 have hzp:=zeroP
 obtain ⟨V1,g4,eg4,hg4,bg4,ha⟩:∃ V g,w.alloc (.cells (c4 a).toArray 51)=V∧w.heap.size=g∧Below w.heap.size w V∧RW V g 0 (c4 a):=⟨_,_,rfl,rfl,(Below.refl _ _).alloc (Nat.le_refl _) _,RW.fresh w _ _⟩
 obtain ⟨V2,g5,eg5,hg5,bg5,hb⟩:∃ V g,V1.alloc (.cells (c4 b).toArray 51)=V∧V1.heap.size=g∧Below V1.heap.size V1 V∧RW V g 0 (c4 b):=⟨_,_,rfl,rfl,(Below.refl _ _).alloc (Nat.le_refl _) _,RW.fresh V1 _ _⟩
 obtain ⟨V3,g6,eg6,hg6,bg6,hc⟩:∃ V g,V2.alloc (.cells (c4 c).toArray 51)=V∧V2.heap.size=g∧Below V2.heap.size V2 V∧RW V g 0 (c4 c):=⟨_,_,rfl,rfl,(Below.refl _ _).alloc (Nat.le_refl _) _,RW.fresh V2 _ _⟩
 obtain ⟨V4,g7,eg7,hg7,bg7,hd⟩:∃ V g,V3.alloc (.cells (c4 d).toArray 51)=V∧V3.heap.size=g∧Below V3.heap.size V3 V∧RW V g 0 (c4 d):=⟨_,_,rfl,rfl,(Below.refl _ _).alloc (Nat.le_refl _) _,RW.fresh V3 _ _⟩
 obtain ⟨W,g8,e8,hg8,b8,hres⟩:=fresh16 V4
 have t1:V1.heap.size=w.heap.size+1:=by rw [←eg4];simp
 have t2:V2.heap.size=V1.heap.size+1:=by rw [←eg5];simp
 have t3:V3.heap.size=V2.heap.size+1:=by rw [←eg6];simp
 have t4:V4.heap.size=V3.heap.size+1:=by rw [←eg7];simp
 have HW:Hid (W=((((w.alloc (.cells (c4 a).toArray 51)).alloc (.cells (c4 b).toArray 51)).alloc (.cells (c4 c).toArray 51)).alloc (.cells (c4 d).toArray 51)).alloc (.cells zP 53)):=Hid.mk' (by rw [←e8,←eg7,←eg6,←eg5,←eg4])
 have q4:Hid (w.heap.size=g4):=Hid.mk' hg4
 have q5:Hid (w.heap.size+1=g5):=Hid.mk' (by omega)
 have q6:Hid (w.heap.size+1+1=g6):=Hid.mk' (by omega)
 have q7:Hid (w.heap.size+1+1+1=g7):=Hid.mk' (by omega)
 have q8:Hid (w.heap.size+1+1+1+1=g8):=Hid.mk' (by omega)
 replace ha:=(((ha.still bg5).still bg6).still bg7).still b8
 replace hb:=((hb.still bg6).still bg7).still b8
 replace hc:=(hc.still bg7).still b8
 replace hd:=hd.still b8
 have hbW:Below w.heap.size w W:=(((bg4.trans (bg5.mono (by omega))).trans (bg6.mono (by omega))).trans (bg7.mono (by omega))).trans (b8.mono (by omega))
 have w8:w.heap.size≤g8:=by omega
 have n48:g4≠g8:=by omega
 have n58:g5≠g8:=by omega
 have n68:g6≠g8:=by omega
 have n78:g7≠g8:=by omega
 have l8:=hres.lt
 clear eg4 eg5 eg6 eg7 e8 hg4 hg5 hg6 hg7 hg8 bg4 bg5 bg6 bg7 b8 t1 t2 t3 t4 V1 V2 V3 V4
 rw [show numV a = .agg (c4 a).toArray from rfl,show numV b = .agg (c4 b).toArray from rfl,show numV c = .agg (c4 c).toArray from rfl,show numV d = .agg (c4 d).toArray from rfl]
 go_enter Tryz.func106,Tryz.ntmps106
 go_upto_region 1 with (fail)
 rw [←HW.out,q8.out,q7.out,q6.out,q5.out,q4.out]
 clear HW q4 q5 q6 q7 q8
 have hdrew:Below W.heap.size W W.drew:=(Below.refl _ _).drew
 replace ha:=ha.still hdrew
 replace hb:=hb.still hdrew
 replace hc:=hc.still hdrew
 replace hd:=hd.still hdrew
 replace hres:=hres.still hdrew
 refine wp_region_noPanic ?_
 replace l8:=Nat.lt_of_lt_of_le l8 hdrew.size
 refine wp_region_held_drew (S:=fun w'=>Out g8 0 16 W.drew w') (by kernel_rfl) (Out.refl _ _ _ _) (fun hS => ?_)
 generalize W.drew=Va2_ at *
 refine tkH 0 (oN 9 (Op.load 51 (oT 4)) 51 "curve.go:70" #[]) (numV a) hS (ldO ha n48 51 4 Tryz.underlying51 info4) ?_
 (try simp only [pS])
 refine tkH 1 (oN 10 (Op.load 51 (oT 7)) 51 "curve.go:70" #[]) (numV d) hS (ldO hd n78 51 7 Tryz.underlying51 info4) ?_
 (try simp only [pS])
 refine tkH 3 (oN 12 (Op.load 51 (oT 6)) 51 "curve.go:70" #[]) (numV c) hS (ldO hc n68 51 6 Tryz.underlying51 info4) ?_
 (try simp only [pS])
 refine tkH 4 (oN 13 (Op.load 51 (oT 5)) 51 "curve.go:70" #[]) (numV b) hS (ldO hb n58 51 5 Tryz.underlying51 info4) ?_
 (try simp only [pS])
 refine tkH 6 (oN 15 (Op.load 51 (oT 5)) 51 "curve.go:70" #[]) (numV b) hS (ldO hb n58 51 5 Tryz.underlying51 info4) ?_
 (try simp only [pS])
 refine tkH 7 (oN 16 (Op.load 51 (oT 7)) 51 "curve.go:70" #[]) (numV d) hS (ldO hd n78 51 7 Tryz.underlying51 info4) ?_
 (try simp only [pS])
 refine tkH 9 (oN 18 (Op.load 51 (oT 4)) 51 "curve.go:70" #[]) (numV a) hS (ldO ha n48 51 4 Tryz.underlying51 info4) ?_
 (try simp only [pS])
 refine tkH 10 (oN 19 (Op.load 51 (oT 6)) 51 "curve.go:70" #[]) (numV c) hS (ldO hc n68 51 6 Tryz.underlying51 info4) ?_
 (try simp only [pS])
 refine callH 2 (oN 11 (cF1 53 #[oT 9,oT 10] #[51,51]) 51 "curve.go:70" #[jD 0,jD 1]) (k1 _) ?_
 (clear k1;rintro e wa2_1 ⟨rfl,hba2_1⟩)
 have hSa2_1:=hS.trans (Out.of_below hba2_1 l8)
 replace l8:=Nat.lt_of_lt_of_le l8 hba2_1.size
 replace hres:=hres.still hba2_1
 refine ⟨_,rfl,hSa2_1,?_⟩
 clear hba2_1
 (try simp only [pS])
 refine callH 5 (oN 14 (cF1 53 #[oT 12,oT 13] #[51,51]) 51 "curve.go:70" #[jD 3,jD 4,jC 2]) (k2 _) ?_
 (clear k2;rintro e wa2_2 ⟨rfl,hba2_2⟩)
 have hSa2_2:=hSa2_1.trans (Out.of_below hba2_2 l8)
 replace l8:=Nat.lt_of_lt_of_le l8 hba2_2.size
 replace hres:=hres.still hba2_2
 refine ⟨_,rfl,hSa2_2,?_⟩
 clear hba2_2
 (try simp only [pS])
 refine callH 8 (oN 17 (cF1 53 #[oT 15,oT 16] #[51,51]) 51 "curve.go:70" #[jD 6,jD 7,jC 5]) (k3 _) ?_
 (clear k3;rintro e wa2_3 ⟨rfl,hba2_3⟩)
 have hSa2_3:=hSa2_2.trans (Out.of_below hba2_3 l8)
 replace l8:=Nat.lt_of_lt_of_le l8 hba2_3.size
 replace hres:=hres.still hba2_3
 refine ⟨_,rfl,hSa2_3,?_⟩
 clear hba2_3
 (try simp only [pS])
 refine callH 11 (oN 20 (cF1 53 #[oT 18,oT 19] #[51,51]) 51 "curve.go:70" #[jD 9,jD 10,jC 8]) (k4 _) ?_
 (clear k4;rintro e wa2_4 ⟨rfl,hba2_4⟩)
 have hSa2_4:=hSa2_3.trans (Out.of_below hba2_4 l8)
 replace l8:=Nat.lt_of_lt_of_le l8 hba2_4.size
 replace hres:=hres.still hba2_4
 refine ⟨_,rfl,hSa2_4,?_⟩
 clear hba2_4
 (try simp only [pS])
 refine tkH 12 (oN 21 (Op.build 53 #[(0,oT 11),(1,oT 14),(2,oT 17),(3,oT 20)]) 53 "curve.go:70" #[jD 2,jD 5,jD 8,jD 11]) (pV o1 o2 o3 o4) hSa2_4 (yields_build4 (by rfl) 53 _ _ _ _ rfl (numV o1) (numV o2) (numV o3) (numV o4) rfl rfl rfl rfl _ (builtP4 _ _ _ _)) ?_
 (try simp only [pS])
 refine wpAnyH_ready (rs:=[13]) (by kernel_rfl) (by simp) ?_
 refine AllReadyH.cons (o:=qa2x13) rfl (fun K hK => ?_) (AllReadyH.nil)
 unfold qa2x13
 rw [if_pos (by rfl)]
 refine wp_store_mid 53 _ _ rfl g8 0 (p16 o1 o2 o3 o4).toArray rfl rfl (thr16 hres _ _ _ _) (info16A _ _ _ _) (one16 _ _ _ _) ?_
 have hSa2_5:=hSa2_4.trans (Out.setCells (b:=g8) (o:=0) (n:=16) wa2_4 (p16 o1 o2 o3 o4) (Nat.le_refl _) (by rw [p16_len];exact Nat.le_refl _))
 replace hres:=hres.stored (p16 o1 o2 o3 o4) (p16_same _ _ _ _ _ _ _ _)
 obtain ⟨wa2_5,hwa2_5⟩:∃ W,wa2_4.setCells g8 0 (p16 o1 o2 o3 o4)=W:=⟨_,rfl⟩
 rw [hwa2_5] at hres
 rw [hwa2_5] at hSa2_5
 rw [show wa2_4.setCells g8 0 (p16 o1 o2 o3 o4).toArray.toList=wa2_5 from hwa2_5]
 refine hK.out _ _ hSa2_5 (fun h => ?_)
 clear h hK K hwa2_5
 (try dsimp only [Act.put])
 refine wpAnyH_done (by kernel_rfl) ?_ _
 refine NoPanic.normal ?_
 have fin:=(hbW.trans (hdrew.mono hbW.size)).trans (hSa2_5.below w8 (Nat.le_trans hbW.size hdrew.size))
 go_wp2
 exact bodyPost_ret (results_cell_mid Tryz.results106 _ _ g8 0 (p16 o1 o2 o3 o4) _ rfl hres.range Tryz.underlying53 rfl (info16 _ _ _ _)) rfl ⟨rfl,fin⟩
theorem quot_any (a b c d:Nat) (ha:a<pF) (hb:b<pF) (hc:c<pF) (hd:d<pF) (w:World):Calls Tryz.prog 106 #[numV a,numV b,numV c,numV d] w fun e w'=>e = .returned (pV (fmul a d) (fmul c b) (fmul b d) (fmul a c))∧Below w.heap.size w w' :=
 quot_raw a b c d _ _ _ _ (fun W=>times_any a d ha hd W) (fun W=>times_any c b hc hb W) (fun W=>times_any b d hb hd W) (fun W=>times_any a c ha hc W) w
end Go.Proofs.YtdgkmloabificaaGreatDoor
namespace Go.Proofs.YtdgkmloabificaaGreatDoor
open Go.RowKit
abbrev qw1x20:Oper:=oS (Op.store 51 (oT 5) (oT 22)) "curve.go:62" #[jD 17,jD 14,jC 19,jP 0,jP 1,jP 2,jP 3,jP 4,jP 5,jP 6,jP 7,jP 8,jP 9,jP 10,jP 11,jP 12,jP 13,jP 14,jP 15,jP 16,jP 17,jP 18,jP 19]
abbrev qw1x19:Oper:=oS (Op.store 51 (oT 4) (oT 17)) "curve.go:62" #[jD 16,jD 9,jC 18,jP 0,jP 1,jP 2,jP 3,jP 4,jP 5,jP 6,jP 7,jP 8,jP 9,jT 10,jT 11,jT 12,jT 13,jU 14,jP 15,jP 16,jP 17,jP 18]
abbrev qw1x18:Oper:=oS (Op.store 51 (oT 3) (oT 12)) "curve.go:62" #[jD 15,jD 4,jC 14,jP 0,jP 1,jP 2,jP 3,jP 4,jT 5,jT 6,jT 7,jT 8,jU 9,jT 10,jT 11,jT 12,jT 13,jU 14,jP 15,jP 16,jP 17]
abbrev qw1x17:Oper:=oN 5 (Op.alloc 51) 0 "curve.go:62" #[]
abbrev qw1x16:Oper:=oN 4 (Op.alloc 51) 0 "curve.go:62" #[]
abbrev qw1x15:Oper:=oN 3 (Op.alloc 51) 0 "curve.go:62" #[]
abbrev qw1x14:Oper:=oN 22 (cF1 53 #[oT 19,oT 21] #[51,51]) 51 "curve.go:62" #[jD 11,jD 13,jC 9]
abbrev qw1x9:Oper:=oN 17 (cF1 53 #[oT 14,oT 16] #[51,51]) 51 "curve.go:62" #[jD 6,jD 8,jC 4]
abbrev qw1x4:Oper:=oN 12 (cF1 53 #[oT 9,oT 11] #[51,51]) 51 "curve.go:62" #[jD 1,jD 3]
abbrev qw4x13:Oper:=oS (Op.store 53 (oT 2) (oT 43)) "curve.go:65" #[jD 12,jC 12,jP 0,jP 1,jP 2,jP 3,jP 4,jP 5,jP 6,jP 7,jP 8,jP 9,jP 10,jP 11,jP 12]
set_option maxRecDepth 20000 in
set_option maxHeartbeats 16000000 in
theorem twice_raw (x y z t xx yy zz xy pl qa qc z2 qd o1 o2 o3 o4:Nat)
 (k1:∀ W,Calls Tryz.prog 53 #[numV x,numV x] W fun e w'=>e = .returned (numV xx)∧Below W.heap.size W w')
 (k2:∀ W,Calls Tryz.prog 53 #[numV y,numV y] W fun e w'=>e = .returned (numV yy)∧Below W.heap.size W w')
 (k3:∀ W,Calls Tryz.prog 53 #[numV z,numV z] W fun e w'=>e = .returned (numV zz)∧Below W.heap.size W w')
 (k4:∀ W,Calls Tryz.prog 53 #[numV x,numV y] W fun e w'=>e = .returned (numV xy)∧Below W.heap.size W w')
 (k5:∀ W,Calls Tryz.prog 63 #[numV yy,numV xx] W fun e w'=>e = .returned (numV pl)∧Below W.heap.size W w')
 (k6:∀ W,Calls Tryz.prog 104 #[numV xy,numV xy] W fun e w'=>e = .returned (numV qa)∧Below W.heap.size W w')
 (k7:∀ W,Calls Tryz.prog 104 #[numV yy,numV xx] W fun e w'=>e = .returned (numV qc)∧Below W.heap.size W w')
 (k8:∀ W,Calls Tryz.prog 104 #[numV zz,numV zz] W fun e w'=>e = .returned (numV z2)∧Below W.heap.size W w')
 (k9:∀ W,Calls Tryz.prog 63 #[numV z2,numV pl] W fun e w'=>e = .returned (numV qd)∧Below W.heap.size W w')
 (k10:∀ W,Calls Tryz.prog 106 #[numV qa,numV pl,numV qc,numV qd] W fun e w'=>e = .returned (pV o1 o2 o3 o4)∧Below W.heap.size W w')
 (w:World):Calls Tryz.prog 88 #[pV x y z t] w fun e w'=>e = .returned (pV o1 o2 o3 o4)∧Below w.heap.size w w':=by
 have hzp:=zeroP
 obtain ⟨V1,g1,eg1,hg1,bg1,hp⟩:∃ V g,w.alloc (.cells (p16 x y z t).toArray 53)=V∧w.heap.size=g∧Below w.heap.size w V∧RW V g 0 (p16 x y z t):=⟨_,_,rfl,rfl,(Below.refl _ _).alloc (Nat.le_refl _) _,RW.fresh w _ _⟩
 obtain ⟨W,g2,eg2,hg2,bg2,hres⟩:=fresh16 V1
 have t1:V1.heap.size=w.heap.size+1:=by rw [←eg1];simp
 have HW:Hid (W=(w.alloc (.cells (p16 x y z t).toArray 53)).alloc (.cells zP 53)):=Hid.mk' (by rw [←eg2,←eg1])
 have q1:Hid (w.heap.size=g1):=Hid.mk' hg1
 have q2:Hid (w.heap.size+1=g2):=Hid.mk' (by omega)
 replace hp:=hp.still bg2
 have hbW:Below w.heap.size w W:=bg1.trans (bg2.mono (by omega))
 have w2:w.heap.size≤g2:=by omega
 obtain ⟨hX,hY,hZ,hT⟩:=parts16 hp
 clear eg1 eg2 hg1 hg2 bg1 bg2 t1 hp V1
 rw [show pV x y z t = .agg (p16 x y z t).toArray from rfl]
 go_enter Tryz.func88,Tryz.ntmps88
 go_upto_region 1 with (fail)
 rw [←HW.out,q2.out,q1.out]
 clear HW q2 q1
 go_cut [3,4,5] from 8 (fun s3 s4 s5 wc=>∃ g3 g4 g5,s3 = .pointer (some ⟨g3,0,none⟩)∧s4 = .pointer (some ⟨g4,0,none⟩)∧s5 = .pointer (some ⟨g5,0,none⟩)∧Below W.heap.size W wc∧W.heap.size≤g3∧W.heap.size≤g4∧W.heap.size≤g5∧RW wc g3 0 (c4 xx)∧RW wc g4 0 (c4 yy)∧RW wc g5 0 (c4 zz))
 case first =>
  clear k4 k5 k6 k7 k8 k9 k10 hres hT hbW
  have hdrew:Below W.heap.size W W.drew:=(Below.refl _ _).drew
  replace hX:=hX.still hdrew
  replace hY:=hY.still hdrew
  replace hZ:=hZ.still hdrew
  refine wp_region_noPanic ?_
  refine wp_region_held_drew (S:=fun w'=>Below W.drew.heap.size W.drew w') (by kernel_rfl) (Below.refl _ _) (fun hS => ?_)
  generalize W.drew=Vw1_ at *
  refine tkH 0 (oN 8 (Op.fieldAddr 53 (oT 1) 0) 0 "curve.go:62" #[]) (pA g1 0) hS yR ?_
  (try simp only [pS])
  refine tkH 1 (oN 9 (Op.load 51 (oT 8)) 51 "curve.go:62" #[jD 0]) (numV x) hS (ldN hX 8) ?_
  (try simp only [pS])
  refine tkH 2 (oN 10 (Op.fieldAddr 53 (oT 1) 0) 0 "curve.go:62" #[]) (pA g1 0) hS yR ?_
  (try simp only [pS])
  refine tkH 3 (oN 11 (Op.load 51 (oT 10)) 51 "curve.go:62" #[jD 2]) (numV x) hS (ldN hX 10) ?_
  (try simp only [pS])
  refine tkH 5 (oN 13 (Op.fieldAddr 53 (oT 1) 1) 0 "curve.go:62" #[]) (pA g1 4) hS yR ?_
  (try simp only [pS])
  refine tkH 6 (oN 14 (Op.load 51 (oT 13)) 51 "curve.go:62" #[jD 5]) (numV y) hS (ldN hY 13) ?_
  (try simp only [pS])
  refine tkH 7 (oN 15 (Op.fieldAddr 53 (oT 1) 1) 0 "curve.go:62" #[]) (pA g1 4) hS yR ?_
  (try simp only [pS])
  refine tkH 8 (oN 16 (Op.load 51 (oT 15)) 51 "curve.go:62" #[jD 7]) (numV y) hS (ldN hY 15) ?_
  (try simp only [pS])
  refine tkH 10 (oN 18 (Op.fieldAddr 53 (oT 1) 2) 0 "curve.go:62" #[]) (pA g1 8) hS yR ?_
  (try simp only [pS])
  refine tkH 11 (oN 19 (Op.load 51 (oT 18)) 51 "curve.go:62" #[jD 10]) (numV z) hS (ldN hZ 18) ?_
  (try simp only [pS])
  refine tkH 12 (oN 20 (Op.fieldAddr 53 (oT 1) 2) 0 "curve.go:62" #[]) (pA g1 8) hS yR ?_
  (try simp only [pS])
  refine tkH 13 (oN 21 (Op.load 51 (oT 20)) 51 "curve.go:62" #[jD 12]) (numV z) hS (ldN hZ 20) ?_
  (try simp only [pS])
  refine dag_root (fun G hG0 => ?_)
  have hG:=Hid.mk' hG0
  clear hG0
  obtain ⟨F,hF0⟩:∃ F:Value→Value→Value→Value→Value→Value→Act,∀ v3 v4 v5 v12 v17 v22,F v3 v4 v5 v12 v17 v22={ tmps:=#[.agg (p16 x y z t).toArray,pA g1 0,pA g2 0,v3,v4,v5,undef,undef,pA g1 0,numV x,pA g1 0,numV x,v12,pA g1 4,numV y,pA g1 4,numV y,v17,pA g1 8,numV z,pA g1 8,numV z,v22,undef,undef,undef,undef,undef,undef,undef,undef,undef,undef,undef,undef,undef,undef,undef,undef,undef,undef,undef,undef,undef],defers:=[] }:=⟨_,fun _ _ _ _ _ _=>rfl⟩
  have hF:=Hid.mk' hF0
  clear hF0
  have stw1_0:Hid (∀ (cur:World) (g15 g16 g17:Nat),Below Vw1_.heap.size Vw1_ cur→RW cur g15 0 (c4 (xx))→RW cur g16 0 (c4 (yy))→RW cur g17 0 (c4 (zz))→Vw1_.heap.size≤g15→Vw1_.heap.size≤g16→Vw1_.heap.size≤g17→g15≠g16→g15≠g17→g16≠g17→G 0 #[true,true,true,true,true,true,true,true,true,true,true,true,true,true,true,true,true,true,true,true,true] (F (pA g15 0) (pA g16 0) (pA g17 0) (numV xx) (numV yy) (numV zz)) cur):=Hid.mk' (by
   intro cur g15 g16 g17 hS r15 r16 r17 G15 G16 G17 d15_16 d15_17 d16_17
   rw [hF.out,hG.out]
   refine wpAnyH_done (by kernel_rfl) ?_ _
   refine NoPanic.normal ?_
   go_wp2
   go_meet
   case rel=>exact ⟨g15,g16,g17,rfl,rfl,rfl,below_next hdrew hS,Nat.le_trans hdrew.size G15,Nat.le_trans hdrew.size G16,Nat.le_trans hdrew.size G17,r15,r16,r17⟩)
  have stw1_1:Hid (∀ (cur:World) (g15 g16 g17:Nat),Below Vw1_.heap.size Vw1_ cur→RW cur g15 0 (c4 (xx))→RW cur g16 0 (c4 (yy))→RW cur g17 0 (c4 (0))→Vw1_.heap.size≤g15→Vw1_.heap.size≤g16→Vw1_.heap.size≤g17→g15≠g16→g15≠g17→g16≠g17→G 1 #[true,true,true,true,true,true,true,true,true,true,true,true,true,true,true,true,true,true,true,true,false] (F (pA g15 0) (pA g16 0) (pA g17 0) (numV xx) (numV yy) (numV zz)) cur):=Hid.mk' (by
   intro cur g15 g16 g17 hS r15 r16 r17 G15 G16 G17 d15_16 d15_17 d16_17
   rw [hF.out,hG.out]
   refine wpAnyH_ready (rs:=[20]) (by kernel_rfl) (by simp) ?_
   refine arS qw1x20 5 22 (zz) r17 hS G17 (fun w1 rr hS1 far=>dagW hG (stw1_0.out w1 g15 g16 g17 hS1 (far _ _ _ d15_17 r15) (far _ _ _ d16_17 r16) rr G15 G16 G17 d15_16 d15_17 d16_17) (hF.out _ _ _ _ _ _)) ?_
   exact AllReadyH.nil)
  have stw1_2:Hid (∀ (cur:World) (g15 g16 g17:Nat),Below Vw1_.heap.size Vw1_ cur→RW cur g15 0 (c4 (xx))→RW cur g16 0 (c4 (0))→RW cur g17 0 (c4 (0))→Vw1_.heap.size≤g15→Vw1_.heap.size≤g16→Vw1_.heap.size≤g17→g15≠g16→g15≠g17→g16≠g17→G 2 #[true,true,true,true,true,true,true,true,true,true,true,true,true,true,true,true,true,true,true,false,false] (F (pA g15 0) (pA g16 0) (pA g17 0) (numV xx) (numV yy) (numV zz)) cur):=Hid.mk' (by
   intro cur g15 g16 g17 hS r15 r16 r17 G15 G16 G17 d15_16 d15_17 d16_17
   rw [hF.out,hG.out]
   clear stw1_0
   refine wpAnyH_ready (rs:=[19]) (by kernel_rfl) (by simp) ?_
   refine arS qw1x19 4 17 (yy) r16 hS G16 (fun w1 rr hS1 far=>dagW hG (stw1_1.out w1 g15 g16 g17 hS1 (far _ _ _ d15_16 r15) rr (far _ _ _ d16_17.symm r17) G15 G16 G17 d15_16 d15_17 d16_17) (hF.out _ _ _ _ _ _)) ?_
   exact AllReadyH.nil)
  have stw1_3:Hid (∀ (cur:World) (g15 g16 g17:Nat),Below Vw1_.heap.size Vw1_ cur→RW cur g15 0 (c4 (0))→RW cur g16 0 (c4 (0))→RW cur g17 0 (c4 (0))→Vw1_.heap.size≤g15→Vw1_.heap.size≤g16→Vw1_.heap.size≤g17→g15≠g16→g15≠g17→g16≠g17→G 3 #[true,true,true,true,true,true,true,true,true,true,true,true,true,true,true,true,true,true,false,false,false] (F (pA g15 0) (pA g16 0) (pA g17 0) (numV xx) (numV yy) (numV zz)) cur):=Hid.mk' (by
   intro cur g15 g16 g17 hS r15 r16 r17 G15 G16 G17 d15_16 d15_17 d16_17
   rw [hF.out,hG.out]
   clear stw1_0 stw1_1
   refine wpAnyH_ready (rs:=[18]) (by kernel_rfl) (by simp) ?_
   refine arS qw1x18 3 12 (xx) r15 hS G15 (fun w1 rr hS1 far=>dagW hG (stw1_2.out w1 g15 g16 g17 hS1 rr (far _ _ _ d15_16.symm r16) (far _ _ _ d15_17.symm r17) G15 G16 G17 d15_16 d15_17 d16_17) (hF.out _ _ _ _ _ _)) ?_
   exact AllReadyH.nil)
  have stw1_4:Hid (∀ (cur:World) (g15 g16:Nat),Below Vw1_.heap.size Vw1_ cur→RW cur g15 0 (c4 (0))→RW cur g16 0 (c4 (0))→Vw1_.heap.size≤g15→Vw1_.heap.size≤g16→g15≠g16→G 4 #[true,true,true,true,true,true,true,true,true,true,true,true,true,true,true,true,true,false,false,false,false] (F (pA g15 0) (pA g16 0) undef (numV xx) (numV yy) (numV zz)) cur):=Hid.mk' (by
   intro cur g15 g16 hS r15 r16 G15 G16 d15_16
   rw [hF.out,hG.out]
   clear stw1_0 stw1_1 stw1_2
   refine wpAnyH_ready (rs:=[17]) (by kernel_rfl) (by simp) ?_
   refine arN qw1x17 hS (fun w1 g17 G17 lg hb rr hS1=>dagW hG (stw1_3.out w1 g15 g16 g17 hS1 (r15.still hb) (r16.still hb) rr G15 G16 G17 d15_16 (ne_l r15 lg) (ne_l r16 lg)) (hF.out _ _ _ _ _ _)) ?_
   exact AllReadyH.nil)
  have stw1_5:Hid (∀ (cur:World) (g15 g17:Nat),Below Vw1_.heap.size Vw1_ cur→RW cur g15 0 (c4 (0))→RW cur g17 0 (c4 (0))→Vw1_.heap.size≤g15→Vw1_.heap.size≤g17→g15≠g17→G 4 #[true,true,true,true,true,true,true,true,true,true,true,true,true,true,true,true,false,true,false,false,false] (F (pA g15 0) undef (pA g17 0) (numV xx) (numV yy) (numV zz)) cur):=Hid.mk' (by
   intro cur g15 g17 hS r15 r17 G15 G17 d15_17
   rw [hF.out,hG.out]
   clear stw1_0 stw1_1 stw1_2 stw1_4
   refine wpAnyH_ready (rs:=[16]) (by kernel_rfl) (by simp) ?_
   refine arN qw1x16 hS (fun w1 g16 G16 lg hb rr hS1=>dagW hG (stw1_3.out w1 g15 g16 g17 hS1 (r15.still hb) rr (r17.still hb) G15 G16 G17 (ne_l r15 lg) d15_17 (ne_r r17 lg)) (hF.out _ _ _ _ _ _)) ?_
   exact AllReadyH.nil)
  have stw1_6:Hid (∀ (cur:World) (g15:Nat),Below Vw1_.heap.size Vw1_ cur→RW cur g15 0 (c4 (0))→Vw1_.heap.size≤g15→G 5 #[true,true,true,true,true,true,true,true,true,true,true,true,true,true,true,true,false,false,false,false,false] (F (pA g15 0) undef undef (numV xx) (numV yy) (numV zz)) cur):=Hid.mk' (by
   intro cur g15 hS r15 G15
   rw [hF.out,hG.out]
   clear stw1_0 stw1_1 stw1_2 stw1_3
   refine wpAnyH_ready (rs:=[16,17]) (by kernel_rfl) (by simp) ?_
   refine arN qw1x16 hS (fun w1 g16 G16 lg hb rr hS1=>dagW hG (stw1_4.out w1 g15 g16 hS1 (r15.still hb) rr G15 G16 (ne_l r15 lg)) (hF.out _ _ _ _ _ _)) ?_
   refine arN qw1x17 hS (fun w1 g17 G17 lg hb rr hS1=>dagW hG (stw1_5.out w1 g15 g17 hS1 (r15.still hb) rr G15 G17 (ne_l r15 lg)) (hF.out _ _ _ _ _ _)) ?_
   exact AllReadyH.nil)
  have stw1_7:Hid (∀ (cur:World) (g16 g17:Nat),Below Vw1_.heap.size Vw1_ cur→RW cur g16 0 (c4 (0))→RW cur g17 0 (c4 (0))→Vw1_.heap.size≤g16→Vw1_.heap.size≤g17→g16≠g17→G 4 #[true,true,true,true,true,true,true,true,true,true,true,true,true,true,true,false,true,true,false,false,false] (F undef (pA g16 0) (pA g17 0) (numV xx) (numV yy) (numV zz)) cur):=Hid.mk' (by
   intro cur g16 g17 hS r16 r17 G16 G17 d16_17
   rw [hF.out,hG.out]
   clear stw1_0 stw1_1 stw1_2 stw1_4 stw1_5 stw1_6
   refine wpAnyH_ready (rs:=[15]) (by kernel_rfl) (by simp) ?_
   refine arN qw1x15 hS (fun w1 g15 G15 lg hb rr hS1=>dagW hG (stw1_3.out w1 g15 g16 g17 hS1 rr (r16.still hb) (r17.still hb) G15 G16 G17 (ne_r r16 lg) (ne_r r17 lg) d16_17) (hF.out _ _ _ _ _ _)) ?_
   exact AllReadyH.nil)
  have stw1_8:Hid (∀ (cur:World) (g16:Nat),Below Vw1_.heap.size Vw1_ cur→RW cur g16 0 (c4 (0))→Vw1_.heap.size≤g16→G 5 #[true,true,true,true,true,true,true,true,true,true,true,true,true,true,true,false,true,false,false,false,false] (F undef (pA g16 0) undef (numV xx) (numV yy) (numV zz)) cur):=Hid.mk' (by
   intro cur g16 hS r16 G16
   rw [hF.out,hG.out]
   clear stw1_0 stw1_1 stw1_2 stw1_3 stw1_5 stw1_6
   refine wpAnyH_ready (rs:=[15,17]) (by kernel_rfl) (by simp) ?_
   refine arN qw1x15 hS (fun w1 g15 G15 lg hb rr hS1=>dagW hG (stw1_4.out w1 g15 g16 hS1 rr (r16.still hb) G15 G16 (ne_r r16 lg)) (hF.out _ _ _ _ _ _)) ?_
   refine arN qw1x17 hS (fun w1 g17 G17 lg hb rr hS1=>dagW hG (stw1_7.out w1 g16 g17 hS1 (r16.still hb) rr G16 G17 (ne_l r16 lg)) (hF.out _ _ _ _ _ _)) ?_
   exact AllReadyH.nil)
  have stw1_9:Hid (∀ (cur:World) (g17:Nat),Below Vw1_.heap.size Vw1_ cur→RW cur g17 0 (c4 (0))→Vw1_.heap.size≤g17→G 5 #[true,true,true,true,true,true,true,true,true,true,true,true,true,true,true,false,false,true,false,false,false] (F undef undef (pA g17 0) (numV xx) (numV yy) (numV zz)) cur):=Hid.mk' (by
   intro cur g17 hS r17 G17
   rw [hF.out,hG.out]
   clear stw1_0 stw1_1 stw1_2 stw1_3 stw1_4 stw1_6 stw1_8
   refine wpAnyH_ready (rs:=[15,16]) (by kernel_rfl) (by simp) ?_
   refine arN qw1x15 hS (fun w1 g15 G15 lg hb rr hS1=>dagW hG (stw1_5.out w1 g15 g17 hS1 rr (r17.still hb) G15 G17 (ne_r r17 lg)) (hF.out _ _ _ _ _ _)) ?_
   refine arN qw1x16 hS (fun w1 g16 G16 lg hb rr hS1=>dagW hG (stw1_7.out w1 g16 g17 hS1 rr (r17.still hb) G16 G17 (ne_r r17 lg)) (hF.out _ _ _ _ _ _)) ?_
   exact AllReadyH.nil)
  have stw1_10:Hid (∀ (cur:World),Below Vw1_.heap.size Vw1_ cur→G 6 #[true,true,true,true,true,true,true,true,true,true,true,true,true,true,true,false,false,false,false,false,false] (F undef undef undef (numV xx) (numV yy) (numV zz)) cur):=Hid.mk' (by
   intro cur  hS 
   rw [hF.out,hG.out]
   clear stw1_0 stw1_1 stw1_2 stw1_3 stw1_4 stw1_5 stw1_7
   refine wpAnyH_ready (rs:=[15,16,17]) (by kernel_rfl) (by simp) ?_
   refine arN qw1x15 hS (fun w1 g15 G15 lg hb rr hS1=>dagW hG (stw1_6.out w1 g15 hS1 rr G15) (hF.out _ _ _ _ _ _)) ?_
   refine arN qw1x16 hS (fun w1 g16 G16 lg hb rr hS1=>dagW hG (stw1_8.out w1 g16 hS1 rr G16) (hF.out _ _ _ _ _ _)) ?_
   refine arN qw1x17 hS (fun w1 g17 G17 lg hb rr hS1=>dagW hG (stw1_9.out w1 g17 hS1 rr G17) (hF.out _ _ _ _ _ _)) ?_
   exact AllReadyH.nil)
  have stw1_11:Hid (∀ (cur:World) (g15 g16 g17:Nat),Below Vw1_.heap.size Vw1_ cur→RW cur g15 0 (c4 (0))→RW cur g16 0 (c4 (0))→RW cur g17 0 (c4 (0))→Vw1_.heap.size≤g15→Vw1_.heap.size≤g16→Vw1_.heap.size≤g17→g15≠g16→g15≠g17→g16≠g17→G 4 #[true,true,true,true,true,true,true,true,true,true,true,true,true,true,false,true,true,true,false,false,false] (F (pA g15 0) (pA g16 0) (pA g17 0) (numV xx) (numV yy) undef) cur):=Hid.mk' (by
   intro cur g15 g16 g17 hS r15 r16 r17 G15 G16 G17 d15_16 d15_17 d16_17
   rw [hF.out,hG.out]
   clear stw1_0 stw1_1 stw1_2 stw1_4 stw1_5 stw1_6 stw1_7 stw1_8 stw1_9 stw1_10
   refine wpAnyH_ready (rs:=[14]) (by kernel_rfl) (by simp) ?_
   refine arC qw1x14 (k3 _) (fun e w1 ⟨he,hb⟩=>⟨_,he,below_next hS hb,dagW hG (stw1_3.out w1 g15 g16 g17 (below_next hS hb) (r15.still hb) (r16.still hb) (r17.still hb) G15 G16 G17 d15_16 d15_17 d16_17) (hF.out _ _ _ _ _ _)⟩) ?_
   exact AllReadyH.nil)
  have stw1_12:Hid (∀ (cur:World) (g15 g16:Nat),Below Vw1_.heap.size Vw1_ cur→RW cur g15 0 (c4 (0))→RW cur g16 0 (c4 (0))→Vw1_.heap.size≤g15→Vw1_.heap.size≤g16→g15≠g16→G 5 #[true,true,true,true,true,true,true,true,true,true,true,true,true,true,false,true,true,false,false,false,false] (F (pA g15 0) (pA g16 0) undef (numV xx) (numV yy) undef) cur):=Hid.mk' (by
   intro cur g15 g16 hS r15 r16 G15 G16 d15_16
   rw [hF.out,hG.out]
   clear stw1_0 stw1_1 stw1_2 stw1_3 stw1_5 stw1_6 stw1_7 stw1_8 stw1_9 stw1_10
   refine wpAnyH_ready (rs:=[14,17]) (by kernel_rfl) (by simp) ?_
   refine arC qw1x14 (k3 _) (fun e w1 ⟨he,hb⟩=>⟨_,he,below_next hS hb,dagW hG (stw1_4.out w1 g15 g16 (below_next hS hb) (r15.still hb) (r16.still hb) G15 G16 d15_16) (hF.out _ _ _ _ _ _)⟩) ?_
   refine arN qw1x17 hS (fun w1 g17 G17 lg hb rr hS1=>dagW hG (stw1_11.out w1 g15 g16 g17 hS1 (r15.still hb) (r16.still hb) rr G15 G16 G17 d15_16 (ne_l r15 lg) (ne_l r16 lg)) (hF.out _ _ _ _ _ _)) ?_
   exact AllReadyH.nil)
  have stw1_13:Hid (∀ (cur:World) (g15 g17:Nat),Below Vw1_.heap.size Vw1_ cur→RW cur g15 0 (c4 (0))→RW cur g17 0 (c4 (0))→Vw1_.heap.size≤g15→Vw1_.heap.size≤g17→g15≠g17→G 5 #[true,true,true,true,true,true,true,true,true,true,true,true,true,true,false,true,false,true,false,false,false] (F (pA g15 0) undef (pA g17 0) (numV xx) (numV yy) undef) cur):=Hid.mk' (by
   intro cur g15 g17 hS r15 r17 G15 G17 d15_17
   rw [hF.out,hG.out]
   clear stw1_0 stw1_1 stw1_2 stw1_3 stw1_4 stw1_6 stw1_7 stw1_8 stw1_9 stw1_10 stw1_12
   refine wpAnyH_ready (rs:=[14,16]) (by kernel_rfl) (by simp) ?_
   refine arC qw1x14 (k3 _) (fun e w1 ⟨he,hb⟩=>⟨_,he,below_next hS hb,dagW hG (stw1_5.out w1 g15 g17 (below_next hS hb) (r15.still hb) (r17.still hb) G15 G17 d15_17) (hF.out _ _ _ _ _ _)⟩) ?_
   refine arN qw1x16 hS (fun w1 g16 G16 lg hb rr hS1=>dagW hG (stw1_11.out w1 g15 g16 g17 hS1 (r15.still hb) rr (r17.still hb) G15 G16 G17 (ne_l r15 lg) d15_17 (ne_r r17 lg)) (hF.out _ _ _ _ _ _)) ?_
   exact AllReadyH.nil)
  have stw1_14:Hid (∀ (cur:World) (g15:Nat),Below Vw1_.heap.size Vw1_ cur→RW cur g15 0 (c4 (0))→Vw1_.heap.size≤g15→G 6 #[true,true,true,true,true,true,true,true,true,true,true,true,true,true,false,true,false,false,false,false,false] (F (pA g15 0) undef undef (numV xx) (numV yy) undef) cur):=Hid.mk' (by
   intro cur g15 hS r15 G15
   rw [hF.out,hG.out]
   clear stw1_0 stw1_1 stw1_2 stw1_3 stw1_4 stw1_5 stw1_7 stw1_8 stw1_9 stw1_10 stw1_11
   refine wpAnyH_ready (rs:=[14,16,17]) (by kernel_rfl) (by simp) ?_
   refine arC qw1x14 (k3 _) (fun e w1 ⟨he,hb⟩=>⟨_,he,below_next hS hb,dagW hG (stw1_6.out w1 g15 (below_next hS hb) (r15.still hb) G15) (hF.out _ _ _ _ _ _)⟩) ?_
   refine arN qw1x16 hS (fun w1 g16 G16 lg hb rr hS1=>dagW hG (stw1_12.out w1 g15 g16 hS1 (r15.still hb) rr G15 G16 (ne_l r15 lg)) (hF.out _ _ _ _ _ _)) ?_
   refine arN qw1x17 hS (fun w1 g17 G17 lg hb rr hS1=>dagW hG (stw1_13.out w1 g15 g17 hS1 (r15.still hb) rr G15 G17 (ne_l r15 lg)) (hF.out _ _ _ _ _ _)) ?_
   exact AllReadyH.nil)
  have stw1_15:Hid (∀ (cur:World) (g16 g17:Nat),Below Vw1_.heap.size Vw1_ cur→RW cur g16 0 (c4 (0))→RW cur g17 0 (c4 (0))→Vw1_.heap.size≤g16→Vw1_.heap.size≤g17→g16≠g17→G 5 #[true,true,true,true,true,true,true,true,true,true,true,true,true,true,false,false,true,true,false,false,false] (F undef (pA g16 0) (pA g17 0) (numV xx) (numV yy) undef) cur):=Hid.mk' (by
   intro cur g16 g17 hS r16 r17 G16 G17 d16_17
   rw [hF.out,hG.out]
   clear stw1_0 stw1_1 stw1_2 stw1_3 stw1_4 stw1_5 stw1_6 stw1_8 stw1_9 stw1_10 stw1_12 stw1_13 stw1_14
   refine wpAnyH_ready (rs:=[14,15]) (by kernel_rfl) (by simp) ?_
   refine arC qw1x14 (k3 _) (fun e w1 ⟨he,hb⟩=>⟨_,he,below_next hS hb,dagW hG (stw1_7.out w1 g16 g17 (below_next hS hb) (r16.still hb) (r17.still hb) G16 G17 d16_17) (hF.out _ _ _ _ _ _)⟩) ?_
   refine arN qw1x15 hS (fun w1 g15 G15 lg hb rr hS1=>dagW hG (stw1_11.out w1 g15 g16 g17 hS1 rr (r16.still hb) (r17.still hb) G15 G16 G17 (ne_r r16 lg) (ne_r r17 lg) d16_17) (hF.out _ _ _ _ _ _)) ?_
   exact AllReadyH.nil)
  have stw1_16:Hid (∀ (cur:World) (g16:Nat),Below Vw1_.heap.size Vw1_ cur→RW cur g16 0 (c4 (0))→Vw1_.heap.size≤g16→G 6 #[true,true,true,true,true,true,true,true,true,true,true,true,true,true,false,false,true,false,false,false,false] (F undef (pA g16 0) undef (numV xx) (numV yy) undef) cur):=Hid.mk' (by
   intro cur g16 hS r16 G16
   rw [hF.out,hG.out]
   clear stw1_0 stw1_1 stw1_2 stw1_3 stw1_4 stw1_5 stw1_6 stw1_7 stw1_9 stw1_10 stw1_11 stw1_13 stw1_14
   refine wpAnyH_ready (rs:=[14,15,17]) (by kernel_rfl) (by simp) ?_
   refine arC qw1x14 (k3 _) (fun e w1 ⟨he,hb⟩=>⟨_,he,below_next hS hb,dagW hG (stw1_8.out w1 g16 (below_next hS hb) (r16.still hb) G16) (hF.out _ _ _ _ _ _)⟩) ?_
   refine arN qw1x15 hS (fun w1 g15 G15 lg hb rr hS1=>dagW hG (stw1_12.out w1 g15 g16 hS1 rr (r16.still hb) G15 G16 (ne_r r16 lg)) (hF.out _ _ _ _ _ _)) ?_
   refine arN qw1x17 hS (fun w1 g17 G17 lg hb rr hS1=>dagW hG (stw1_15.out w1 g16 g17 hS1 (r16.still hb) rr G16 G17 (ne_l r16 lg)) (hF.out _ _ _ _ _ _)) ?_
   exact AllReadyH.nil)
  have stw1_17:Hid (∀ (cur:World) (g17:Nat),Below Vw1_.heap.size Vw1_ cur→RW cur g17 0 (c4 (0))→Vw1_.heap.size≤g17→G 6 #[true,true,true,true,true,true,true,true,true,true,true,true,true,true,false,false,false,true,false,false,false] (F undef undef (pA g17 0) (numV xx) (numV yy) undef) cur):=Hid.mk' (by
   intro cur g17 hS r17 G17
   rw [hF.out,hG.out]
   clear stw1_0 stw1_1 stw1_2 stw1_3 stw1_4 stw1_5 stw1_6 stw1_7 stw1_8 stw1_10 stw1_11 stw1_12 stw1_14 stw1_16
   refine wpAnyH_ready (rs:=[14,15,16]) (by kernel_rfl) (by simp) ?_
   refine arC qw1x14 (k3 _) (fun e w1 ⟨he,hb⟩=>⟨_,he,below_next hS hb,dagW hG (stw1_9.out w1 g17 (below_next hS hb) (r17.still hb) G17) (hF.out _ _ _ _ _ _)⟩) ?_
   refine arN qw1x15 hS (fun w1 g15 G15 lg hb rr hS1=>dagW hG (stw1_13.out w1 g15 g17 hS1 rr (r17.still hb) G15 G17 (ne_r r17 lg)) (hF.out _ _ _ _ _ _)) ?_
   refine arN qw1x16 hS (fun w1 g16 G16 lg hb rr hS1=>dagW hG (stw1_15.out w1 g16 g17 hS1 rr (r17.still hb) G16 G17 (ne_r r17 lg)) (hF.out _ _ _ _ _ _)) ?_
   exact AllReadyH.nil)
  have stw1_18:Hid (∀ (cur:World),Below Vw1_.heap.size Vw1_ cur→G 7 #[true,true,true,true,true,true,true,true,true,true,true,true,true,true,false,false,false,false,false,false,false] (F undef undef undef (numV xx) (numV yy) undef) cur):=Hid.mk' (by
   intro cur  hS 
   rw [hF.out,hG.out]
   clear stw1_0 stw1_1 stw1_2 stw1_3 stw1_4 stw1_5 stw1_6 stw1_7 stw1_8 stw1_9 stw1_11 stw1_12 stw1_13 stw1_15
   refine wpAnyH_ready (rs:=[14,15,16,17]) (by kernel_rfl) (by simp) ?_
   refine arC qw1x14 (k3 _) (fun e w1 ⟨he,hb⟩=>⟨_,he,below_next hS hb,dagW hG (stw1_10.out w1  (below_next hS hb) ) (hF.out _ _ _ _ _ _)⟩) ?_
   refine arN qw1x15 hS (fun w1 g15 G15 lg hb rr hS1=>dagW hG (stw1_14.out w1 g15 hS1 rr G15) (hF.out _ _ _ _ _ _)) ?_
   refine arN qw1x16 hS (fun w1 g16 G16 lg hb rr hS1=>dagW hG (stw1_16.out w1 g16 hS1 rr G16) (hF.out _ _ _ _ _ _)) ?_
   refine arN qw1x17 hS (fun w1 g17 G17 lg hb rr hS1=>dagW hG (stw1_17.out w1 g17 hS1 rr G17) (hF.out _ _ _ _ _ _)) ?_
   exact AllReadyH.nil)
  have stw1_19:Hid (∀ (cur:World) (g15 g16 g17:Nat),Below Vw1_.heap.size Vw1_ cur→RW cur g15 0 (c4 (0))→RW cur g16 0 (c4 (0))→RW cur g17 0 (c4 (0))→Vw1_.heap.size≤g15→Vw1_.heap.size≤g16→Vw1_.heap.size≤g17→g15≠g16→g15≠g17→g16≠g17→G 5 #[true,true,true,true,true,true,true,true,true,false,true,true,true,true,false,true,true,true,false,false,false] (F (pA g15 0) (pA g16 0) (pA g17 0) (numV xx) undef undef) cur):=Hid.mk' (by
   intro cur g15 g16 g17 hS r15 r16 r17 G15 G16 G17 d15_16 d15_17 d16_17
   rw [hF.out,hG.out]
   clear stw1_0 stw1_1 stw1_2 stw1_3 stw1_4 stw1_5 stw1_6 stw1_7 stw1_8 stw1_9 stw1_10 stw1_12 stw1_13 stw1_14 stw1_15 stw1_16 stw1_17 stw1_18
   refine wpAnyH_ready (rs:=[9]) (by kernel_rfl) (by simp) ?_
   refine arC qw1x9 (k2 _) (fun e w1 ⟨he,hb⟩=>⟨_,he,below_next hS hb,dagW hG (stw1_11.out w1 g15 g16 g17 (below_next hS hb) (r15.still hb) (r16.still hb) (r17.still hb) G15 G16 G17 d15_16 d15_17 d16_17) (hF.out _ _ _ _ _ _)⟩) ?_
   exact AllReadyH.nil)
  have stw1_20:Hid (∀ (cur:World) (g15 g16:Nat),Below Vw1_.heap.size Vw1_ cur→RW cur g15 0 (c4 (0))→RW cur g16 0 (c4 (0))→Vw1_.heap.size≤g15→Vw1_.heap.size≤g16→g15≠g16→G 6 #[true,true,true,true,true,true,true,true,true,false,true,true,true,true,false,true,true,false,false,false,false] (F (pA g15 0) (pA g16 0) undef (numV xx) undef undef) cur):=Hid.mk' (by
   intro cur g15 g16 hS r15 r16 G15 G16 d15_16
   rw [hF.out,hG.out]
   clear stw1_0 stw1_1 stw1_2 stw1_3 stw1_4 stw1_5 stw1_6 stw1_7 stw1_8 stw1_9 stw1_10 stw1_11 stw1_13 stw1_14 stw1_15 stw1_16 stw1_17 stw1_18
   refine wpAnyH_ready (rs:=[9,17]) (by kernel_rfl) (by simp) ?_
   refine arC qw1x9 (k2 _) (fun e w1 ⟨he,hb⟩=>⟨_,he,below_next hS hb,dagW hG (stw1_12.out w1 g15 g16 (below_next hS hb) (r15.still hb) (r16.still hb) G15 G16 d15_16) (hF.out _ _ _ _ _ _)⟩) ?_
   refine arN qw1x17 hS (fun w1 g17 G17 lg hb rr hS1=>dagW hG (stw1_19.out w1 g15 g16 g17 hS1 (r15.still hb) (r16.still hb) rr G15 G16 G17 d15_16 (ne_l r15 lg) (ne_l r16 lg)) (hF.out _ _ _ _ _ _)) ?_
   exact AllReadyH.nil)
  have stw1_21:Hid (∀ (cur:World) (g15 g17:Nat),Below Vw1_.heap.size Vw1_ cur→RW cur g15 0 (c4 (0))→RW cur g17 0 (c4 (0))→Vw1_.heap.size≤g15→Vw1_.heap.size≤g17→g15≠g17→G 6 #[true,true,true,true,true,true,true,true,true,false,true,true,true,true,false,true,false,true,false,false,false] (F (pA g15 0) undef (pA g17 0) (numV xx) undef undef) cur):=Hid.mk' (by
   intro cur g15 g17 hS r15 r17 G15 G17 d15_17
   rw [hF.out,hG.out]
   clear stw1_0 stw1_1 stw1_2 stw1_3 stw1_4 stw1_5 stw1_6 stw1_7 stw1_8 stw1_9 stw1_10 stw1_11 stw1_12 stw1_14 stw1_15 stw1_16 stw1_17 stw1_18 stw1_20
   refine wpAnyH_ready (rs:=[9,16]) (by kernel_rfl) (by simp) ?_
   refine arC qw1x9 (k2 _) (fun e w1 ⟨he,hb⟩=>⟨_,he,below_next hS hb,dagW hG (stw1_13.out w1 g15 g17 (below_next hS hb) (r15.still hb) (r17.still hb) G15 G17 d15_17) (hF.out _ _ _ _ _ _)⟩) ?_
   refine arN qw1x16 hS (fun w1 g16 G16 lg hb rr hS1=>dagW hG (stw1_19.out w1 g15 g16 g17 hS1 (r15.still hb) rr (r17.still hb) G15 G16 G17 (ne_l r15 lg) d15_17 (ne_r r17 lg)) (hF.out _ _ _ _ _ _)) ?_
   exact AllReadyH.nil)
  have stw1_22:Hid (∀ (cur:World) (g15:Nat),Below Vw1_.heap.size Vw1_ cur→RW cur g15 0 (c4 (0))→Vw1_.heap.size≤g15→G 7 #[true,true,true,true,true,true,true,true,true,false,true,true,true,true,false,true,false,false,false,false,false] (F (pA g15 0) undef undef (numV xx) undef undef) cur):=Hid.mk' (by
   intro cur g15 hS r15 G15
   rw [hF.out,hG.out]
   clear stw1_0 stw1_1 stw1_2 stw1_3 stw1_4 stw1_5 stw1_6 stw1_7 stw1_8 stw1_9 stw1_10 stw1_11 stw1_12 stw1_13 stw1_15 stw1_16 stw1_17 stw1_18 stw1_19
   refine wpAnyH_ready (rs:=[9,16,17]) (by kernel_rfl) (by simp) ?_
   refine arC qw1x9 (k2 _) (fun e w1 ⟨he,hb⟩=>⟨_,he,below_next hS hb,dagW hG (stw1_14.out w1 g15 (below_next hS hb) (r15.still hb) G15) (hF.out _ _ _ _ _ _)⟩) ?_
   refine arN qw1x16 hS (fun w1 g16 G16 lg hb rr hS1=>dagW hG (stw1_20.out w1 g15 g16 hS1 (r15.still hb) rr G15 G16 (ne_l r15 lg)) (hF.out _ _ _ _ _ _)) ?_
   refine arN qw1x17 hS (fun w1 g17 G17 lg hb rr hS1=>dagW hG (stw1_21.out w1 g15 g17 hS1 (r15.still hb) rr G15 G17 (ne_l r15 lg)) (hF.out _ _ _ _ _ _)) ?_
   exact AllReadyH.nil)
  have stw1_23:Hid (∀ (cur:World) (g16 g17:Nat),Below Vw1_.heap.size Vw1_ cur→RW cur g16 0 (c4 (0))→RW cur g17 0 (c4 (0))→Vw1_.heap.size≤g16→Vw1_.heap.size≤g17→g16≠g17→G 6 #[true,true,true,true,true,true,true,true,true,false,true,true,true,true,false,false,true,true,false,false,false] (F undef (pA g16 0) (pA g17 0) (numV xx) undef undef) cur):=Hid.mk' (by
   intro cur g16 g17 hS r16 r17 G16 G17 d16_17
   rw [hF.out,hG.out]
   clear stw1_0 stw1_1 stw1_2 stw1_3 stw1_4 stw1_5 stw1_6 stw1_7 stw1_8 stw1_9 stw1_10 stw1_11 stw1_12 stw1_13 stw1_14 stw1_16 stw1_17 stw1_18 stw1_20 stw1_21 stw1_22
   refine wpAnyH_ready (rs:=[9,15]) (by kernel_rfl) (by simp) ?_
   refine arC qw1x9 (k2 _) (fun e w1 ⟨he,hb⟩=>⟨_,he,below_next hS hb,dagW hG (stw1_15.out w1 g16 g17 (below_next hS hb) (r16.still hb) (r17.still hb) G16 G17 d16_17) (hF.out _ _ _ _ _ _)⟩) ?_
   refine arN qw1x15 hS (fun w1 g15 G15 lg hb rr hS1=>dagW hG (stw1_19.out w1 g15 g16 g17 hS1 rr (r16.still hb) (r17.still hb) G15 G16 G17 (ne_r r16 lg) (ne_r r17 lg) d16_17) (hF.out _ _ _ _ _ _)) ?_
   exact AllReadyH.nil)
  have stw1_24:Hid (∀ (cur:World) (g16:Nat),Below Vw1_.heap.size Vw1_ cur→RW cur g16 0 (c4 (0))→Vw1_.heap.size≤g16→G 7 #[true,true,true,true,true,true,true,true,true,false,true,true,true,true,false,false,true,false,false,false,false] (F undef (pA g16 0) undef (numV xx) undef undef) cur):=Hid.mk' (by
   intro cur g16 hS r16 G16
   rw [hF.out,hG.out]
   clear stw1_0 stw1_1 stw1_2 stw1_3 stw1_4 stw1_5 stw1_6 stw1_7 stw1_8 stw1_9 stw1_10 stw1_11 stw1_12 stw1_13 stw1_14 stw1_15 stw1_17 stw1_18 stw1_19 stw1_21 stw1_22
   refine wpAnyH_ready (rs:=[9,15,17]) (by kernel_rfl) (by simp) ?_
   refine arC qw1x9 (k2 _) (fun e w1 ⟨he,hb⟩=>⟨_,he,below_next hS hb,dagW hG (stw1_16.out w1 g16 (below_next hS hb) (r16.still hb) G16) (hF.out _ _ _ _ _ _)⟩) ?_
   refine arN qw1x15 hS (fun w1 g15 G15 lg hb rr hS1=>dagW hG (stw1_20.out w1 g15 g16 hS1 rr (r16.still hb) G15 G16 (ne_r r16 lg)) (hF.out _ _ _ _ _ _)) ?_
   refine arN qw1x17 hS (fun w1 g17 G17 lg hb rr hS1=>dagW hG (stw1_23.out w1 g16 g17 hS1 (r16.still hb) rr G16 G17 (ne_l r16 lg)) (hF.out _ _ _ _ _ _)) ?_
   exact AllReadyH.nil)
  have stw1_25:Hid (∀ (cur:World) (g17:Nat),Below Vw1_.heap.size Vw1_ cur→RW cur g17 0 (c4 (0))→Vw1_.heap.size≤g17→G 7 #[true,true,true,true,true,true,true,true,true,false,true,true,true,true,false,false,false,true,false,false,false] (F undef undef (pA g17 0) (numV xx) undef undef) cur):=Hid.mk' (by
   intro cur g17 hS r17 G17
   rw [hF.out,hG.out]
   clear stw1_0 stw1_1 stw1_2 stw1_3 stw1_4 stw1_5 stw1_6 stw1_7 stw1_8 stw1_9 stw1_10 stw1_11 stw1_12 stw1_13 stw1_14 stw1_15 stw1_16 stw1_18 stw1_19 stw1_20 stw1_22 stw1_24
   refine wpAnyH_ready (rs:=[9,15,16]) (by kernel_rfl) (by simp) ?_
   refine arC qw1x9 (k2 _) (fun e w1 ⟨he,hb⟩=>⟨_,he,below_next hS hb,dagW hG (stw1_17.out w1 g17 (below_next hS hb) (r17.still hb) G17) (hF.out _ _ _ _ _ _)⟩) ?_
   refine arN qw1x15 hS (fun w1 g15 G15 lg hb rr hS1=>dagW hG (stw1_21.out w1 g15 g17 hS1 rr (r17.still hb) G15 G17 (ne_r r17 lg)) (hF.out _ _ _ _ _ _)) ?_
   refine arN qw1x16 hS (fun w1 g16 G16 lg hb rr hS1=>dagW hG (stw1_23.out w1 g16 g17 hS1 rr (r17.still hb) G16 G17 (ne_r r17 lg)) (hF.out _ _ _ _ _ _)) ?_
   exact AllReadyH.nil)
  have stw1_26:Hid (∀ (cur:World),Below Vw1_.heap.size Vw1_ cur→G 8 #[true,true,true,true,true,true,true,true,true,false,true,true,true,true,false,false,false,false,false,false,false] (F undef undef undef (numV xx) undef undef) cur):=Hid.mk' (by
   intro cur  hS 
   rw [hF.out,hG.out]
   clear stw1_0 stw1_1 stw1_2 stw1_3 stw1_4 stw1_5 stw1_6 stw1_7 stw1_8 stw1_9 stw1_10 stw1_11 stw1_12 stw1_13 stw1_14 stw1_15 stw1_16 stw1_17 stw1_19 stw1_20 stw1_21 stw1_23
   refine wpAnyH_ready (rs:=[9,15,16,17]) (by kernel_rfl) (by simp) ?_
   refine arC qw1x9 (k2 _) (fun e w1 ⟨he,hb⟩=>⟨_,he,below_next hS hb,dagW hG (stw1_18.out w1  (below_next hS hb) ) (hF.out _ _ _ _ _ _)⟩) ?_
   refine arN qw1x15 hS (fun w1 g15 G15 lg hb rr hS1=>dagW hG (stw1_22.out w1 g15 hS1 rr G15) (hF.out _ _ _ _ _ _)) ?_
   refine arN qw1x16 hS (fun w1 g16 G16 lg hb rr hS1=>dagW hG (stw1_24.out w1 g16 hS1 rr G16) (hF.out _ _ _ _ _ _)) ?_
   refine arN qw1x17 hS (fun w1 g17 G17 lg hb rr hS1=>dagW hG (stw1_25.out w1 g17 hS1 rr G17) (hF.out _ _ _ _ _ _)) ?_
   exact AllReadyH.nil)
  have stw1_27:Hid (∀ (cur:World) (g15 g16 g17:Nat),Below Vw1_.heap.size Vw1_ cur→RW cur g15 0 (c4 (0))→RW cur g16 0 (c4 (0))→RW cur g17 0 (c4 (0))→Vw1_.heap.size≤g15→Vw1_.heap.size≤g16→Vw1_.heap.size≤g17→g15≠g16→g15≠g17→g16≠g17→G 6 #[true,true,true,true,false,true,true,true,true,false,true,true,true,true,false,true,true,true,false,false,false] (F (pA g15 0) (pA g16 0) (pA g17 0) undef undef undef) cur):=Hid.mk' (by
   intro cur g15 g16 g17 hS r15 r16 r17 G15 G16 G17 d15_16 d15_17 d16_17
   rw [hF.out,hG.out]
   clear stw1_0 stw1_1 stw1_2 stw1_3 stw1_4 stw1_5 stw1_6 stw1_7 stw1_8 stw1_9 stw1_10 stw1_11 stw1_12 stw1_13 stw1_14 stw1_15 stw1_16 stw1_17 stw1_18 stw1_20 stw1_21 stw1_22 stw1_23 stw1_24 stw1_25 stw1_26
   refine wpAnyH_ready (rs:=[4]) (by kernel_rfl) (by simp) ?_
   refine arC qw1x4 (k1 _) (fun e w1 ⟨he,hb⟩=>⟨_,he,below_next hS hb,dagW hG (stw1_19.out w1 g15 g16 g17 (below_next hS hb) (r15.still hb) (r16.still hb) (r17.still hb) G15 G16 G17 d15_16 d15_17 d16_17) (hF.out _ _ _ _ _ _)⟩) ?_
   exact AllReadyH.nil)
  have stw1_28:Hid (∀ (cur:World) (g15 g16:Nat),Below Vw1_.heap.size Vw1_ cur→RW cur g15 0 (c4 (0))→RW cur g16 0 (c4 (0))→Vw1_.heap.size≤g15→Vw1_.heap.size≤g16→g15≠g16→G 7 #[true,true,true,true,false,true,true,true,true,false,true,true,true,true,false,true,true,false,false,false,false] (F (pA g15 0) (pA g16 0) undef undef undef undef) cur):=Hid.mk' (by
   intro cur g15 g16 hS r15 r16 G15 G16 d15_16
   rw [hF.out,hG.out]
   clear stw1_0 stw1_1 stw1_2 stw1_3 stw1_4 stw1_5 stw1_6 stw1_7 stw1_8 stw1_9 stw1_10 stw1_11 stw1_12 stw1_13 stw1_14 stw1_15 stw1_16 stw1_17 stw1_18 stw1_19 stw1_21 stw1_22 stw1_23 stw1_24 stw1_25 stw1_26
   refine wpAnyH_ready (rs:=[4,17]) (by kernel_rfl) (by simp) ?_
   refine arC qw1x4 (k1 _) (fun e w1 ⟨he,hb⟩=>⟨_,he,below_next hS hb,dagW hG (stw1_20.out w1 g15 g16 (below_next hS hb) (r15.still hb) (r16.still hb) G15 G16 d15_16) (hF.out _ _ _ _ _ _)⟩) ?_
   refine arN qw1x17 hS (fun w1 g17 G17 lg hb rr hS1=>dagW hG (stw1_27.out w1 g15 g16 g17 hS1 (r15.still hb) (r16.still hb) rr G15 G16 G17 d15_16 (ne_l r15 lg) (ne_l r16 lg)) (hF.out _ _ _ _ _ _)) ?_
   exact AllReadyH.nil)
  have stw1_29:Hid (∀ (cur:World) (g15 g17:Nat),Below Vw1_.heap.size Vw1_ cur→RW cur g15 0 (c4 (0))→RW cur g17 0 (c4 (0))→Vw1_.heap.size≤g15→Vw1_.heap.size≤g17→g15≠g17→G 7 #[true,true,true,true,false,true,true,true,true,false,true,true,true,true,false,true,false,true,false,false,false] (F (pA g15 0) undef (pA g17 0) undef undef undef) cur):=Hid.mk' (by
   intro cur g15 g17 hS r15 r17 G15 G17 d15_17
   rw [hF.out,hG.out]
   clear stw1_0 stw1_1 stw1_2 stw1_3 stw1_4 stw1_5 stw1_6 stw1_7 stw1_8 stw1_9 stw1_10 stw1_11 stw1_12 stw1_13 stw1_14 stw1_15 stw1_16 stw1_17 stw1_18 stw1_19 stw1_20 stw1_22 stw1_23 stw1_24 stw1_25 stw1_26 stw1_28
   refine wpAnyH_ready (rs:=[4,16]) (by kernel_rfl) (by simp) ?_
   refine arC qw1x4 (k1 _) (fun e w1 ⟨he,hb⟩=>⟨_,he,below_next hS hb,dagW hG (stw1_21.out w1 g15 g17 (below_next hS hb) (r15.still hb) (r17.still hb) G15 G17 d15_17) (hF.out _ _ _ _ _ _)⟩) ?_
   refine arN qw1x16 hS (fun w1 g16 G16 lg hb rr hS1=>dagW hG (stw1_27.out w1 g15 g16 g17 hS1 (r15.still hb) rr (r17.still hb) G15 G16 G17 (ne_l r15 lg) d15_17 (ne_r r17 lg)) (hF.out _ _ _ _ _ _)) ?_
   exact AllReadyH.nil)
  have stw1_30:Hid (∀ (cur:World) (g15:Nat),Below Vw1_.heap.size Vw1_ cur→RW cur g15 0 (c4 (0))→Vw1_.heap.size≤g15→G 8 #[true,true,true,true,false,true,true,true,true,false,true,true,true,true,false,true,false,false,false,false,false] (F (pA g15 0) undef undef undef undef undef) cur):=Hid.mk' (by
   intro cur g15 hS r15 G15
   rw [hF.out,hG.out]
   clear stw1_0 stw1_1 stw1_2 stw1_3 stw1_4 stw1_5 stw1_6 stw1_7 stw1_8 stw1_9 stw1_10 stw1_11 stw1_12 stw1_13 stw1_14 stw1_15 stw1_16 stw1_17 stw1_18 stw1_19 stw1_20 stw1_21 stw1_23 stw1_24 stw1_25 stw1_26 stw1_27
   refine wpAnyH_ready (rs:=[4,16,17]) (by kernel_rfl) (by simp) ?_
   refine arC qw1x4 (k1 _) (fun e w1 ⟨he,hb⟩=>⟨_,he,below_next hS hb,dagW hG (stw1_22.out w1 g15 (below_next hS hb) (r15.still hb) G15) (hF.out _ _ _ _ _ _)⟩) ?_
   refine arN qw1x16 hS (fun w1 g16 G16 lg hb rr hS1=>dagW hG (stw1_28.out w1 g15 g16 hS1 (r15.still hb) rr G15 G16 (ne_l r15 lg)) (hF.out _ _ _ _ _ _)) ?_
   refine arN qw1x17 hS (fun w1 g17 G17 lg hb rr hS1=>dagW hG (stw1_29.out w1 g15 g17 hS1 (r15.still hb) rr G15 G17 (ne_l r15 lg)) (hF.out _ _ _ _ _ _)) ?_
   exact AllReadyH.nil)
  have stw1_31:Hid (∀ (cur:World) (g16 g17:Nat),Below Vw1_.heap.size Vw1_ cur→RW cur g16 0 (c4 (0))→RW cur g17 0 (c4 (0))→Vw1_.heap.size≤g16→Vw1_.heap.size≤g17→g16≠g17→G 7 #[true,true,true,true,false,true,true,true,true,false,true,true,true,true,false,false,true,true,false,false,false] (F undef (pA g16 0) (pA g17 0) undef undef undef) cur):=Hid.mk' (by
   intro cur g16 g17 hS r16 r17 G16 G17 d16_17
   rw [hF.out,hG.out]
   clear stw1_0 stw1_1 stw1_2 stw1_3 stw1_4 stw1_5 stw1_6 stw1_7 stw1_8 stw1_9 stw1_10 stw1_11 stw1_12 stw1_13 stw1_14 stw1_15 stw1_16 stw1_17 stw1_18 stw1_19 stw1_20 stw1_21 stw1_22 stw1_24 stw1_25 stw1_26 stw1_28 stw1_29 stw1_30
   refine wpAnyH_ready (rs:=[4,15]) (by kernel_rfl) (by simp) ?_
   refine arC qw1x4 (k1 _) (fun e w1 ⟨he,hb⟩=>⟨_,he,below_next hS hb,dagW hG (stw1_23.out w1 g16 g17 (below_next hS hb) (r16.still hb) (r17.still hb) G16 G17 d16_17) (hF.out _ _ _ _ _ _)⟩) ?_
   refine arN qw1x15 hS (fun w1 g15 G15 lg hb rr hS1=>dagW hG (stw1_27.out w1 g15 g16 g17 hS1 rr (r16.still hb) (r17.still hb) G15 G16 G17 (ne_r r16 lg) (ne_r r17 lg) d16_17) (hF.out _ _ _ _ _ _)) ?_
   exact AllReadyH.nil)
  have stw1_32:Hid (∀ (cur:World) (g16:Nat),Below Vw1_.heap.size Vw1_ cur→RW cur g16 0 (c4 (0))→Vw1_.heap.size≤g16→G 8 #[true,true,true,true,false,true,true,true,true,false,true,true,true,true,false,false,true,false,false,false,false] (F undef (pA g16 0) undef undef undef undef) cur):=Hid.mk' (by
   intro cur g16 hS r16 G16
   rw [hF.out,hG.out]
   clear stw1_0 stw1_1 stw1_2 stw1_3 stw1_4 stw1_5 stw1_6 stw1_7 stw1_8 stw1_9 stw1_10 stw1_11 stw1_12 stw1_13 stw1_14 stw1_15 stw1_16 stw1_17 stw1_18 stw1_19 stw1_20 stw1_21 stw1_22 stw1_23 stw1_25 stw1_26 stw1_27 stw1_29 stw1_30
   refine wpAnyH_ready (rs:=[4,15,17]) (by kernel_rfl) (by simp) ?_
   refine arC qw1x4 (k1 _) (fun e w1 ⟨he,hb⟩=>⟨_,he,below_next hS hb,dagW hG (stw1_24.out w1 g16 (below_next hS hb) (r16.still hb) G16) (hF.out _ _ _ _ _ _)⟩) ?_
   refine arN qw1x15 hS (fun w1 g15 G15 lg hb rr hS1=>dagW hG (stw1_28.out w1 g15 g16 hS1 rr (r16.still hb) G15 G16 (ne_r r16 lg)) (hF.out _ _ _ _ _ _)) ?_
   refine arN qw1x17 hS (fun w1 g17 G17 lg hb rr hS1=>dagW hG (stw1_31.out w1 g16 g17 hS1 (r16.still hb) rr G16 G17 (ne_l r16 lg)) (hF.out _ _ _ _ _ _)) ?_
   exact AllReadyH.nil)
  have stw1_33:Hid (∀ (cur:World) (g17:Nat),Below Vw1_.heap.size Vw1_ cur→RW cur g17 0 (c4 (0))→Vw1_.heap.size≤g17→G 8 #[true,true,true,true,false,true,true,true,true,false,true,true,true,true,false,false,false,true,false,false,false] (F undef undef (pA g17 0) undef undef undef) cur):=Hid.mk' (by
   intro cur g17 hS r17 G17
   rw [hF.out,hG.out]
   clear stw1_0 stw1_1 stw1_2 stw1_3 stw1_4 stw1_5 stw1_6 stw1_7 stw1_8 stw1_9 stw1_10 stw1_11 stw1_12 stw1_13 stw1_14 stw1_15 stw1_16 stw1_17 stw1_18 stw1_19 stw1_20 stw1_21 stw1_22 stw1_23 stw1_24 stw1_26 stw1_27 stw1_28 stw1_30 stw1_32
   refine wpAnyH_ready (rs:=[4,15,16]) (by kernel_rfl) (by simp) ?_
   refine arC qw1x4 (k1 _) (fun e w1 ⟨he,hb⟩=>⟨_,he,below_next hS hb,dagW hG (stw1_25.out w1 g17 (below_next hS hb) (r17.still hb) G17) (hF.out _ _ _ _ _ _)⟩) ?_
   refine arN qw1x15 hS (fun w1 g15 G15 lg hb rr hS1=>dagW hG (stw1_29.out w1 g15 g17 hS1 rr (r17.still hb) G15 G17 (ne_r r17 lg)) (hF.out _ _ _ _ _ _)) ?_
   refine arN qw1x16 hS (fun w1 g16 G16 lg hb rr hS1=>dagW hG (stw1_31.out w1 g16 g17 hS1 rr (r17.still hb) G16 G17 (ne_r r17 lg)) (hF.out _ _ _ _ _ _)) ?_
   exact AllReadyH.nil)
  have stw1_34:Hid (∀ (cur:World),Below Vw1_.heap.size Vw1_ cur→G 9 #[true,true,true,true,false,true,true,true,true,false,true,true,true,true,false,false,false,false,false,false,false] (F undef undef undef undef undef undef) cur):=Hid.mk' (by
   intro cur  hS 
   rw [hF.out,hG.out]
   clear stw1_0 stw1_1 stw1_2 stw1_3 stw1_4 stw1_5 stw1_6 stw1_7 stw1_8 stw1_9 stw1_10 stw1_11 stw1_12 stw1_13 stw1_14 stw1_15 stw1_16 stw1_17 stw1_18 stw1_19 stw1_20 stw1_21 stw1_22 stw1_23 stw1_24 stw1_25 stw1_27 stw1_28 stw1_29 stw1_31
   refine wpAnyH_ready (rs:=[4,15,16,17]) (by kernel_rfl) (by simp) ?_
   refine arC qw1x4 (k1 _) (fun e w1 ⟨he,hb⟩=>⟨_,he,below_next hS hb,dagW hG (stw1_26.out w1  (below_next hS hb) ) (hF.out _ _ _ _ _ _)⟩) ?_
   refine arN qw1x15 hS (fun w1 g15 G15 lg hb rr hS1=>dagW hG (stw1_30.out w1 g15 hS1 rr G15) (hF.out _ _ _ _ _ _)) ?_
   refine arN qw1x16 hS (fun w1 g16 G16 lg hb rr hS1=>dagW hG (stw1_32.out w1 g16 hS1 rr G16) (hF.out _ _ _ _ _ _)) ?_
   refine arN qw1x17 hS (fun w1 g17 G17 lg hb rr hS1=>dagW hG (stw1_33.out w1 g17 hS1 rr G17) (hF.out _ _ _ _ _ _)) ?_
   exact AllReadyH.nil)
  rw [hG.out]
  exact dagW hG (stw1_34.out Vw1_ hS) (hF.out _ _ _ _ _ _)
 case rest =>
 obtain ⟨g3,g4,g5,rfl,rfl,rfl,hb1,G3,G4,G5,h3,h4,h5⟩:=hcut
 have lt2:=hres.lt
 have n32:g3≠g2:=by omega
 have n42:g4≠g2:=by omega
 have n52:g5≠g2:=by omega
 replace hX:=hX.still hb1
 replace hY:=hY.still hb1
 replace hres:=hres.still hb1
 obtain ⟨U1,hU1⟩:∃ W,W=wc:=⟨_,rfl⟩
 rw [←hU1]
 rw [←hU1] at hX hY hres h3 h4 h5 hb1
 replace hbW:=below_next hbW hb1
 clear hU1 hb1 G3 G4 G5 lt2 hZ hT k1 k2 k3
 go_upto_region 2 with (fail)
 go_cut [6] from 8 (fun s6 wc=>∃ g,s6 = .pointer (some ⟨g,0,none⟩)∧Below U1.heap.size U1 wc∧U1.heap.size≤g∧RW wc g 0 (c4 xy))
 case first =>
  have r1:=hX.range
  have r2:=hY.range
  have kk:∀ W,Calls Tryz.prog 53 #[.agg (c4 x).toArray,.agg (c4 y).toArray] W fun e w'=>e = .returned (.agg (c4 xy).toArray)∧Below W.heap.size W w':=k4
  clear k4 k5 k6 k7 k8 k9 k10 hX hY hres h3 h4 h5 hbW hzp
  go_wp2_with (first
   | (refine wpList_load_mid rfl 51 _ rfl g1 0 rfl (c4 x) _ r1 Tryz.underlying51 rfl info4 ?_)
   | (refine wpList_load_mid rfl 51 _ rfl g1 4 rfl (c4 y) _ r2 Tryz.underlying51 rfl info4 ?_)
   | (go_at_call 53;refine (kk _).mono ?_;clear kk r1 r2;rintro e w9 ⟨rfl,hb9⟩;(have th:=fresh4' w9);(have th':=fresh4t w9 xy))
   | (with_reducible (refine id (?_:wpList _ _ _ _ _ _));refine wpList_store_mid rfl 51 _ _ rfl w9.heap.size 0 (c4 xy).toArray rfl rfl th' (info4a xy) (one4 xy) ?_))
  go_meet
  case rel=>exact ⟨w9.heap.size,rfl,below_setCells hb9.size _ _ _ (hb9.alloc hb9.size _),hb9.size,th.stored (c4 xy) rfl⟩
 case rest =>
 obtain ⟨g6,rfl,hb2,G2,h6⟩:=hcut
 have lt2:=hres.lt
 have n62:g6≠g2:=by omega
 replace hX:=hX.still hb2
 replace hY:=hY.still hb2
 replace hres:=hres.still hb2
 replace h3:=h3.still hb2
 replace h4:=h4.still hb2
 replace h5:=h5.still hb2
 obtain ⟨U2,hU2⟩:∃ W,W=wc:=⟨_,rfl⟩
 rw [←hU2]
 rw [←hU2] at hX hY hres h3 h4 h5 h6 hb2
 replace hbW:=below_next hbW hb2
 clear hU2 hb2 G2 lt2 k4 hX hY
 go_upto_region 3 with (fail)
 go_cut [7] from 8 (fun s7 wc=>∃ g,s7 = .pointer (some ⟨g,0,none⟩)∧Below U2.heap.size U2 wc∧U2.heap.size≤g∧RW wc g 0 (c4 pl))
 case first =>
  have r1:=h4.range
  have r2:=h3.range
  have kk:∀ W,Calls Tryz.prog 63 #[.agg (c4 yy).toArray,.agg (c4 xx).toArray] W fun e w'=>e = .returned (.agg (c4 pl).toArray)∧Below W.heap.size W w':=k5
  clear k5 k6 k7 k8 k9 k10 hres h3 h4 h5 h6 hbW hzp
  go_wp2_with (first
   | (refine wpList_load_mid rfl 51 _ rfl g4 0 rfl (c4 yy) _ r1 Tryz.underlying51 rfl info4 ?_)
   | (refine wpList_load_mid rfl 51 _ rfl g3 0 rfl (c4 xx) _ r2 Tryz.underlying51 rfl info4 ?_)
   | (go_at_call 63;refine (kk _).mono ?_;clear kk r1 r2;rintro e w9 ⟨rfl,hb9⟩;(have th:=fresh4' w9);(have th':=fresh4t w9 pl))
   | (with_reducible (refine id (?_:wpList _ _ _ _ _ _));refine wpList_store_mid rfl 51 _ _ rfl w9.heap.size 0 (c4 pl).toArray rfl rfl th' (info4a pl) (one4 pl) ?_))
  go_meet
  case rel=>exact ⟨w9.heap.size,rfl,below_setCells hb9.size _ _ _ (hb9.alloc hb9.size _),hb9.size,th.stored (c4 pl) rfl⟩
 case rest =>
 obtain ⟨g7,rfl,hb2,G2,h7⟩:=hcut
 have lt2:=hres.lt
 have n72:g7≠g2:=by omega
 replace hres:=hres.still hb2
 replace h3:=h3.still hb2
 replace h4:=h4.still hb2
 replace h5:=h5.still hb2
 replace h6:=h6.still hb2
 obtain ⟨U3,hU2⟩:∃ W,W=wc:=⟨_,rfl⟩
 rw [←hU2]
 rw [←hU2] at hres h3 h4 h5 h6 h7 hb2
 replace hbW:=below_next hbW hb2
 clear hU2 hb2 G2 lt2 k5 
 go_upto_region 4 with (fail)
 have l2:=hres.lt
 have hdrew:Below U3.heap.size U3 U3.drew:=(Below.refl _ _).drew
 replace hres:=hres.still hdrew
 replace h3:=h3.still hdrew
 replace h4:=h4.still hdrew
 replace h5:=h5.still hdrew
 replace h6:=h6.still hdrew
 replace h7:=h7.still hdrew
 refine wp_region_noPanic ?_
 replace l2:=Nat.lt_of_lt_of_le l2 hdrew.size
 refine wp_region_held_drew (S:=fun w'=>Out g2 0 16 U3.drew w') (by kernel_rfl) (Out.refl _ _ _ _) (fun hS => ?_)
 generalize U3.drew=Vw4_ at *
 refine tkH 0 (oN 31 (Op.load 51 (oT 6)) 51 "curve.go:65" #[]) (numV xy) hS (ldO h6 n62 51 6 Tryz.underlying51 info4) ?_
 (try simp only [pS])
 refine tkH 1 (oN 32 (Op.load 51 (oT 6)) 51 "curve.go:65" #[]) (numV xy) hS (ldO h6 n62 51 6 Tryz.underlying51 info4) ?_
 (try simp only [pS])
 refine tkH 3 (oN 34 (Op.load 51 (oT 7)) 51 "curve.go:65" #[]) (numV pl) hS (ldO h7 n72 51 7 Tryz.underlying51 info4) ?_
 (try simp only [pS])
 refine tkH 4 (oN 35 (Op.load 51 (oT 4)) 51 "curve.go:65" #[]) (numV yy) hS (ldO h4 n42 51 4 Tryz.underlying51 info4) ?_
 (try simp only [pS])
 refine tkH 5 (oN 36 (Op.load 51 (oT 3)) 51 "curve.go:65" #[]) (numV xx) hS (ldO h3 n32 51 3 Tryz.underlying51 info4) ?_
 (try simp only [pS])
 refine tkH 7 (oN 38 (Op.load 51 (oT 5)) 51 "curve.go:65" #[]) (numV zz) hS (ldO h5 n52 51 5 Tryz.underlying51 info4) ?_
 (try simp only [pS])
 refine tkH 8 (oN 39 (Op.load 51 (oT 5)) 51 "curve.go:65" #[]) (numV zz) hS (ldO h5 n52 51 5 Tryz.underlying51 info4) ?_
 (try simp only [pS])
 refine tkH 10 (oN 41 (Op.load 51 (oT 7)) 51 "curve.go:65" #[]) (numV pl) hS (ldO h7 n72 51 7 Tryz.underlying51 info4) ?_
 (try simp only [pS])
 refine callH 2 (oN 33 (cF1 104 #[oT 31,oT 32] #[51,51]) 51 "curve.go:65" #[jD 0,jD 1]) (k6 _) ?_
 (rintro e ww4_1 ⟨rfl,hbw4_1⟩)
 have hSw4_1:=hS.trans (Out.of_below hbw4_1 l2)
 replace l2:=Nat.lt_of_lt_of_le l2 hbw4_1.size
 replace hres:=hres.still hbw4_1
 refine ⟨_,rfl,hSw4_1,?_⟩
 clear hbw4_1
 (try simp only [pS])
 refine callH 6 (oN 37 (cF1 104 #[oT 35,oT 36] #[51,51]) 51 "curve.go:65" #[jD 4,jD 5,jC 2]) (k7 _) ?_
 (rintro e ww4_2 ⟨rfl,hbw4_2⟩)
 have hSw4_2:=hSw4_1.trans (Out.of_below hbw4_2 l2)
 replace l2:=Nat.lt_of_lt_of_le l2 hbw4_2.size
 replace hres:=hres.still hbw4_2
 refine ⟨_,rfl,hSw4_2,?_⟩
 clear hbw4_2
 (try simp only [pS])
 refine callH 9 (oN 40 (cF1 104 #[oT 38,oT 39] #[51,51]) 51 "curve.go:65" #[jD 7,jD 8,jC 6]) (k8 _) ?_
 (rintro e ww4_3 ⟨rfl,hbw4_3⟩)
 have hSw4_3:=hSw4_2.trans (Out.of_below hbw4_3 l2)
 replace l2:=Nat.lt_of_lt_of_le l2 hbw4_3.size
 replace hres:=hres.still hbw4_3
 refine ⟨_,rfl,hSw4_3,?_⟩
 clear hbw4_3
 (try simp only [pS])
 refine callH 11 (oN 42 (cF1 63 #[oT 40,oT 41] #[51,51]) 51 "curve.go:65" #[jD 9,jD 10,jC 9]) (k9 _) ?_
 (rintro e ww4_4 ⟨rfl,hbw4_4⟩)
 have hSw4_4:=hSw4_3.trans (Out.of_below hbw4_4 l2)
 replace l2:=Nat.lt_of_lt_of_le l2 hbw4_4.size
 replace hres:=hres.still hbw4_4
 refine ⟨_,rfl,hSw4_4,?_⟩
 clear hbw4_4
 (try simp only [pS])
 refine callH 12 (oN 43 (cF1 106 #[oT 33,oT 34,oT 37,oT 42] #[51,51,51,51]) 53 "curve.go:65" #[jD 2,jD 3,jD 6,jD 11,jC 11]) (k10 _) ?_
 (rintro e ww4_5 ⟨rfl,hbw4_5⟩)
 have hSw4_5:=hSw4_4.trans (Out.of_below hbw4_5 l2)
 replace l2:=Nat.lt_of_lt_of_le l2 hbw4_5.size
 replace hres:=hres.still hbw4_5
 refine ⟨_,rfl,hSw4_5,?_⟩
 clear hbw4_5
 (try simp only [pS])
 refine wpAnyH_ready (rs:=[13]) (by kernel_rfl) (by simp) ?_
 refine AllReadyH.cons (o:=qw4x13) rfl (fun K hK => ?_) (AllReadyH.nil)
 unfold qw4x13
 rw [if_pos (by rfl)]
 refine wp_store_mid 53 _ _ rfl g2 0 (p16 o1 o2 o3 o4).toArray rfl rfl (thr16 hres _ _ _ _) (info16A _ _ _ _) (one16 _ _ _ _) ?_
 have hSw4_6:=hSw4_5.trans (Out.setCells (b:=g2) (o:=0) (n:=16) ww4_5 (p16 o1 o2 o3 o4) (Nat.le_refl _) (by rw [p16_len];exact Nat.le_refl _))
 replace hres:=hres.stored (p16 o1 o2 o3 o4) (p16_same _ _ _ _ _ _ _ _)
 obtain ⟨ww4_6,hww4_6⟩:∃ W,ww4_5.setCells g2 0 (p16 o1 o2 o3 o4)=W:=⟨_,rfl⟩
 rw [hww4_6] at hres
 rw [hww4_6] at hSw4_6
 rw [show ww4_5.setCells g2 0 (p16 o1 o2 o3 o4).toArray.toList=ww4_6 from hww4_6]
 refine hK.out _ _ hSw4_6 (fun h => ?_)
 clear h hK K hww4_6
 (try dsimp only [Act.put])
 refine wpAnyH_done (by kernel_rfl) ?_ _
 refine NoPanic.normal ?_
 clear k6 k7 k8 k9 k10
 have fin:=(hbW.trans (hdrew.mono hbW.size)).trans (hSw4_6.below w2 (Nat.le_trans hbW.size hdrew.size))
 go_wp2
 exact bodyPost_ret (results_cell_mid Tryz.results88 _ _ g2 0 (p16 o1 o2 o3 o4) _ rfl hres.range Tryz.underlying53 rfl (info16 _ _ _ _)) rfl ⟨rfl,fin⟩
end Go.Proofs.YtdgkmloabificaaGreatDoor
