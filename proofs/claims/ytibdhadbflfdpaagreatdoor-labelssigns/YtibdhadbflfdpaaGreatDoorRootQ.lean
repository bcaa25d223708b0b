/- What rootOfQuotient of package field does in the model. -/
import Derived.Test.YtibdhadbflfdpaaGreatDoorPNumM
namespace Go.Proofs.YtibdhadbflfdpaaGreatDoor
open Nat renaming le_trans → JY
open Go renaming wpAnyH_ready → J1
open Go renaming wpList_store_mid → J2
open Go renaming wpList_load_mid → J3
open Go renaming wpAnyH_done → J4
open Go.AllReadyH renaming nil → J6
open Go.AllReadyH renaming cons → J7
open Go.NoPanic renaming normal → J8
open Go.RowKit
structure IM (w:World):Prop where
 range:w.rangeAt 5 0 (c4 iM)
 lt:5<w.heap.size
theorem IM.still {w w':World} (h:IM w) (hb:Below w.heap.size w w'):IM w' :=
 ⟨fun j v hv=>(hb.cell (p:=⟨5,0+j,none⟩) h.lt).trans (h.range j v hv),Nat.lt_of_lt_of_le h.lt hb.size⟩
theorem GP (n:Nat):Tryz.prog.built 75 [(0,.agg (c4 n).toArray)]=some (c4 n).toArray:=by kernel_rfl
theorem jZ:Tryz.prog.built 75 []=some (c4 0).toArray:=by rw [sf];kernel_rfl
theorem zS:(Tryz.prog.info? 73).map (·.size)=some 4:=by kernel_rfl
theorem jy {P:Program} {ops:Array Oper} {rest:List Oper} {o:Oper} {a:Act} {w:World} {Q:Exit→Act→World→Prop} (hg:o.guard=none) (t:TypeId) (i:Nat) (x:Operand) (ho:o.op = .build t #[(i,x)]) (u:Value) (hx:a.eval x=u) (cells:Array Value)
 (hf:P.built t [(i,u)]=some cells) (h:wpList P ops Q rest (a.put o.dst (.agg cells)) w):wpList P ops Q (o :: rest) a w :=
 wpList_build hg t _ ho (by simp only [List.map_toArray,List.map_cons,List.map_nil,hx,hf];rfl) (by simp only [List.map_toArray,List.map_cons,List.map_nil,hx,hf];exact h)
theorem be {P:Program} {ops:Array Oper} {rest:List Oper} {o:Oper} {a:Act} {w:World} {Q:Exit→Act→World→Prop} (hg:o.guard=none) (t:TypeId) (ho:o.op = .build t #[]) (cells:Array Value)
 (hf:P.built t []=some cells) (h:wpList P ops Q rest (a.put o.dst (.agg cells)) w):wpList P ops Q (o :: rest) a w :=
 wpList_build hg t _ ho (by simp only [List.map_toArray,List.map_nil,hf];rfl) (by simp only [List.map_toArray,List.map_nil,hf];exact h)
theorem pG {P:Program} {ops:Array Oper} {S:World→Prop} {o:Oper} {a:Act} (hw:Region.wanted o (yielded ops a.tmps)=true) (t:TypeId) (ho:o.op = .build t #[]) (cells:Array Value)
 (hf:P.built t []=some cells):YieldsIf P ops S o (.agg cells) a:=by
 refine .inl ⟨hw,fun w _ => ?_⟩;unfold execOp;simp only [ho,List.map_toArray,List.map_nil];rw [Sem.run_bind,run_build w t _ cells hf];rfl
theorem yC {x:Nat} (h:(x%2 == 1)=true):me x=(0+pF - x)%pF:=by unfold me;rw [if_pos (by simpa using h)]
theorem uQ {x:Nat} (h:(x%2 == 1)=false):me x=x:=by unfold me;rw [if_neg (by simpa using h)]
abbrev rA:Oper:=oN 6 (Op.alloc 75) 0 "number.go:87" #[]
abbrev FX:Oper:=oN 12 (dA 98 #[oT 10,oT 11] #[75,75]) 75 "number.go:87" #[jD 0,jD 1]
abbrev Gg:Oper:=oN 14 (dA 98 #[oT 12,oT 13] #[75,75]) 75 "number.go:87" #[jD 2,jD 3,jC 2]
abbrev qq:Oper:=oS (Op.store 75 (oT 6) (oT 14)) "number.go:87" #[jD 5,jD 4,jC 4,jP 0,jP 1,jP 2,jP 3,jP 4,jP 5]
abbrev mJ:Oper:=oN 7 (Op.alloc 75) 0 "number.go:88" #[]
abbrev FQ:Oper:=oN 17 (dA 98 #[oT 15,oT 16] #[75,75]) 75 "number.go:88" #[jD 0,jD 1]
abbrev Ft:Oper:=oN 19 (dA 98 #[oT 17,oT 18] #[75,75]) 75 "number.go:88" #[jD 2,jD 3,jC 2]
abbrev FS:Oper:=oN 21 (dA 98 #[oT 19,oT 20] #[75,75]) 75 "number.go:88" #[jD 4,jD 5,jC 4]
abbrev mL:Oper:=oS (Op.store 75 (oT 7) (oT 21)) "number.go:88" #[jD 7,jD 6,jC 6,jP 0,jP 1,jP 2,jP 3,jP 4,jP 5,jP 6,jP 7]
abbrev jx:Oper:=oN 8 (Op.alloc 75) 0 "number.go:90" #[]
abbrev FM:Oper:=oN 23 (dA 158 #[oT 22] #[75]) 75 "number.go:90" #[jD 0]
abbrev F5:Oper:=oN 26 (dA 159 #[oT 23,Operand.const (Value.int IntKind.i64 2),oT 25] #[75,3,121]) 75 "number.go:90" #[jD 1,jD 3,jC 1]
abbrev Fh:Oper:=oN 28 (dA 98 #[oT 26,oT 27] #[75,75]) 75 "number.go:90" #[jD 4,jD 5,jC 4]
abbrev FL:Oper:=oN 30 (dA 98 #[oT 28,oT 29] #[75,75]) 75 "number.go:90" #[jD 6,jD 7,jC 6]
abbrev gz:Oper:=oS (Op.store 75 (oT 8) (oT 30)) "number.go:90" #[jD 9,jD 8,jC 8,jP 0,jP 1,jP 2,jP 3,jP 4,jP 5,jP 6,jP 7,jP 8,jP 9]
abbrev qf:Oper:=oN 9 (Op.alloc 75) 0 "number.go:91" #[]
abbrev FC:Oper:=oN 33 (dA 98 #[oT 31,oT 32] #[75,75]) 75 "number.go:91" #[jD 0,jD 1]
abbrev Fv:Oper:=oN 35 (dA 98 #[oT 33,oT 34] #[75,75]) 75 "number.go:91" #[jD 2,jD 3,jC 2]
abbrev qA:Oper:=oS (Op.store 75 (oT 9) (oT 35)) "number.go:91" #[jD 5,jD 4,jC 4,jP 0,jP 1,jP 2,jP 3,jP 4,jP 5]
set_option maxRecDepth 20000 in
set_option maxHeartbeats 16000000 in
theorem Av (u v v2 v3 a1 a2 bs o t t2 x0 xx sq nu xi:Nat) (hu:u<pF) (hsq:sq<pF) (hnu:nu<pF) (hx0:x0<pF) (hxi:xi<pF)
 (k1:∀ W,Calls Tryz.prog 98 #[ag v,ag v] W fun e w'=>e = .returned (ag v2)∧Below W.heap.size W w')
 (k2:∀ W,Calls Tryz.prog 98 #[ag v2,ag v] W fun e w'=>e = .returned (ag v3)∧Below W.heap.size W w')
 (k3:∀ W,Calls Tryz.prog 98 #[ag u,ag v3] W fun e w'=>e = .returned (ag a1)∧Below W.heap.size W w')
 (k4:∀ W,Calls Tryz.prog 98 #[ag a1,ag v3] W fun e w'=>e = .returned (ag a2)∧Below W.heap.size W w')
 (k5:∀ W,Calls Tryz.prog 98 #[ag a2,ag v] W fun e w'=>e = .returned (ag bs)∧Below W.heap.size W w')
 (k6:∀ W,Calls Tryz.prog 158 #[ag bs] W fun e w'=>e = .returned (ag o)∧Below W.heap.size W w')
 (k7:∀ W,Calls Tryz.prog 159 #[ag o,.int .i64 2,.func (.func 98) #[ag bs] #[]] W fun e w'=>e = .returned (ag t)∧Below W.heap.size W w')
 (k8:∀ W,Calls Tryz.prog 98 #[ag t,ag u] W fun e w'=>e = .returned (ag t2)∧Below W.heap.size W w')
 (k9:∀ W,Calls Tryz.prog 98 #[ag t2,ag v3] W fun e w'=>e = .returned (ag x0)∧Below W.heap.size W w')
 (k10:∀ W,Calls Tryz.prog 98 #[ag x0,ag x0] W fun e w'=>e = .returned (ag xx)∧Below W.heap.size W w')
 (k11:∀ W,Calls Tryz.prog 98 #[ag xx,ag v] W fun e w'=>e = .returned (ag sq)∧Below W.heap.size W w')
 (k12:∀ W,Calls Tryz.prog 112 #[ag 0,ag u] W fun e w'=>e = .returned (ag nu)∧Below W.heap.size W w')
 (k13:∀ W,Calls Tryz.prog 98 #[ag x0,ag iM] W fun e w'=>e = .returned (ag xi)∧Below W.heap.size W w')
 (k14:∀ W,∀ z,z<pF→Calls Tryz.prog 251 #[ag z] W fun e w'=>e = .returned (.bool (z%2 == 1))∧Below W.heap.size W w')
 (k15:∀ W,∀ z,z<pF→Calls Tryz.prog 112 #[ag 0,ag z] W fun e w'=>e = .returned (ag ((0+pF - z)%pF))∧Below W.heap.size W w')
 (w:World) (im:IM w) :
 Calls Tryz.prog 219 #[ag u,ag v] w fun e w'=>e = .returned (.tuple #[ag (if sq=u then me x0 else if sq=nu then me xi else 0),.bool (if sq=u then true else decide (sq=nu))])∧Below w.heap.size w w':=by
 obtain ⟨V1,g2,e1,hg2,b1,hU⟩:∃ V g,w.alloc (.cells (c4 u).toArray 75)=V∧w.heap.size=g∧Below w.heap.size w V∧RW V g 0 (c4 u):=⟨_,_,rfl,rfl,(Below.refl _ _).alloc (Nat.le_refl _) _,RW.fresh w _ _⟩
 obtain ⟨V2,g3,e2,hg3,b2,hV⟩:∃ V g,V1.alloc (.cells (c4 v).toArray 75)=V∧V1.heap.size=g∧Below V1.heap.size V1 V∧RW V g 0 (c4 v):=⟨_,_,rfl,rfl,(Below.refl _ _).alloc (Nat.le_refl _) _,RW.fresh V1 _ _⟩
 obtain ⟨W,g4,e3,hg4,b3,h4⟩:=cL V2
 have t1:V1.heap.size=w.heap.size+1:=by rw [←e1];simp
 have t2':V2.heap.size=V1.heap.size+1:=by rw [←e2];simp
 have HW:Hid (W=((w.alloc (.cells (c4 u).toArray 75)).alloc (.cells (c4 v).toArray 75)).alloc (.cells #[.int .u64 0,.int .u64 0,.int .u64 0,.int .u64 0] 75)):=Hid.mk' (by rw [←e3,←e2,←e1]);have q2:Hid (w.heap.size=g2):=Hid.mk' hg2;have q3:Hid (w.heap.size+1=g3):=Hid.mk' (by omega);have q4:Hid (w.heap.size+1+1=g4):=Hid.mk' (by omega);replace hU:=(hU.still b2).still b3;replace hV:=hV.still b3;have hbW:Below w.heap.size w W:=(b1.trans (b2.mono (by omega))).trans (b3.mono (by omega));replace im:=im.still hbW
 have w4:w.heap.size≤g4:=by omega
 have n24:g2≠g4:=by omega
 clear e1 e2 e3 hg2 hg3 hg4 b1 b2 b3 t1 t2' V1 V2
 obtain ⟨r,hr⟩:∃ r,r=(if sq=u then me x0 else if sq=nu then me xi else 0):=⟨_,rfl⟩
 obtain ⟨ok,hok⟩:∃ ok,ok=(if sq=u then true else decide (sq=nu)):=⟨_,rfl⟩
 rw [←hr,←hok];have Hr0:=Hid.mk' hr;have Hk0:=Hid.mk' hok;clear hr hok;rw [show ag u = .agg (c4 u).toArray from rfl,show ag v = .agg (c4 v).toArray from rfl];go_enter Tryz.func219,Tryz.ntmps219
 go_upto_region 1 with (fail)
 rw [←HW.out,q4.out,q3.out,q2.out];clear HW q2 q3 q4
 go_cut [6] from 10 (fun s6 wc=>∃ g106,s6 = .pointer (some ⟨g106,0,none⟩)∧Below W.heap.size W wc∧W.heap.size≤g106∧RW wc g106 0 (c4 v3))
 case first =>
  clear im k3 k4 k5 k6 k7 k8 k9 k10 k11 k12 k13 k14 k15;have hdrew:Below W.heap.size W W.drew:=(Below.refl _ _).drew;replace hU:=hU.still hdrew;replace hV:=hV.still hdrew;replace h4:=h4.still hdrew;refine wp_region_noPanic ?_;refine wp_region_held_drew (S:=fun w'=>Below W.drew.heap.size W.drew w') (by kernel_rfl) (Below.refl _ _) (fun hS => ?_);generalize W.drew=Vp1_ at *;refine tk 0 (ag v) hS (hy:=(iu hV 3)) (h := ?_);(try simp only [pS]);refine tk 1 (ag v) hS (hy:=(iu hV 3)) (h := ?_);(try simp only [pS]);refine tk 3 (ag v) hS (hy:=(iu hV 3)) (h := ?_);(try simp only [pS]);refine J1 (rs:=[2,5]) (by kernel_rfl) (by simp) ?_;refine J7 (o:=FX) rfl (fun K hK => ?_) (J7 (o:=rA) rfl (fun K hK => ?_) (J6))
  · unfold FX
    go_simp;(go_at_call 98;refine (k1 _).mono ?_;rintro e wp1_1 ⟨rfl,hbp1_1⟩);(try go_simp);have hSp1_1:=aa hS hbp1_1;refine hK.out _ _ hSp1_1 (fun h => ?_);clear h hK K hbp1_1;(try simp only [pS]);refine J1 (rs:=[4,5]) (by kernel_rfl) (by simp) ?_;refine J7 (o:=Gg) rfl (fun K hK => ?_) (J7 (o:=rA) rfl (fun K hK => ?_) (J6))
    · unfold Gg
      go_simp;(go_at_call 98;refine (k2 _).mono ?_;rintro e wp1_2 ⟨rfl,hbp1_2⟩);(try go_simp);have hSp1_2:=aa hSp1_1 hbp1_2;refine hK.out _ _ hSp1_2 (fun h => ?_);clear h hK K hbp1_2;(try simp only [pS]);refine J1 (rs:=[5]) (by kernel_rfl) (by simp) ?_;refine J7 (o:=rA) rfl (fun K hK => ?_) (J6);unfold rA;go_simp;obtain ⟨wp1_3,gp1_3,hwp1_3,hgp1_3,hbp1_3,rp1_3⟩:=cL wp1_2;rw [hwp1_3,hgp1_3];have hSp1_3:=aa hSp1_2 hbp1_3
      have Gp1_3:Vp1_.heap.size≤gp1_3:=by have:=hSp1_2.size;omega
      refine hK.out _ _ hSp1_3 (fun h => ?_);clear h hK K hbp1_3 hwp1_3 hgp1_3;(try simp only [pS]);refine J1 (rs:=[6]) (by kernel_rfl) (by simp) ?_;refine J7 (o:=qq) rfl (fun K hK => ?_) (J6);unfold qq;rw [if_pos (by rfl)];refine bD _ _ rfl gp1_3 0 v3 rfl rfl rp1_3 hSp1_3 Gp1_3 (fun wp1_4 r0 hSp1_4 far => ?_);refine hK.out _ _ hSp1_4 (fun h => ?_);clear h hK K far rp1_3;have rp1_3:=r0;clear r0;(try dsimp only [Act.put]);refine J4 (by kernel_rfl) ?_ _;refine J8 ?_;go_wp2;go_meet
      case rel=>exact ⟨gp1_3,rfl,aa hdrew hSp1_4,JY hdrew.size Gp1_3,rp1_3⟩
    · unfold rA
      go_simp;obtain ⟨wp1_5,gp1_5,hwp1_5,hgp1_5,hbp1_5,rp1_5⟩:=cL wp1_1;rw [hwp1_5,hgp1_5];have hSp1_5:=aa hSp1_1 hbp1_5
      have Gp1_5:Vp1_.heap.size≤gp1_5:=by have:=hSp1_1.size;omega
      refine hK.out _ _ hSp1_5 (fun h => ?_);clear h hK K hbp1_5 hwp1_5 hgp1_5;(try simp only [pS]);refine cl 4 (k2 _) ?_
      (rintro e wp1_6 ⟨rfl,hbp1_6⟩)
      have hSp1_6:=aa hSp1_5 hbp1_6;replace rp1_5:=rp1_5.still hbp1_6;refine ⟨_,rfl,hSp1_6,?_⟩;clear hbp1_6;(try simp only [pS]);refine J1 (rs:=[6]) (by kernel_rfl) (by simp) ?_;refine J7 (o:=qq) rfl (fun K hK => ?_) (J6);unfold qq;rw [if_pos (by rfl)];refine bD _ _ rfl gp1_5 0 v3 rfl rfl rp1_5 hSp1_6 Gp1_5 (fun wp1_7 r0 hSp1_7 far => ?_);refine hK.out _ _ hSp1_7 (fun h => ?_);clear h hK K far rp1_5;have rp1_5:=r0;clear r0;(try dsimp only [Act.put]);refine J4 (by kernel_rfl) ?_ _;refine J8 ?_;go_wp2;go_meet
      case rel=>exact ⟨gp1_5,rfl,aa hdrew hSp1_7,JY hdrew.size Gp1_5,rp1_5⟩
  · unfold rA
    go_simp;obtain ⟨wp1_8,gp1_8,hwp1_8,hgp1_8,hbp1_8,rp1_8⟩:=cL Vp1_;rw [hwp1_8,hgp1_8];have hSp1_8:=aa hS hbp1_8
    have Gp1_8:Vp1_.heap.size≤gp1_8:=by have:=hS.size;omega
    refine hK.out _ _ hSp1_8 (fun h => ?_);clear h hK K hbp1_8 hwp1_8 hgp1_8;(try simp only [pS]);refine cl 2 (k1 _) ?_
    (rintro e wp1_9 ⟨rfl,hbp1_9⟩)
    have hSp1_9:=aa hSp1_8 hbp1_9;replace rp1_8:=rp1_8.still hbp1_9;refine ⟨_,rfl,hSp1_9,?_⟩;clear hbp1_9;(try simp only [pS]);refine cl 4 (k2 _) ?_
    (rintro e wp1_10 ⟨rfl,hbp1_10⟩)
    have hSp1_10:=aa hSp1_9 hbp1_10;replace rp1_8:=rp1_8.still hbp1_10;refine ⟨_,rfl,hSp1_10,?_⟩;clear hbp1_10;(try simp only [pS]);refine J1 (rs:=[6]) (by kernel_rfl) (by simp) ?_;refine J7 (o:=qq) rfl (fun K hK => ?_) (J6);unfold qq;rw [if_pos (by rfl)];refine bD _ _ rfl gp1_8 0 v3 rfl rfl rp1_8 hSp1_10 Gp1_8 (fun wp1_11 r0 hSp1_11 far => ?_);refine hK.out _ _ hSp1_11 (fun h => ?_);clear h hK K far rp1_8;have rp1_8:=r0;clear r0;(try dsimp only [Act.put]);refine J4 (by kernel_rfl) ?_ _;refine J8 ?_;go_wp2;go_meet
    case rel=>exact ⟨gp1_8,rfl,aa hdrew hSp1_11,JY hdrew.size Gp1_8,rp1_8⟩
 case rest =>
 obtain ⟨g106,rfl,hb106,G106,h106⟩:=hcut;have lt4:=h4.lt;replace hU:=hU.still hb106;replace hV:=hV.still hb106;replace h4:=h4.still hb106;replace im:=im.still hb106
 obtain ⟨U1,hU1⟩:∃ W,W=wc:=⟨_,rfl⟩
 rw [←hU1];rw [←hU1] at hU hV h4 h106 im hb106;replace hbW:Below w.heap.size w U1:=aa hbW hb106
 have n4_106:g106≠g4:=by omega
 clear hU1 hb106 G106 lt4
 go_upto_region 2 with (fail)
 go_cut [7] from 10 (fun s7 wc=>∃ g107,s7 = .pointer (some ⟨g107,0,none⟩)∧Below U1.heap.size U1 wc∧U1.heap.size≤g107∧RW wc g107 0 (c4 bs))
 case first =>
  clear im k1 k2 k6 k7 k8 k9 k10 k11 k12 k13 k14 k15;have hdrew:Below U1.heap.size U1 U1.drew:=(Below.refl _ _).drew;replace hU:=hU.still hdrew;replace hV:=hV.still hdrew;replace h4:=h4.still hdrew;replace h106:=h106.still hdrew;refine wp_region_noPanic ?_;refine wp_region_held_drew (S:=fun w'=>Below U1.drew.heap.size U1.drew w') (by kernel_rfl) (Below.refl _ _) (fun hS => ?_);generalize U1.drew=Vp2_ at *;refine tk 0 (ag u) hS (hy:=(iu hU 2)) (h := ?_);(try simp only [pS]);refine tk 1 (ag v3) hS (hy:=(iu h106 6)) (h := ?_);(try simp only [pS]);refine tk 3 (ag v3) hS (hy:=(iu h106 6)) (h := ?_);(try simp only [pS]);refine tk 5 (ag v) hS (hy:=(iu hV 3)) (h := ?_);(try simp only [pS]);refine J1 (rs:=[2,7]) (by kernel_rfl) (by simp) ?_;refine J7 (o:=FQ) rfl (fun K hK => ?_) (J7 (o:=mJ) rfl (fun K hK => ?_) (J6))
  · unfold FQ
    go_simp;(go_at_call 98;refine (k3 _).mono ?_;rintro e wp2_1 ⟨rfl,hbp2_1⟩);(try go_simp);have hSp2_1:=aa hS hbp2_1;refine hK.out _ _ hSp2_1 (fun h => ?_);clear h hK K hbp2_1;(try simp only [pS]);refine J1 (rs:=[4,7]) (by kernel_rfl) (by simp) ?_;refine J7 (o:=Ft) rfl (fun K hK => ?_) (J7 (o:=mJ) rfl (fun K hK => ?_) (J6))
    · unfold Ft
      go_simp;(go_at_call 98;refine (k4 _).mono ?_;rintro e wp2_2 ⟨rfl,hbp2_2⟩);(try go_simp);have hSp2_2:=aa hSp2_1 hbp2_2;refine hK.out _ _ hSp2_2 (fun h => ?_);clear h hK K hbp2_2;(try simp only [pS]);refine J1 (rs:=[6,7]) (by kernel_rfl) (by simp) ?_;refine J7 (o:=FS) rfl (fun K hK => ?_) (J7 (o:=mJ) rfl (fun K hK => ?_) (J6))
      · unfold FS
        go_simp;(go_at_call 98;refine (k5 _).mono ?_;rintro e wp2_3 ⟨rfl,hbp2_3⟩);(try go_simp);have hSp2_3:=aa hSp2_2 hbp2_3;refine hK.out _ _ hSp2_3 (fun h => ?_);clear h hK K hbp2_3;(try simp only [pS]);refine J1 (rs:=[7]) (by kernel_rfl) (by simp) ?_;refine J7 (o:=mJ) rfl (fun K hK => ?_) (J6);unfold mJ;go_simp;obtain ⟨wp2_4,gp2_4,hwp2_4,hgp2_4,hbp2_4,rp2_4⟩:=cL wp2_3;rw [hwp2_4,hgp2_4];have hSp2_4:=aa hSp2_3 hbp2_4
        have Gp2_4:Vp2_.heap.size≤gp2_4:=by have:=hSp2_3.size;omega
        refine hK.out _ _ hSp2_4 (fun h => ?_);clear h hK K hbp2_4 hwp2_4 hgp2_4;(try simp only [pS]);refine J1 (rs:=[8]) (by kernel_rfl) (by simp) ?_;refine J7 (o:=mL) rfl (fun K hK => ?_) (J6);unfold mL;rw [if_pos (by rfl)];refine bD _ _ rfl gp2_4 0 bs rfl rfl rp2_4 hSp2_4 Gp2_4 (fun wp2_5 r0 hSp2_5 far => ?_);refine hK.out _ _ hSp2_5 (fun h => ?_);clear h hK K far rp2_4;have rp2_4:=r0;clear r0;(try dsimp only [Act.put]);refine J4 (by kernel_rfl) ?_ _;refine J8 ?_;go_wp2;go_meet
        case rel=>exact ⟨gp2_4,rfl,aa hdrew hSp2_5,JY hdrew.size Gp2_4,rp2_4⟩
      · unfold mJ
        go_simp;obtain ⟨wp2_6,gp2_6,hwp2_6,hgp2_6,hbp2_6,rp2_6⟩:=cL wp2_2;rw [hwp2_6,hgp2_6];have hSp2_6:=aa hSp2_2 hbp2_6
        have Gp2_6:Vp2_.heap.size≤gp2_6:=by have:=hSp2_2.size;omega
        refine hK.out _ _ hSp2_6 (fun h => ?_);clear h hK K hbp2_6 hwp2_6 hgp2_6;(try simp only [pS]);refine cl 6 (k5 _) ?_
        (rintro e wp2_7 ⟨rfl,hbp2_7⟩)
        have hSp2_7:=aa hSp2_6 hbp2_7;replace rp2_6:=rp2_6.still hbp2_7;refine ⟨_,rfl,hSp2_7,?_⟩;clear hbp2_7;(try simp only [pS]);refine J1 (rs:=[8]) (by kernel_rfl) (by simp) ?_;refine J7 (o:=mL) rfl (fun K hK => ?_) (J6);unfold mL;rw [if_pos (by rfl)];refine bD _ _ rfl gp2_6 0 bs rfl rfl rp2_6 hSp2_7 Gp2_6 (fun wp2_8 r0 hSp2_8 far => ?_);refine hK.out _ _ hSp2_8 (fun h => ?_);clear h hK K far rp2_6;have rp2_6:=r0;clear r0;(try dsimp only [Act.put]);refine J4 (by kernel_rfl) ?_ _;refine J8 ?_;go_wp2;go_meet
        case rel=>exact ⟨gp2_6,rfl,aa hdrew hSp2_8,JY hdrew.size Gp2_6,rp2_6⟩
    · unfold mJ
      go_simp;obtain ⟨wp2_9,gp2_9,hwp2_9,hgp2_9,hbp2_9,rp2_9⟩:=cL wp2_1;rw [hwp2_9,hgp2_9];have hSp2_9:=aa hSp2_1 hbp2_9
      have Gp2_9:Vp2_.heap.size≤gp2_9:=by have:=hSp2_1.size;omega
      refine hK.out _ _ hSp2_9 (fun h => ?_);clear h hK K hbp2_9 hwp2_9 hgp2_9;(try simp only [pS]);refine cl 4 (k4 _) ?_
      (rintro e wp2_10 ⟨rfl,hbp2_10⟩)
      have hSp2_10:=aa hSp2_9 hbp2_10;replace rp2_9:=rp2_9.still hbp2_10;refine ⟨_,rfl,hSp2_10,?_⟩;clear hbp2_10;(try simp only [pS]);refine cl 6 (k5 _) ?_
      (rintro e wp2_11 ⟨rfl,hbp2_11⟩)
      have hSp2_11:=aa hSp2_10 hbp2_11;replace rp2_9:=rp2_9.still hbp2_11;refine ⟨_,rfl,hSp2_11,?_⟩;clear hbp2_11;(try simp only [pS]);refine J1 (rs:=[8]) (by kernel_rfl) (by simp) ?_;refine J7 (o:=mL) rfl (fun K hK => ?_) (J6);unfold mL;rw [if_pos (by rfl)];refine bD _ _ rfl gp2_9 0 bs rfl rfl rp2_9 hSp2_11 Gp2_9 (fun wp2_12 r0 hSp2_12 far => ?_);refine hK.out _ _ hSp2_12 (fun h => ?_);clear h hK K far rp2_9;have rp2_9:=r0;clear r0;(try dsimp only [Act.put]);refine J4 (by kernel_rfl) ?_ _;refine J8 ?_;go_wp2;go_meet
      case rel=>exact ⟨gp2_9,rfl,aa hdrew hSp2_12,JY hdrew.size Gp2_9,rp2_9⟩
  · unfold mJ
    go_simp;obtain ⟨wp2_13,gp2_13,hwp2_13,hgp2_13,hbp2_13,rp2_13⟩:=cL Vp2_;rw [hwp2_13,hgp2_13];have hSp2_13:=aa hS hbp2_13
    have Gp2_13:Vp2_.heap.size≤gp2_13:=by have:=hS.size;omega
    refine hK.out _ _ hSp2_13 (fun h => ?_);clear h hK K hbp2_13 hwp2_13 hgp2_13;(try simp only [pS]);refine cl 2 (k3 _) ?_
    (rintro e wp2_14 ⟨rfl,hbp2_14⟩)
    have hSp2_14:=aa hSp2_13 hbp2_14;replace rp2_13:=rp2_13.still hbp2_14;refine ⟨_,rfl,hSp2_14,?_⟩;clear hbp2_14;(try simp only [pS]);refine cl 4 (k4 _) ?_
    (rintro e wp2_15 ⟨rfl,hbp2_15⟩)
    have hSp2_15:=aa hSp2_14 hbp2_15;replace rp2_13:=rp2_13.still hbp2_15;refine ⟨_,rfl,hSp2_15,?_⟩;clear hbp2_15;(try simp only [pS]);refine cl 6 (k5 _) ?_
    (rintro e wp2_16 ⟨rfl,hbp2_16⟩)
    have hSp2_16:=aa hSp2_15 hbp2_16;replace rp2_13:=rp2_13.still hbp2_16;refine ⟨_,rfl,hSp2_16,?_⟩;clear hbp2_16;(try simp only [pS]);refine J1 (rs:=[8]) (by kernel_rfl) (by simp) ?_;refine J7 (o:=mL) rfl (fun K hK => ?_) (J6);unfold mL;rw [if_pos (by rfl)];refine bD _ _ rfl gp2_13 0 bs rfl rfl rp2_13 hSp2_16 Gp2_13 (fun wp2_17 r0 hSp2_17 far => ?_);refine hK.out _ _ hSp2_17 (fun h => ?_);clear h hK K far rp2_13;have rp2_13:=r0;clear r0;(try dsimp only [Act.put]);refine J4 (by kernel_rfl) ?_ _;refine J8 ?_;go_wp2;go_meet
    case rel=>exact ⟨gp2_13,rfl,aa hdrew hSp2_17,JY hdrew.size Gp2_13,rp2_13⟩
 case rest =>
 obtain ⟨g107,rfl,hb107,G107,h107⟩:=hcut;have lt4:=h4.lt;replace hU:=hU.still hb107;replace hV:=hV.still hb107;replace h4:=h4.still hb107;replace h106:=h106.still hb107;replace im:=im.still hb107
 obtain ⟨U2,hU2⟩:∃ W,W=wc:=⟨_,rfl⟩
 rw [←hU2];rw [←hU2] at hU hV h4 h106 h107 im hb107;replace hbW:Below w.heap.size w U2:=aa hbW hb107
 have n4_107:g107≠g4:=by omega
 clear hU2 hb107 G107 lt4
 go_upto_region 3 with (fail)
 go_cut [8] from 10 (fun s8 wc=>∃ g108,s8 = .pointer (some ⟨g108,0,none⟩)∧Below U2.heap.size U2 wc∧U2.heap.size≤g108∧RW wc g108 0 (c4 x0))
 case first =>
  clear im k1 k2 k3 k4 k5 k10 k11 k12 k13 k14 k15;have hdrew:Below U2.heap.size U2 U2.drew:=(Below.refl _ _).drew;replace hU:=hU.still hdrew;replace hV:=hV.still hdrew;replace h4:=h4.still hdrew;replace h106:=h106.still hdrew;replace h107:=h107.still hdrew;refine wp_region_noPanic ?_;refine wp_region_held_drew (S:=fun w'=>Below U2.drew.heap.size U2.drew w') (by kernel_rfl) (Below.refl _ _) (fun hS => ?_);generalize U2.drew=Vp3_ at *;refine tk 0 (ag bs) hS (hy:=(iu h107 7)) (h := ?_);(try simp only [pS]);refine tk 2 (ag bs) hS (hy:=(iu h107 7)) (h := ?_);(try simp only [pS]);refine tg 3 hS ?_;(try simp only [pS]);refine tk 5 (ag u) hS (hy:=(iu hU 2)) (h := ?_);(try simp only [pS]);refine tk 7 (ag v3) hS (hy:=(iu h106 6)) (h := ?_);(try simp only [pS]);refine J1 (rs:=[1,9]) (by kernel_rfl) (by simp) ?_;refine J7 (o:=FM) rfl (fun K hK => ?_) (J7 (o:=jx) rfl (fun K hK => ?_) (J6))
  · unfold FM
    go_simp;(go_at_call 158;refine (k6 _).mono ?_;rintro e wp3_2 ⟨rfl,hbp3_2⟩);(try go_simp);have hSp3_2:=aa hS hbp3_2;refine hK.out _ _ hSp3_2 (fun h => ?_);clear h hK K hbp3_2;(try simp only [pS]);refine J1 (rs:=[4,9]) (by kernel_rfl) (by simp) ?_;refine J7 (o:=F5) rfl (fun K hK => ?_) (J7 (o:=jx) rfl (fun K hK => ?_) (J6))
    · unfold F5
      go_simp;(go_at_call 159;refine (k7 _).mono ?_;rintro e wp3_3 ⟨rfl,hbp3_3⟩);(try go_simp);have hSp3_3:=aa hSp3_2 hbp3_3;refine hK.out _ _ hSp3_3 (fun h => ?_);clear h hK K hbp3_3;(try simp only [pS]);refine J1 (rs:=[6,9]) (by kernel_rfl) (by simp) ?_;refine J7 (o:=Fh) rfl (fun K hK => ?_) (J7 (o:=jx) rfl (fun K hK => ?_) (J6))
      · unfold Fh
        go_simp;(go_at_call 98;refine (k8 _).mono ?_;rintro e wp3_4 ⟨rfl,hbp3_4⟩);(try go_simp);have hSp3_4:=aa hSp3_3 hbp3_4;refine hK.out _ _ hSp3_4 (fun h => ?_);clear h hK K hbp3_4;(try simp only [pS]);refine J1 (rs:=[8,9]) (by kernel_rfl) (by simp) ?_;refine J7 (o:=FL) rfl (fun K hK => ?_) (J7 (o:=jx) rfl (fun K hK => ?_) (J6))
        · unfold FL
          go_simp;(go_at_call 98;refine (k9 _).mono ?_;rintro e wp3_5 ⟨rfl,hbp3_5⟩);(try go_simp);have hSp3_5:=aa hSp3_4 hbp3_5;refine hK.out _ _ hSp3_5 (fun h => ?_);clear h hK K hbp3_5;(try simp only [pS]);refine J1 (rs:=[9]) (by kernel_rfl) (by simp) ?_;refine J7 (o:=jx) rfl (fun K hK => ?_) (J6);unfold jx;go_simp;obtain ⟨wp3_6,gp3_6,hwp3_6,hgp3_6,hbp3_6,rp3_6⟩:=cL wp3_5;rw [hwp3_6,hgp3_6];have hSp3_6:=aa hSp3_5 hbp3_6
          have Gp3_6:Vp3_.heap.size≤gp3_6:=by have:=hSp3_5.size;omega
          refine hK.out _ _ hSp3_6 (fun h => ?_);clear h hK K hbp3_6 hwp3_6 hgp3_6;(try simp only [pS]);refine J1 (rs:=[10]) (by kernel_rfl) (by simp) ?_;refine J7 (o:=gz) rfl (fun K hK => ?_) (J6);unfold gz;rw [if_pos (by rfl)];refine bD _ _ rfl gp3_6 0 x0 rfl rfl rp3_6 hSp3_6 Gp3_6 (fun wp3_7 r0 hSp3_7 far => ?_);refine hK.out _ _ hSp3_7 (fun h => ?_);clear h hK K far rp3_6;have rp3_6:=r0;clear r0;(try dsimp only [Act.put]);refine J4 (by kernel_rfl) ?_ _;refine J8 ?_;go_wp2;go_meet
          case rel=>exact ⟨gp3_6,rfl,aa hdrew hSp3_7,JY hdrew.size Gp3_6,rp3_6⟩
        · unfold jx
          go_simp;obtain ⟨wp3_8,gp3_8,hwp3_8,hgp3_8,hbp3_8,rp3_8⟩:=cL wp3_4;rw [hwp3_8,hgp3_8];have hSp3_8:=aa hSp3_4 hbp3_8
          have Gp3_8:Vp3_.heap.size≤gp3_8:=by have:=hSp3_4.size;omega
          refine hK.out _ _ hSp3_8 (fun h => ?_);clear h hK K hbp3_8 hwp3_8 hgp3_8;(try simp only [pS]);refine cl 8 (k9 _) ?_
          (rintro e wp3_9 ⟨rfl,hbp3_9⟩)
          have hSp3_9:=aa hSp3_8 hbp3_9;replace rp3_8:=rp3_8.still hbp3_9;refine ⟨_,rfl,hSp3_9,?_⟩;clear hbp3_9;(try simp only [pS]);refine J1 (rs:=[10]) (by kernel_rfl) (by simp) ?_;refine J7 (o:=gz) rfl (fun K hK => ?_) (J6);unfold gz;rw [if_pos (by rfl)];refine bD _ _ rfl gp3_8 0 x0 rfl rfl rp3_8 hSp3_9 Gp3_8 (fun wp3_10 r0 hSp3_10 far => ?_);refine hK.out _ _ hSp3_10 (fun h => ?_);clear h hK K far rp3_8;have rp3_8:=r0;clear r0;(try dsimp only [Act.put]);refine J4 (by kernel_rfl) ?_ _;refine J8 ?_;go_wp2;go_meet
          case rel=>exact ⟨gp3_8,rfl,aa hdrew hSp3_10,JY hdrew.size Gp3_8,rp3_8⟩
      · unfold jx
        go_simp;obtain ⟨wp3_11,gp3_11,hwp3_11,hgp3_11,hbp3_11,rp3_11⟩:=cL wp3_3;rw [hwp3_11,hgp3_11];have hSp3_11:=aa hSp3_3 hbp3_11
        have Gp3_11:Vp3_.heap.size≤gp3_11:=by have:=hSp3_3.size;omega
        refine hK.out _ _ hSp3_11 (fun h => ?_);clear h hK K hbp3_11 hwp3_11 hgp3_11;(try simp only [pS]);refine cl 6 (k8 _) ?_
        (rintro e wp3_12 ⟨rfl,hbp3_12⟩)
        have hSp3_12:=aa hSp3_11 hbp3_12;replace rp3_11:=rp3_11.still hbp3_12;refine ⟨_,rfl,hSp3_12,?_⟩;clear hbp3_12;(try simp only [pS]);refine cl 8 (k9 _) ?_
        (rintro e wp3_13 ⟨rfl,hbp3_13⟩)
        have hSp3_13:=aa hSp3_12 hbp3_13;replace rp3_11:=rp3_11.still hbp3_13;refine ⟨_,rfl,hSp3_13,?_⟩;clear hbp3_13;(try simp only [pS]);refine J1 (rs:=[10]) (by kernel_rfl) (by simp) ?_;refine J7 (o:=gz) rfl (fun K hK => ?_) (J6);unfold gz;rw [if_pos (by rfl)];refine bD _ _ rfl gp3_11 0 x0 rfl rfl rp3_11 hSp3_13 Gp3_11 (fun wp3_14 r0 hSp3_14 far => ?_);refine hK.out _ _ hSp3_14 (fun h => ?_);clear h hK K far rp3_11;have rp3_11:=r0;clear r0;(try dsimp only [Act.put]);refine J4 (by kernel_rfl) ?_ _;refine J8 ?_;go_wp2;go_meet
        case rel=>exact ⟨gp3_11,rfl,aa hdrew hSp3_14,JY hdrew.size Gp3_11,rp3_11⟩
    · unfold jx
      go_simp;obtain ⟨wp3_15,gp3_15,hwp3_15,hgp3_15,hbp3_15,rp3_15⟩:=cL wp3_2;rw [hwp3_15,hgp3_15];have hSp3_15:=aa hSp3_2 hbp3_15
      have Gp3_15:Vp3_.heap.size≤gp3_15:=by have:=hSp3_2.size;omega
      refine hK.out _ _ hSp3_15 (fun h => ?_);clear h hK K hbp3_15 hwp3_15 hgp3_15;(try simp only [pS]);refine cl 4 (k7 _) ?_
      (rintro e wp3_16 ⟨rfl,hbp3_16⟩)
      have hSp3_16:=aa hSp3_15 hbp3_16;replace rp3_15:=rp3_15.still hbp3_16;refine ⟨_,rfl,hSp3_16,?_⟩;clear hbp3_16;(try simp only [pS]);refine cl 6 (k8 _) ?_
      (rintro e wp3_17 ⟨rfl,hbp3_17⟩)
      have hSp3_17:=aa hSp3_16 hbp3_17;replace rp3_15:=rp3_15.still hbp3_17;refine ⟨_,rfl,hSp3_17,?_⟩;clear hbp3_17;(try simp only [pS]);refine cl 8 (k9 _) ?_
      (rintro e wp3_18 ⟨rfl,hbp3_18⟩)
      have hSp3_18:=aa hSp3_17 hbp3_18;replace rp3_15:=rp3_15.still hbp3_18;refine ⟨_,rfl,hSp3_18,?_⟩;clear hbp3_18;(try simp only [pS]);refine J1 (rs:=[10]) (by kernel_rfl) (by simp) ?_;refine J7 (o:=gz) rfl (fun K hK => ?_) (J6);unfold gz;rw [if_pos (by rfl)];refine bD _ _ rfl gp3_15 0 x0 rfl rfl rp3_15 hSp3_18 Gp3_15 (fun wp3_19 r0 hSp3_19 far => ?_);refine hK.out _ _ hSp3_19 (fun h => ?_);clear h hK K far rp3_15;have rp3_15:=r0;clear r0;(try dsimp only [Act.put]);refine J4 (by kernel_rfl) ?_ _;refine J8 ?_;go_wp2;go_meet
      case rel=>exact ⟨gp3_15,rfl,aa hdrew hSp3_19,JY hdrew.size Gp3_15,rp3_15⟩
  · unfold jx
    go_simp;obtain ⟨wp3_20,gp3_20,hwp3_20,hgp3_20,hbp3_20,rp3_20⟩:=cL Vp3_;rw [hwp3_20,hgp3_20];have hSp3_20:=aa hS hbp3_20
    have Gp3_20:Vp3_.heap.size≤gp3_20:=by have:=hS.size;omega
    refine hK.out _ _ hSp3_20 (fun h => ?_);clear h hK K hbp3_20 hwp3_20 hgp3_20;(try simp only [pS]);refine cl 1 (k6 _) ?_
    (rintro e wp3_21 ⟨rfl,hbp3_21⟩)
    have hSp3_21:=aa hSp3_20 hbp3_21;replace rp3_20:=rp3_20.still hbp3_21;refine ⟨_,rfl,hSp3_21,?_⟩;clear hbp3_21;(try simp only [pS]);refine cl 4 (k7 _) ?_
    (rintro e wp3_22 ⟨rfl,hbp3_22⟩)
    have hSp3_22:=aa hSp3_21 hbp3_22;replace rp3_20:=rp3_20.still hbp3_22;refine ⟨_,rfl,hSp3_22,?_⟩;clear hbp3_22;(try simp only [pS]);refine cl 6 (k8 _) ?_
    (rintro e wp3_23 ⟨rfl,hbp3_23⟩)
    have hSp3_23:=aa hSp3_22 hbp3_23;replace rp3_20:=rp3_20.still hbp3_23;refine ⟨_,rfl,hSp3_23,?_⟩;clear hbp3_23;(try simp only [pS]);refine cl 8 (k9 _) ?_
    (rintro e wp3_24 ⟨rfl,hbp3_24⟩)
    have hSp3_24:=aa hSp3_23 hbp3_24;replace rp3_20:=rp3_20.still hbp3_24;refine ⟨_,rfl,hSp3_24,?_⟩;clear hbp3_24;(try simp only [pS]);refine J1 (rs:=[10]) (by kernel_rfl) (by simp) ?_;refine J7 (o:=gz) rfl (fun K hK => ?_) (J6);unfold gz;rw [if_pos (by rfl)];refine bD _ _ rfl gp3_20 0 x0 rfl rfl rp3_20 hSp3_24 Gp3_20 (fun wp3_25 r0 hSp3_25 far => ?_);refine hK.out _ _ hSp3_25 (fun h => ?_);clear h hK K far rp3_20;have rp3_20:=r0;clear r0;(try dsimp only [Act.put]);refine J4 (by kernel_rfl) ?_ _;refine J8 ?_;go_wp2;go_meet
    case rel=>exact ⟨gp3_20,rfl,aa hdrew hSp3_25,JY hdrew.size Gp3_20,rp3_20⟩
 case rest =>
 obtain ⟨g108,rfl,hb108,G108,h108⟩:=hcut;have lt4:=h4.lt;replace hU:=hU.still hb108;replace hV:=hV.still hb108;replace h4:=h4.still hb108;replace h106:=h106.still hb108;replace h107:=h107.still hb108;replace im:=im.still hb108
 obtain ⟨U3,hU3⟩:∃ W,W=wc:=⟨_,rfl⟩
 rw [←hU3];rw [←hU3] at hU hV h4 h106 h107 h108 im hb108;replace hbW:Below w.heap.size w U3:=aa hbW hb108
 have n4_108:g108≠g4:=by omega
 have w108:w.heap.size≤g108:=JY (JY w4 (Nat.le_of_lt lt4)) G108;clear hU3 hb108 G108 lt4
 go_upto_region 4 with (fail)
 go_cut [9] from 10 (fun s9 wc=>∃ g109,s9 = .pointer (some ⟨g109,0,none⟩)∧Below U3.heap.size U3 wc∧U3.heap.size≤g109∧RW wc g109 0 (c4 sq))
 case first =>
  clear im k1 k2 k3 k4 k5 k6 k7 k8 k9 k12 k13 k14 k15;have hdrew:Below U3.heap.size U3 U3.drew:=(Below.refl _ _).drew;replace hU:=hU.still hdrew;replace hV:=hV.still hdrew;replace h4:=h4.still hdrew;replace h106:=h106.still hdrew;replace h107:=h107.still hdrew;replace h108:=h108.still hdrew;refine wp_region_noPanic ?_;refine wp_region_held_drew (S:=fun w'=>Below U3.drew.heap.size U3.drew w') (by kernel_rfl) (Below.refl _ _) (fun hS => ?_);generalize U3.drew=Vp4_ at *;refine tk 0 (ag x0) hS (hy:=(iu h108 8)) (h := ?_);(try simp only [pS]);refine tk 1 (ag x0) hS (hy:=(iu h108 8)) (h := ?_);(try simp only [pS]);refine tk 3 (ag v) hS (hy:=(iu hV 3)) (h := ?_);(try simp only [pS]);refine J1 (rs:=[2,5]) (by kernel_rfl) (by simp) ?_;refine J7 (o:=FC) rfl (fun K hK => ?_) (J7 (o:=qf) rfl (fun K hK => ?_) (J6))
  · unfold FC
    go_simp;(go_at_call 98;refine (k10 _).mono ?_;rintro e wp4_1 ⟨rfl,hbp4_1⟩);(try go_simp);have hSp4_1:=aa hS hbp4_1;refine hK.out _ _ hSp4_1 (fun h => ?_);clear h hK K hbp4_1;(try simp only [pS]);refine J1 (rs:=[4,5]) (by kernel_rfl) (by simp) ?_;refine J7 (o:=Fv) rfl (fun K hK => ?_) (J7 (o:=qf) rfl (fun K hK => ?_) (J6))
    · unfold Fv
      go_simp;(go_at_call 98;refine (k11 _).mono ?_;rintro e wp4_2 ⟨rfl,hbp4_2⟩);(try go_simp);have hSp4_2:=aa hSp4_1 hbp4_2;refine hK.out _ _ hSp4_2 (fun h => ?_);clear h hK K hbp4_2;(try simp only [pS]);refine J1 (rs:=[5]) (by kernel_rfl) (by simp) ?_;refine J7 (o:=qf) rfl (fun K hK => ?_) (J6);unfold qf;go_simp;obtain ⟨wp4_3,gp4_3,hwp4_3,hgp4_3,hbp4_3,rp4_3⟩:=cL wp4_2;rw [hwp4_3,hgp4_3];have hSp4_3:=aa hSp4_2 hbp4_3
      have Gp4_3:Vp4_.heap.size≤gp4_3:=by have:=hSp4_2.size;omega
      refine hK.out _ _ hSp4_3 (fun h => ?_);clear h hK K hbp4_3 hwp4_3 hgp4_3;(try simp only [pS]);refine J1 (rs:=[6]) (by kernel_rfl) (by simp) ?_;refine J7 (o:=qA) rfl (fun K hK => ?_) (J6);unfold qA;rw [if_pos (by rfl)];refine bD _ _ rfl gp4_3 0 sq rfl rfl rp4_3 hSp4_3 Gp4_3 (fun wp4_4 r0 hSp4_4 far => ?_);refine hK.out _ _ hSp4_4 (fun h => ?_);clear h hK K far rp4_3;have rp4_3:=r0;clear r0;(try dsimp only [Act.put]);refine J4 (by kernel_rfl) ?_ _;refine J8 ?_;go_wp2;go_meet
      case rel=>exact ⟨gp4_3,rfl,aa hdrew hSp4_4,JY hdrew.size Gp4_3,rp4_3⟩
    · unfold qf
      go_simp;obtain ⟨wp4_5,gp4_5,hwp4_5,hgp4_5,hbp4_5,rp4_5⟩:=cL wp4_1;rw [hwp4_5,hgp4_5];have hSp4_5:=aa hSp4_1 hbp4_5
      have Gp4_5:Vp4_.heap.size≤gp4_5:=by have:=hSp4_1.size;omega
      refine hK.out _ _ hSp4_5 (fun h => ?_);clear h hK K hbp4_5 hwp4_5 hgp4_5;(try simp only [pS]);refine cl 4 (k11 _) ?_
      (rintro e wp4_6 ⟨rfl,hbp4_6⟩)
      have hSp4_6:=aa hSp4_5 hbp4_6;replace rp4_5:=rp4_5.still hbp4_6;refine ⟨_,rfl,hSp4_6,?_⟩;clear hbp4_6;(try simp only [pS]);refine J1 (rs:=[6]) (by kernel_rfl) (by simp) ?_;refine J7 (o:=qA) rfl (fun K hK => ?_) (J6);unfold qA;rw [if_pos (by rfl)];refine bD _ _ rfl gp4_5 0 sq rfl rfl rp4_5 hSp4_6 Gp4_5 (fun wp4_7 r0 hSp4_7 far => ?_);refine hK.out _ _ hSp4_7 (fun h => ?_);clear h hK K far rp4_5;have rp4_5:=r0;clear r0;(try dsimp only [Act.put]);refine J4 (by kernel_rfl) ?_ _;refine J8 ?_;go_wp2;go_meet
      case rel=>exact ⟨gp4_5,rfl,aa hdrew hSp4_7,JY hdrew.size Gp4_5,rp4_5⟩
  · unfold qf
    go_simp;obtain ⟨wp4_8,gp4_8,hwp4_8,hgp4_8,hbp4_8,rp4_8⟩:=cL Vp4_;rw [hwp4_8,hgp4_8];have hSp4_8:=aa hS hbp4_8
    have Gp4_8:Vp4_.heap.size≤gp4_8:=by have:=hS.size;omega
    refine hK.out _ _ hSp4_8 (fun h => ?_);clear h hK K hbp4_8 hwp4_8 hgp4_8;(try simp only [pS]);refine cl 2 (k10 _) ?_
    (rintro e wp4_9 ⟨rfl,hbp4_9⟩)
    have hSp4_9:=aa hSp4_8 hbp4_9;replace rp4_8:=rp4_8.still hbp4_9;refine ⟨_,rfl,hSp4_9,?_⟩;clear hbp4_9;(try simp only [pS]);refine cl 4 (k11 _) ?_
    (rintro e wp4_10 ⟨rfl,hbp4_10⟩)
    have hSp4_10:=aa hSp4_9 hbp4_10;replace rp4_8:=rp4_8.still hbp4_10;refine ⟨_,rfl,hSp4_10,?_⟩;clear hbp4_10;(try simp only [pS]);refine J1 (rs:=[6]) (by kernel_rfl) (by simp) ?_;refine J7 (o:=qA) rfl (fun K hK => ?_) (J6);unfold qA;rw [if_pos (by rfl)];refine bD _ _ rfl gp4_8 0 sq rfl rfl rp4_8 hSp4_10 Gp4_8 (fun wp4_11 r0 hSp4_11 far => ?_);refine hK.out _ _ hSp4_11 (fun h => ?_);clear h hK K far rp4_8;have rp4_8:=r0;clear r0;(try dsimp only [Act.put]);refine J4 (by kernel_rfl) ?_ _;refine J8 ?_;go_wp2;go_meet
    case rel=>exact ⟨gp4_8,rfl,aa hdrew hSp4_11,JY hdrew.size Gp4_8,rp4_8⟩
 case rest =>
 obtain ⟨g109,rfl,hb109,G109,h109⟩:=hcut;have lt4:=h4.lt;replace hU:=hU.still hb109;replace hV:=hV.still hb109;replace h4:=h4.still hb109;replace h106:=h106.still hb109;replace h107:=h107.still hb109;replace h108:=h108.still hb109;replace im:=im.still hb109
 obtain ⟨U4,hU4⟩:∃ W,W=wc:=⟨_,rfl⟩
 rw [←hU4];rw [←hU4] at hU hV h4 h106 h107 h108 h109 im hb109;replace hbW:Below w.heap.size w U4:=aa hbW hb109
 have n4_109:g109≠g4:=by omega
 clear hU4 hb109 G109 lt4
 go_upto_region 5 with (fail)
 clear k1 k2 k3 k4 k5 k6 k7 k8 k9 k10 k11 hV h106 h107;have sqr:=h109.range;have ur:=hU.range
 by_cases h1:sq=u
 · have Hr:Hid (r=me x0):=Hid.mk' (by rw [Hr0.out,if_pos h1])
   have Hk:Hid (ok=true):=Hid.mk' (by rw [Hk0.out,if_pos h1]);clear Hr0 Hk0;have d1:decide (sq=u)=true:=decide_eq_true h1;clear h1 k12 k13
   go_upto_region 9 with (first
    | (refine J3 rfl 75 _ rfl g109 0 rfl (c4 sq) _ sqr Tryz.underlying75 rfl aE ?_)
    | (refine J3 rfl 75 _ rfl g2 0 rfl (c4 u) _ ur Tryz.underlying75 rfl aE ?_)
    | (refine pj rfl _ _ _ rfl sq u hsq hu rfl rfl true d1 ?_))
   clear sqr ur h109 hU
   have ko:∀ W,Calls Tryz.prog 251 #[.agg (c4 x0).toArray] W fun e w'=>e = .returned (.bool (x0%2 == 1))∧Below W.heap.size W w':=fun W=>k14 W x0 hx0
   have km:∀ W,Calls Tryz.prog 112 #[.agg (c4 0).toArray,.agg (c4 x0).toArray] W fun e w'=>e = .returned (.agg (c4 ((0+pF - x0)%pF)).toArray)∧Below W.heap.size W w':=fun W=>k15 W x0 hx0
   clear k14 k15
   cases hpar:(x0%2 == 1) with
   | false =>
    rw [hpar] at ko;have Hr2:Hid (r=x0):=Hid.mk' (by rw [Hr.out,uQ hpar]);clear km hpar Hr
    go_wp2_with (first
     | (refine J3 rfl 75 _ rfl g108 0 rfl (c4 x0) _ h108.range Tryz.underlying75 rfl aE ?_)
     | (go_at_call 251;refine (ko _).mono ?_;clear ko;rintro e w9 ⟨rfl,hb9⟩;(replace h108:=h108.still hb9);(replace h4:=h4.still hb9);(replace hbW:=aa hbW hb9);clear hb9;(have t4:w9.there g4 0 (c4 x0).toArray.size:=h4.there))
     | (with_reducible (refine id (?_:wpList _ _ _ _ _ _));refine J2 rfl 75 _ _ rfl g4 0 (c4 x0).toArray rfl rfl t4 (cN x0) (fS x0) ?_))
    (try simp only [Exit.inBlock,Exit.then]);exact bodyPost_ret (am Tryz.results219 _ _ g4 0 (c4 x0) _ rfl (h4.stored (c4 x0) rfl).range Tryz.underlying75 rfl aE) rfl ⟨by rw [Hr2.out,Hk.out];rfl,ac w4 _ _ _ hbW⟩
   | true =>
    rw [hpar] at ko
    obtain ⟨y,hy⟩:∃ y,(0+pF - x0)%pF=y:=⟨_,rfl⟩
    rw [hy] at km;have Hr2:Hid (r=y):=Hid.mk' (by rw [Hr.out,yC hpar,hy]);clear hpar hy Hr
    go_wp2_with (first
     | (refine J3 rfl 75 _ rfl g108 0 rfl (c4 x0) _ h108.range Tryz.underlying75 rfl aE ?_)
     | (refine J3 rfl 75 _ rfl g108 0 rfl (c4 y) _ h108.range Tryz.underlying75 rfl aE ?_)
     | (refine be rfl 75 rfl (c4 0).toArray jZ ?_)
     | (go_at_call 251;refine (ko _).mono ?_;clear ko;rintro e w9 ⟨rfl,hb9⟩;(replace h108:=h108.still hb9);(replace h4:=h4.still hb9);(replace hbW:=aa hbW hb9);clear hb9)
     | (go_at_call 112;refine (km _).mono ?_;clear km;rintro e w10 ⟨rfl,hb10⟩;(replace h108:=h108.still hb10);(replace h4:=h4.still hb10);(replace hbW:=aa hbW hb10);clear hb10;(have t8:w10.there g108 0 (c4 y).toArray.size:=h108.there);(obtain ⟨V8,hV8⟩:∃ V,V=w10.setCells g108 0 (c4 y):=⟨_,rfl⟩);(replace h108:=h108.stored (c4 y) rfl);(replace h4:=h4.far g108 0 (c4 y) (.inl n4_108.symm));(replace hbW:=ac w108 (c4 y) 0 _ hbW);rw [←hV8] at h108 h4 hbW;(have H8:=Hid.mk' hV8);clear hV8;(have t4:V8.there g4 0 (c4 y).toArray.size:=h4.there))
     | (with_reducible (refine id (?_:wpList _ _ _ _ _ _));refine J2 rfl 75 _ _ rfl g108 0 (c4 y).toArray rfl rfl t8 (cN y) (fS y) ?_;rw [List.toList_toArray,←H8.out];clear t8)
     | (with_reducible (refine id (?_:wpList _ _ _ _ _ _));refine J2 rfl 75 _ _ rfl g4 0 (c4 y).toArray rfl rfl t4 (cN y) (fS y) ?_))
    (try simp only [Exit.inBlock,Exit.then]);exact bodyPost_ret (am Tryz.results219 _ _ g4 0 (c4 y) _ rfl (h4.stored (c4 y) rfl).range Tryz.underlying75 rfl aE) rfl ⟨by rw [Hr2.out,Hk.out];rfl,ac w4 _ _ _ hbW⟩
 · have Hr1:Hid (r=if sq=nu then me xi else 0):=Hid.mk' (by rw [Hr0.out,if_neg h1])
   have Hk1:Hid (ok=decide (sq=nu)):=Hid.mk' (by rw [Hk0.out,if_neg h1]);clear Hr0 Hk0;have d1:decide (sq=u)=false:=decide_eq_false h1;clear h1
   go_upto_region 6 with (first
    | (refine J3 rfl 75 _ rfl g109 0 rfl (c4 sq) _ sqr Tryz.underlying75 rfl aE ?_)
    | (refine J3 rfl 75 _ rfl g2 0 rfl (c4 u) _ ur Tryz.underlying75 rfl aE ?_)
    | (refine pj rfl _ _ _ rfl sq u hsq hu rfl rfl false d1 ?_))
   clear sqr ur d1
   obtain ⟨z,hz⟩:∃ z,decide (sq=nu)=z:=⟨_,rfl⟩
   have Hk:Hid (ok=z):=Hid.mk' (by rw [Hk1.out,hz]);clear Hk1;(try simp only [Act.put,List.setIfInBounds_toArray,List.set_cons_zero,List.set_cons_succ,Bool.not_false])
   go_cut [43] from 10 (fun s43 wc=>s43 = .bool (!z)∧Below U4.heap.size U4 wc)
   case first =>
    clear k13 k14 k15 im;have hdrew:Below U4.heap.size U4 U4.drew:=(Below.refl _ _).drew;replace hU:=hU.still hdrew;replace h109:=h109.still hdrew;refine wp_region_noPanic ?_;refine wp_region_held_drew (S:=fun w'=>Below U4.drew.heap.size U4.drew w') (by kernel_rfl) (Below.refl _ _) (fun hS => ?_);generalize U4.drew=Vp6_ at *;refine tk 0 (ag sq) hS (hy:=(iu h109 9)) (h := ?_);(try simp only [pS]);refine tk 1 (ag 0) hS (hy:=(pG (by rfl) 75 rfl _ jZ)) (h := ?_);(try simp only [pS]);refine tk 2 (ag u) hS (hy:=(iu hU 2)) (h := ?_);(try simp only [pS]);refine cl 3 (k12 _) ?_
    (rintro e wp6_1 ⟨rfl,hbp6_1⟩)
    have hSp6_1:=aa hS hbp6_1;refine ⟨_,rfl,hSp6_1,?_⟩;clear hbp6_1;(try simp only [pS]);refine tk 4 (.bool (!z)) hSp6_1 (hy:=(vV (by rfl) _ _ _ rfl sq nu hsq hnu rfl rfl z hz)) (h := ?_);(try simp only [pS]);refine J4 (by kernel_rfl) ?_ _;refine J8 ?_;go_wp2;go_meet
    case rel=>exact ⟨rfl,aa hdrew hSp6_1⟩
   case rest =>
   obtain ⟨rfl,hb6⟩:=hcut;replace h108:=h108.still hb6;replace h4:=h4.still hb6;replace im:=im.still hb6;replace hbW:=aa hbW hb6;clear hb6 h109 hU k12
   cases z with
   | false =>
    have Hr:Hid (r=0):=Hid.mk' (by rw [Hr1.out,if_neg (of_decide_eq_false hz)]);clear Hr1;have t4:wc.there g4 0 (c4 0).toArray.size:=h4.there;clear hz k13 k14 k15
    go_wp2_with (first
     | (refine be rfl 75 rfl (c4 0).toArray jZ ?_)
     | (with_reducible (refine id (?_:wpList _ _ _ _ _ _));refine J2 rfl 75 _ _ rfl g4 0 (c4 0).toArray rfl rfl t4 (cN 0) (fS 0) ?_))
    (try simp only [Exit.inBlock,Exit.then]);exact bodyPost_ret (am Tryz.results219 _ _ g4 0 (c4 0) _ rfl (h4.stored (c4 0) rfl).range Tryz.underlying75 rfl aE) rfl ⟨by rw [Hr.out,Hk.out];rfl,ac w4 _ _ _ hbW⟩
   | true =>
    have Hr:Hid (r=me xi):=Hid.mk' (by rw [Hr1.out,if_pos (of_decide_eq_true hz)]);clear hz Hr1;have imr:=im.range
    replace k13:∀ W,Calls Tryz.prog 98 #[.agg (c4 x0).toArray,.agg (c4 iM).toArray] W fun e w'=>e = .returned (.agg (c4 xi).toArray)∧Below W.heap.size W w':=k13
    go_upto_region 9 with (first
     | (refine J3 rfl 75 _ rfl g108 0 rfl (c4 x0) _ h108.range Tryz.underlying75 rfl aE ?_)
     | (refine J3 rfl 73 _ rfl 5 0 rfl (c4 iM) _ imr Tryz.underlying73 rfl zS ?_)
     | (refine jy rfl 75 0 _ rfl (.agg (c4 iM).toArray) rfl (c4 iM).toArray (GP iM) ?_)
     | (go_at_call 98;refine (k13 _).mono ?_;clear k13 imr;rintro e w8 ⟨rfl,hb8⟩;(replace h108:=h108.still hb8);(replace h4:=h4.still hb8);(replace hbW:=aa hbW hb8);clear hb8 im;(have t8:w8.there g108 0 (c4 xi).toArray.size:=h108.there);(obtain ⟨V7,hV7⟩:∃ V,V=w8.setCells g108 0 (c4 xi):=⟨_,rfl⟩);(replace h108:=h108.stored (c4 xi) rfl);(replace h4:=h4.far g108 0 (c4 xi) (.inl n4_108.symm));(replace hbW:=ac w108 (c4 xi) 0 _ hbW);rw [←hV7] at h108 h4 hbW;(have H7:=Hid.mk' hV7);clear hV7)
     | (with_reducible (refine id (?_:wpList _ _ _ _ _ _));refine J2 rfl 75 _ _ rfl g108 0 (c4 xi).toArray rfl rfl t8 (cN xi) (fS xi) ?_;rw [List.toList_toArray,←H7.out];clear t8))
    have ko:∀ W,Calls Tryz.prog 251 #[.agg (c4 xi).toArray] W fun e w'=>e = .returned (.bool (xi%2 == 1))∧Below W.heap.size W w':=fun W=>k14 W xi hxi
    have km:∀ W,Calls Tryz.prog 112 #[.agg (c4 0).toArray,.agg (c4 xi).toArray] W fun e w'=>e = .returned (.agg (c4 ((0+pF - xi)%pF)).toArray)∧Below W.heap.size W w':=fun W=>k15 W xi hxi
    clear k14 k15
    cases hpar:(xi%2 == 1) with
    | false =>
     rw [hpar] at ko;have Hr2:Hid (r=xi):=Hid.mk' (by rw [Hr.out,uQ hpar]);clear km hpar Hr
     go_wp2_with (first
      | (refine J3 rfl 75 _ rfl g108 0 rfl (c4 xi) _ h108.range Tryz.underlying75 rfl aE ?_)
      | (go_at_call 251;refine (ko _).mono ?_;clear ko;rintro e w9 ⟨rfl,hb9⟩;(replace h108:=h108.still hb9);(replace h4:=h4.still hb9);(replace hbW:=aa hbW hb9);clear hb9;(have t4:w9.there g4 0 (c4 xi).toArray.size:=h4.there))
      | (with_reducible (refine id (?_:wpList _ _ _ _ _ _));refine J2 rfl 75 _ _ rfl g4 0 (c4 xi).toArray rfl rfl t4 (cN xi) (fS xi) ?_))
     (try simp only [Exit.inBlock,Exit.then]);exact bodyPost_ret (am Tryz.results219 _ _ g4 0 (c4 xi) _ rfl (h4.stored (c4 xi) rfl).range Tryz.underlying75 rfl aE) rfl ⟨by rw [Hr2.out,Hk.out];rfl,ac w4 _ _ _ hbW⟩
    | true =>
     rw [hpar] at ko
     obtain ⟨y,hy⟩:∃ y,(0+pF - xi)%pF=y:=⟨_,rfl⟩
     rw [hy] at km;have Hr2:Hid (r=y):=Hid.mk' (by rw [Hr.out,yC hpar,hy]);clear hpar hy Hr
     go_wp2_with (first
      | (refine J3 rfl 75 _ rfl g108 0 rfl (c4 xi) _ h108.range Tryz.underlying75 rfl aE ?_)
      | (refine J3 rfl 75 _ rfl g108 0 rfl (c4 y) _ h108.range Tryz.underlying75 rfl aE ?_)
      | (refine be rfl 75 rfl (c4 0).toArray jZ ?_)
      | (go_at_call 251;refine (ko _).mono ?_;clear ko;rintro e w9 ⟨rfl,hb9⟩;(replace h108:=h108.still hb9);(replace h4:=h4.still hb9);(replace hbW:=aa hbW hb9);clear hb9)
      | (go_at_call 112;refine (km _).mono ?_;clear km;rintro e w10 ⟨rfl,hb10⟩;(replace h108:=h108.still hb10);(replace h4:=h4.still hb10);(replace hbW:=aa hbW hb10);clear hb10;(have t8:w10.there g108 0 (c4 y).toArray.size:=h108.there);(obtain ⟨V8,hV8⟩:∃ V,V=w10.setCells g108 0 (c4 y):=⟨_,rfl⟩);(replace h108:=h108.stored (c4 y) rfl);(replace h4:=h4.far g108 0 (c4 y) (.inl n4_108.symm));(replace hbW:=ac w108 (c4 y) 0 _ hbW);rw [←hV8] at h108 h4 hbW;(have H8:=Hid.mk' hV8);clear hV8;(have t4:V8.there g4 0 (c4 y).toArray.size:=h4.there))
      | (with_reducible (refine id (?_:wpList _ _ _ _ _ _));refine J2 rfl 75 _ _ rfl g108 0 (c4 y).toArray rfl rfl t8 (cN y) (fS y) ?_;rw [List.toList_toArray,←H8.out];clear t8)
      | (with_reducible (refine id (?_:wpList _ _ _ _ _ _));refine J2 rfl 75 _ _ rfl g4 0 (c4 y).toArray rfl rfl t4 (cN y) (fS y) ?_))
     (try simp only [Exit.inBlock,Exit.then]);exact bodyPost_ret (am Tryz.results219 _ _ g4 0 (c4 y) _ rfl (h4.stored (c4 y) rfl).range Tryz.underlying75 rfl aE) rfl ⟨by rw [Hr2.out,Hk.out];rfl,ac w4 _ _ _ hbW⟩
end Go.Proofs.YtibdhadbflfdpaaGreatDoor
