/- What a step of the reference's ladder does in the model. -/
import Derived.Test.YtibdhadbflfdpaaGreatDoorRefOneM
namespace Go.Proofs.YtibdhadbflfdpaaGreatDoor
open Go.RowKit
theorem freshR' (w:World):RW (w.alloc (.cells zI 92)) w.heap.size 0 (i16 (fun _=>0)):=by rw [zI_eq];exact RW.fresh w _ _
theorem freshRt (w:World) (L:Nat→Int):(w.alloc (.cells zI 92)).there w.heap.size 0 (i16 L).toArray.size:=by
 have h:=(freshR' w).there
 rw [i16_len] at h
 have e:(i16 L).toArray.size=16:=by rw [List.size_toArray];exact i16_len L
 rw [e];exact h
theorem But.of_below {bad:Nat→Prop} {w w':World} (h:Below w.heap.size w w'):But bad w w':=⟨h.os,h.tape,h.output,h.size,fun k hk _=>h.block k hk⟩
theorem But.ofOut {bad:Nat→Prop} {b o n:Nat} {w w':World} (hb:bad b) (h:Out b o n w w'):But bad w w':=⟨h.os,h.tape,h.output,h.size,fun k hk hne=>h.block k hk (fun e=>hne (by rw [e];exact hb))⟩
theorem there32 {w:World} {g:Nat} {X Z X' Z':Nat→Int} (r:RW w g 0 (i32 X Z)):w.there g 0 (i32 X' Z').toArray.size:=by
 have h:=r.there
 rw [i32_len] at h
 have e:(i32 X' Z').toArray.size=32:=by rw [List.size_toArray];exact i32_len _ _
 rw [e];exact h
theorem results_cells {P:Program} {fn:Func} {p q:Tmp} {ty:TypeId} (h:fn.results=#[.cell p ty,.cell q ty]) (tmps:Array Value) (w:World) (g k:Nat) (cs ds:List Value) (d:TypeDesc)
 (hp:tmps.getD p undef = .pointer (some ⟨g,0,none⟩)) (hq:tmps.getD q undef = .pointer (some ⟨k,0,none⟩)) (hc:w.rangeAt g 0 cs) (hds:w.rangeAt k 0 ds)
 (hu:P.underlying ty=some d) (hd:d.isRow=true) (hi:(P.info? ty).map (·.size)=some cs.length) (hj:(P.info? ty).map (·.size)=some ds.length) :
 (results fn tmps).run P w = .ok (.tuple #[.agg cs.toArray,.agg ds.toArray]) w:=by
 have hp':tmps[p]?.getD undef = .pointer (some ⟨g,0,none⟩):=by simpa using hp
 have hq':tmps[q]?.getD undef = .pointer (some ⟨k,0,none⟩):=by simpa using hq
 simp [results,h,hp',hq',asAddr,run_loadVar_mid w g 0 ty cs d hc hu hd hi,run_loadVar_mid w k 0 ty ds d hds hu hd hj]
abbrev qy6x7:Oper:=oN 13 (Op.alloc 92) 0 "ref.go:36" #[]
abbrev qy6x4:Oper:=oN 41 (cF1 122 #[oT 38,oT 40] #[92,92]) 92 "ref.go:36" #[jD 1,jD 3]
abbrev qy6x6:Oper:=oN 43 (cF1 120 #[oT 41,oT 42] #[92,92]) 92 "ref.go:36" #[jD 4,jD 5,jC 4]
abbrev qy6x8:Oper:=oS (Op.store 92 (oT 13) (oT 43)) "ref.go:36" #[jD 7,jD 6,jC 6,jP 0,jP 1,jP 2,jP 3,jP 4,jP 5,jP 6,jP 7]
abbrev qy7x7:Oper:=oN 14 (Op.alloc 92) 0 "ref.go:37" #[]
abbrev qy7x4:Oper:=oN 48 (cF1 123 #[oT 45,oT 47] #[92,92]) 92 "ref.go:37" #[jD 1,jD 3]
abbrev qy7x6:Oper:=oN 50 (cF1 120 #[oT 48,oT 49] #[92,92]) 92 "ref.go:37" #[jD 4,jD 5,jC 4]
abbrev qy7x8:Oper:=oS (Op.store 92 (oT 14) (oT 50)) "ref.go:37" #[jD 7,jD 6,jC 6,jP 0,jP 1,jP 2,jP 3,jP 4,jP 5,jP 6,jP 7]
abbrev qy10x11:Oper:=oN 17 (Op.alloc 162) 0 "ref.go:40" #[]
abbrev qy10x2:Oper:=oN 59 (cF1 120 #[oT 57,oT 58] #[92,92]) 92 "ref.go:40" #[jD 0,jD 1]
abbrev qy10x5:Oper:=oN 62 (cF1 119 #[Operand.const (Value.int IntKind.i64 121665)] #[3]) 92 "ref.go:40" #[jC 2]
abbrev qy10x7:Oper:=oN 64 (cF1 120 #[oT 62,oT 63] #[92,92]) 92 "ref.go:40" #[jD 5,jD 6,jC 5]
abbrev qy10x8:Oper:=oN 65 (cF1 123 #[oT 61,oT 64] #[92,92]) 92 "ref.go:40" #[jD 4,jD 7,jC 7]
abbrev qy10x9:Oper:=oN 66 (cF1 120 #[oT 60,oT 65] #[92,92]) 92 "ref.go:40" #[jD 3,jD 8,jC 8]
abbrev qy10x12:Oper:=oS (Op.store 162 (oT 17) (oT 67)) "ref.go:40" #[jD 11,jD 10,jC 9,jP 0,jP 1,jP 2,jP 3,jP 4,jP 5,jP 6,jP 7,jP 8,jP 9,jP 10,jP 11]
abbrev qy11x10:Oper:=oS (Op.store 162 (oT 6) (oT 68)) "ref.go:41" #[jD 0,jC 8,jP 0,jT 1,jT 2,jU 3,jT 4,jT 5,jT 6,jU 7,jU 8,jT 9]
abbrev qy11x11:Oper:=oS (Op.store 162 (oT 7) (oT 77)) "ref.go:41" #[jD 9,jC 10,jP 0,jP 1,jP 2,jP 3,jP 4,jP 5,jP 6,jP 7,jP 8,jP 9,jP 10]
set_option maxRecDepth 20000 in
set_option maxHeartbeats 16000000 in
theorem rstep_raw (X1 pX pZ qX qZ a b aa bb ee d0 da c0 cb s d ab k ke ak ea ss dd xd:Nat→Int)
 (k1:∀ W,Calls Tryz.prog 123 #[rV pX,rV pZ] W fun e w'=>e = .returned (rV a)∧Below W.heap.size W w')
 (k2:∀ W,Calls Tryz.prog 122 #[rV pX,rV pZ] W fun e w'=>e = .returned (rV b)∧Below W.heap.size W w')
 (k3:∀ W,Calls Tryz.prog 120 #[rV a,rV a] W fun e w'=>e = .returned (rV aa)∧Below W.heap.size W w')
 (k4:∀ W,Calls Tryz.prog 120 #[rV b,rV b] W fun e w'=>e = .returned (rV bb)∧Below W.heap.size W w')
 (k5:∀ W,Calls Tryz.prog 122 #[rV aa,rV bb] W fun e w'=>e = .returned (rV ee)∧Below W.heap.size W w')
 (k6:∀ W,Calls Tryz.prog 122 #[rV qX,rV qZ] W fun e w'=>e = .returned (rV d0)∧Below W.heap.size W w')
 (k7:∀ W,Calls Tryz.prog 120 #[rV d0,rV a] W fun e w'=>e = .returned (rV da)∧Below W.heap.size W w')
 (k8:∀ W,Calls Tryz.prog 123 #[rV qX,rV qZ] W fun e w'=>e = .returned (rV c0)∧Below W.heap.size W w')
 (k9:∀ W,Calls Tryz.prog 120 #[rV c0,rV b] W fun e w'=>e = .returned (rV cb)∧Below W.heap.size W w')
 (k10:∀ W,Calls Tryz.prog 123 #[rV da,rV cb] W fun e w'=>e = .returned (rV s)∧Below W.heap.size W w')
 (k11:∀ W,Calls Tryz.prog 122 #[rV da,rV cb] W fun e w'=>e = .returned (rV d)∧Below W.heap.size W w')
 (k12:∀ W,Calls Tryz.prog 120 #[rV aa,rV bb] W fun e w'=>e = .returned (rV ab)∧Below W.heap.size W w')
 (k13:∀ W,Calls Tryz.prog 119 #[.int .i64 121665] W fun e w'=>e = .returned (rV k)∧Below W.heap.size W w')
 (k14:∀ W,Calls Tryz.prog 120 #[rV k,rV ee] W fun e w'=>e = .returned (rV ke)∧Below W.heap.size W w')
 (k15:∀ W,Calls Tryz.prog 123 #[rV aa,rV ke] W fun e w'=>e = .returned (rV ak)∧Below W.heap.size W w')
 (k16:∀ W,Calls Tryz.prog 120 #[rV ee,rV ak] W fun e w'=>e = .returned (rV ea)∧Below W.heap.size W w')
 (k17:∀ W,Calls Tryz.prog 120 #[rV s,rV s] W fun e w'=>e = .returned (rV ss)∧Below W.heap.size W w')
 (k18:∀ W,Calls Tryz.prog 120 #[rV d,rV d] W fun e w'=>e = .returned (rV dd)∧Below W.heap.size W w')
 (k19:∀ W,Calls Tryz.prog 120 #[rV X1,rV dd] W fun e w'=>e = .returned (rV xd)∧Below W.heap.size W w')
 (w:World) :
 Calls Tryz.prog 135 #[rV X1,pV pX pZ,pV qX qZ] w fun e w'=>e = .returned (.tuple #[pV ab ea,pV ss xd])∧Below w.heap.size w w':=by
 have hz:=zeroR
 have hzp:=zeroP
 obtain ⟨V1,g3,e3,hg3,b3,hx⟩:∃ V g,w.alloc (.cells (i16 X1).toArray 92)=V∧w.heap.size=g∧Below w.heap.size w V∧RW V g 0 (i16 X1):=⟨_,_,rfl,rfl,(Below.refl _ _).alloc (Nat.le_refl _) _,RW.fresh w _ _⟩
 obtain ⟨V2,g4,e4,hg4,b4,hp⟩:∃ V g,V1.alloc (.cells (i32 pX pZ).toArray 162)=V∧V1.heap.size=g∧Below V1.heap.size V1 V∧RW V g 0 (i32 pX pZ):=⟨_,_,rfl,rfl,(Below.refl _ _).alloc (Nat.le_refl _) _,RW.fresh V1 _ _⟩
 obtain ⟨V3,g5,e5,hg5,b5,hq⟩:∃ V g,V2.alloc (.cells (i32 qX qZ).toArray 162)=V∧V2.heap.size=g∧Below V2.heap.size V2 V∧RW V g 0 (i32 qX qZ):=⟨_,_,rfl,rfl,(Below.refl _ _).alloc (Nat.le_refl _) _,RW.fresh V2 _ _⟩
 obtain ⟨V4,g6,e6,hg6,b6,h6⟩:=freshP V3
 obtain ⟨W,g7,e7,hg7,b7,h7⟩:=freshP V4
 have t1:V1.heap.size=w.heap.size+1:=by rw [←e3];simp
 have t2:V2.heap.size=V1.heap.size+1:=by rw [←e4];simp
 have t3:V3.heap.size=V2.heap.size+1:=by rw [←e5];simp
 have t4:V4.heap.size=V3.heap.size+1:=by rw [←e6];simp
 have HW:Hid (W=((((w.alloc (.cells (i16 X1).toArray 92)).alloc (.cells (i32 pX pZ).toArray 162)).alloc (.cells (i32 qX qZ).toArray 162)).alloc (.cells zP 162)).alloc (.cells zP 162)):=Hid.mk' (by rw [←e7,←e6,←e5,←e4,←e3])
 have q3:Hid (w.heap.size=g3):=Hid.mk' hg3
 have q4:Hid (w.heap.size+1=g4):=Hid.mk' (by omega)
 have q5:Hid (w.heap.size+1+1=g5):=Hid.mk' (by omega)
 have q6:Hid (w.heap.size+1+1+1=g6):=Hid.mk' (by omega)
 have q7:Hid (w.heap.size+1+1+1+1=g7):=Hid.mk' (by omega)
 replace hx:=(((hx.still b4).still b5).still b6).still b7
 replace hp:=((hp.still b5).still b6).still b7
 replace hq:=(hq.still b6).still b7
 replace h6:=h6.still b7
 have hbW:Below w.heap.size w W:=(((b3.trans (b4.mono (by omega))).trans (b5.mono (by omega))).trans (b6.mono (by omega))).trans (b7.mono (by omega))
 have hpX:RW W g4 0 (i16 pX):=hp.left
 have hpZ:RW W g4 16 (i16 pZ):=by have:=hp.right;rwa [i16_len] at this
 have hqX:RW W g5 0 (i16 qX):=hq.left
 have hqZ:RW W g5 16 (i16 qZ):=by have:=hq.right;rwa [i16_len] at this
 have n67:g6≠g7:=by omega
 have w6:w.heap.size≤g6:=by omega
 have w7:w.heap.size≤g7:=by omega
 have m63:g3≠g6:=by omega
 have m73:g3≠g7:=by omega
 clear e3 e4 e5 e6 e7 hg3 hg4 hg5 hg6 hg7 b3 b4 b5 b6 b7 t1 t2 t3 t4 hp hq V1 V2 V3 V4
 rw [show rV X1 = .agg (i16 X1).toArray from rfl,show pV pX pZ = .agg (i32 pX pZ).toArray from rfl,show pV qX qZ = .agg (i32 qX qZ).toArray from rfl]
 go_enter Tryz.func135,Tryz.ntmps135
 go_upto_region 1 with (fail)
 rw [←HW.out,q7.out,q6.out,q5.out,q4.out,q3.out]
 clear HW q3 q4 q5 q6 q7
 go_cut [8] from 18 (fun s8 wc=>∃ g108,s8 = .pointer (some ⟨g108,0,none⟩)∧Below W.heap.size W wc∧W.heap.size≤g108∧RW wc g108 0 (i16 a))
 case first =>
  clear k2 k3 k4 k5 k6 k7 k8 k9 k10 k11 k12 k13 k14 k15 k16 k17 k18 k19
  have r1:=hpX.range
  have r2:=hpZ.range
  have kk:∀ W,Calls Tryz.prog 123 #[.agg (i16 pX).toArray,.agg (i16 pZ).toArray] W fun e w'=>e = .returned (.agg (i16 a).toArray)∧Below W.heap.size W w':=k1
  clear k1 hx hpX hpZ hqX hqZ h6 h7 hzp
  go_wp2_with (first
   | (refine wpList_load_mid rfl 92 _ rfl g4 0 rfl (i16 pX) _ r1 Tryz.underlying92 rfl (infoI pX) ?_)
   | (refine wpList_load_mid rfl 92 _ rfl g4 16 rfl (i16 pZ) _ r2 Tryz.underlying92 rfl (infoI pZ) ?_)
   | (go_at_call 123;refine (kk _).mono ?_;clear kk r1 r2;rintro e w9 ⟨rfl,hb9⟩;(have th:=freshR' w9);(have th':=freshRt w9 a))
   | (with_reducible (refine id (?_:wpList _ _ _ _ _ _));refine wpList_store_mid rfl 92 _ _ rfl w9.heap.size 0 (i16 a).toArray rfl rfl th' (infoIA a) (oneI a) ?_))
  go_meet
  case rel=>exact ⟨w9.heap.size,rfl,below_setCells hb9.size _ _ _ (hb9.alloc hb9.size _),hb9.size,th.stored (i16 a) (by rw [i16_len,i16_len])⟩
 case rest =>
 obtain ⟨g108,rfl,hb108,G108,h108⟩:=hcut
 have lt6:=h6.lt
 have lt7:=h7.lt
 replace hx:=hx.still hb108
 replace hpX:=hpX.still hb108
 replace hpZ:=hpZ.still hb108
 replace hqX:=hqX.still hb108
 replace hqZ:=hqZ.still hb108
 replace h6:=h6.still hb108
 replace h7:=h7.still hb108
 obtain ⟨U1,hU1⟩:∃ W,W=wc:=⟨_,rfl⟩
 rw [←hU1]
 rw [←hU1] at hx hpX hpZ hqX hqZ h6 h7 h108 hb108
 replace hbW:Below w.heap.size w U1:=below_next hbW hb108
 clear hU1 hb108
 have m6_8:g108≠g6∧g108≠g7:=⟨by omega,by omega⟩
 clear G108 lt6 lt7
 go_upto_region 2 with (fail)
 go_cut [9] from 18 (fun s9 wc=>∃ g109,s9 = .pointer (some ⟨g109,0,none⟩)∧Below U1.heap.size U1 wc∧U1.heap.size≤g109∧RW wc g109 0 (i16 b))
 case first =>
  clear k1 k3 k4 k5 k6 k7 k8 k9 k10 k11 k12 k13 k14 k15 k16 k17 k18 k19
  have r1:=hpX.range
  have r2:=hpZ.range
  have kk:∀ W,Calls Tryz.prog 122 #[.agg (i16 pX).toArray,.agg (i16 pZ).toArray] W fun e w'=>e = .returned (.agg (i16 b).toArray)∧Below W.heap.size W w':=k2
  clear k2 hx hpX hpZ hqX hqZ h6 h7 h108 hzp
  go_wp2_with (first
   | (refine wpList_load_mid rfl 92 _ rfl g4 0 rfl (i16 pX) _ r1 Tryz.underlying92 rfl (infoI pX) ?_)
   | (refine wpList_load_mid rfl 92 _ rfl g4 16 rfl (i16 pZ) _ r2 Tryz.underlying92 rfl (infoI pZ) ?_)
   | (go_at_call 122;refine (kk _).mono ?_;clear kk r1 r2;rintro e w9 ⟨rfl,hb9⟩;(have th:=freshR' w9);(have th':=freshRt w9 b))
   | (with_reducible (refine id (?_:wpList _ _ _ _ _ _));refine wpList_store_mid rfl 92 _ _ rfl w9.heap.size 0 (i16 b).toArray rfl rfl th' (infoIA b) (oneI b) ?_))
  go_meet
  case rel=>exact ⟨w9.heap.size,rfl,below_setCells hb9.size _ _ _ (hb9.alloc hb9.size _),hb9.size,th.stored (i16 b) (by rw [i16_len,i16_len])⟩
 case rest =>
 obtain ⟨g109,rfl,hb109,G109,h109⟩:=hcut
 have lt6:=h6.lt
 have lt7:=h7.lt
 replace hx:=hx.still hb109
 replace hpX:=hpX.still hb109
 replace hpZ:=hpZ.still hb109
 replace hqX:=hqX.still hb109
 replace hqZ:=hqZ.still hb109
 replace h6:=h6.still hb109
 replace h7:=h7.still hb109
 replace h108:=h108.still hb109
 obtain ⟨U2,hU2⟩:∃ W,W=wc:=⟨_,rfl⟩
 rw [←hU2]
 rw [←hU2] at hx hpX hpZ hqX hqZ h6 h7 h108 h109 hb109
 replace hbW:Below w.heap.size w U2:=below_next hbW hb109
 clear hU2 hb109
 have m6_9:g109≠g6∧g109≠g7:=⟨by omega,by omega⟩
 clear G109 lt6 lt7
 go_upto_region 3 with (fail)
 go_cut [10] from 18 (fun s10 wc=>∃ g110,s10 = .pointer (some ⟨g110,0,none⟩)∧Below U2.heap.size U2 wc∧U2.heap.size≤g110∧RW wc g110 0 (i16 aa))
 case first =>
  clear k1 k2 k4 k5 k6 k7 k8 k9 k10 k11 k12 k13 k14 k15 k16 k17 k18 k19
  have r1:=h108.range
  have kk:∀ W,Calls Tryz.prog 120 #[.agg (i16 a).toArray,.agg (i16 a).toArray] W fun e w'=>e = .returned (.agg (i16 aa).toArray)∧Below W.heap.size W w':=k3
  clear k3 hx hpX hpZ hqX hqZ h6 h7 h108 h109 hzp
  go_wp2_with (first
   | (refine wpList_load_mid rfl 92 _ rfl g108 0 rfl (i16 a) _ r1 Tryz.underlying92 rfl (infoI a) ?_)
   | (go_at_call 120;refine (kk _).mono ?_;clear kk r1;rintro e w9 ⟨rfl,hb9⟩;(have th:=freshR' w9);(have th':=freshRt w9 aa))
   | (with_reducible (refine id (?_:wpList _ _ _ _ _ _));refine wpList_store_mid rfl 92 _ _ rfl w9.heap.size 0 (i16 aa).toArray rfl rfl th' (infoIA aa) (oneI aa) ?_))
  go_meet
  case rel=>exact ⟨w9.heap.size,rfl,below_setCells hb9.size _ _ _ (hb9.alloc hb9.size _),hb9.size,th.stored (i16 aa) (by rw [i16_len,i16_len])⟩
 case rest =>
 obtain ⟨g110,rfl,hb110,G110,h110⟩:=hcut
 have lt6:=h6.lt
 have lt7:=h7.lt
 replace hx:=hx.still hb110
 replace hpX:=hpX.still hb110
 replace hpZ:=hpZ.still hb110
 replace hqX:=hqX.still hb110
 replace hqZ:=hqZ.still hb110
 replace h6:=h6.still hb110
 replace h7:=h7.still hb110
 replace h108:=h108.still hb110
 replace h109:=h109.still hb110
 obtain ⟨U3,hU3⟩:∃ W,W=wc:=⟨_,rfl⟩
 rw [←hU3]
 rw [←hU3] at hx hpX hpZ hqX hqZ h6 h7 h108 h109 h110 hb110
 replace hbW:Below w.heap.size w U3:=below_next hbW hb110
 clear hU3 hb110
 have m6_10:g110≠g6∧g110≠g7:=⟨by omega,by omega⟩
 clear G110 lt6 lt7
 go_upto_region 4 with (fail)
 go_cut [11] from 18 (fun s11 wc=>∃ g111,s11 = .pointer (some ⟨g111,0,none⟩)∧Below U3.heap.size U3 wc∧U3.heap.size≤g111∧RW wc g111 0 (i16 bb))
 case first =>
  clear k1 k2 k3 k5 k6 k7 k8 k9 k10 k11 k12 k13 k14 k15 k16 k17 k18 k19
  have r1:=h109.range
  have kk:∀ W,Calls Tryz.prog 120 #[.agg (i16 b).toArray,.agg (i16 b).toArray] W fun e w'=>e = .returned (.agg (i16 bb).toArray)∧Below W.heap.size W w':=k4
  clear k4 hx hpX hpZ hqX hqZ h6 h7 h108 h109 h110 hzp
  go_wp2_with (first
   | (refine wpList_load_mid rfl 92 _ rfl g109 0 rfl (i16 b) _ r1 Tryz.underlying92 rfl (infoI b) ?_)
   | (go_at_call 120;refine (kk _).mono ?_;clear kk r1;rintro e w9 ⟨rfl,hb9⟩;(have th:=freshR' w9);(have th':=freshRt w9 bb))
   | (with_reducible (refine id (?_:wpList _ _ _ _ _ _));refine wpList_store_mid rfl 92 _ _ rfl w9.heap.size 0 (i16 bb).toArray rfl rfl th' (infoIA bb) (oneI bb) ?_))
  go_meet
  case rel=>exact ⟨w9.heap.size,rfl,below_setCells hb9.size _ _ _ (hb9.alloc hb9.size _),hb9.size,th.stored (i16 bb) (by rw [i16_len,i16_len])⟩
 case rest =>
 obtain ⟨g111,rfl,hb111,G111,h111⟩:=hcut
 have lt6:=h6.lt
 have lt7:=h7.lt
 replace hx:=hx.still hb111
 replace hpX:=hpX.still hb111
 replace hpZ:=hpZ.still hb111
 replace hqX:=hqX.still hb111
 replace hqZ:=hqZ.still hb111
 replace h6:=h6.still hb111
 replace h7:=h7.still hb111
 replace h108:=h108.still hb111
 replace h109:=h109.still hb111
 replace h110:=h110.still hb111
 obtain ⟨U4,hU4⟩:∃ W,W=wc:=⟨_,rfl⟩
 rw [←hU4]
 rw [←hU4] at hx hpX hpZ hqX hqZ h6 h7 h108 h109 h110 h111 hb111
 replace hbW:Below w.heap.size w U4:=below_next hbW hb111
 clear hU4 hb111
 have m6_11:g111≠g6∧g111≠g7:=⟨by omega,by omega⟩
 clear G111 lt6 lt7
 go_upto_region 5 with (fail)
 go_cut [12] from 18 (fun s12 wc=>∃ g112,s12 = .pointer (some ⟨g112,0,none⟩)∧Below U4.heap.size U4 wc∧U4.heap.size≤g112∧RW wc g112 0 (i16 ee))
 case first =>
  clear k1 k2 k3 k4 k6 k7 k8 k9 k10 k11 k12 k13 k14 k15 k16 k17 k18 k19
  have r1:=h110.range
  have r2:=h111.range
  have kk:∀ W,Calls Tryz.prog 122 #[.agg (i16 aa).toArray,.agg (i16 bb).toArray] W fun e w'=>e = .returned (.agg (i16 ee).toArray)∧Below W.heap.size W w':=k5
  clear k5 hx hpX hpZ hqX hqZ h6 h7 h108 h109 h110 h111 hzp
  go_wp2_with (first
   | (refine wpList_load_mid rfl 92 _ rfl g110 0 rfl (i16 aa) _ r1 Tryz.underlying92 rfl (infoI aa) ?_)
   | (refine wpList_load_mid rfl 92 _ rfl g111 0 rfl (i16 bb) _ r2 Tryz.underlying92 rfl (infoI bb) ?_)
   | (go_at_call 122;refine (kk _).mono ?_;clear kk r1 r2;rintro e w9 ⟨rfl,hb9⟩;(have th:=freshR' w9);(have th':=freshRt w9 ee))
   | (with_reducible (refine id (?_:wpList _ _ _ _ _ _));refine wpList_store_mid rfl 92 _ _ rfl w9.heap.size 0 (i16 ee).toArray rfl rfl th' (infoIA ee) (oneI ee) ?_))
  go_meet
  case rel=>exact ⟨w9.heap.size,rfl,below_setCells hb9.size _ _ _ (hb9.alloc hb9.size _),hb9.size,th.stored (i16 ee) (by rw [i16_len,i16_len])⟩
 case rest =>
 obtain ⟨g112,rfl,hb112,G112,h112⟩:=hcut
 have lt6:=h6.lt
 have lt7:=h7.lt
 replace hx:=hx.still hb112
 replace hpX:=hpX.still hb112
 replace hpZ:=hpZ.still hb112
 replace hqX:=hqX.still hb112
 replace hqZ:=hqZ.still hb112
 replace h6:=h6.still hb112
 replace h7:=h7.still hb112
 replace h108:=h108.still hb112
 replace h109:=h109.still hb112
 replace h110:=h110.still hb112
 replace h111:=h111.still hb112
 obtain ⟨U5,hU5⟩:∃ W,W=wc:=⟨_,rfl⟩
 rw [←hU5]
 rw [←hU5] at hx hpX hpZ hqX hqZ h6 h7 h108 h109 h110 h111 h112 hb112
 replace hbW:Below w.heap.size w U5:=below_next hbW hb112
 clear hU5 hb112
 have m6_12:g112≠g6∧g112≠g7:=⟨by omega,by omega⟩
 clear G112 lt6 lt7
 go_upto_region 6 with (fail)
 go_cut [13] from 18 (fun s13 wc=>∃ g113,s13 = .pointer (some ⟨g113,0,none⟩)∧Below U5.heap.size U5 wc∧U5.heap.size≤g113∧RW wc g113 0 (i16 da))
 case first =>
  clear k1 k2 k3 k4 k5 k8 k9 k10 k11 k12 k13 k14 k15 k16 k17 k18 k19
  have hdrew:Below U5.heap.size U5 U5.drew:=(Below.refl _ _).drew
  replace hx:=hx.still hdrew
  replace hpX:=hpX.still hdrew
  replace hpZ:=hpZ.still hdrew
  replace hqX:=hqX.still hdrew
  replace hqZ:=hqZ.still hdrew
  replace h6:=h6.still hdrew
  replace h7:=h7.still hdrew
  replace h108:=h108.still hdrew
  replace h109:=h109.still hdrew
  replace h110:=h110.still hdrew
  replace h111:=h111.still hdrew
  replace h112:=h112.still hdrew
  refine wp_region_noPanic ?_
  refine wp_region_held_drew (S:=fun w'=>Below U5.drew.heap.size U5.drew w') (by kernel_rfl) (Below.refl _ _) (fun hS => ?_)
  generalize U5.drew=Vy6_ at *
  refine tk 0 (pA g5 0) hS (hy:=yR) (h := ?_)
  (try simp only [pS])
  refine tk 1 (rV qX) hS (hy:=(ldH hqX 92 37 Tryz.underlying92 (infoI _))) (h := ?_)
  (try simp only [pS])
  refine tk 2 (pA g5 16) hS (hy:=yR) (h := ?_)
  (try simp only [pS])
  refine tk 3 (rV qZ) hS (hy:=(ldH hqZ 92 39 Tryz.underlying92 (infoI _))) (h := ?_)
  (try simp only [pS])
  refine tk 5 (rV a) hS (hy:=(ldH h108 92 8 Tryz.underlying92 (infoI _))) (h := ?_)
  (try simp only [pS])
  refine wpAnyH_ready (rs:=[4,7]) (by kernel_rfl) (by simp) ?_
  refine AllReadyH.cons (o:=qy6x4) rfl (fun K hK => ?_) (AllReadyH.cons (o:=qy6x7) rfl (fun K hK => ?_) (AllReadyH.nil))
  · unfold qy6x4
    go_simp
    (go_at_call 122;refine (k6 _).mono ?_;rintro e wy6_1 ⟨rfl,hby6_1⟩)
    (try go_simp)
    have hSy6_1:=below_next hS hby6_1
    refine hK.out _ _ hSy6_1 (fun h => ?_)
    clear h hK K hby6_1
    (try simp only [pS])
    refine wpAnyH_ready (rs:=[6,7]) (by kernel_rfl) (by simp) ?_
    refine AllReadyH.cons (o:=qy6x6) rfl (fun K hK => ?_) (AllReadyH.cons (o:=qy6x7) rfl (fun K hK => ?_) (AllReadyH.nil))
    · unfold qy6x6
      go_simp
      (go_at_call 120;refine (k7 _).mono ?_;rintro e wy6_2 ⟨rfl,hby6_2⟩)
      (try go_simp)
      have hSy6_2:=below_next hSy6_1 hby6_2
      refine hK.out _ _ hSy6_2 (fun h => ?_)
      clear h hK K hby6_2
      (try simp only [pS])
      refine wpAnyH_ready (rs:=[7]) (by kernel_rfl) (by simp) ?_
      refine AllReadyH.cons (o:=qy6x7) rfl (fun K hK => ?_) (AllReadyH.nil)
      unfold qy6x7
      go_simp
      obtain ⟨wy6_3,gy6_3,hwy6_3,hgy6_3,hby6_3,ry6_3⟩:=freshR wy6_2
      rw [hwy6_3,hgy6_3]
      have hSy6_3:=below_next hSy6_2 hby6_3
      have Gy6_3:Vy6_.heap.size≤gy6_3:=by have:=hSy6_2.size;omega
      refine hK.out _ _ hSy6_3 (fun h => ?_)
      clear h hK K hby6_3 hwy6_3 hgy6_3
      (try simp only [pS])
      refine wpAnyH_ready (rs:=[8]) (by kernel_rfl) (by simp) ?_
      refine AllReadyH.cons (o:=qy6x8) rfl (fun K hK => ?_) (AllReadyH.nil)
      unfold qy6x8
      rw [if_pos (by rfl)]
      refine ref_store _ _ rfl gy6_3 (fun _=>0) da rfl rfl ry6_3 hSy6_3 Gy6_3 (fun wy6_4 r0 hSy6_4 => ?_)
      refine hK.out _ _ hSy6_4 (fun h => ?_)
      clear h hK K ry6_3
      have ry6_3:=r0
      clear r0
      (try dsimp only [Act.put])
      refine wpAnyH_done (by kernel_rfl) ?_ _
      refine NoPanic.normal ?_
      go_wp2
      go_meet
      case rel=>exact ⟨gy6_3,rfl,below_next hdrew hSy6_4,Nat.le_trans hdrew.size Gy6_3,ry6_3⟩
    · unfold qy6x7
      go_simp
      obtain ⟨wy6_5,gy6_5,hwy6_5,hgy6_5,hby6_5,ry6_5⟩:=freshR wy6_1
      rw [hwy6_5,hgy6_5]
      have hSy6_5:=below_next hSy6_1 hby6_5
      have Gy6_5:Vy6_.heap.size≤gy6_5:=by have:=hSy6_1.size;omega
      refine hK.out _ _ hSy6_5 (fun h => ?_)
      clear h hK K hby6_5 hwy6_5 hgy6_5
      (try simp only [pS])
      refine cl 6 (k7 _) ?_
      (rintro e wy6_6 ⟨rfl,hby6_6⟩)
      have hSy6_6:=below_next hSy6_5 hby6_6
      replace ry6_5:=ry6_5.still hby6_6
      refine ⟨_,rfl,hSy6_6,?_⟩
      clear hby6_6
      (try simp only [pS])
      refine wpAnyH_ready (rs:=[8]) (by kernel_rfl) (by simp) ?_
      refine AllReadyH.cons (o:=qy6x8) rfl (fun K hK => ?_) (AllReadyH.nil)
      unfold qy6x8
      rw [if_pos (by rfl)]
      refine ref_store _ _ rfl gy6_5 (fun _=>0) da rfl rfl ry6_5 hSy6_6 Gy6_5 (fun wy6_7 r0 hSy6_7 => ?_)
      refine hK.out _ _ hSy6_7 (fun h => ?_)
      clear h hK K ry6_5
      have ry6_5:=r0
      clear r0
      (try dsimp only [Act.put])
      refine wpAnyH_done (by kernel_rfl) ?_ _
      refine NoPanic.normal ?_
      go_wp2
      go_meet
      case rel=>exact ⟨gy6_5,rfl,below_next hdrew hSy6_7,Nat.le_trans hdrew.size Gy6_5,ry6_5⟩
  · unfold qy6x7
    go_simp
    obtain ⟨wy6_8,gy6_8,hwy6_8,hgy6_8,hby6_8,ry6_8⟩:=freshR Vy6_
    rw [hwy6_8,hgy6_8]
    have hSy6_8:=below_next hS hby6_8
    have Gy6_8:Vy6_.heap.size≤gy6_8:=by have:=hS.size;omega
    refine hK.out _ _ hSy6_8 (fun h => ?_)
    clear h hK K hby6_8 hwy6_8 hgy6_8
    (try simp only [pS])
    refine cl 4 (k6 _) ?_
    (rintro e wy6_9 ⟨rfl,hby6_9⟩)
    have hSy6_9:=below_next hSy6_8 hby6_9
    replace ry6_8:=ry6_8.still hby6_9
    refine ⟨_,rfl,hSy6_9,?_⟩
    clear hby6_9
    (try simp only [pS])
    refine cl 6 (k7 _) ?_
    (rintro e wy6_10 ⟨rfl,hby6_10⟩)
    have hSy6_10:=below_next hSy6_9 hby6_10
    replace ry6_8:=ry6_8.still hby6_10
    refine ⟨_,rfl,hSy6_10,?_⟩
    clear hby6_10
    (try simp only [pS])
    refine wpAnyH_ready (rs:=[8]) (by kernel_rfl) (by simp) ?_
    refine AllReadyH.cons (o:=qy6x8) rfl (fun K hK => ?_) (AllReadyH.nil)
    unfold qy6x8
    rw [if_pos (by rfl)]
    refine ref_store _ _ rfl gy6_8 (fun _=>0) da rfl rfl ry6_8 hSy6_10 Gy6_8 (fun wy6_11 r0 hSy6_11 => ?_)
    refine hK.out _ _ hSy6_11 (fun h => ?_)
    clear h hK K ry6_8
    have ry6_8:=r0
    clear r0
    (try dsimp only [Act.put])
    refine wpAnyH_done (by kernel_rfl) ?_ _
    refine NoPanic.normal ?_
    go_wp2
    go_meet
    case rel=>exact ⟨gy6_8,rfl,below_next hdrew hSy6_11,Nat.le_trans hdrew.size Gy6_8,ry6_8⟩
 case rest =>
 obtain ⟨g113,rfl,hb113,G113,h113⟩:=hcut
 have lt6:=h6.lt
 have lt7:=h7.lt
 replace hx:=hx.still hb113
 replace hpX:=hpX.still hb113
 replace hpZ:=hpZ.still hb113
 replace hqX:=hqX.still hb113
 replace hqZ:=hqZ.still hb113
 replace h6:=h6.still hb113
 replace h7:=h7.still hb113
 replace h108:=h108.still hb113
 replace h109:=h109.still hb113
 replace h110:=h110.still hb113
 replace h111:=h111.still hb113
 replace h112:=h112.still hb113
 obtain ⟨U6,hU6⟩:∃ W,W=wc:=⟨_,rfl⟩
 rw [←hU6]
 rw [←hU6] at hx hpX hpZ hqX hqZ h6 h7 h108 h109 h110 h111 h112 h113 hb113
 replace hbW:Below w.heap.size w U6:=below_next hbW hb113
 clear hU6 hb113
 have m6_13:g113≠g6∧g113≠g7:=⟨by omega,by omega⟩
 clear G113 lt6 lt7
 go_upto_region 7 with (fail)
 go_cut [14] from 18 (fun s14 wc=>∃ g114,s14 = .pointer (some ⟨g114,0,none⟩)∧Below U6.heap.size U6 wc∧U6.heap.size≤g114∧RW wc g114 0 (i16 cb))
 case first =>
  clear k1 k2 k3 k4 k5 k6 k7 k10 k11 k12 k13 k14 k15 k16 k17 k18 k19
  have hdrew:Below U6.heap.size U6 U6.drew:=(Below.refl _ _).drew
  replace hx:=hx.still hdrew
  replace hpX:=hpX.still hdrew
  replace hpZ:=hpZ.still hdrew
  replace hqX:=hqX.still hdrew
  replace hqZ:=hqZ.still hdrew
  replace h6:=h6.still hdrew
  replace h7:=h7.still hdrew
  replace h108:=h108.still hdrew
  replace h109:=h109.still hdrew
  replace h110:=h110.still hdrew
  replace h111:=h111.still hdrew
  replace h112:=h112.still hdrew
  replace h113:=h113.still hdrew
  refine wp_region_noPanic ?_
  refine wp_region_held_drew (S:=fun w'=>Below U6.drew.heap.size U6.drew w') (by kernel_rfl) (Below.refl _ _) (fun hS => ?_)
  generalize U6.drew=Vy7_ at *
  refine tk 0 (pA g5 0) hS (hy:=yR) (h := ?_)
  (try simp only [pS])
  refine tk 1 (rV qX) hS (hy:=(ldH hqX 92 44 Tryz.underlying92 (infoI _))) (h := ?_)
  (try simp only [pS])
  refine tk 2 (pA g5 16) hS (hy:=yR) (h := ?_)
  (try simp only [pS])
  refine tk 3 (rV qZ) hS (hy:=(ldH hqZ 92 46 Tryz.underlying92 (infoI _))) (h := ?_)
  (try simp only [pS])
  refine tk 5 (rV b) hS (hy:=(ldH h109 92 9 Tryz.underlying92 (infoI _))) (h := ?_)
  (try simp only [pS])
  refine wpAnyH_ready (rs:=[4,7]) (by kernel_rfl) (by simp) ?_
  refine AllReadyH.cons (o:=qy7x4) rfl (fun K hK => ?_) (AllReadyH.cons (o:=qy7x7) rfl (fun K hK => ?_) (AllReadyH.nil))
  · unfold qy7x4
    go_simp
    (go_at_call 123;refine (k8 _).mono ?_;rintro e wy7_1 ⟨rfl,hby7_1⟩)
    (try go_simp)
    have hSy7_1:=below_next hS hby7_1
    refine hK.out _ _ hSy7_1 (fun h => ?_)
    clear h hK K hby7_1
    (try simp only [pS])
    refine wpAnyH_ready (rs:=[6,7]) (by kernel_rfl) (by simp) ?_
    refine AllReadyH.cons (o:=qy7x6) rfl (fun K hK => ?_) (AllReadyH.cons (o:=qy7x7) rfl (fun K hK => ?_) (AllReadyH.nil))
    · unfold qy7x6
      go_simp
      (go_at_call 120;refine (k9 _).mono ?_;rintro e wy7_2 ⟨rfl,hby7_2⟩)
      (try go_simp)
      have hSy7_2:=below_next hSy7_1 hby7_2
      refine hK.out _ _ hSy7_2 (fun h => ?_)
      clear h hK K hby7_2
      (try simp only [pS])
      refine wpAnyH_ready (rs:=[7]) (by kernel_rfl) (by simp) ?_
      refine AllReadyH.cons (o:=qy7x7) rfl (fun K hK => ?_) (AllReadyH.nil)
      unfold qy7x7
      go_simp
      obtain ⟨wy7_3,gy7_3,hwy7_3,hgy7_3,hby7_3,ry7_3⟩:=freshR wy7_2
      rw [hwy7_3,hgy7_3]
      have hSy7_3:=below_next hSy7_2 hby7_3
      have Gy7_3:Vy7_.heap.size≤gy7_3:=by have:=hSy7_2.size;omega
      refine hK.out _ _ hSy7_3 (fun h => ?_)
      clear h hK K hby7_3 hwy7_3 hgy7_3
      (try simp only [pS])
      refine wpAnyH_ready (rs:=[8]) (by kernel_rfl) (by simp) ?_
      refine AllReadyH.cons (o:=qy7x8) rfl (fun K hK => ?_) (AllReadyH.nil)
      unfold qy7x8
      rw [if_pos (by rfl)]
      refine ref_store _ _ rfl gy7_3 (fun _=>0) cb rfl rfl ry7_3 hSy7_3 Gy7_3 (fun wy7_4 r0 hSy7_4 => ?_)
      refine hK.out _ _ hSy7_4 (fun h => ?_)
      clear h hK K ry7_3
      have ry7_3:=r0
      clear r0
      (try dsimp only [Act.put])
      refine wpAnyH_done (by kernel_rfl) ?_ _
      refine NoPanic.normal ?_
      go_wp2
      go_meet
      case rel=>exact ⟨gy7_3,rfl,below_next hdrew hSy7_4,Nat.le_trans hdrew.size Gy7_3,ry7_3⟩
    · unfold qy7x7
      go_simp
      obtain ⟨wy7_5,gy7_5,hwy7_5,hgy7_5,hby7_5,ry7_5⟩:=freshR wy7_1
      rw [hwy7_5,hgy7_5]
      have hSy7_5:=below_next hSy7_1 hby7_5
      have Gy7_5:Vy7_.heap.size≤gy7_5:=by have:=hSy7_1.size;omega
      refine hK.out _ _ hSy7_5 (fun h => ?_)
      clear h hK K hby7_5 hwy7_5 hgy7_5
      (try simp only [pS])
      refine cl 6 (k9 _) ?_
      (rintro e wy7_6 ⟨rfl,hby7_6⟩)
      have hSy7_6:=below_next hSy7_5 hby7_6
      replace ry7_5:=ry7_5.still hby7_6
      refine ⟨_,rfl,hSy7_6,?_⟩
      clear hby7_6
      (try simp only [pS])
      refine wpAnyH_ready (rs:=[8]) (by kernel_rfl) (by simp) ?_
      refine AllReadyH.cons (o:=qy7x8) rfl (fun K hK => ?_) (AllReadyH.nil)
      unfold qy7x8
      rw [if_pos (by rfl)]
      refine ref_store _ _ rfl gy7_5 (fun _=>0) cb rfl rfl ry7_5 hSy7_6 Gy7_5 (fun wy7_7 r0 hSy7_7 => ?_)
      refine hK.out _ _ hSy7_7 (fun h => ?_)
      clear h hK K ry7_5
      have ry7_5:=r0
      clear r0
      (try dsimp only [Act.put])
      refine wpAnyH_done (by kernel_rfl) ?_ _
      refine NoPanic.normal ?_
      go_wp2
      go_meet
      case rel=>exact ⟨gy7_5,rfl,below_next hdrew hSy7_7,Nat.le_trans hdrew.size Gy7_5,ry7_5⟩
  · unfold qy7x7
    go_simp
    obtain ⟨wy7_8,gy7_8,hwy7_8,hgy7_8,hby7_8,ry7_8⟩:=freshR Vy7_
    rw [hwy7_8,hgy7_8]
    have hSy7_8:=below_next hS hby7_8
    have Gy7_8:Vy7_.heap.size≤gy7_8:=by have:=hS.size;omega
    refine hK.out _ _ hSy7_8 (fun h => ?_)
    clear h hK K hby7_8 hwy7_8 hgy7_8
    (try simp only [pS])
    refine cl 4 (k8 _) ?_
    (rintro e wy7_9 ⟨rfl,hby7_9⟩)
    have hSy7_9:=below_next hSy7_8 hby7_9
    replace ry7_8:=ry7_8.still hby7_9
    refine ⟨_,rfl,hSy7_9,?_⟩
    clear hby7_9
    (try simp only [pS])
    refine cl 6 (k9 _) ?_
    (rintro e wy7_10 ⟨rfl,hby7_10⟩)
    have hSy7_10:=below_next hSy7_9 hby7_10
    replace ry7_8:=ry7_8.still hby7_10
    refine ⟨_,rfl,hSy7_10,?_⟩
    clear hby7_10
    (try simp only [pS])
    refine wpAnyH_ready (rs:=[8]) (by kernel_rfl) (by simp) ?_
    refine AllReadyH.cons (o:=qy7x8) rfl (fun K hK => ?_) (AllReadyH.nil)
    unfold qy7x8
    rw [if_pos (by rfl)]
    refine ref_store _ _ rfl gy7_8 (fun _=>0) cb rfl rfl ry7_8 hSy7_10 Gy7_8 (fun wy7_11 r0 hSy7_11 => ?_)
    refine hK.out _ _ hSy7_11 (fun h => ?_)
    clear h hK K ry7_8
    have ry7_8:=r0
    clear r0
    (try dsimp only [Act.put])
    refine wpAnyH_done (by kernel_rfl) ?_ _
    refine NoPanic.normal ?_
    go_wp2
    go_meet
    case rel=>exact ⟨gy7_8,rfl,below_next hdrew hSy7_11,Nat.le_trans hdrew.size Gy7_8,ry7_8⟩
 case rest =>
 obtain ⟨g114,rfl,hb114,G114,h114⟩:=hcut
 have lt6:=h6.lt
 have lt7:=h7.lt
 replace hx:=hx.still hb114
 replace hpX:=hpX.still hb114
 replace hpZ:=hpZ.still hb114
 replace hqX:=hqX.still hb114
 replace hqZ:=hqZ.still hb114
 replace h6:=h6.still hb114
 replace h7:=h7.still hb114
 replace h108:=h108.still hb114
 replace h109:=h109.still hb114
 replace h110:=h110.still hb114
 replace h111:=h111.still hb114
 replace h112:=h112.still hb114
 replace h113:=h113.still hb114
 obtain ⟨U7,hU7⟩:∃ W,W=wc:=⟨_,rfl⟩
 rw [←hU7]
 rw [←hU7] at hx hpX hpZ hqX hqZ h6 h7 h108 h109 h110 h111 h112 h113 h114 hb114
 replace hbW:Below w.heap.size w U7:=below_next hbW hb114
 clear hU7 hb114
 have m6_14:g114≠g6∧g114≠g7:=⟨by omega,by omega⟩
 clear G114 lt6 lt7
 go_upto_region 8 with (fail)
 go_cut [15] from 18 (fun s15 wc=>∃ g115,s15 = .pointer (some ⟨g115,0,none⟩)∧Below U7.heap.size U7 wc∧U7.heap.size≤g115∧RW wc g115 0 (i16 s))
 case first =>
  clear k1 k2 k3 k4 k5 k6 k7 k8 k9 k11 k12 k13 k14 k15 k16 k17 k18 k19
  have r1:=h113.range
  have r2:=h114.range
  have kk:∀ W,Calls Tryz.prog 123 #[.agg (i16 da).toArray,.agg (i16 cb).toArray] W fun e w'=>e = .returned (.agg (i16 s).toArray)∧Below W.heap.size W w':=k10
  clear k10 hx hpX hpZ hqX hqZ h6 h7 h108 h109 h110 h111 h112 h113 h114 hzp
  go_wp2_with (first
   | (refine wpList_load_mid rfl 92 _ rfl g113 0 rfl (i16 da) _ r1 Tryz.underlying92 rfl (infoI da) ?_)
   | (refine wpList_load_mid rfl 92 _ rfl g114 0 rfl (i16 cb) _ r2 Tryz.underlying92 rfl (infoI cb) ?_)
   | (go_at_call 123;refine (kk _).mono ?_;clear kk r1 r2;rintro e w9 ⟨rfl,hb9⟩;(have th:=freshR' w9);(have th':=freshRt w9 s))
   | (with_reducible (refine id (?_:wpList _ _ _ _ _ _));refine wpList_store_mid rfl 92 _ _ rfl w9.heap.size 0 (i16 s).toArray rfl rfl th' (infoIA s) (oneI s) ?_))
  go_meet
  case rel=>exact ⟨w9.heap.size,rfl,below_setCells hb9.size _ _ _ (hb9.alloc hb9.size _),hb9.size,th.stored (i16 s) (by rw [i16_len,i16_len])⟩
 case rest =>
 obtain ⟨g115,rfl,hb115,G115,h115⟩:=hcut
 have lt6:=h6.lt
 have lt7:=h7.lt
 replace hx:=hx.still hb115
 replace hpX:=hpX.still hb115
 replace hpZ:=hpZ.still hb115
 replace hqX:=hqX.still hb115
 replace hqZ:=hqZ.still hb115
 replace h6:=h6.still hb115
 replace h7:=h7.still hb115
 replace h108:=h108.still hb115
 replace h109:=h109.still hb115
 replace h110:=h110.still hb115
 replace h111:=h111.still hb115
 replace h112:=h112.still hb115
 replace h113:=h113.still hb115
 replace h114:=h114.still hb115
 obtain ⟨U8,hU8⟩:∃ W,W=wc:=⟨_,rfl⟩
 rw [←hU8]
 rw [←hU8] at hx hpX hpZ hqX hqZ h6 h7 h108 h109 h110 h111 h112 h113 h114 h115 hb115
 replace hbW:Below w.heap.size w U8:=below_next hbW hb115
 clear hU8 hb115
 have m6_15:g115≠g6∧g115≠g7:=⟨by omega,by omega⟩
 clear G115 lt6 lt7
 go_upto_region 9 with (fail)
 go_cut [16] from 18 (fun s16 wc=>∃ g116,s16 = .pointer (some ⟨g116,0,none⟩)∧Below U8.heap.size U8 wc∧U8.heap.size≤g116∧RW wc g116 0 (i16 d))
 case first =>
  clear k1 k2 k3 k4 k5 k6 k7 k8 k9 k10 k12 k13 k14 k15 k16 k17 k18 k19
  have r1:=h113.range
  have r2:=h114.range
  have kk:∀ W,Calls Tryz.prog 122 #[.agg (i16 da).toArray,.agg (i16 cb).toArray] W fun e w'=>e = .returned (.agg (i16 d).toArray)∧Below W.heap.size W w':=k11
  clear k11 hx hpX hpZ hqX hqZ h6 h7 h108 h109 h110 h111 h112 h113 h114 h115 hzp
  go_wp2_with (first
   | (refine wpList_load_mid rfl 92 _ rfl g113 0 rfl (i16 da) _ r1 Tryz.underlying92 rfl (infoI da) ?_)
   | (refine wpList_load_mid rfl 92 _ rfl g114 0 rfl (i16 cb) _ r2 Tryz.underlying92 rfl (infoI cb) ?_)
   | (go_at_call 122;refine (kk _).mono ?_;clear kk r1 r2;rintro e w9 ⟨rfl,hb9⟩;(have th:=freshR' w9);(have th':=freshRt w9 d))
   | (with_reducible (refine id (?_:wpList _ _ _ _ _ _));refine wpList_store_mid rfl 92 _ _ rfl w9.heap.size 0 (i16 d).toArray rfl rfl th' (infoIA d) (oneI d) ?_))
  go_meet
  case rel=>exact ⟨w9.heap.size,rfl,below_setCells hb9.size _ _ _ (hb9.alloc hb9.size _),hb9.size,th.stored (i16 d) (by rw [i16_len,i16_len])⟩
 case rest =>
 obtain ⟨g116,rfl,hb116,G116,h116⟩:=hcut
 have lt6:=h6.lt
 have lt7:=h7.lt
 replace hx:=hx.still hb116
 replace hpX:=hpX.still hb116
 replace hpZ:=hpZ.still hb116
 replace hqX:=hqX.still hb116
 replace hqZ:=hqZ.still hb116
 replace h6:=h6.still hb116
 replace h7:=h7.still hb116
 replace h108:=h108.still hb116
 replace h109:=h109.still hb116
 replace h110:=h110.still hb116
 replace h111:=h111.still hb116
 replace h112:=h112.still hb116
 replace h113:=h113.still hb116
 replace h114:=h114.still hb116
 replace h115:=h115.still hb116
 obtain ⟨U9,hU9⟩:∃ W,W=wc:=⟨_,rfl⟩
 rw [←hU9]
 rw [←hU9] at hx hpX hpZ hqX hqZ h6 h7 h108 h109 h110 h111 h112 h113 h114 h115 h116 hb116
 replace hbW:Below w.heap.size w U9:=below_next hbW hb116
 clear hU9 hb116
 have m6_16:g116≠g6∧g116≠g7:=⟨by omega,by omega⟩
 clear G116 lt6 lt7
 go_upto_region 10 with (fail)
 go_cut [17] from 18 (fun s17 wc=>∃ g117,s17 = .pointer (some ⟨g117,0,none⟩)∧Below U9.heap.size U9 wc∧U9.heap.size≤g117∧RW wc g117 0 (i32 ab ea))
 case first =>
  clear k1 k2 k3 k4 k5 k6 k7 k8 k9 k10 k11 k17 k18 k19
  have hdrew:Below U9.heap.size U9 U9.drew:=(Below.refl _ _).drew
  replace hx:=hx.still hdrew
  replace hpX:=hpX.still hdrew
  replace hpZ:=hpZ.still hdrew
  replace hqX:=hqX.still hdrew
  replace hqZ:=hqZ.still hdrew
  replace h6:=h6.still hdrew
  replace h7:=h7.still hdrew
  replace h108:=h108.still hdrew
  replace h109:=h109.still hdrew
  replace h110:=h110.still hdrew
  replace h111:=h111.still hdrew
  replace h112:=h112.still hdrew
  replace h113:=h113.still hdrew
  replace h114:=h114.still hdrew
  replace h115:=h115.still hdrew
  replace h116:=h116.still hdrew
  refine wp_region_noPanic ?_
  refine wp_region_held_drew (S:=fun w'=>Below U9.drew.heap.size U9.drew w') (by kernel_rfl) (Below.refl _ _) (fun hS => ?_)
  generalize U9.drew=Vy10_ at *
  refine tk 0 (rV aa) hS (hy:=(ldH h110 92 10 Tryz.underlying92 (infoI _))) (h := ?_)
  (try simp only [pS])
  refine tk 1 (rV bb) hS (hy:=(ldH h111 92 11 Tryz.underlying92 (infoI _))) (h := ?_)
  (try simp only [pS])
  refine tk 3 (rV ee) hS (hy:=(ldH h112 92 12 Tryz.underlying92 (infoI _))) (h := ?_)
  (try simp only [pS])
  refine tk 4 (rV aa) hS (hy:=(ldH h110 92 10 Tryz.underlying92 (infoI _))) (h := ?_)
  (try simp only [pS])
  refine tk 6 (rV ee) hS (hy:=(ldH h112 92 12 Tryz.underlying92 (infoI _))) (h := ?_)
  (try simp only [pS])
  refine wpAnyH_ready (rs:=[2,11]) (by kernel_rfl) (by simp) ?_
  refine AllReadyH.cons (o:=qy10x2) rfl (fun K hK => ?_) (AllReadyH.cons (o:=qy10x11) rfl (fun K hK => ?_) (AllReadyH.nil))
  · unfold qy10x2
    go_simp
    (go_at_call 120;refine (k12 _).mono ?_;rintro e wy10_1 ⟨rfl,hby10_1⟩)
    (try go_simp)
    have hSy10_1:=below_next hS hby10_1
    refine hK.out _ _ hSy10_1 (fun h => ?_)
    clear h hK K hby10_1
    (try simp only [pS])
    refine wpAnyH_ready (rs:=[5,11]) (by kernel_rfl) (by simp) ?_
    refine AllReadyH.cons (o:=qy10x5) rfl (fun K hK => ?_) (AllReadyH.cons (o:=qy10x11) rfl (fun K hK => ?_) (AllReadyH.nil))
    · unfold qy10x5
      go_simp
      (go_at_call 119;refine (k13 _).mono ?_;rintro e wy10_2 ⟨rfl,hby10_2⟩)
      (try go_simp)
      have hSy10_2:=below_next hSy10_1 hby10_2
      refine hK.out _ _ hSy10_2 (fun h => ?_)
      clear h hK K hby10_2
      (try simp only [pS])
      refine wpAnyH_ready (rs:=[7,11]) (by kernel_rfl) (by simp) ?_
      refine AllReadyH.cons (o:=qy10x7) rfl (fun K hK => ?_) (AllReadyH.cons (o:=qy10x11) rfl (fun K hK => ?_) (AllReadyH.nil))
      · unfold qy10x7
        go_simp
        (go_at_call 120;refine (k14 _).mono ?_;rintro e wy10_3 ⟨rfl,hby10_3⟩)
        (try go_simp)
        have hSy10_3:=below_next hSy10_2 hby10_3
        refine hK.out _ _ hSy10_3 (fun h => ?_)
        clear h hK K hby10_3
        (try simp only [pS])
        refine wpAnyH_ready (rs:=[8,11]) (by kernel_rfl) (by simp) ?_
        refine AllReadyH.cons (o:=qy10x8) rfl (fun K hK => ?_) (AllReadyH.cons (o:=qy10x11) rfl (fun K hK => ?_) (AllReadyH.nil))
        · unfold qy10x8
          go_simp
          (go_at_call 123;refine (k15 _).mono ?_;rintro e wy10_4 ⟨rfl,hby10_4⟩)
          (try go_simp)
          have hSy10_4:=below_next hSy10_3 hby10_4
          refine hK.out _ _ hSy10_4 (fun h => ?_)
          clear h hK K hby10_4
          (try simp only [pS])
          refine wpAnyH_ready (rs:=[9,11]) (by kernel_rfl) (by simp) ?_
          refine AllReadyH.cons (o:=qy10x9) rfl (fun K hK => ?_) (AllReadyH.cons (o:=qy10x11) rfl (fun K hK => ?_) (AllReadyH.nil))
          · unfold qy10x9
            go_simp
            (go_at_call 120;refine (k16 _).mono ?_;rintro e wy10_5 ⟨rfl,hby10_5⟩)
            (try go_simp)
            have hSy10_5:=below_next hSy10_4 hby10_5
            refine hK.out _ _ hSy10_5 (fun h => ?_)
            clear h hK K hby10_5
            (try simp only [pS])
            refine tk 10 (pV ab ea) hSy10_5 (hy:=(yields_build2 (by rfl) 162 0 1 _ _ rfl (rV ab) (rV ea) rfl rfl _ (builtP ab ea))) (h := ?_)
            (try simp only [pS])
            refine wpAnyH_ready (rs:=[11]) (by kernel_rfl) (by simp) ?_
            refine AllReadyH.cons (o:=qy10x11) rfl (fun K hK => ?_) (AllReadyH.nil)
            unfold qy10x11
            go_simp
            obtain ⟨wy10_6,gy10_6,hwy10_6,hgy10_6,hby10_6,ry10_6⟩:=freshP wy10_5
            rw [hwy10_6,hgy10_6]
            have hSy10_6:=below_next hSy10_5 hby10_6
            have Gy10_6:Vy10_.heap.size≤gy10_6:=by have:=hSy10_5.size;omega
            refine hK.out _ _ hSy10_6 (fun h => ?_)
            clear h hK K hby10_6 hwy10_6 hgy10_6
            (try simp only [pS])
            refine wpAnyH_ready (rs:=[12]) (by kernel_rfl) (by simp) ?_
            refine AllReadyH.cons (o:=qy10x12) rfl (fun K hK => ?_) (AllReadyH.nil)
            unfold qy10x12
            rw [if_pos (by rfl)]
            refine pair_store _ _ rfl gy10_6 (fun _=>0) (fun _=>0) ab ea rfl rfl ry10_6 hSy10_6 Gy10_6 (fun wy10_7 r0 hSy10_7 far => ?_)
            refine hK.out _ _ hSy10_7 (fun h => ?_)
            clear h hK K ry10_6 far
            have ry10_6:=r0
            clear r0
            (try dsimp only [Act.put])
            refine wpAnyH_done (by kernel_rfl) ?_ _
            refine NoPanic.normal ?_
            go_wp2
            go_meet
            case rel=>exact ⟨gy10_6,rfl,below_next hdrew hSy10_7,Nat.le_trans hdrew.size Gy10_6,ry10_6⟩
          · unfold qy10x11
            go_simp
            obtain ⟨wy10_8,gy10_8,hwy10_8,hgy10_8,hby10_8,ry10_8⟩:=freshP wy10_4
            rw [hwy10_8,hgy10_8]
            have hSy10_8:=below_next hSy10_4 hby10_8
            have Gy10_8:Vy10_.heap.size≤gy10_8:=by have:=hSy10_4.size;omega
            refine hK.out _ _ hSy10_8 (fun h => ?_)
            clear h hK K hby10_8 hwy10_8 hgy10_8
            (try simp only [pS])
            refine cl 9 (k16 _) ?_
            (rintro e wy10_9 ⟨rfl,hby10_9⟩)
            have hSy10_9:=below_next hSy10_8 hby10_9
            replace ry10_8:=ry10_8.still hby10_9
            refine ⟨_,rfl,hSy10_9,?_⟩
            clear hby10_9
            (try simp only [pS])
            refine tk 10 (pV ab ea) hSy10_9 (hy:=(yields_build2 (by rfl) 162 0 1 _ _ rfl (rV ab) (rV ea) rfl rfl _ (builtP ab ea))) (h := ?_)
            (try simp only [pS])
            refine wpAnyH_ready (rs:=[12]) (by kernel_rfl) (by simp) ?_
            refine AllReadyH.cons (o:=qy10x12) rfl (fun K hK => ?_) (AllReadyH.nil)
            unfold qy10x12
            rw [if_pos (by rfl)]
            refine pair_store _ _ rfl gy10_8 (fun _=>0) (fun _=>0) ab ea rfl rfl ry10_8 hSy10_9 Gy10_8 (fun wy10_10 r0 hSy10_10 far => ?_)
            refine hK.out _ _ hSy10_10 (fun h => ?_)
            clear h hK K ry10_8 far
            have ry10_8:=r0
            clear r0
            (try dsimp only [Act.put])
            refine wpAnyH_done (by kernel_rfl) ?_ _
            refine NoPanic.normal ?_
            go_wp2
            go_meet
            case rel=>exact ⟨gy10_8,rfl,below_next hdrew hSy10_10,Nat.le_trans hdrew.size Gy10_8,ry10_8⟩
        · unfold qy10x11
          go_simp
          obtain ⟨wy10_11,gy10_11,hwy10_11,hgy10_11,hby10_11,ry10_11⟩:=freshP wy10_3
          rw [hwy10_11,hgy10_11]
          have hSy10_11:=below_next hSy10_3 hby10_11
          have Gy10_11:Vy10_.heap.size≤gy10_11:=by have:=hSy10_3.size;omega
          refine hK.out _ _ hSy10_11 (fun h => ?_)
          clear h hK K hby10_11 hwy10_11 hgy10_11
          (try simp only [pS])
          refine cl 8 (k15 _) ?_
          (rintro e wy10_12 ⟨rfl,hby10_12⟩)
          have hSy10_12:=below_next hSy10_11 hby10_12
          replace ry10_11:=ry10_11.still hby10_12
          refine ⟨_,rfl,hSy10_12,?_⟩
          clear hby10_12
          (try simp only [pS])
          refine cl 9 (k16 _) ?_
          (rintro e wy10_13 ⟨rfl,hby10_13⟩)
          have hSy10_13:=below_next hSy10_12 hby10_13
          replace ry10_11:=ry10_11.still hby10_13
          refine ⟨_,rfl,hSy10_13,?_⟩
          clear hby10_13
          (try simp only [pS])
          refine tk 10 (pV ab ea) hSy10_13 (hy:=(yields_build2 (by rfl) 162 0 1 _ _ rfl (rV ab) (rV ea) rfl rfl _ (builtP ab ea))) (h := ?_)
          (try simp only [pS])
          refine wpAnyH_ready (rs:=[12]) (by kernel_rfl) (by simp) ?_
          refine AllReadyH.cons (o:=qy10x12) rfl (fun K hK => ?_) (AllReadyH.nil)
          unfold qy10x12
          rw [if_pos (by rfl)]
          refine pair_store _ _ rfl gy10_11 (fun _=>0) (fun _=>0) ab ea rfl rfl ry10_11 hSy10_13 Gy10_11 (fun wy10_14 r0 hSy10_14 far => ?_)
          refine hK.out _ _ hSy10_14 (fun h => ?_)
          clear h hK K ry10_11 far
          have ry10_11:=r0
          clear r0
          (try dsimp only [Act.put])
          refine wpAnyH_done (by kernel_rfl) ?_ _
          refine NoPanic.normal ?_
          go_wp2
          go_meet
          case rel=>exact ⟨gy10_11,rfl,below_next hdrew hSy10_14,Nat.le_trans hdrew.size Gy10_11,ry10_11⟩
      · unfold qy10x11
        go_simp
        obtain ⟨wy10_15,gy10_15,hwy10_15,hgy10_15,hby10_15,ry10_15⟩:=freshP wy10_2
        rw [hwy10_15,hgy10_15]
        have hSy10_15:=below_next hSy10_2 hby10_15
        have Gy10_15:Vy10_.heap.size≤gy10_15:=by have:=hSy10_2.size;omega
        refine hK.out _ _ hSy10_15 (fun h => ?_)
        clear h hK K hby10_15 hwy10_15 hgy10_15
        (try simp only [pS])
        refine cl 7 (k14 _) ?_
        (rintro e wy10_16 ⟨rfl,hby10_16⟩)
        have hSy10_16:=below_next hSy10_15 hby10_16
        replace ry10_15:=ry10_15.still hby10_16
        refine ⟨_,rfl,hSy10_16,?_⟩
        clear hby10_16
        (try simp only [pS])
        refine cl 8 (k15 _) ?_
        (rintro e wy10_17 ⟨rfl,hby10_17⟩)
        have hSy10_17:=below_next hSy10_16 hby10_17
        replace ry10_15:=ry10_15.still hby10_17
        refine ⟨_,rfl,hSy10_17,?_⟩
        clear hby10_17
        (try simp only [pS])
        refine cl 9 (k16 _) ?_
        (rintro e wy10_18 ⟨rfl,hby10_18⟩)
        have hSy10_18:=below_next hSy10_17 hby10_18
        replace ry10_15:=ry10_15.still hby10_18
        refine ⟨_,rfl,hSy10_18,?_⟩
        clear hby10_18
        (try simp only [pS])
        refine tk 10 (pV ab ea) hSy10_18 (hy:=(yields_build2 (by rfl) 162 0 1 _ _ rfl (rV ab) (rV ea) rfl rfl _ (builtP ab ea))) (h := ?_)
        (try simp only [pS])
        refine wpAnyH_ready (rs:=[12]) (by kernel_rfl) (by simp) ?_
        refine AllReadyH.cons (o:=qy10x12) rfl (fun K hK => ?_) (AllReadyH.nil)
        unfold qy10x12
        rw [if_pos (by rfl)]
        refine pair_store _ _ rfl gy10_15 (fun _=>0) (fun _=>0) ab ea rfl rfl ry10_15 hSy10_18 Gy10_15 (fun wy10_19 r0 hSy10_19 far => ?_)
        refine hK.out _ _ hSy10_19 (fun h => ?_)
        clear h hK K ry10_15 far
        have ry10_15:=r0
        clear r0
        (try dsimp only [Act.put])
        refine wpAnyH_done (by kernel_rfl) ?_ _
        refine NoPanic.normal ?_
        go_wp2
        go_meet
        case rel=>exact ⟨gy10_15,rfl,below_next hdrew hSy10_19,Nat.le_trans hdrew.size Gy10_15,ry10_15⟩
    · unfold qy10x11
      go_simp
      obtain ⟨wy10_20,gy10_20,hwy10_20,hgy10_20,hby10_20,ry10_20⟩:=freshP wy10_1
      rw [hwy10_20,hgy10_20]
      have hSy10_20:=below_next hSy10_1 hby10_20
      have Gy10_20:Vy10_.heap.size≤gy10_20:=by have:=hSy10_1.size;omega
      refine hK.out _ _ hSy10_20 (fun h => ?_)
      clear h hK K hby10_20 hwy10_20 hgy10_20
      (try simp only [pS])
      refine cl 5 (k13 _) ?_
      (rintro e wy10_21 ⟨rfl,hby10_21⟩)
      have hSy10_21:=below_next hSy10_20 hby10_21
      replace ry10_20:=ry10_20.still hby10_21
      refine ⟨_,rfl,hSy10_21,?_⟩
      clear hby10_21
      (try simp only [pS])
      refine cl 7 (k14 _) ?_
      (rintro e wy10_22 ⟨rfl,hby10_22⟩)
      have hSy10_22:=below_next hSy10_21 hby10_22
      replace ry10_20:=ry10_20.still hby10_22
      refine ⟨_,rfl,hSy10_22,?_⟩
      clear hby10_22
      (try simp only [pS])
      refine cl 8 (k15 _) ?_
      (rintro e wy10_23 ⟨rfl,hby10_23⟩)
      have hSy10_23:=below_next hSy10_22 hby10_23
      replace ry10_20:=ry10_20.still hby10_23
      refine ⟨_,rfl,hSy10_23,?_⟩
      clear hby10_23
      (try simp only [pS])
      refine cl 9 (k16 _) ?_
      (rintro e wy10_24 ⟨rfl,hby10_24⟩)
      have hSy10_24:=below_next hSy10_23 hby10_24
      replace ry10_20:=ry10_20.still hby10_24
      refine ⟨_,rfl,hSy10_24,?_⟩
      clear hby10_24
      (try simp only [pS])
      refine tk 10 (pV ab ea) hSy10_24 (hy:=(yields_build2 (by rfl) 162 0 1 _ _ rfl (rV ab) (rV ea) rfl rfl _ (builtP ab ea))) (h := ?_)
      (try simp only [pS])
      refine wpAnyH_ready (rs:=[12]) (by kernel_rfl) (by simp) ?_
      refine AllReadyH.cons (o:=qy10x12) rfl (fun K hK => ?_) (AllReadyH.nil)
      unfold qy10x12
      rw [if_pos (by rfl)]
      refine pair_store _ _ rfl gy10_20 (fun _=>0) (fun _=>0) ab ea rfl rfl ry10_20 hSy10_24 Gy10_20 (fun wy10_25 r0 hSy10_25 far => ?_)
      refine hK.out _ _ hSy10_25 (fun h => ?_)
      clear h hK K ry10_20 far
      have ry10_20:=r0
      clear r0
      (try dsimp only [Act.put])
      refine wpAnyH_done (by kernel_rfl) ?_ _
      refine NoPanic.normal ?_
      go_wp2
      go_meet
      case rel=>exact ⟨gy10_20,rfl,below_next hdrew hSy10_25,Nat.le_trans hdrew.size Gy10_20,ry10_20⟩
  · unfold qy10x11
    go_simp
    obtain ⟨wy10_26,gy10_26,hwy10_26,hgy10_26,hby10_26,ry10_26⟩:=freshP Vy10_
    rw [hwy10_26,hgy10_26]
    have hSy10_26:=below_next hS hby10_26
    have Gy10_26:Vy10_.heap.size≤gy10_26:=by have:=hS.size;omega
    refine hK.out _ _ hSy10_26 (fun h => ?_)
    clear h hK K hby10_26 hwy10_26 hgy10_26
    (try simp only [pS])
    refine cl 2 (k12 _) ?_
    (rintro e wy10_27 ⟨rfl,hby10_27⟩)
    have hSy10_27:=below_next hSy10_26 hby10_27
    replace ry10_26:=ry10_26.still hby10_27
    refine ⟨_,rfl,hSy10_27,?_⟩
    clear hby10_27
    (try simp only [pS])
    refine cl 5 (k13 _) ?_
    (rintro e wy10_28 ⟨rfl,hby10_28⟩)
    have hSy10_28:=below_next hSy10_27 hby10_28
    replace ry10_26:=ry10_26.still hby10_28
    refine ⟨_,rfl,hSy10_28,?_⟩
    clear hby10_28
    (try simp only [pS])
    refine cl 7 (k14 _) ?_
    (rintro e wy10_29 ⟨rfl,hby10_29⟩)
    have hSy10_29:=below_next hSy10_28 hby10_29
    replace ry10_26:=ry10_26.still hby10_29
    refine ⟨_,rfl,hSy10_29,?_⟩
    clear hby10_29
    (try simp only [pS])
    refine cl 8 (k15 _) ?_
    (rintro e wy10_30 ⟨rfl,hby10_30⟩)
    have hSy10_30:=below_next hSy10_29 hby10_30
    replace ry10_26:=ry10_26.still hby10_30
    refine ⟨_,rfl,hSy10_30,?_⟩
    clear hby10_30
    (try simp only [pS])
    refine cl 9 (k16 _) ?_
    (rintro e wy10_31 ⟨rfl,hby10_31⟩)
    have hSy10_31:=below_next hSy10_30 hby10_31
    replace ry10_26:=ry10_26.still hby10_31
    refine ⟨_,rfl,hSy10_31,?_⟩
    clear hby10_31
    (try simp only [pS])
    refine tk 10 (pV ab ea) hSy10_31 (hy:=(yields_build2 (by rfl) 162 0 1 _ _ rfl (rV ab) (rV ea) rfl rfl _ (builtP ab ea))) (h := ?_)
    (try simp only [pS])
    refine wpAnyH_ready (rs:=[12]) (by kernel_rfl) (by simp) ?_
    refine AllReadyH.cons (o:=qy10x12) rfl (fun K hK => ?_) (AllReadyH.nil)
    unfold qy10x12
    rw [if_pos (by rfl)]
    refine pair_store _ _ rfl gy10_26 (fun _=>0) (fun _=>0) ab ea rfl rfl ry10_26 hSy10_31 Gy10_26 (fun wy10_32 r0 hSy10_32 far => ?_)
    refine hK.out _ _ hSy10_32 (fun h => ?_)
    clear h hK K ry10_26 far
    have ry10_26:=r0
    clear r0
    (try dsimp only [Act.put])
    refine wpAnyH_done (by kernel_rfl) ?_ _
    refine NoPanic.normal ?_
    go_wp2
    go_meet
    case rel=>exact ⟨gy10_26,rfl,below_next hdrew hSy10_32,Nat.le_trans hdrew.size Gy10_26,ry10_26⟩
 case rest =>
 obtain ⟨g117,rfl,hb117,G117,h117⟩:=hcut
 have lt6:=h6.lt
 have lt7:=h7.lt
 replace hx:=hx.still hb117
 replace hpX:=hpX.still hb117
 replace hpZ:=hpZ.still hb117
 replace hqX:=hqX.still hb117
 replace hqZ:=hqZ.still hb117
 replace h6:=h6.still hb117
 replace h7:=h7.still hb117
 replace h108:=h108.still hb117
 replace h109:=h109.still hb117
 replace h110:=h110.still hb117
 replace h111:=h111.still hb117
 replace h112:=h112.still hb117
 replace h113:=h113.still hb117
 replace h114:=h114.still hb117
 replace h115:=h115.still hb117
 replace h116:=h116.still hb117
 obtain ⟨U10,hU10⟩:∃ W,W=wc:=⟨_,rfl⟩
 rw [←hU10]
 rw [←hU10] at hx hpX hpZ hqX hqZ h6 h7 h108 h109 h110 h111 h112 h113 h114 h115 h116 h117 hb117
 replace hbW:Below w.heap.size w U10:=below_next hbW hb117
 clear hU10 hb117
 have m6_17:g117≠g6∧g117≠g7:=⟨by omega,by omega⟩
 clear G117 lt6 lt7
 go_upto_region 11 with (fail)
 have l6:=h6.lt
 have l7:=h7.lt
 clear k1 k2 k3 k4 k5 k6 k7 k8 k9 k10 k11 k12 k13 k14 k15 k16 hpX hpZ hqX hqZ h108 h109 h110 h111 h112 h113 h114
 have hdrew:Below U10.heap.size U10 U10.drew:=(Below.refl _ _).drew
 replace hx:=hx.still hdrew
 replace h6:=h6.still hdrew
 replace h7:=h7.still hdrew
 replace h115:=h115.still hdrew
 replace h116:=h116.still hdrew
 replace h117:=h117.still hdrew
 refine wp_region_noPanic ?_
 refine wp_region_held_drew (S:=fun w'=>But (fun k=>k=g6∨k=g7) U10.drew w') (by kernel_rfl) (But.refl _ _) (fun hS => ?_)
 generalize U10.drew=Vy11_ at *
 refine tk 0 (pV ab ea) hS (hy:=(yieldsIf_load_mid (by rfl) 162 _ rfl g117 0 rfl (i32 ab ea) _ (fun _ h=>(h117.but h (fun h=>h.elim m6_17.1 m6_17.2)).range) Tryz.underlying162 rfl (infoQ _ _))) (h := ?_)
 (try simp only [pS])
 refine tk 1 (rV s) hS (hy:=(yieldsIf_load_mid (by rfl) 92 _ rfl g115 0 rfl (i16 s) _ (fun _ h=>(h115.but h (fun h=>h.elim m6_15.1 m6_15.2)).range) Tryz.underlying92 rfl (infoI _))) (h := ?_)
 (try simp only [pS])
 refine tk 2 (rV s) hS (hy:=(yieldsIf_load_mid (by rfl) 92 _ rfl g115 0 rfl (i16 s) _ (fun _ h=>(h115.but h (fun h=>h.elim m6_15.1 m6_15.2)).range) Tryz.underlying92 rfl (infoI _))) (h := ?_)
 (try simp only [pS])
 refine tk 4 (rV X1) hS (hy:=(yieldsIf_load_mid (by rfl) 92 _ rfl g3 0 rfl (i16 X1) _ (fun _ h=>(hx.but h (fun h=>h.elim m63 m73)).range) Tryz.underlying92 rfl (infoI _))) (h := ?_)
 (try simp only [pS])
 refine tk 5 (rV d) hS (hy:=(yieldsIf_load_mid (by rfl) 92 _ rfl g116 0 rfl (i16 d) _ (fun _ h=>(h116.but h (fun h=>h.elim m6_16.1 m6_16.2)).range) Tryz.underlying92 rfl (infoI _))) (h := ?_)
 (try simp only [pS])
 refine tk 6 (rV d) hS (hy:=(yieldsIf_load_mid (by rfl) 92 _ rfl g116 0 rfl (i16 d) _ (fun _ h=>(h116.but h (fun h=>h.elim m6_16.1 m6_16.2)).range) Tryz.underlying92 rfl (infoI _))) (h := ?_)
 (try simp only [pS])
 refine cl 3 (k17 _) ?_
 (rintro e wy11_1 ⟨rfl,hby11_1⟩)
 have hSy11_1:=hS.trans (But.of_below hby11_1)
 replace h6:=h6.still hby11_1
 replace h7:=h7.still hby11_1
 refine ⟨_,rfl,hSy11_1,?_⟩
 clear hby11_1
 (try simp only [pS])
 refine cl 7 (k18 _) ?_
 (rintro e wy11_2 ⟨rfl,hby11_2⟩)
 have hSy11_2:=hSy11_1.trans (But.of_below hby11_2)
 replace h6:=h6.still hby11_2
 replace h7:=h7.still hby11_2
 refine ⟨_,rfl,hSy11_2,?_⟩
 clear hby11_2
 (try simp only [pS])
 refine cl 8 (k19 _) ?_
 (rintro e wy11_3 ⟨rfl,hby11_3⟩)
 have hSy11_3:=hSy11_2.trans (But.of_below hby11_3)
 replace h6:=h6.still hby11_3
 replace h7:=h7.still hby11_3
 refine ⟨_,rfl,hSy11_3,?_⟩
 clear hby11_3
 (try simp only [pS])
 refine tk 9 (pV ss xd) hSy11_3 (hy:=(yields_build2 (by rfl) 162 0 1 _ _ rfl (rV ss) (rV xd) rfl rfl _ (builtP ss xd))) (h := ?_)
 (try simp only [pS])
 refine wpAnyH_ready (rs:=[10]) (by kernel_rfl) (by simp) ?_
 refine AllReadyH.cons (o:=qy11x10) rfl (fun K hK => ?_) (AllReadyH.nil)
 unfold qy11x10
 rw [if_pos (by rfl)]
 refine wp_store_mid 162 _ _ rfl g6 0 (i32 ab ea).toArray rfl rfl (there32 h6) (infoQA _ _) (oneQ _ _) ?_
 have hSy11_4:=hSy11_3.trans (But.ofOut (b:=g6) (by first | exact .inl rfl | exact .inr rfl) (Out.setCells (b:=g6) (o:=0) (n:=32) wy11_3 (i32 ab ea) (Nat.le_refl _) (by rw [i32_len];exact Nat.le_refl _)))
 replace h6:=h6.stored (i32 ab ea) (by rw [i32_len,i32_len])
 replace h7:=h7.far g6 0 (i32 ab ea) (.inl (by first | exact n67 | exact n67.symm))
 obtain ⟨wy11_4,hwy11_4⟩:∃ W,wy11_3.setCells g6 0 (i32 ab ea)=W:=⟨_,rfl⟩
 rw [hwy11_4] at h6
 rw [hwy11_4] at h7
 rw [hwy11_4] at hSy11_4
 rw [show wy11_3.setCells g6 0 (i32 ab ea).toArray.toList=wy11_4 from hwy11_4]
 refine hK.out _ _ hSy11_4 (fun h => ?_)
 clear h hK K hwy11_4
 (try dsimp only [Act.put])
 refine wpAnyH_ready (rs:=[11]) (by kernel_rfl) (by simp) ?_
 refine AllReadyH.cons (o:=qy11x11) rfl (fun K hK => ?_) (AllReadyH.nil)
 unfold qy11x11
 rw [if_pos (by rfl)]
 refine wp_store_mid 162 _ _ rfl g7 0 (i32 ss xd).toArray rfl rfl (there32 h7) (infoQA _ _) (oneQ _ _) ?_
 have hSy11_5:=hSy11_4.trans (But.ofOut (b:=g7) (by first | exact .inl rfl | exact .inr rfl) (Out.setCells (b:=g7) (o:=0) (n:=32) wy11_4 (i32 ss xd) (Nat.le_refl _) (by rw [i32_len];exact Nat.le_refl _)))
 replace h7:=h7.stored (i32 ss xd) (by rw [i32_len,i32_len])
 replace h6:=h6.far g7 0 (i32 ss xd) (.inl (by first | exact n67 | exact n67.symm))
 obtain ⟨wy11_5,hwy11_5⟩:∃ W,wy11_4.setCells g7 0 (i32 ss xd)=W:=⟨_,rfl⟩
 rw [hwy11_5] at h6
 rw [hwy11_5] at h7
 rw [hwy11_5] at hSy11_5
 rw [show wy11_4.setCells g7 0 (i32 ss xd).toArray.toList=wy11_5 from hwy11_5]
 refine hK.out _ _ hSy11_5 (fun h => ?_)
 clear h hK K hwy11_5
 (try dsimp only [Act.put])
 refine wpAnyH_done (by kernel_rfl) ?_ _
 refine NoPanic.normal ?_
 clear k17 k18 k19
 have fin:=(hbW.trans (hdrew.mono hbW.size)).trans (hSy11_5.below (Nat.le_trans hbW.size hdrew.size) (fun k hk=>hk.elim (fun e=>by rw [e];exact w6) (fun e=>by rw [e];exact w7)))
 go_wp2
 exact bodyPost_ret (results_cells Tryz.results135 _ _ g6 g7 (i32 ab ea) (i32 ss xd) _ rfl rfl h6.range h7.range Tryz.underlying162 rfl (infoQ _ _) (infoQ _ _)) rfl ⟨rfl,fin⟩
end Go.Proofs.YtibdhadbflfdpaaGreatDoor
