/- What the proof stands on: QKm, QKn, QOp, QO4, Q10Laid, LdOn. -/
import Derived.Test.YtcgkajlehdgpoaaGreatDoorBase
import Derived.Test.YtcgkajlehdgpoaaGreatDoorCards
import Derived.Test.YtcgkajlehdgpoaaGreatDoorG9MM
import Derived.Test.YtcgkajlehdgpoaaGreatDoorHRefSmallM
import Derived.Test.YtcgkajlehdgpoaaGreatDoorHWriteCM
import Derived.Test.YtcgkajlehdgpoaaGreatDoorLentM
import Derived.Test.YtcgkajlehdgpoaaGreatDoorQCOM
import Derived.Test.YtcgkajlehdgpoaaGreatDoorTie
import Derived.Lib.LaidTab
import Derived.Lib.SmallJoins
namespace Go.Proofs.YtcgkajlehdgpoaaGreatDoor
open Go.RowKit
theorem num10_any (x:Int) (w:World):Calls Tryz.prog 15 #[.int .i64 x] w fun e w'=>e = .returned (.int .i64 x)∧w'=w:=by
 go_enter Tryz.func15,Tryz.ntmps15
 go_wp2
 go_ret
 exact ⟨rfl,rfl⟩
theorem RowAt.outU {w w':World} {g o n b:Nat} {X:Nat→Nat} {z:Int} (h:RowAt .u8 w g o n X) (hc:w.cell? ⟨b,3,none⟩=some (.int .u64 z)) (u:Out b 3 1 w w'):RowAt .u8 w' g o n X:=fun j hj=>by
 have hl:=block_lt_of_cell (h j hj).1
 by_cases e:g=b
 · subst e
   by_cases e3:o+j=3
   · have:=(h j hj).1
     rw [e3,hc] at this
     cases this
   · rw [u.cell (o+j) (by omega),u.frozen];exact h j hj
 · rw [u.cell' hl e,u.frozen' hl e];exact h j hj
theorem CCtx.outU {w w':World} {g b:Nat} {K N X:Nat→Nat} {n:Nat} {z:Int} (h:CCtx w g K N X n) (hc:w.cell? ⟨b,3,none⟩=some (.int .u64 z)) (hne:g≠b) (u:Out b 3 1 w w'):CCtx w' g K N X n:=by
 obtain ⟨k,p,x,r,h1,h2,h3⟩:=h
 exact ⟨k,p,x,r.out u hne,h1.outU hc u,h2.outU hc u,h3.outU hc u⟩
theorem str_beq {a b:ByteArray}:(a.toList == b.toList)=decide (a=b):=by
 by_cases h:a=b
 · rw [h,decide_eq_true rfl];simp
 · rw [decide_eq_false h]
   exact beq_false_of_ne fun e=>h (WideShapes.bytes_inj (by simpa [ByteArray.toList_eq] using e))
theorem lit1_lt {x:Nat} (h:x<256):∀ j,litB [x] j<256:=litB_lt (by intro y hy;simp only [List.mem_cons,List.not_mem_nil,or_false] at hy;omega)
theorem slB_lt (ks nn:Nat→Nat) (ml:Nat) (M:Nat→Nat) (n:Nat) (X:Nat→Nat) (j:Nat):slB ks nn ml M n X j<256:=Nat.mod_lt _ (by decide)
def kSh:Nat→Nat:=shN2 (byt ssN) (byt py) (byt px)
def kK:Nat→Nat:=ckN lKey 16 kSh 0 lZ
def kN:Nat→Nat:=ckN lBn 12 kSh 0 lZ
theorem kns' {K N:Nat→Nat} (hk:∀ j,j<16→K j=litB nKe j) (hn:∀ j,j<12→N j=litB nNo j) (lK:∀ j,K j<256) (lN:∀ j,N j<256):slB K (ncN N 0) 0 lZ 1 (litB [116]) 0=86∧slB K (ncN N 1) 0 lZ 1 (litB [116]) 0=179:=by
 have hc:=ct_lit hk hn
 rw [slB_low lK (ncN_lt lN 0) (lit1_lt (by decide)) 0 lZ 1 0 (by decide),slB_low lK (ncN_lt lN 1) (lit1_lt (by decide)) 0 lZ 1 0 (by decide)]
 unfold trN
 rw [show 2+0 / 16=2 from rfl,show 0%16=0 from rfl,hc.1,hc.2]
 exact ⟨by decide,by decide⟩
theorem kns:slB kK (ncN kN 0) 0 lZ 1 (litB [116]) 0=86∧slB kK (ncN kN 1) 0 lZ 1 (litB [116]) 0=179 :=
 kns' (ck_Ke kSh lZ sh_lit) (ck_No kSh lZ sh_lit) (ckN_lt _ _ _ _ _) (ckN_lt _ _ _ _ _)
theorem sealA (K N M T:Nat→Nat) (ml n:Nat) (hml:ml≤65536) (hn:n≤65536) (hK:∀ j,K j<256) (hN:∀ j,N j<256) (hM:∀ j,M j<256) (hT:∀ j,T j<256) (kv nv mv tv:Value) (W:World) (h1:BytesIn W kv 16 K) (h2:BytesIn W nv 12 N) (h3:BytesIn W mv ml M) (h4:BytesIn W tv n T):AnsC 46 #[kv,nv,mv,tv] W (n+16) (slB K N ml M n T) 0 :=
 (seal_own kv nv mv tv ml n K N M T hml hn hK hN hM hT W h1 h2 h3 h4).mono fun _ _ ⟨g,cap,he,_,hc,hr,hb⟩=>⟨_,he,.inr ⟨g,0,cap,rfl,block_lt_of_cell (hr 0 (by omega)).1,hc,fun j hj=>(hr j hj).1⟩,hb⟩
end Go.Proofs.YtcgkajlehdgpoaaGreatDoor
namespace Go.Proofs.YtcgkajlehdgpoaaGreatDoor
open Go.RowKit
set_option maxRecDepth 20000 in
set_option maxHeartbeats 8000000 in
theorem knows10 (w:World) (hT:HTab w cubeK squareK):Calls Tryz.prog 17 #[] w fun e w'=>e = .returned (.bool true)∧Below w.heap.size w w':=by
 have hnum:=num10_any
 have hc1:∀ W:World,(convert 22 22 (.slice (some ⟨W.heap.size,0,none⟩) 1 1)).run Tryz.prog (W.alloc (.cells #[.int .u8 120] 5)) = .ok (.slice (some ⟨W.heap.size,0,none⟩) 1 1) (W.alloc (.cells #[.int .u8 120] 5 (1,2))):=fun W=>convC W [120]
 have hc2:∀ W:World,(convert 22 22 (.slice (some ⟨W.heap.size,0,none⟩) 1 1)).run Tryz.prog (W.alloc (.cells #[.int .u8 121] 5)) = .ok (.slice (some ⟨W.heap.size,0,none⟩) 1 1) (W.alloc (.cells #[.int .u8 121] 5 (1,2))):=fun W=>convC W [121]
 have hc3:∀ W:World,(convert 22 22 (.slice (some ⟨W.heap.size,0,none⟩) 1 1)).run Tryz.prog (W.alloc (.cells #[.int .u8 116] 5)) = .ok (.slice (some ⟨W.heap.size,0,none⟩) 1 1) (W.alloc (.cells #[.int .u8 116] 5 (1,2))):=fun W=>convC W [116]
 have ab:∀ (W:World) (o:Obj),Below W.heap.size W (W.alloc o):=fun W o=>(Below.refl _ _).alloc (Nat.le_refl _) _
 have n1:sdN (dsN 1 (litB [121])) (byt px)=ssN:=sd_s1 (litB [121]) rfl
 have n2:sdN (dsN 1 (litB [120])) (byt py)=ssN:=sd_s2 (litB [120]) rfl
 have n3:ssN≠0:=by decide
 have q1:puN (dsN 1 (litB [120]))=byt px:=pu_x (litB [120]) rfl
 have q2:puN (dsN 1 (litB [121]))=byt py:=pu_y (litB [121]) rfl
 have c1:=cDerive_any _ 1 (litB [120]) (lit1_lt (by decide)) (by decide) (w.alloc (.cells #[.int .u8 120] 5 (1,2))) (hT.keep (ab _ _)) (litB_B w [120] (1,2))
 have c2:∀ p W,Below w.heap.size w W→BytesIn W p 32 (byt px)→Calls Tryz.prog 11 #[p,.slice (some ⟨W.heap.size,0,none⟩) 1 1] (W.alloc (.cells #[.int .u8 121] 5 (1,2))) fun e w'=>∃ s p,e = .returned (.tuple #[s,p,.int .i64 0])∧BytesIn w' s 32 kSh∧BytesIn w' p 32 (byt py)∧Below W.heap.size W w':=fun p W hb hp=>by
  have h:=cEncap_some p _ 1 (byt px) (litB [121]) (byt_lt _) (lit1_lt (by decide)) (by decide) (by rw [n1];exact n3) _ (hT.keep (hb.alloc hb.size _)) (hp.keep (ab W _)) (litB_B W [121] (1,2))
  rw [n1,q2] at h
  exact h.mono fun _ _ ⟨s,p,he,h1,h2,hb'⟩=>⟨s,p,he,h1,h2,below_next (ab W _) hb'⟩
 have c3:∀ s p W,Below w.heap.size w W→BytesIn W s 32 (dsN 1 (litB [120]))→BytesIn W p 32 (byt py)→Calls Tryz.prog 13 #[s,p] W fun e w'=>∃ s,e = .returned (.tuple #[s,.int .i64 0])∧BytesIn w' s 32 kSh∧Below W.heap.size W w':=fun s p W hb hs hp=>by
  have h:=cDecap_some s p _ (byt py) (dsN_lt _ _) (byt_lt _) (by rw [n2];exact n3) W (hT.keep hb) hs hp
  rw [n2,q1] at h
  exact h
 have c4:∀ s W,Below w.heap.size w W→BytesIn W s 32 kSh→Calls Tryz.prog 18 #[s,.slice none 0 0] W fun e w'=>∃ g,e = .returned (.tuple #[.pointer (some ⟨g,0,none⟩),.int .i64 0])∧W.heap.size≤g∧CCtx w' g kK kN (ckN lExp 32 kSh 0 lZ) 0∧Below W.heap.size W w':=fun s W hb hs=>cNew_good s _ 0 kSh lZ (shN2_lt _ _ _) lZ_lt (by decide) W (hT.keep hb) hs (BytesIn.nil0 _ _)
 have lK:∀ j,kK j<256:=ckN_lt _ _ _ _ _
 have lN0:∀ j,kN j<256:=ckN_lt _ _ _ _ _
 have lN:∀ k j,ncN kN k j<256:=fun k=>ncN_lt lN0 k
 have c5:∀ k gc X W,k<2→CCtx W gc kK kN X k→Calls Tryz.prog 21 #[.pointer (some ⟨gc,0,none⟩),.slice none 0 0,.slice (some ⟨W.heap.size,0,none⟩) 1 1] (W.alloc (.cells #[.int .u8 116] 5 (1,2))) fun e w'=>∃ s,e = .returned (.tuple #[s,.int .i64 0])∧BytesIn w' s 17 (slB kK (ncN kN k) 0 lZ 1 (litB [116]))∧CCtx w' gc kK kN X (k+1)∧Out gc 3 1 W w':=fun k gc X W hk hc =>
  (cSeal gc k kK kN X lN0 _ _ 17 _ 0 (.inl rfl) (by omega) _ (hc.keep (ab W _)) (fun kv nv W' hb hkv hnv=>sealA kK (ncN kN k) lZ (litB [116]) 0 1 (by decide) (by decide) lK (lN k) lZ_lt (lit1_lt (by decide)) kv nv _ _ W' hkv hnv (BytesIn.nil0 _ _) ((litB_B W [116] (1,2)).keep hb))).mono fun _ _ ⟨s,he,h1,h2,h3⟩=>⟨s,he,h1,h2,(Out.of_below (ab W _) hc.lt).trans h3⟩
 have c6:∀ k gc X tv W,k<2→CCtx W gc kK kN X k→BytesIn W tv 17 (slB kK (ncN kN k) 0 lZ 1 (litB [116]))→Calls Tryz.prog 22 #[.pointer (some ⟨gc,0,none⟩),.slice none 0 0,tv] W fun e w'=>∃ s,e = .returned (.tuple #[s,.int .i64 0])∧BytesIn w' s 1 (litB [116])∧CCtx w' gc kK kN X (k+1)∧Out gc 3 1 W w':=fun k gc X tv W hk hc ht =>
  cOpen gc k kK kN X lN0 _ _ 1 _ 0 (.inl rfl) (by omega) _ hc (fun kv nv W' hb hkv hnv=>open_back kv nv _ tv 0 1 kK (ncN kN k) lZ (litB [116]) (by decide) (by decide) lK (lN k) lZ_lt (lit1_lt (by decide)) W' hkv hnv (BytesIn.nil0 _ _) (ht.keep hb))
 have c50:=fun gc X W=>c5 0 gc X W (by decide)
 have c51:=fun gc X W=>c5 1 gc X W (by decide)
 have c60:=fun gc X tv W=>c6 0 gc X tv W (by decide)
 have c61:=fun gc X tv W=>c6 1 gc X tv W (by decide)
 have hne:strB 17 (slB kK (ncN kN 0) 0 lZ 1 (litB [116]))≠strB 17 (slB kK (ncN kN 1) 0 lZ 1 (litB [116])):=fun h=>by
  have:=((strB_eq (slB_lt _ _ _ _ _ _) (slB_lt _ _ _ _ _ _)).1 h).2 0 (by decide)
  rw [kns.1,kns.2] at this
  exact absurd this (by decide)
 have lX0:∀ j,slB kK (ncN kN 0) 0 lZ 1 (litB [116]) j<256:=slB_lt _ _ _ _ _ _
 have lX1:∀ j,slB kK (ncN kN 1) 0 lZ 1 (litB [116]) j<256:=slB_lt _ _ _ _ _ _
 have lT:∀ j,litB [116] j<256:=lit1_lt (by decide)
 have eT:strB 1 (litB [116])={ data:=#[116] }:=by kernel_rfl
 clear c5 c6 n1 n2 n3 q2
 rw [q1] at c1
 generalize dsN 1 (litB [120])=DX at *
 generalize byt px=PX at *
 generalize byt py=PY at *
 generalize slB kK (ncN kN 0) 0 lZ 1 (litB [116])=X0 at *
 generalize slB kK (ncN kN 1) 0 lZ 1 (litB [116])=X1 at *
 generalize litB [116]=TT at *
 generalize ckN lExp 32 kSh 0 lZ=XX at *
 generalize kSh=SH at *
 generalize kK=K at *
 generalize kN=N at *
 have hXY:((strB 17 X0).toList == (strB 17 X1).toList)=false:=by rw [str_beq];exact decide_eq_false hne
 have b0:=ab w (.cells #[.int .u8 120] 5 (1,2))
 clear q1 lK lN0 lN hne
 go_enter Tryz.func17,Tryz.ntmps17
 go_upto_region 10 with (first
  | rw [hc1]
  | (go_at_call 9;refine c1.mono ?_;clear c1;rintro e w1 ⟨s1,p1,rfl,o1,e1,hb1⟩;(have b1:=below_next b0 hb1);(have y1:=c2 p1 w1 b1 e1);clear c2 hb1 b0)
  | rw [hc2]
  | (go_at_call 11;refine y1.mono ?_;clear y1;rintro e w2 ⟨a2,p2,rfl,o2,e2,hb2⟩;(have b2:=below_next b1 hb2);(replace o1:=o1.keep hb2);(have y2:=c3 s1 p2 w2 b2 o1 e2);clear c3 hb2 b1)
  | (go_at_call 13;refine y2.mono ?_;clear y2;rintro e w3 ⟨a3,rfl,o3,hb3⟩;(have b3:=below_next b2 hb3);(replace o1:=o1.keep hb3);(replace o2:=o2.keep hb3);(have y3:=c4 a2 w3 b3 o2);clear hb3 b2)
  | (go_at_call 18;refine y3.mono ?_;clear y3;rintro e w4 ⟨g4,rfl,hg4,x4,hb4⟩;(have l4:w.heap.size≤g4:=Nat.le_trans b3.size hg4);(have b4:=below_next b3 hb4);(replace o1:=o1.keep hb4);(replace o3:=o3.keep hb4);(have y4:=c4 a3 w4 b4 o3);clear hb4 b3 c4 hg4)
  | (go_at_call 18;refine y4.mono ?_;clear y4;rintro e w5 ⟨g5,rfl,hg5,x5,hb5⟩;(have ne:g5≠g4:=Nat.ne_of_gt (Nat.lt_of_lt_of_le x4.lt hg5));(have l5:w.heap.size≤g5:=Nat.le_trans b4.size hg5);(have b5:=below_next b4 hb5);(replace o1:=o1.keep hb5);(replace x4:=x4.keep hb5);(have y5:=c50 g4 XX w5 x4);clear hb5 b4 hg5 c50)
  | rw [hc3]
  | (go_at_call 21;refine y5.mono ?_;clear y5;rintro e w6 ⟨s6,rfl,o6,x6,u6⟩;(have b6:Below w.heap.size w w6:=b5.trans (u6.below l4 b5.size));(replace o1:=o1.outU x4.num u6);(replace x5:=x5.outU x4.num ne u6);(have y6:=c51 g4 XX w6 x6);clear x4 u6 b5 c51)
  | (go_at_call 21;refine y6.mono ?_;clear y6;rintro e w7 ⟨s7,rfl,o7,x7,u7⟩;(have b7:Below w.heap.size w w7:=b6.trans (u7.below l4 b6.size));(replace o1:=o1.outU x6.num u7);(replace o6:=o6.outU x6.num u7);(replace x5:=x5.outU x6.num ne u7);(have y7:=c60 g5 XX s6 w7 x5 o6);clear x6 x7 u7 b6 c60)
  | (go_at_call 22;refine y7.mono ?_;clear y7;rintro e w8 ⟨s8,rfl,o8,x8,u8⟩;(have b8:Below w.heap.size w w8:=b7.trans (u8.below l5 b7.size));(replace o1:=o1.outU x5.num u8);(replace o6:=o6.outU x5.num u8);(replace o7:=o7.outU x5.num u8);(have y8:=c61 g5 XX s7 w8 x8 o7);clear x5 u8 b7 c61)
  | (go_at_call 22;refine y8.mono ?_;clear y8;rintro e w9 ⟨s9,rfl,o9,x9,u9⟩;(have b9:Below w.heap.size w w9:=b8.trans (u9.below l5 b8.size));(replace o1:=o1.outU x8.num u9);(replace o6:=o6.outU x8.num u9);(replace o7:=o7.outU x8.num u9);(replace o8:=o8.outU x8.num u9);clear x8 x9 u9 b8))
 have r6:=o6.conv lX0 w9 (Below.refl _ _)
 have r7:=o7.conv lX1 w9 (Below.refl _ _)
 have r8:=o8.conv lT w9 (Below.refl _ _)
 have r9:=o9.conv lT w9 (Below.refl _ _)
 rw [eT] at r8 r9
 obtain ⟨z1,d1,rfl,-,-,-⟩:=o1.src
 clear o1 o6 o7 o8 o9 hc1 hc2 hc3 ab lX0 lX1 lT eT hT
 generalize strB 17 X0=S0 at *
 generalize strB 17 X1=S1 at *
 go_wp2_with (first
  | (go_at_call 15;refine (hnum _ _).mono ?_;rintro e wn ⟨rfl,rfl⟩)
  | rw [r6]
  | rw [r7]
  | rw [r8]
  | rw [r9])
 go_ret
 exact ⟨rfl,b9⟩
end Go.Proofs.YtcgkajlehdgpoaaGreatDoor
namespace Go.Proofs.YtcgkajlehdgpoaaGreatDoor
open Go.ChangeShapes Go.WideShapes Go.ChangeAt Go.RowKit Go.Joins Go.Deep
theorem plain_cellQ {w:World} {b o:Nat} {sp:Option Nat} {v:Value} (h:w.cell? ((⟨b,o,sp⟩:Addr).add 0)=some v):sp=none:=by
 cases sp with
 | none=>rfl
 | some k =>
  exfalso
  unfold World.cell? Addr.add at h
  simp at h
  split at h <;> simp at h
theorem bytes_in_cellQ {H:Type} {enc:TypeId × Value→H} {W:World} {fuel:Nat} {v:Value} {x:DataW H × List MemPlace} (h:DataW.trod enc Tryz.prog W 0 (fun _=>true) true fuel 22 [v]=some x) (hw:∀ n∈x.1.weights Tryz.prog 22,n≤reachBytes):∃ n bs,BytesIn W v n bs∧(∀ j,bs j<256)∧n+300<140737488355000:=by
 rcases open_ints Tryz.underlying22 Tryz.underlying5 cellsOfByte h with ⟨hcs,hx⟩ | ⟨a,len,cap,zs,hcs,_,hl,hm,hz,hx,hcell,hwz⟩
 · obtain rfl:v = .slice none 0 0:=by simpa using hcs
   exact ⟨0,fun _=>0,.inl ⟨none,rfl,rfl⟩,fun _=>Nat.zero_lt_succ _,by decide⟩
 · obtain rfl:v = .slice (some a) len cap:=by simpa using hcs
   simp only [if_true] at hz
   have hn:∀ j,0≤zs.getD j 0∧zs.getD j 0<256:=fun j=>by
    rw [List.getD_eq_getElem?_getD]
    cases h:zs[j]? with
    | none=>simp
    | some x =>
     have:=hwz x (List.mem_of_getElem? h)
     have h0:(0:Int)≤x∧x≤255:=by simpa [Lit.wf,IntKind.min,IntKind.max,IntKind.signed,IntKind.bits] using this
     show 0≤x∧x<256
     omega
   refine ⟨len,fun j=>(zs.getD j 0).toNat,?_,fun j=>by have:=hn j;show (zs.getD j 0).toNat<256;omega,?_⟩
   · by_cases hC:cap=0
     · exact .inl ⟨some a,by rw [hC,show len=0 by omega],by omega⟩
     · obtain ⟨b,o,sp⟩:=a
       have hc0:=hcell 0 (by omega)
       obtain rfl:=plain_cellQ hc0
       rw [Addr.add_mid] at hc0
       refine .inr ⟨b,o,cap,rfl,block_lt_of_cell hc0,hl,fun j hj => ?_⟩
       have h:=hcell j (by omega)
       rw [Addr.add_mid] at h
       rw [h,Int.toNat_of_nonneg (hn j).1]
   · have:=hw (zs.length*1) (by
      rw [hx]
      simp only [DataW.weights,Tryz.underlying22,bytesOfByte,List.mem_cons]
      left
      simp [lits]
      omega)
     unfold reachBytes at this
     omega
theorem cellsOfOpQ:Tryz.prog.cellsOf 41=4:=by kernel_rfl
theorem under_opQ:∃ f0 f1 f2 f3:Field,Tryz.prog.underlying 41=some (.struct #[f0,f1,f2,f3])∧oneCellFields Tryz.prog #[f0,f1,f2,f3]=true∧f0.type=3∧f1.type=3∧f2.type=22∧f3.type=22:=⟨_,_,_,_,Tryz.underlying41,by kernel_rfl,rfl,rfl,rfl,rfl⟩
theorem weights_opQ {H:Type} {a b c d:DataW H}:(∀ n∈c.weights Tryz.prog 22,n∈(DataW.agg [a,b,c,d]).weights Tryz.prog 41)∧∀ n∈d.weights Tryz.prog 22,n∈(DataW.agg [a,b,c,d]).weights Tryz.prog 41:=by
 obtain ⟨f0,f1,f2,f3,hu,-,t0,t1,t2,t3⟩:=under_opQ
 constructor
 · intro n hn
   simp only [DataW.weights,hu]
   exact DataW.weights_mem_each (j:=2) (t:=22) (by simp [t2]) rfl n hn
 · intro n hn
   simp only [DataW.weights,hu]
   exact DataW.weights_mem_each (j:=3) (t:=22) (by simp [t3]) rfl n hn
structure OpsQ (w:World) (xo:Option Addr) (cnt:Nat) (kd nn:Nat→Int) (mv tv:Nat→Value) (mn tn:Nat→Nat) (mb tb:Nat→Nat→Nat):Prop where
 cell:∀ i,i<cnt→∃ b off,xo=some ⟨b,off,none⟩∧b<w.heap.size∧w.rangeAt b (off+i*4) [.int .i64 (kd i),.int .i64 (nn i),mv i,tv i]
 more:∀ i,i<cnt→BytesIn w (mv i) (mn i) (mb i)∧(∀ j,mb i j<256)∧mn i+300<140737488355000
 text:∀ i,i<cnt→BytesIn w (tv i) (tn i) (tb i)∧(∀ j,tb i j<256)∧tn i+300<140737488355000
theorem weights_all {H:Type} {e:TypeId} {d:DataW H}:∀ {l:List (DataW H)},d∈l→∀ n∈d.weights Tryz.prog e,n∈DataW.weightsAll Tryz.prog e l
 | [],h,_,_=>by cases h
 | a :: r,h,n,hn=>by
  simp only [DataW.weightsAll,List.mem_append]
  rcases List.mem_cons.1 h with rfl | h
  · exact .inl hn
  · exact .inr (weights_all h n hn)
theorem bytesOfOpQ:Tryz.prog.bytesOf 41=64:=by kernel_rfl
set_option maxRecDepth 20000 in
theorem open_opsQ {H:Type} {enc:TypeId × Value→H} {W:World} {base:Nat} {v:Value} {d:DataW H} {ps:List MemPlace} {ts:List TypeId} {ds:List (DataW H)} (hval:Value.okWide Tryz.prog W .any base 39 v) (h:DataW.Trod enc Tryz.prog W 0 (fun _=>true) true 39 v d ps)
 (hR:(DataW.weightsEach Tryz.prog ts ds).all (·≤reachBytes)=true) {j:Nat} (ht:ts[j]? = some 39) (hd:ds[j]? = some d) :
 ∃ xo cnt cap kd nn mv tv mn tn mb tb,v = .slice xo cnt cap∧cnt≤cap∧cnt<140737488355000∧OpsQ W xo cnt kd nn mv tv mn tn mb tb:=by
 obtain ⟨a0,len,cap,rfl⟩:=okWide_slice Tryz.underlying39 hval
 obtain ⟨fuel,hf⟩:=h
 have hc:Cell.ok Tryz.prog W .any base 39 (.slice a0 len cap):=by
  unfold Value.okWide Cell.okWide at hval
  simp only [Tryz.underlying39] at hval
  exact hval
 have hw:∀ n∈d.weights Tryz.prog 39,n≤reachBytes:=fun n hn =>
  of_decide_eq_true (List.all_eq_true.1 hR n (DataW.weights_mem_each ht hd n hn))
 rcases Deep.open_slice Tryz.underlying39 hf with ⟨hcs,hx⟩ | ⟨a,len',cap',m,n,D,Pl,hcs,_,hl,hm,hmm,hx,hrow⟩
 · simp [Value.cells] at hcs
   obtain ⟨rfl,rfl,rfl⟩:=hcs
   exact ⟨none,0,0,fun _=>0,fun _=>0,fun _ => .slice none 0 0,fun _ => .slice none 0 0,fun _=>0,fun _=>0,fun _ _=>0,fun _ _=>0,rfl,Nat.le_refl _,by decide,⟨fun q hq=>by omega,fun q hq=>by omega,fun q hq=>by omega⟩⟩
 · simp [Value.cells] at hcs
   obtain ⟨rfl,rfl,rfl⟩:=hcs
   simp only [if_true] at hmm
   unfold Cell.ok at hc
   simp only [Tryz.underlying39] at hc
   obtain ⟨_,_,_,hs,_⟩:=hc
   obtain ⟨b,off,spot⟩:=a
   subst hs
   rw [cellsOfOpQ] at hrow
   obtain ⟨hx1,-⟩:=Prod.mk.inj hx
   rw [hx1] at hw
   simp only [DataW.weights,Tryz.underlying39,List.mem_cons,List.mem_append] at hw
   have hcnt:len<140737488355000:=by
    have:=hw _ (.inl rfl)
    rw [bytesOfOpQ] at this
    simp only [List.length_map,List.length_range] at this
    unfold reachBytes at this
    omega
   have each:∀ i,i<len→∃ q:(Int × Int × Value × Value) × (Nat × Nat) × (Nat→Nat) × (Nat→Nat),W.rangeAt b (off+i*4) [.int .i64 q.1.1,.int .i64 q.1.2.1,q.1.2.2.1,q.1.2.2.2]∧b<W.heap.size∧(BytesIn W q.1.2.2.1 q.2.1.1 q.2.2.1∧(∀ j,q.2.2.1 j<256)∧q.2.1.1+300<140737488355000)∧(BytesIn W q.1.2.2.2 q.2.1.2 q.2.2.2∧(∀ j,q.2.2.2 j<256)∧q.2.1.2+300<140737488355000):=by
    intro i hi
    obtain ⟨cs',h1,h2⟩:=hrow i (by omega)
    obtain ⟨_,hlen,hcell⟩:=World.cells?_some h1
    obtain ⟨xs,k,hk,hxy,_,hxl,hfd⟩:=DataW.trod_struct Tryz.underlying41 h2
    match xs,hxl,cs',hlen with
    | [y0,y1,y2,y3],_,[v0,v1,v2,v3],_ =>
     have g0:=hfd 0 _ rfl
     have g1:=hfd 1 _ rfl
     have g2:=hfd 2 _ rfl
     have g3:=hfd 3 _ rfl
     have k1:Tryz.prog.cellsOf 22=1:=by kernel_rfl
     have k2:Tryz.prog.cellsOf 3=1:=by kernel_rfl
     simp [k1,k2] at g0 g1 g2 g3
     obtain ⟨z0,hz0,-,-⟩:=DataW.trod_int Tryz.underlying3 g0
     obtain ⟨z1,hz1,-,-⟩:=DataW.trod_int Tryz.underlying3 g1
     obtain rfl:v0 = .int .i64 z0:=by simpa using hz0
     obtain rfl:v1 = .int .i64 z1:=by simpa using hz1
     obtain ⟨hD,-⟩:=Prod.mk.inj hxy
     have hwi:∀ n∈(D i).weights Tryz.prog 41,n≤reachBytes:=fun n hn=>hw n (.inr (.inl (weights_all (List.mem_map.2 ⟨i,List.mem_range.2 hi,rfl⟩) n hn)))
     rw [hD] at hwi
     obtain ⟨n2,b2,i2,l2,d2⟩:=bytes_in_cellQ g2 (fun n hn=>hwi n (weights_opQ.1 n hn))
     obtain ⟨n3,b3,i3,l3,d3⟩:=bytes_in_cellQ g3 (fun n hn=>hwi n (weights_opQ.2 n hn))
     have e0:=hcell 0 (by omega)
     have e1:=hcell 1 (by omega)
     have e2:=hcell 2 (by omega)
     have e3:=hcell 3 (by omega)
     rw [Addr.add_mid,Addr.add_mid] at e0 e1 e2 e3
     refine ⟨((z0,z1,v2,v3),(n2,n3),b2,b3),fun j v hv => ?_,block_lt_of_cell (by simpa using e0),⟨i2,l2,d2⟩,⟨i3,l3,d3⟩⟩
     match j,hv with
     | 0,hv=>rw [←hv];simpa using e0
     | 1,hv=>rw [←hv];simpa using e1
     | 2,hv=>rw [←hv];simpa using e2
     | 3,hv=>rw [←hv];simpa using e3
     | j+4,hv=>simp at hv
   obtain ⟨q,hq⟩:=Deep.choose_lt (α:=(Int × Int × Value × Value) × (Nat × Nat) × (Nat→Nat) × (Nat→Nat)) each
   exact ⟨some ⟨b,off,none⟩,len,cap,fun i=>(q i).1.1,fun i=>(q i).1.2.1,fun i=>(q i).1.2.2.1,fun i=>(q i).1.2.2.2,fun i=>(q i).2.1.1,fun i=>(q i).2.1.2,fun i=>(q i).2.2.1,fun i=>(q i).2.2.2,rfl,hl,hcnt,⟨fun i hi=>⟨b,off,rfl,(hq i hi).2.1,(hq i hi).1⟩,fun i hi=>(hq i hi).2.2.1,fun i hi=>(hq i hi).2.2.2⟩⟩
end Go.Proofs.YtcgkajlehdgpoaaGreatDoor
namespace Go.Proofs.YtcgkajlehdgpoaaGreatDoor
open Go.RowKit
def o4 (k n:Int) (u v:Value):List Value:=[.int .i64 k,.int .i64 n,u,v]
theorem infoOp (k n:Int) (u v:Value):(Tryz.prog.info? 41).map (·.size)=some (o4 k n u v).length:=by kernel_rfl
theorem infoOpA (k n:Int) (u v:Value):(Tryz.prog.info? 41).map (·.size)=some (o4 k n u v).toArray.size:=by kernel_rfl
theorem oneOp (k n:Int) (x y:Option Addr) (a b c d:Nat):(o4 k n (.slice x a b) (.slice y c d)).toArray.all (·.oneCell')=true:=by simp [o4,Value.oneCell']
theorem zeroOp (w:World):Sem.run Tryz.prog (zeroValue 41) w = .ok (.agg (o4 0 0 (.slice none 0 0) (.slice none 0 0)).toArray) w:=by kernel_rfl
end Go.Proofs.YtcgkajlehdgpoaaGreatDoor
namespace Go.Proofs.YtcgkajlehdgpoaaGreatDoor
open Go Go.RowKit
def lay (cs:Array Value):Obj→Obj
 | .cells _ t frozen => .cells cs t frozen
 | o=>o
theorem cellsOfI:Tryz.prog.cellsOf 3=1:=by kernel_rfl
theorem cellsOfU:Tryz.prog.cellsOf 82=1:=by kernel_rfl
theorem cellsOf3U:Tryz.prog.cellsOf 182=3:=by kernel_rfl
theorem cellsOfW:Tryz.prog.cellsOf 53=1:=by kernel_rfl
theorem cellsOf80W:Tryz.prog.cellsOf 224=80:=by kernel_rfl
theorem cellsOf8W:Tryz.prog.cellsOf 204=8:=by kernel_rfl
theorem rules_parts {H:Type} {enc:TypeId × Value→H} {w:World} {base:Nat} {sp:Nat→Bool} {held:Bool} {fuel:Nat} {cs:List Value} {a b:Int} {x y z u:List Int} {p:List MemPlace}
 (h:DataW.trod enc Tryz.prog w base sp held fuel 184 cs=some (.agg [.lit (.int .i64 a),.lit (.int .i64 b),Lib.tabData .u64 x,Lib.tabData .u64 y,Lib.tabData .u64 z,Lib.tabData .u64 u],p)) :
 (cs.drop 0).take 1=[.int .i64 a]∧(cs.drop 1).take 1=[.int .i64 b]∧(cs.drop 2).take 3=x.map (fun v=>Value.int .u64 v)∧(cs.drop 5).take 3=y.map (fun v=>Value.int .u64 v)∧(cs.drop 8).take 3=z.map (fun v=>Value.int .u64 v)∧(cs.drop 11).take 3=u.map (fun v=>Value.int .u64 v):=by
 cases fuel with
 | zero=>simp [DataW.trod] at h
 | succ fuel =>
  simp only [DataW.trod,Tryz.underlying184] at h
  split at h
  · obtain ⟨xs,hm,hx⟩:=Option.map_eq_some_iff.1 h
    have hxs:=congrArg Prod.fst hx
    simp only [DataW.agg.injEq] at hxs
    have hlen:xs.length=6:=by have:=congrArg List.length hxs;simpa using this
    have g:∀ i f,(i<6)→[(3,0),(3,1),(182,2),(182,5),(182,8),(182,11)][i]? = some f→∃ y,xs[i]? = some y∧DataW.trod enc Tryz.prog w base sp held fuel f.1 ((cs.drop f.2).take (Tryz.prog.cellsOf f.1))=some y:=fun i f hi hf=>by
     match i,hi,hf with
     | 0,_,hf=>cases hf;exact Lib.mapM_at hm 0 _ rfl
     | 1,_,hf=>cases hf;exact Lib.mapM_at hm 1 _ rfl
     | 2,_,hf=>cases hf;exact Lib.mapM_at hm 2 _ rfl
     | 3,_,hf=>cases hf;exact Lib.mapM_at hm 3 _ rfl
     | 4,_,hf=>cases hf;exact Lib.mapM_at hm 4 _ rfl
     | 5,_,hf=>cases hf;exact Lib.mapM_at hm 5 _ rfl
    match xs,hlen,hxs,g with
    | [x0,x1,x2,x3,x4,x5],_,hxs,g =>
     simp only [List.map_cons,List.map_nil,List.cons.injEq,and_true] at hxs
     obtain ⟨e0,e1,e2,e3,e4,e5⟩:=hxs
     obtain ⟨_,h0,t0⟩:=g 0 _ (by decide) rfl
     obtain ⟨_,h1,t1⟩:=g 1 _ (by decide) rfl
     obtain ⟨_,h2,t2⟩:=g 2 _ (by decide) rfl
     obtain ⟨_,h3,t3⟩:=g 3 _ (by decide) rfl
     obtain ⟨_,h4,t4⟩:=g 4 _ (by decide) rfl
     obtain ⟨_,h5,t5⟩:=g 5 _ (by decide) rfl
     cases h0;cases h1;cases h2;cases h3;cases h4;cases h5
     rw [cellsOfI] at t0 t1
     rw [cellsOf3U] at t2 t3 t4 t5
     obtain ⟨z0,c0,r0,_⟩:=DataW.trod_int Tryz.underlying3 t0
     obtain ⟨z1,c1,r1,_⟩:=DataW.trod_int Tryz.underlying3 t1
     subst r0 r1
     cases e0;cases e1
     have k:∀ {o:Nat} {v:DataW H × List MemPlace} {l:List Int},DataW.trod enc Tryz.prog w base sp held fuel 182 ((cs.drop o).take 3)=some v→v.1=Lib.tabData .u64 l→(cs.drop o).take 3=l.map (fun v=>Value.int .u64 v):=fun {o v l} ht he=>by
      obtain ⟨v1,v2⟩:=v
      cases he
      exact Lib.cells_of_tab Tryz.underlying182 Tryz.underlying82 cellsOfU cellsOf3U ht
     exact ⟨c0,c1,k t2 e2,k t3 e3,k t4 e4,k t5 e5⟩
  · cases h
theorem at_of_part {cs:List Value} {o n:Nat} {l:List Value} (h:(cs.drop o).take n=l) (i:Nat) (hi:i<n):cs[o+i]? = l[i]?:=by
 rw [←h,List.getElem?_take,if_pos hi,List.getElem?_drop]
theorem cubesL_eq:Rows.laid_synod_sha_cubes=(Lib.tabData .u64 (cubesL.map fun n:Nat=>(n:Int)):DataW Unit):=rfl
theorem squaresL_eq:Rows.laid_synod_sha_squares=(Lib.tabData .u64 (squaresL.map fun n:Nat=>(n:Int)):DataW Unit):=rfl
theorem gCubes:Tryz.prog.globalNamed "synod/sha.cubes" = some 3:=by kernel_rfl
theorem gSquares:Tryz.prog.globalNamed "synod/sha.squares" = some 1:=by kernel_rfl
theorem gNarrow:Tryz.prog.globalNamed "synod/sha.narrowRules" = some 0:=by kernel_rfl
theorem gWide:Tryz.prog.globalNamed "synod/sha.wideRules" = some 2:=by kernel_rfl
theorem tCubes:(Tryz.prog.globals[3]?).map (·.type)=some 224:=by kernel_rfl
theorem tSquares:(Tryz.prog.globals[1]?).map (·.type)=some 204:=by kernel_rfl
theorem tNarrow:(Tryz.prog.globals[0]?).map (·.type)=some 184:=by kernel_rfl
theorem tWide:(Tryz.prog.globals[2]?).map (·.type)=some 184:=by kernel_rfl
theorem tab_cell {W:World} {name:String} {g:Nat} {l:List Nat} {cs:Array Value} (hg:Tryz.prog.globalNamed name=some g) (hv:W.var? Tryz.prog name=some cs) (hc:cs.toList=(l.map fun n:Nat=>(n:Int)).map fun z=>Value.int .u64 z) (j:Nat) (hj:j<l.length):W.cell? ⟨g,j,none⟩=some (.int .u64 ((l.getD j 0:Nat):Int)):=by
 rw [World.var?_cell hg hv j,←Array.getElem?_toList,hc]
 simp [List.getD,hj]
theorem sha_of_laid {W:World} (h:laidMetH Tryz.prog [("synod/sha.cubes", Rows.laid_synod_sha_cubes),("synod/sha.squares", Rows.laid_synod_sha_squares),("synod/sha.narrowRules", Rows.laid_synod_sha_narrowRules),("synod/sha.wideRules", Rows.laid_synod_sha_wideRules)] W):HTab W cubeK squareK:=by
 have h':laidMet Tryz.prog [("synod/sha.cubes", Rows.laid_synod_sha_cubes),("synod/sha.squares", Rows.laid_synod_sha_squares),("synod/sha.narrowRules", Rows.laid_synod_sha_narrowRules),("synod/sha.wideRules", Rows.laid_synod_sha_wideRules)] W:=h
 obtain ⟨ps,⟨g1,t1,cs1,f1,p1,q1,hg1,ht1,hv1,hd1,⟨g2,t2,cs2,f2,p2,q2,hg2,ht2,hv2,hd2,⟨g3,t3,cs3,f3,p3,q3,hg3,ht3,hv3,hd3,⟨g4,t4,cs4,f4,p4,q4,hg4,ht4,hv4,hd4,_,_⟩,_⟩,_⟩,_⟩,_⟩:=h'
 obtain rfl:=Option.some.inj (gCubes.symm.trans hg1)
 obtain rfl:=Option.some.inj (tCubes.symm.trans ht1)
 obtain rfl:=Option.some.inj (gSquares.symm.trans hg2)
 obtain rfl:=Option.some.inj (tSquares.symm.trans ht2)
 obtain rfl:=Option.some.inj (gNarrow.symm.trans hg3)
 obtain rfl:=Option.some.inj (tNarrow.symm.trans ht3)
 obtain rfl:=Option.some.inj (gWide.symm.trans hg4)
 obtain rfl:=Option.some.inj (tWide.symm.trans ht4)
 rw [cubesL_eq] at hd1
 rw [squaresL_eq] at hd2
 have c1:=Lib.cells_of_tab Tryz.underlying224 Tryz.underlying53 cellsOfW cellsOf80W hd1
 have c2:=Lib.cells_of_tab Tryz.underlying204 Tryz.underlying53 cellsOfW cellsOf8W hd2
 obtain ⟨a0,a1,a2,a3,a4,a5⟩:=rules_parts (a:=32) (b:=64) (x:=[7,18,3]) (y:=[17,19,10]) (z:=[2,13,22]) (u:=[6,11,25]) hd3
 obtain ⟨b0,b1,b2,b3,b4,b5⟩:=rules_parts (a:=64) (b:=80) (x:=[1,8,7]) (y:=[19,61,6]) (z:=[28,34,39]) (u:=[14,18,41]) hd4
 have n:∀ j,W.cell? ⟨0,j,none⟩=cs3.toList[j]?:=fun j=>by rw [World.var?_cell gNarrow hv3 j,Array.getElem?_toList]
 have v:∀ j,W.cell? ⟨2,j,none⟩=cs4.toList[j]?:=fun j=>by rw [World.var?_cell gWide hv4 j,Array.getElem?_toList]
 refine ⟨fun j hj=>tab_cell gCubes hv1 c1 j hj,fun j hj=>tab_cell gSquares hv2 c2 j hj,?_,?_,cubeK_lt,squareK_lt⟩
 · exact ⟨(n 0).trans (at_of_part a0 0 (by decide)),(n 1).trans (at_of_part a1 0 (by decide)),(n 2).trans (at_of_part a2 0 (by decide)),(n 3).trans (at_of_part a2 1 (by decide)),(n 4).trans (at_of_part a2 2 (by decide)),(n 5).trans (at_of_part a3 0 (by decide)),(n 6).trans (at_of_part a3 1 (by decide)),(n 7).trans (at_of_part a3 2 (by decide)),(n 8).trans (at_of_part a4 0 (by decide)),(n 9).trans (at_of_part a4 1 (by decide)),(n 10).trans (at_of_part a4 2 (by decide)),(n 11).trans (at_of_part a5 0 (by decide)),(n 12).trans (at_of_part a5 1 (by decide)),(n 13).trans (at_of_part a5 2 (by decide))⟩
 · exact ⟨(v 0).trans (at_of_part b0 0 (by decide)),(v 1).trans (at_of_part b1 0 (by decide)),(v 2).trans (at_of_part b2 0 (by decide)),(v 3).trans (at_of_part b2 1 (by decide)),(v 4).trans (at_of_part b2 2 (by decide)),(v 5).trans (at_of_part b3 0 (by decide)),(v 6).trans (at_of_part b3 1 (by decide)),(v 7).trans (at_of_part b3 2 (by decide)),(v 8).trans (at_of_part b4 0 (by decide)),(v 9).trans (at_of_part b4 1 (by decide)),(v 10).trans (at_of_part b4 2 (by decide)),(v 11).trans (at_of_part b5 0 (by decide)),(v 12).trans (at_of_part b5 1 (by decide)),(v 13).trans (at_of_part b5 2 (by decide))⟩
def tabA (l:List Nat):Array Value:=(l.map fun n:Nat=>Value.int .u64 (n:Int)).toArray
def rulA (m r:Nat) (l:List Nat):Array Value:=([Value.int .i64 m,.int .i64 r] ++ l.map fun n:Nat=>Value.int .u64 (n:Int)).toArray
noncomputable def laidWorldH (os:Os):World :=
 { World.holding Tryz.prog os ⟨#[],#[],[]⟩ with heap:=(((((World.holding Tryz.prog os ⟨#[],#[],[]⟩).heap.modify 3 (lay (tabA cubesL))).modify 1 (lay (tabA squaresL))).modify 0 (lay (rulA 32 64 [7,18,3,17,19,10,2,13,22,6,11,25]))).modify 2 (lay (rulA 64 80 [1,8,7,19,61,6,28,34,39,14,18,41]))) }
end Go.Proofs.YtcgkajlehdgpoaaGreatDoor
namespace Go.Proofs.YtcgkajlehdgpoaaGreatDoor
open Go.RowKit
theorem wpList_load_on {P:Program} {ops:Array Oper} {rest:List Oper} {op:Oper} {a:Act} {w:World} {Q:Exit→Act→World→Prop} (hw:Region.wanted op (yielded ops a.tmps)=true) (ty:TypeId) (x:Operand) (ho:op.op = .load ty x) (b o:Nat) (hx:a.eval x = .pointer (some ⟨b,o,none⟩)) (cs:List Value) (d:TypeDesc) (hc:w.rangeAt b o cs) (hu:P.underlying ty=some d) (hd:d.isRow=true) (hi:(P.info? ty).map (·.size)=some cs.length) (h:wpList P ops Q rest (a.put op.dst (.agg cs.toArray)) w):wpList P ops Q (op :: rest) a w:=by
 unfold wpList
 rw [if_pos hw]
 exact .inl (wp_load_mid ty x ho b o hx cs d hc hu hd hi h)
end Go.Proofs.YtcgkajlehdgpoaaGreatDoor
