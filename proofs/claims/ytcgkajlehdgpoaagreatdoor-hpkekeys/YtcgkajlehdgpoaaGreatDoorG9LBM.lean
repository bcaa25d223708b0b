/- What the proof stands on: G9LB, QKm, QKn. -/
import Derived.Test.YtcgkajlehdgpoaaGreatDoorQRQM
namespace Go.Proofs.YtcgkajlehdgpoaaGreatDoor
open Go.RowKit
theorem tgN_same (ks nn:Nat→Nat) (ml:Nat) (M:Nat→Nat) (n:Nat) {D F:Nat→Nat} (h:∀ j,j<n→D j=F j):tgN ks nn ml M n D=tgN ks nn ml M n F:=by
 have e:gpadN n D=gpadN n F:=funext fun j=>by
  unfold gpadN
  split
  · exact h j (by assumption)
  · rfl
 funext j
 unfold tgN auN
 rw [e]
theorem slB_low {ks nn X:Nat→Nat} (hks:∀ j,ks j<256) (hnn:∀ j,nn j<256) (hX:∀ j,X j<256) (ml:Nat) (M:Nat→Nat) (n j:Nat) (hj:j<n):slB ks nn ml M n X j=trN ks nn X j:=by
 unfold slB slN cat
 rw [if_pos hj,Nat.mod_eq_of_lt (trN_lt hks hnn hX j)]
theorem slB_tag {ks nn:Nat→Nat} (hks:∀ j,ks j<256) (hnn:∀ j,nn j<256) (X:Nat→Nat) (ml:Nat) (M:Nat→Nat) (n j:Nat) (hj:j<16):slB ks nn ml M n X (n+j)=tgN ks nn ml M n (trN ks nn X) j:=by
 unfold slB slN cat
 rw [if_neg (by omega),Nat.add_sub_cancel_left,Nat.mod_eq_of_lt (tgN_B hks hnn ml n j hj)]
theorem trN_back (ks nn:Nat→Nat) {X Y:Nat→Nat} (n:Nat) (h:∀ j,j<n→Y j=trN ks nn X j) (j:Nat) (hj:j<n):trN ks nn Y j=X j:=by
 unfold trN
 rw [h j hj]
 unfold trN
 rw [Nat.xor_assoc,Nat.xor_self,Nat.xor_zero]
theorem open_back (v u m t:Value) (ml n:Nat) (ks nn M X:Nat→Nat) (hml:ml≤65536) (hn:n≤65536) (hks:∀ j,ks j<256) (hnn:∀ j,nn j<256) (hM:∀ j,M j<256) (hX:∀ j,X j<256) (w:World) (hv:BytesIn w v 16 ks) (hu:BytesIn w u 12 nn) (hm:BytesIn w m ml M) (ht:BytesIn w t (n+16) (slB ks nn ml M n X)) :
 Calls Tryz.prog 47 #[v,u,m,t] w fun e w'=>∃ s,e = .returned (.tuple #[s,.int .i64 0])∧BytesIn w' s n X∧Below w.heap.size w w' :=
 (open_long v u m t ml n ks nn M (slB ks nn ml M n X) hml hn hks hnn hM (fun j=>Nat.mod_lt _ (by decide)) w hv hu hm ht).mono fun _ _ ⟨h,_,hb⟩=>by
  obtain ⟨s,he,ho⟩:=h fun j hj=>by
   rw [tgN_same ks nn ml M n (fun j hj=>slB_low hks hnn hX ml M n j hj)]
   exact (slB_tag hks hnn X ml M n j hj).symm
  exact ⟨s,he,(ho.congr (trN_back ks nn n (fun j hj=>slB_low hks hnn hX ml M n j hj))).bytesOf,hb⟩
end Go.Proofs.YtcgkajlehdgpoaaGreatDoor
namespace Go.Proofs.YtcgkajlehdgpoaaGreatDoor
open Go.RowKit
theorem num10_any (x:Int) (w:World):Calls Tryz.prog 15 #[.int .i64 x] w fun e w'=>e = .returned (.int .i64 x)∧w'=w:=by
 go_enter Tryz.func15,Tryz.ntmps15
 go_wp2
 go_ret
 exact ⟨rfl,rfl⟩
theorem RowAt.outU {w w':World} {g o n b:Nat} {X:Nat→Nat} {z:Int} (h:RowAt .u8 w g o n X) (hc:w.cell? ⟨b,3,none⟩=some (.int .u64 z)) (u:Out b 3 1 w w'):RowAt .u8 w' g o n X:=fun j hj=>by
 have hl:=block_lt_of_cell (h j hj).1
 by_cases e:g=b
 · subst e
   by_cases e3:o+j=3
   · have:=(h j hj).1
     rw [e3,hc] at this
     cases this
   · rw [u.cell (o+j) (by omega),u.frozen];exact h j hj
 · rw [u.cell' hl e,u.frozen' hl e];exact h j hj
theorem CCtx.outU {w w':World} {g b:Nat} {K N X:Nat→Nat} {n:Nat} {z:Int} (h:CCtx w g K N X n) (hc:w.cell? ⟨b,3,none⟩=some (.int .u64 z)) (hne:g≠b) (u:Out b 3 1 w w'):CCtx w' g K N X n:=by
 obtain ⟨k,p,x,r,h1,h2,h3⟩:=h
 exact ⟨k,p,x,r.out u hne,h1.outU hc u,h2.outU hc u,h3.outU hc u⟩
theorem str_beq {a b:ByteArray}:(a.toList == b.toList)=decide (a=b):=by
 by_cases h:a=b
 · rw [h,decide_eq_true rfl];simp
 · rw [decide_eq_false h]
   exact beq_false_of_ne fun e=>h (WideShapes.bytes_inj (by simpa [ByteArray.toList_eq] using e))
theorem lit1_lt {x:Nat} (h:x<256):∀ j,litB [x] j<256:=litB_lt (by intro y hy;simp only [List.mem_cons,List.not_mem_nil,or_false] at hy;omega)
theorem slB_lt (ks nn:Nat→Nat) (ml:Nat) (M:Nat→Nat) (n:Nat) (X:Nat→Nat) (j:Nat):slB ks nn ml M n X j<256:=Nat.mod_lt _ (by decide)
def kSh:Nat→Nat:=shN2 (byt ssN) (byt py) (byt px)
def kK:Nat→Nat:=ckN lKey 16 kSh 0 lZ
def kN:Nat→Nat:=ckN lBn 12 kSh 0 lZ
theorem kns' {K N:Nat→Nat} (hk:∀ j,j<16→K j=litB nKe j) (hn:∀ j,j<12→N j=litB nNo j) (lK:∀ j,K j<256) (lN:∀ j,N j<256):slB K (ncN N 0) 0 lZ 1 (litB [116]) 0=86∧slB K (ncN N 1) 0 lZ 1 (litB [116]) 0=179:=by
 have hc:=ct_lit hk hn
 rw [slB_low lK (ncN_lt lN 0) (lit1_lt (by decide)) 0 lZ 1 0 (by decide),slB_low lK (ncN_lt lN 1) (lit1_lt (by decide)) 0 lZ 1 0 (by decide)]
 unfold trN
 rw [show 2+0 / 16=2 from rfl,show 0%16=0 from rfl,hc.1,hc.2]
 exact ⟨by decide,by decide⟩
theorem kns:slB kK (ncN kN 0) 0 lZ 1 (litB [116]) 0=86∧slB kK (ncN kN 1) 0 lZ 1 (litB [116]) 0=179 :=
 kns' (ck_Ke kSh lZ sh_lit) (ck_No kSh lZ sh_lit) (ckN_lt _ _ _ _ _) (ckN_lt _ _ _ _ _)
theorem sealA (K N M T:Nat→Nat) (ml n:Nat) (hml:ml≤65536) (hn:n≤65536) (hK:∀ j,K j<256) (hN:∀ j,N j<256) (hM:∀ j,M j<256) (hT:∀ j,T j<256) (kv nv mv tv:Value) (W:World) (h1:BytesIn W kv 16 K) (h2:BytesIn W nv 12 N) (h3:BytesIn W mv ml M) (h4:BytesIn W tv n T):AnsC 46 #[kv,nv,mv,tv] W (n+16) (slB K N ml M n T) 0 :=
 (seal_own kv nv mv tv ml n K N M T hml hn hK hN hM hT W h1 h2 h3 h4).mono fun _ _ ⟨g,cap,he,_,hc,hr,hb⟩=>⟨_,he,.inr ⟨g,0,cap,rfl,block_lt_of_cell (hr 0 (by omega)).1,hc,fun j hj=>(hr j hj).1⟩,hb⟩
end Go.Proofs.YtcgkajlehdgpoaaGreatDoor
namespace Go.Proofs.YtcgkajlehdgpoaaGreatDoor
open Go.RowKit
set_option maxRecDepth 20000 in
set_option maxHeartbeats 8000000 in
theorem knows10 (w:World) (hT:HTab w cubeK squareK):Calls Tryz.prog 17 #[] w fun e w'=>e = .returned (.bool true)∧Below w.heap.size w w':=by
 have hnum:=num10_any
 have hc1:∀ W:World,(convert 22 22 (.slice (some ⟨W.heap.size,0,none⟩) 1 1)).run Tryz.prog (W.alloc (.cells #[.int .u8 120] 5)) = .ok (.slice (some ⟨W.heap.size,0,none⟩) 1 1) (W.alloc (.cells #[.int .u8 120] 5 (1,2))):=fun W=>convC W [120]
 have hc2:∀ W:World,(convert 22 22 (.slice (some ⟨W.heap.size,0,none⟩) 1 1)).run Tryz.prog (W.alloc (.cells #[.int .u8 121] 5)) = .ok (.slice (some ⟨W.heap.size,0,none⟩) 1 1) (W.alloc (.cells #[.int .u8 121] 5 (1,2))):=fun W=>convC W [121]
 have hc3:∀ W:World,(convert 22 22 (.slice (some ⟨W.heap.size,0,none⟩) 1 1)).run Tryz.prog (W.alloc (.cells #[.int .u8 116] 5)) = .ok (.slice (some ⟨W.heap.size,0,none⟩) 1 1) (W.alloc (.cells #[.int .u8 116] 5 (1,2))):=fun W=>convC W [116]
 have ab:∀ (W:World) (o:Obj),Below W.heap.size W (W.alloc o):=fun W o=>(Below.refl _ _).alloc (Nat.le_refl _) _
 have n1:sdN (dsN 1 (litB [121])) (byt px)=ssN:=sd_s1 (litB [121]) rfl
 have n2:sdN (dsN 1 (litB [120])) (byt py)=ssN:=sd_s2 (litB [120]) rfl
 have n3:ssN≠0:=by decide
 have q1:puN (dsN 1 (litB [120]))=byt px:=pu_x (litB [120]) rfl
 have q2:puN (dsN 1 (litB [121]))=byt py:=pu_y (litB [121]) rfl
 have c1:=cDerive_any _ 1 (litB [120]) (lit1_lt (by decide)) (by decide) (w.alloc (.cells #[.int .u8 120] 5 (1,2))) (hT.keep (ab _ _)) (litB_B w [120] (1,2))
 have c2:∀ p W,Below w.heap.size w W→BytesIn W p 32 (byt px)→Calls Tryz.prog 11 #[p,.slice (some ⟨W.heap.size,0,none⟩) 1 1] (W.alloc (.cells #[.int .u8 121] 5 (1,2))) fun e w'=>∃ s p,e = .returned (.tuple #[s,p,.int .i64 0])∧BytesIn w' s 32 kSh∧BytesIn w' p 32 (byt py)∧Below W.heap.size W w':=fun p W hb hp=>by
  have h:=cEncap_some p _ 1 (byt px) (litB [121]) (byt_lt _) (lit1_lt (by decide)) (by decide) (by rw [n1];exact n3) _ (hT.keep (hb.alloc hb.size _)) (hp.keep (ab W _)) (litB_B W [121] (1,2))
  rw [n1,q2] at h
  exact h.mono fun _ _ ⟨s,p,he,h1,h2,hb'⟩=>⟨s,p,he,h1,h2,below_next (ab W _) hb'⟩
 have c3:∀ s p W,Below w.heap.size w W→BytesIn W s 32 (dsN 1 (litB [120]))→BytesIn W p 32 (byt py)→Calls Tryz.prog 13 #[s,p] W fun e w'=>∃ s,e = .returned (.tuple #[s,.int .i64 0])∧BytesIn w' s 32 kSh∧Below W.heap.size W w':=fun s p W hb hs hp=>by
  have h:=cDecap_some s p _ (byt py) (dsN_lt _ _) (byt_lt _) (by rw [n2];exact n3) W (hT.keep hb) hs hp
  rw [n2,q1] at h
  exact h
 have c4:∀ s W,Below w.heap.size w W→BytesIn W s 32 kSh→Calls Tryz.prog 18 #[s,.slice none 0 0] W fun e w'=>∃ g,e = .returned (.tuple #[.pointer (some ⟨g,0,none⟩),.int .i64 0])∧W.heap.size≤g∧CCtx w' g kK kN (ckN lExp 32 kSh 0 lZ) 0∧Below W.heap.size W w':=fun s W hb hs=>cNew_good s _ 0 kSh lZ (shN2_lt _ _ _) lZ_lt (by decide) W (hT.keep hb) hs (BytesIn.nil0 _ _)
 have lK:∀ j,kK j<256:=ckN_lt _ _ _ _ _
 have lN0:∀ j,kN j<256:=ckN_lt _ _ _ _ _
 have lN:∀ k j,ncN kN k j<256:=fun k=>ncN_lt lN0 k
 have c5:∀ k gc X W,k<2→CCtx W gc kK kN X k→Calls Tryz.prog 21 #[.pointer (some ⟨gc,0,none⟩),.slice none 0 0,.slice (some ⟨W.heap.size,0,none⟩) 1 1] (W.alloc (.cells #[.int .u8 116] 5 (1,2))) fun e w'=>∃ s,e = .returned (.tuple #[s,.int .i64 0])∧BytesIn w' s 17 (slB kK (ncN kN k) 0 lZ 1 (litB [116]))∧CCtx w' gc kK kN X (k+1)∧Out gc 3 1 W w':=fun k gc X W hk hc =>
  (cSeal gc k kK kN X lN0 _ _ 17 _ 0 (.inl rfl) (by omega) _ (hc.keep (ab W _)) (fun kv nv W' hb hkv hnv=>sealA kK (ncN kN k) lZ (litB [116]) 0 1 (by decide) (by decide) lK (lN k) lZ_lt (lit1_lt (by decide)) kv nv _ _ W' hkv hnv (BytesIn.nil0 _ _) ((litB_B W [116] (1,2)).keep hb))).mono fun _ _ ⟨s,he,h1,h2,h3⟩=>⟨s,he,h1,h2,(Out.of_below (ab W _) hc.lt).trans h3⟩
 have c6:∀ k gc X tv W,k<2→CCtx W gc kK kN X k→BytesIn W tv 17 (slB kK (ncN kN k) 0 lZ 1 (litB [116]))→Calls Tryz.prog 22 #[.pointer (some ⟨gc,0,none⟩),.slice none 0 0,tv] W fun e w'=>∃ s,e = .returned (.tuple #[s,.int .i64 0])∧BytesIn w' s 1 (litB [116])∧CCtx w' gc kK kN X (k+1)∧Out gc 3 1 W w':=fun k gc X tv W hk hc ht =>
  cOpen gc k kK kN X lN0 _ _ 1 _ 0 (.inl rfl) (by omega) _ hc (fun kv nv W' hb hkv hnv=>open_back kv nv _ tv 0 1 kK (ncN kN k) lZ (litB [116]) (by decide) (by decide) lK (lN k) lZ_lt (lit1_lt (by decide)) W' hkv hnv (BytesIn.nil0 _ _) (ht.keep hb))
 have c50:=fun gc X W=>c5 0 gc X W (by decide)
 have c51:=fun gc X W=>c5 1 gc X W (by decide)
 have c60:=fun gc X tv W=>c6 0 gc X tv W (by decide)
 have c61:=fun gc X tv W=>c6 1 gc X tv W (by decide)
 have hne:strB 17 (slB kK (ncN kN 0) 0 lZ 1 (litB [116]))≠strB 17 (slB kK (ncN kN 1) 0 lZ 1 (litB [116])):=fun h=>by
  have:=((strB_eq (slB_lt _ _ _ _ _ _) (slB_lt _ _ _ _ _ _)).1 h).2 0 (by decide)
  rw [kns.1,kns.2] at this
  exact absurd this (by decide)
 have lX0:∀ j,slB kK (ncN kN 0) 0 lZ 1 (litB [116]) j<256:=slB_lt _ _ _ _ _ _
 have lX1:∀ j,slB kK (ncN kN 1) 0 lZ 1 (litB [116]) j<256:=slB_lt _ _ _ _ _ _
 have lT:∀ j,litB [116] j<256:=lit1_lt (by decide)
 have eT:strB 1 (litB [116])={ data:=#[116] }:=by kernel_rfl
 clear c5 c6 n1 n2 n3 q2
 rw [q1] at c1
 generalize dsN 1 (litB [120])=DX at *
 generalize byt px=PX at *
 generalize byt py=PY at *
 generalize slB kK (ncN kN 0) 0 lZ 1 (litB [116])=X0 at *
 generalize slB kK (ncN kN 1) 0 lZ 1 (litB [116])=X1 at *
 generalize litB [116]=TT at *
 generalize ckN lExp 32 kSh 0 lZ=XX at *
 generalize kSh=SH at *
 generalize kK=K at *
 generalize kN=N at *
 have hXY:((strB 17 X0).toList == (strB 17 X1).toList)=false:=by rw [str_beq];exact decide_eq_false hne
 have b0:=ab w (.cells #[.int .u8 120] 5 (1,2))
 clear q1 lK lN0 lN hne
 go_enter Tryz.func17,Tryz.ntmps17
 go_upto_region 10 with (first
  | rw [hc1]
  | (go_at_call 9;refine c1.mono ?_;clear c1;rintro e w1 ⟨s1,p1,rfl,o1,e1,hb1⟩;(have b1:=below_next b0 hb1);(have y1:=c2 p1 w1 b1 e1);clear c2 hb1 b0)
  | rw [hc2]
  | (go_at_call 11;refine y1.mono ?_;clear y1;rintro e w2 ⟨a2,p2,rfl,o2,e2,hb2⟩;(have b2:=below_next b1 hb2);(replace o1:=o1.keep hb2);(have y2:=c3 s1 p2 w2 b2 o1 e2);clear c3 hb2 b1)
  | (go_at_call 13;refine y2.mono ?_;clear y2;rintro e w3 ⟨a3,rfl,o3,hb3⟩;(have b3:=below_next b2 hb3);(replace o1:=o1.keep hb3);(replace o2:=o2.keep hb3);(have y3:=c4 a2 w3 b3 o2);clear hb3 b2)
  | (go_at_call 18;refine y3.mono ?_;clear y3;rintro e w4 ⟨g4,rfl,hg4,x4,hb4⟩;(have l4:w.heap.size≤g4:=Nat.le_trans b3.size hg4);(have b4:=below_next b3 hb4);(replace o1:=o1.keep hb4);(replace o3:=o3.keep hb4);(have y4:=c4 a3 w4 b4 o3);clear hb4 b3 c4 hg4)
  | (go_at_call 18;refine y4.mono ?_;clear y4;rintro e w5 ⟨g5,rfl,hg5,x5,hb5⟩;(have ne:g5≠g4:=Nat.ne_of_gt (Nat.lt_of_lt_of_le x4.lt hg5));(have l5:w.heap.size≤g5:=Nat.le_trans b4.size hg5);(have b5:=below_next b4 hb5);(replace o1:=o1.keep hb5);(replace x4:=x4.keep hb5);(have y5:=c50 g4 XX w5 x4);clear hb5 b4 hg5 c50)
  | rw [hc3]
  | (go_at_call 21;refine y5.mono ?_;clear y5;rintro e w6 ⟨s6,rfl,o6,x6,u6⟩;(have b6:Below w.heap.size w w6:=b5.trans (u6.below l4 b5.size));(replace o1:=o1.outU x4.num u6);(replace x5:=x5.outU x4.num ne u6);(have y6:=c51 g4 XX w6 x6);clear x4 u6 b5 c51)
  | (go_at_call 21;refine y6.mono ?_;clear y6;rintro e w7 ⟨s7,rfl,o7,x7,u7⟩;(have b7:Below w.heap.size w w7:=b6.trans (u7.below l4 b6.size));(replace o1:=o1.outU x6.num u7);(replace o6:=o6.outU x6.num u7);(replace x5:=x5.outU x6.num ne u7);(have y7:=c60 g5 XX s6 w7 x5 o6);clear x6 x7 u7 b6 c60)
  | (go_at_call 22;refine y7.mono ?_;clear y7;rintro e w8 ⟨s8,rfl,o8,x8,u8⟩;(have b8:Below w.heap.size w w8:=b7.trans (u8.below l5 b7.size));(replace o1:=o1.outU x5.num u8);(replace o6:=o6.outU x5.num u8);(replace o7:=o7.outU x5.num u8);(have y8:=c61 g5 XX s7 w8 x8 o7);clear x5 u8 b7 c61)
  | (go_at_call 22;refine y8.mono ?_;clear y8;rintro e w9 ⟨s9,rfl,o9,x9,u9⟩;(have b9:Below w.heap.size w w9:=b8.trans (u9.below l5 b8.size));(replace o1:=o1.outU x8.num u9);(replace o6:=o6.outU x8.num u9);(replace o7:=o7.outU x8.num u9);(replace o8:=o8.outU x8.num u9);clear x8 x9 u9 b8))
 have r6:=o6.conv lX0 w9 (Below.refl _ _)
 have r7:=o7.conv lX1 w9 (Below.refl _ _)
 have r8:=o8.conv lT w9 (Below.refl _ _)
 have r9:=o9.conv lT w9 (Below.refl _ _)
 rw [eT] at r8 r9
 obtain ⟨z1,d1,rfl,-,-,-⟩:=o1.src
 clear o1 o6 o7 o8 o9 hc1 hc2 hc3 ab lX0 lX1 lT eT hT
 generalize strB 17 X0=S0 at *
 generalize strB 17 X1=S1 at *
 go_wp2_with (first
  | (go_at_call 15;refine (hnum _ _).mono ?_;rintro e wn ⟨rfl,rfl⟩)
  | rw [r6]
  | rw [r7]
  | rw [r8]
  | rw [r9])
 go_ret
 exact ⟨rfl,b9⟩
end Go.Proofs.YtcgkajlehdgpoaaGreatDoor
