/- What the proof stands on: QBo, QRN, QCN, QRT, EqN, QCT. -/
import Derived.Test.YtibdhadbflfdpaaGreatDoorA8MathM
import Derived.Test.YtibdhadbflfdpaaGreatDoorBase
import Derived.Test.YtibdhadbflfdpaaGreatDoorQCXM
import Derived.Test.YtibdhadbflfdpaaGreatDoorZFM
import Derived.Laws.Cover3
namespace Go.Proofs.YtibdhadbflfdpaaGreatDoor
open Go.RowKit
abbrev AnsE (f:FuncId) (args:Array Value) (w:World) (L:Nat) (A:Nat→Nat) (M:Nat) (B:Nat→Nat) (E:Int):Prop :=
 Calls Tryz.prog f args w fun e w'=>∃ s p,e = .returned (.tuple #[s,p,.int .i64 E])∧BytesIn w' s L A∧BytesIn w' p M B∧Below w.heap.size w w'
abbrev AnsD (f:FuncId) (args:Array Value) (w:World) (L:Nat) (A:Nat→Nat) (E:Int):Prop :=
 Calls Tryz.prog f args w fun e w'=>∃ s,e = .returned (.tuple #[s,.int .i64 E])∧BytesIn w' s L A∧Below w.heap.size w w'
theorem ansE_nil {f:FuncId} {args:Array Value} {w:World} {E:Int} (c:Calls Tryz.prog f args w fun e w'=>e = .returned (.tuple #[.slice none 0 0,.slice none 0 0,.int .i64 E])∧Below w.heap.size w w'):AnsE f args w 0 lZ 0 lZ E :=
 c.mono fun _ _ ⟨he,hb⟩=>⟨_,_,he,BytesIn.nil0 _ _,BytesIn.nil0 _ _,hb⟩
theorem ansD_nil {f:FuncId} {args:Array Value} {w:World} {E:Int} (c:Calls Tryz.prog f args w fun e w'=>e = .returned (.tuple #[.slice none 0 0,.int .i64 E])∧Below w.heap.size w w'):AnsD f args w 0 lZ E :=
 c.mono fun _ _ ⟨he,hb⟩=>⟨_,he,BytesIn.nil0 _ _,hb⟩
theorem encap_both (pn m:Nat) (x ikm:Nat→Nat) (hx:∀ j,x j<256) (hikm:∀ j,ikm j<256) (hm:m+300<140737488355000):∃ L A M B E,(∀ j,A j<256)∧(∀ j,B j<256)∧(∀ u v W,HTab W cubeK squareK→BytesIn W u pn x→BytesIn W v m ikm→AnsE 73 #[u,v] W L A M B E)∧(∀ u v W,BytesIn W u pn x→BytesIn W v m ikm→AnsE 76 #[u,v] W L A M B E)∧((¬E=0∧L=0∧M=0)∨(E=0∧L=32∧M=32)):=by
 by_cases hp:pn=32
 · subst hp
   by_cases h0:sdN (dsN m ikm) x=0
   · exact ⟨0,lZ,0,lZ,30,lZ_lt,lZ_lt,fun u v W hT hu hv=>ansE_nil (cEncap_stop u v m ikm hikm hm 30 (by decide) W hT hv (fun s W' hb hs=>csh_none s u _ x (dsN_lt _ _) hx h0 W' hs (hu.keep hb))),fun u v W hu hv=>ansE_nil (rEncap_none u v m x ikm hx hikm hm h0 W hu hv),.inl ⟨by decide,rfl,rfl⟩⟩
   · exact ⟨32,_,32,_,0,shN2_lt _ _ _,puN_lt _,fun u v W hT hu hv=>cEncap_some u v m x ikm hx hikm hm h0 W hT hu hv,fun u v W hu hv=>rEncap_some u v m x ikm hx hikm hm h0 W hu hv,.inr ⟨rfl,rfl,rfl⟩⟩
 · exact ⟨0,lZ,0,lZ,1,lZ_lt,lZ_lt,fun u v W hT hu hv=>ansE_nil (cEncap_stop u v m ikm hikm hm 1 (by decide) W hT hv (fun s W' hb hs=>csh_arg s u 32 pn _ x (dsN_lt _ _) (by omega) W' hs (hu.keep hb))),fun u v W hu hv=>ansE_nil (rEncap_arg u v pn x hp W hu),.inl ⟨by decide,rfl,rfl⟩⟩
theorem decap_both (n m:Nat) (k x:Nat→Nat) (hk:∀ j,k j<256) (hx:∀ j,x j<256):∃ L A E,(∀ j,A j<256)∧(∀ u v W,HTab W cubeK squareK→BytesIn W u n k→BytesIn W v m x→AnsD 79 #[u,v] W L A E)∧(∀ u v W,BytesIn W u n k→BytesIn W v m x→AnsD 81 #[u,v] W L A E)∧((¬E=0∧L=0)∨(E=0∧L=32)):=by
 by_cases hp:n=32∧m=32
 · obtain ⟨rfl,rfl⟩:=hp
   by_cases h0:sdN k x=0
   · exact ⟨0,lZ,30,lZ_lt,fun u v W hT hu hv=>ansD_nil (cDecap_stop u v 30 (by decide) W (csh_none u v k x hk hx h0 W hu hv)),fun u v W hu hv=>ansD_nil (rDecap_none u v k x hk hx h0 W hu hv),.inl ⟨by decide,rfl⟩⟩
   · exact ⟨32,_,0,shN2_lt _ _ _,fun u v W hT hu hv=>cDecap_some u v k x hk hx h0 W hT hu hv,fun u v W hu hv=>rDecap_some u v k x hk hx h0 W hu hv,.inr ⟨rfl,rfl⟩⟩
 · exact ⟨0,lZ,1,lZ_lt,fun u v W hT hu hv=>ansD_nil (cDecap_stop u v 1 (by decide) W (csh_arg u v n m k x hk hp W hu hv)),fun u v W hu hv=>ansD_nil (rDecap_arg u v n m k x hp W hu hv),.inl ⟨by decide,rfl⟩⟩
end Go.Proofs.YtibdhadbflfdpaaGreatDoor
namespace Go.Proofs.YtibdhadbflfdpaaGreatDoor
open Go.RowKit
def RCtx (w:World) (g:Nat) (K N X:Nat→Nat) (n:Nat):Prop:=∃ k u x,RW w g 0 [k,u,x,.int .i64 (n:Int)]∧BytesIn w k 16 K∧BytesIn w u 12 N∧BytesIn w x 32 X
theorem RCtx.keep {w w':World} {g:Nat} {K N X:Nat→Nat} {n:Nat} (h:RCtx w g K N X n) (hb:Below w.heap.size w w'):RCtx w' g K N X n:=by
 obtain ⟨k,u,x,r,h1,h2,h3⟩:=h
 exact ⟨k,u,x,r.still hb,h1.keep hb,h2.keep hb,h3.keep hb⟩
theorem rNew_size (v u:Value) (m:Nat) (s info:Nat→Nat) (h:65536<m) (w:World) (hv:BytesIn w v 32 s) (hu:BytesIn w u m info) :
 Calls Tryz.prog 77 #[v,u] w fun e w'=>e = .returned (.tuple #[.pointer none,.int .i64 6])∧Below w.heap.size w w':=by
 obtain ⟨x1,c1,rfl,-,-,-⟩:=hv.src
 obtain ⟨x2,c2,rfl,-,-,-⟩:=hu.src
 have h2:(65536:Int)<(m:Int):=by omega
 go_enter Tryz.func77,Tryz.ntmps77
 go_wp2
 go_ret2
 exact ⟨rfl,Below.refl _ _⟩
set_option maxRecDepth 20000 in
set_option maxHeartbeats 4000000 in
theorem rNew_good (v u:Value) (m:Nat) (s info:Nat→Nat) (hs:∀ j,s j<256) (hi:∀ j,info j<256) (hm:m≤65536) (w:World) (hv:BytesIn w v 32 s) (hu:BytesIn w u m info) :
 Calls Tryz.prog 77 #[v,u] w fun e w'=>∃ g,e = .returned (.tuple #[.pointer (some ⟨g,0,none⟩),.int .i64 0])∧w.heap.size≤g∧RCtx w' g (ckN lKey 16 s m info) (ckN lBn 12 s m info) (ckN lExp 32 s m info) 0∧Below w.heap.size w w':=by
 obtain ⟨x1,c1,rfl,-,-,-⟩:=hv.src
 obtain ⟨x2,c2,rfl,-,-,-⟩:=hu.src
 have n2:¬((65536:Int)<(m:Int)):=by omega
 have hall:=fun W=>rall_any W
 have xp:∀ kv W,BytesIn W kv 10 (litB lAll)→Calls Tryz.prog 33 #[kv,.slice none 0 0,.string { data:=#[112,115,107,95,105,100,95,104,97,115,104] },.slice none 0 0] W _:=fun kv W hk=>rextract_any lAll lPsk lAll_lt (by decide) (by decide) kv (.slice none 0 0) (.slice none 0 0) 0 0 lZ lZ lZ_lt lZ_lt (by decide) (by decide) W hk (BytesIn.nil0 _ _) (BytesIn.nil0 _ _)
 have xi:∀ kv W,Below w.heap.size w W→BytesIn W kv 10 (litB lAll)→Calls Tryz.prog 33 #[kv,.slice none 0 0,.string { data:=#[105,110,102,111,95,104,97,115,104] },.slice x2 m c2] W _:=fun kv W hb hk=>rextract_any lAll lInf lAll_lt (by decide) (by decide) kv (.slice none 0 0) (.slice x2 m c2) 0 m lZ info lZ_lt hi (by decide) (by omega) W hk (BytesIn.nil0 _ _) (hu.keep hb)
 have xs:∀ kv W,Below w.heap.size w W→BytesIn W kv 10 (litB lAll)→Calls Tryz.prog 33 #[kv,.slice x1 32 c1,.string { data:=#[115,101,99,114,101,116] },.slice none 0 0] W _:=fun kv W hb hk=>rextract_any lAll lSecr lAll_lt (by decide) (by decide) kv (.slice x1 32 c1) (.slice none 0 0) 32 0 s lZ hs lZ_lt (by decide) (by decide) W hk (hv.keep hb) (BytesIn.nil0 _ _)
 have hj:∀ W v0 v1 v2 o0 o1 o2 d0 d1 d2,v0 = .slice o0 1 d0→v1 = .slice o1 32 d1→v2 = .slice o2 32 d2→BytesIn W v0 1 lZ→BytesIn W v1 32 (lxN lAll 0 lZ lPsk 0 lZ)→BytesIn W v2 32 (lxN lAll 0 lZ lInf m info)→Calls Tryz.prog 69 #[.slice (some ⟨W.heap.size,0,none⟩) 3 3] (W.alloc (.cells #[v0,v1,v2] 22)) fun e w'=>∃ s,e = .returned s∧BytesIn w' s 65 (cxN m info)∧Below W.heap.size W w':=fun W v0 v1 v2 _ _ _ _ _ _ _ _ _ h0 h1 h2=>by
  have hP:=parts_list W [(v0,1,lZ),(v1,32,lxN lAll 0 lZ lPsk 0 lZ),(v2,32,lxN lAll 0 lZ lInf m info)] 22 (by
   intro p hp
   simp only [List.mem_cons,List.not_mem_nil,or_false] at hp
   rcases hp with rfl | rfl | rfl
   · exact h0
   · exact h1
   · exact h2)
  exact (rjoin_any W.heap.size 3 3 65 (cxN m info) (by decide) (by decide) _ hP).mono fun _ _ ⟨s,he,ho,hb'⟩=>⟨s,he,ho.bytesIn,below_next ((Below.refl _ _).alloc (Nat.le_refl _) _) hb'⟩
 have hcl:∀ j,cxN m info j<256:=catL_lt _ (by
  intro p hp
  simp only [List.mem_cons,List.not_mem_nil,or_false] at hp
  rcases hp with rfl | rfl | rfl
  · exact lZ_lt
  · exact lxN_lt _ _ _ _ _ _
  · exact lxN_lt _ _ _ _ _ _)
 have ek:∀ kv pv iv W,BytesIn W kv 10 (litB lAll)→BytesIn W pv 32 (csN s)→BytesIn W iv 65 (cxN m info)→Calls Tryz.prog 31 #[kv,pv,.string { data:=#[107,101,121] },iv,.int .i64 16] W fun e w'=>∃ y,e = .returned y∧BytesIn w' y 16 (ckN lKey 16 s m info)∧Below W.heap.size W w':=fun kv pv iv W hk hp hi=>rexpand_any lAll lKey lAll_lt (by decide) (by decide) kv pv iv 32 65 16 _ _ (by decide) (lxN_lt _ _ _ _ _ _) hcl (by decide) (by decide) W hk hp hi
 have en:∀ kv pv iv W,BytesIn W kv 10 (litB lAll)→BytesIn W pv 32 (csN s)→BytesIn W iv 65 (cxN m info)→Calls Tryz.prog 31 #[kv,pv,.string { data:=#[98,97,115,101,95,110,111,110,99,101] },iv,.int .i64 12] W fun e w'=>∃ y,e = .returned y∧BytesIn w' y 12 (ckN lBn 12 s m info)∧Below W.heap.size W w':=fun kv pv iv W hk hp hi=>rexpand_any lAll lBn lAll_lt (by decide) (by decide) kv pv iv 32 65 12 _ _ (by decide) (lxN_lt _ _ _ _ _ _) hcl (by decide) (by decide) W hk hp hi
 have ex:∀ kv pv iv W,BytesIn W kv 10 (litB lAll)→BytesIn W pv 32 (csN s)→BytesIn W iv 65 (cxN m info)→Calls Tryz.prog 31 #[kv,pv,.string { data:=#[101,120,112] },iv,.int .i64 32] W fun e w'=>∃ y,e = .returned y∧BytesIn w' y 32 (ckN lExp 32 s m info)∧Below W.heap.size W w':=fun kv pv iv W hk hp hi=>rexpand_any lAll lExp lAll_lt (by decide) (by decide) kv pv iv 32 65 32 _ _ (by decide) (lxN_lt _ _ _ _ _ _) hcl (by decide) (by decide) W hk hp hi
 obtain ⟨A,hA⟩:∃ A,A=litB lAll:=⟨_,rfl⟩
 rw [←hA] at hall xp xi xs ek en ex
 obtain ⟨P1,hP1⟩:∃ A,A=lxN lAll 0 lZ lPsk 0 lZ:=⟨_,rfl⟩
 obtain ⟨P2,hP2⟩:∃ A,A=lxN lAll 0 lZ lInf m info:=⟨_,rfl⟩
 have hS:lxN lAll 32 s lSecr 0 lZ=csN s:=rfl
 rw [←hP1] at xp hj
 rw [←hP2] at xi hj
 rw [hS] at xs
 generalize csN s=S at xs ek en ex
 generalize cxN m info=C at hj ek en ex
 generalize ckN lKey 16 s m info=Y1 at ek ⊢
 generalize ckN lBn 12 s m info=Y2 at en ⊢
 generalize ckN lExp 32 s m info=Y3 at ex ⊢
 have a1:=hall (w.alloc (.cells #[.int .u8 0] 5))
 have b0:Below w.heap.size w (w.alloc (.cells #[.int .u8 0] 5)):=(Below.refl _ _).alloc (Nat.le_refl _) _
 have q0:BytesIn (w.alloc (.cells #[.int .u8 0] 5)) (.slice (some ⟨w.heap.size,0,none⟩) 1 1) 1 lZ:=(litB_B w [0] (0,0)).cong fun j hj=>by
  have:j=0:=by
   have:j<1:=hj
   omega
  subst this
  rfl
 clear hA hP1 hP2 hS hcl hv hu
 go_enter Tryz.func77,Tryz.ntmps77
 go_upto_region 6 with (first
  | (go_at_call 144;refine a1.mono ?_;clear a1;rintro e w1 ⟨k1,rfl,o1,h1⟩;(have b1:=below_next b0 h1);(replace q0:=q0.keep h1);(have y1:=xp k1 w1 o1.bytesIn);clear xp o1 h1 b0)
  | (go_at_call 33;refine y1.mono ?_;clear y1;rintro e w2 ⟨k2,rfl,o2,h2⟩;(have b2:=below_next b1 h2);(replace q0:=q0.keep h2);(have q1:=o2.bytesIn);(have a2:=hall w2);clear o2 h2 b1)
  | (go_at_call 144;refine a2.mono ?_;clear a2;rintro e w3 ⟨k3,rfl,o3,h3⟩;(have b3:=below_next b2 h3);(replace q0:=q0.keep h3);(replace q1:=q1.keep h3);(have y3:=xi k3 w3 b3 o3.bytesIn);clear xi o3 h3 b2)
  | (go_at_call 33;refine y3.mono ?_;clear y3;rintro e w4 ⟨k4,rfl,o4,h4⟩;(have b4:=below_next b3 h4);(replace q0:=q0.keep h4);(replace q1:=q1.keep h4);(have q2:=o4.bytesIn);(obtain ⟨z2,d2,e2,-,-,-⟩:=q1.src);(obtain ⟨z4,d4,e4,-,-,-⟩:=q2.src);subst e2;subst e4;(have j4:=hj w4 _ _ _ _ _ _ _ _ _ rfl rfl rfl q0 q1 q2);clear hj o4 h4 b3 q0 q1 q2)
  | (go_at_call 69;refine j4.mono ?_;clear j4;rintro e w5 ⟨k5,rfl,c5,h5⟩;(have b5:=below_next b4 h5);(have a5:=hall w5);clear h5 b4))
 go_upto_region 7 with (first
  | (go_at_call 144;refine a5.mono ?_;clear a5;rintro e w6 ⟨k6,rfl,o6,h6⟩;(have b6:=below_next b5 h6);(replace c5:=c5.keep h6);(have y6:=xs k6 w6 b6 o6.bytesIn);clear xs o6 h6 b5)
  | (go_at_call 33;refine y6.mono ?_;clear y6;rintro e w7 ⟨k7,rfl,o7,h7⟩;(have b7:=below_next b6 h7);(replace c5:=c5.keep h7);(have s7:=o7.bytesIn);(have a7:=hall w7);clear o7 h7 b6))
 go_wp2_with (first
  | (go_at_call 144;refine a7.mono ?_;clear a7;rintro e w8 ⟨k8,rfl,o8,h8⟩;(have b8:=below_next b7 h8);(replace c5:=c5.keep h8);(replace s7:=s7.keep h8);(have y8:=ek k8 k7 k5 w8 o8.bytesIn s7 c5);clear ek o8 h8 b7)
  | (go_at_call 31;refine y8.mono ?_;clear y8;rintro e w9 ⟨k9,rfl,r9,h9⟩;(have b9:=below_next b8 h9);(replace c5:=c5.keep h9);(replace s7:=s7.keep h9);(have a9:=hall w9);(obtain ⟨z9,d9,e9,-,-,-⟩:=r9.src);subst e9;clear h9 b8)
  | (go_at_call 144;refine a9.mono ?_;clear a9;rintro e w10 ⟨k10,rfl,o10,h10⟩;(have b10:=below_next b9 h10);(replace c5:=c5.keep h10);(replace s7:=s7.keep h10);(replace r9:=r9.keep h10);(have y10:=en k10 k7 k5 w10 o10.bytesIn s7 c5);clear en o10 h10 b9)
  | (go_at_call 31;refine y10.mono ?_;clear y10;rintro e w11 ⟨k11,rfl,r11,h11⟩;(have b11:=below_next b10 h11);(replace c5:=c5.keep h11);(replace s7:=s7.keep h11);(replace r9:=r9.keep h11);(have a11:=hall w11);(obtain ⟨z11,d11,e11,-,-,-⟩:=r11.src);subst e11;clear h11 b10)
  | (go_at_call 144;refine a11.mono ?_;clear a11;rintro e w12 ⟨k12,rfl,o12,h12⟩;(have b12:=below_next b11 h12);(replace c5:=c5.keep h12);(replace s7:=s7.keep h12);(replace r9:=r9.keep h12);(replace r11:=r11.keep h12);(have y12:=ex k12 k7 k5 w12 o12.bytesIn s7 c5);clear ex o12 h12 b11)
  | (go_at_call 31;refine y12.mono ?_;clear y12;rintro e w13 ⟨k13,rfl,r13,h13⟩;(have b13:=below_next b12 h13);(replace r9:=r9.keep h13);(replace r11:=r11.keep h13);(obtain ⟨z13,d13,e13,-,-,-⟩:=r13.src);subst e13;clear h13 b12 c5 s7))
 go_ret2
 have hb:=(Below.refl w13.heap.size w13).alloc (Nat.le_refl _) (.cells #[.slice z9 16 d9,.slice z11 12 d11,.slice z13 32 d13,.int .i64 0] 170)
 exact ⟨w13.heap.size,rfl,b13.size,⟨_,_,_,RW.fresh w13 [_,_,_,_] _,r9.keep hb,r11.keep hb,r13.keep hb⟩,below_next b13 hb⟩
end Go.Proofs.YtibdhadbflfdpaaGreatDoor
namespace Go.Proofs.YtibdhadbflfdpaaGreatDoor
open Go.RowKit
def CCtx (w:World) (g:Nat) (K N X:Nat→Nat) (n:Nat):Prop:=∃ gk gu gx,RW w g 0 [.slice (some ⟨gk,0,none⟩) 16 16,.slice (some ⟨gu,0,none⟩) 12 12,.slice (some ⟨gx,0,none⟩) 32 32,.int .u64 (n:Int)]∧RowAt .u8 w gk 0 16 K∧RowAt .u8 w gu 0 12 N∧RowAt .u8 w gx 0 32 X
theorem RowAt.stay {w w':World} {g o n:Nat} {X:Nat→Nat} (h0:0<n) (h:RowAt .u8 w g o n X) (hb:Below w.heap.size w w'):RowAt .u8 w' g o n X:=h.below hb (block_lt_of_cell (h 0 h0).1)
theorem CCtx.keep {w w':World} {g:Nat} {K N X:Nat→Nat} {n:Nat} (h:CCtx w g K N X n) (hb:Below w.heap.size w w'):CCtx w' g K N X n:=by
 obtain ⟨k,u,x,r,h1,h2,h3⟩:=h
 exact ⟨k,u,x,r.still hb,h1.stay (by decide) hb,h2.stay (by decide) hb,h3.stay (by decide) hb⟩
theorem zeroKs (w:World):Sem.run Tryz.prog (zeroValue 217) w = .ok (.agg #[.slice none 0 0,.slice none 0 0,.slice none 0 0]) w:=by kernel_rfl
theorem infoKs (a b c:Value):(Tryz.prog.info? 217).map (·.size)=some (#[a,b,c]:Array Value).size:=by kernel_rfl
theorem infoKl (a b c:Value):(Tryz.prog.info? 217).map (·.size)=some [a,b,c].length:=by kernel_rfl
theorem oneKs (x y z:Option Addr) (a b c d e f:Nat):(#[.slice x a b,.slice y c d,.slice z e f]:Array Value).all (·.oneCell')=true:=by simp [Value.oneCell']
theorem results_keys (tmps:Array Value) (w:World) (g:Nat) (a b c:Value) (hp:tmps.getD 4 undef = .pointer (some ⟨g,0,none⟩)) (h:RW w g 0 [a,b,c]):(results Tryz.f194 tmps).run Tryz.prog w = .ok (.agg #[a,b,c]) w :=
 results_cell_mid rfl tmps w g 0 [a,b,c] _ hp h.range Tryz.underlying217 rfl (infoKl a b c)
theorem call_any (label:List Nat) (hl:∀ x,x∈label→x<256) (hz:label.length≤50) (sv tv:Value) (sn cnt m:Nat) (salt t:Nat→Nat) (hs:∀ j,salt j<256) (ht:∀ j,t j<256) (hsn:sn≤32) (hc:cnt<1000000) (hm:m+300<140737488355000) (w:World) (hT:HTab w cubeK squareK) (h1:BytesIn w sv sn salt) (h2:Texts w tv cnt m t) :
 Calls Tryz.prog 191 #[.string { data:=#[72,80,75,69,0,32,0,1,0,1] },sv,.string (strL label),tv] w fun e w'=>∃ s,e = .returned s∧BytesIn w' s 32 (lxN lAll sn salt label m t)∧Below w.heap.size w w' :=
 cextract_any lAll label lAll_lt hl (by show 10+label.length≤100;omega) sv tv sn cnt m salt t hs ht (by omega) hc hm w hT h1 h2
theorem eall (label:List Nat) (hl:∀ x,x∈label→x<256) (hz:label.length≤50) (pv tv:Value) (cnt m N:Nat) (prk t:Nat→Nat) (hN:N≤8160) (hp:∀ j,prk j<256) (ht:∀ j,t j<256) (hc:cnt<1000000) (hm:m+300<140737488355000) (w:World) (hT:HTab w cubeK squareK) (h1:BytesIn w pv 32 prk) (h2:Texts w tv cnt m t) :
 Calls Tryz.prog 190 #[.string { data:=#[72,80,75,69,0,32,0,1,0,1] },pv,.int .i64 N,.string (strL label),tv] w fun e w'=>∃ s,e = .returned s∧NewR w w' s N (leN lAll 32 prk label m t N)∧Below w.heap.size w w' :=
 cexpand_any lAll label lAll_lt hl (by show 10+label.length≤100;omega) pv tv 32 cnt m N prk t hN hp ht (by decide) hc hm w hT h1 h2
set_option maxRecDepth 20000 in
set_option maxHeartbeats 8000000 in
theorem keysOf_any (v u:Value) (m:Nat) (s info:Nat→Nat) (hs:∀ j,s j<256) (hi:∀ j,info j<256) (hm:m≤65536) (w:World) (hT:HTab w cubeK squareK) (hv:BytesIn w v 32 s) (hu:BytesIn w u m info) :
 Calls Tryz.prog 194 #[v,u] w fun e w'=>∃ gk gu gx,e = .returned (.agg #[.slice (some ⟨gk,0,none⟩) 16 16,.slice (some ⟨gu,0,none⟩) 12 12,.slice (some ⟨gx,0,none⟩) 32 32])∧RowAt .u8 w' gk 0 16 (ckN lKey 16 s m info)∧RowAt .u8 w' gu 0 12 (ckN lBn 12 s m info)∧RowAt .u8 w' gx 0 32 (ckN lExp 32 s m info)∧Below w.heap.size w w':=by
 obtain ⟨x1,c1,rfl,-,-,-⟩:=hv.src
 obtain ⟨x2,c2,rfl,-,-,-⟩:=hu.src
 have zk:=zeroKs
 obtain ⟨W0,hW0⟩:∃ W,W=(w.alloc (.cells #[.slice none 0 0,.slice none 0 0,.slice none 0 0] 217)).alloc (.cells #[.int .u8 0] 5):=⟨_,rfl⟩
 have bz:Below w.heap.size w (w.alloc (.cells #[.slice none 0 0,.slice none 0 0,.slice none 0 0] 217)):=(Below.refl _ _).alloc (Nat.le_refl _) _
 have b0:Below w.heap.size w W0:=by rw [hW0];exact bz.alloc bz.size _
 have r0:RW W0 w.heap.size 0 [.slice none 0 0,.slice none 0 0,.slice none 0 0]:=by rw [hW0];exact (RW.fresh w _ _).still ((Below.refl _ _).alloc (Nat.le_refl _) _)
 have q0:BytesIn W0 (.slice (some ⟨w.heap.size+1,0,none⟩) 1 1) 1 lZ:=by
  have h:=litB_B (w.alloc (.cells #[.slice none 0 0,.slice none 0 0,.slice none 0 0] 217)) [0] (0,0)
  rw [World.size_alloc] at h
  rw [hW0]
  exact h.cong fun j hj=>by
   have:j=0:=by
    have:j<1:=hj
    omega
   subst this
   rfl
 have xp:Calls Tryz.prog 191 #[.string { data:=#[72,80,75,69,0,32,0,1,0,1] },.slice none 0 0,.string { data:=#[112,115,107,95,105,100,95,104,97,115,104] },.slice none 0 0] W0 _:=call_any lPsk (by decide) (by decide) (.slice none 0 0) (.slice none 0 0) 0 0 0 lZ lZ lZ_lt lZ_lt (by decide) (by decide) (by decide) W0 (hT.keep b0) (BytesIn.nil0 _ _) (texts_none _ _)
 have xi:∀ W,Below w.heap.size w W→Calls Tryz.prog 191 #[.string { data:=#[72,80,75,69,0,32,0,1,0,1] },.slice none 0 0,.string { data:=#[105,110,102,111,95,104,97,115,104] },.slice (some ⟨W.heap.size,0,none⟩) 1 1] (W.alloc (.cells #[.slice x2 m c2] 22)) _:=fun W hb=>call_any lInf (by decide) (by decide) (.slice none 0 0) _ 0 1 m lZ info lZ_lt hi (by decide) (by decide) (by omega) _ (hT.keep (hb.alloc hb.size _)) (BytesIn.nil0 _ _) (texts_one W _ m info (hu.keep hb))
 have xs:∀ W,Below w.heap.size w W→Calls Tryz.prog 191 #[.string { data:=#[72,80,75,69,0,32,0,1,0,1] },.slice x1 32 c1,.string { data:=#[115,101,99,114,101,116] },.slice none 0 0] W fun e w'=>∃ y,e = .returned y∧BytesIn w' y 32 (lxN lAll 32 s lSecr 0 lZ)∧Below W.heap.size W w':=fun W hb=>call_any lSecr (by decide) (by decide) (.slice x1 32 c1) (.slice none 0 0) 32 0 0 s lZ hs lZ_lt (by decide) (by decide) (by decide) W (hT.keep hb) (hv.keep hb) (texts_none _ _)
 have hj:∀ W v0 v1 v2,BytesIn W v0 1 lZ→BytesIn W v1 32 (lxN lAll 0 lZ lPsk 0 lZ)→BytesIn W v2 32 (lxN lAll 0 lZ lInf m info)→Calls Tryz.prog 47 #[.slice (some ⟨W.heap.size,0,none⟩) 3 3] (W.alloc (.cells #[v0,v1,v2] 22)) fun e w'=>∃ s,e = .returned s∧BytesIn w' s 65 (cxN m info)∧Below W.heap.size W w':=fun W v0 v1 v2 h0 h1 h2=>by
  have hP:=parts_list W [(v0,1,lZ),(v1,32,lxN lAll 0 lZ lPsk 0 lZ),(v2,32,lxN lAll 0 lZ lInf m info)] 22 (by
   intro p hp
   simp only [List.mem_cons,List.not_mem_nil,or_false] at hp
   rcases hp with rfl | rfl | rfl
   · exact h0
   · exact h1
   · exact h2)
  exact (concat_parts W.heap.size 3 65 (cxN m info) _ hP (by decide) (by decide) (by decide)).mono fun _ _ ⟨s,he,ho,hb'⟩=>⟨s,he,ho.bytesIn,below_next ((Below.refl _ _).alloc (Nat.le_refl _) _) hb'⟩
 have hcl:∀ j,cxN m info j<256:=catL_lt _ (by
  intro p hp
  simp only [List.mem_cons,List.not_mem_nil,or_false] at hp
  rcases hp with rfl | rfl | rfl
  · exact lZ_lt
  · exact lxN_lt _ _ _ _ _ _
  · exact lxN_lt _ _ _ _ _ _)
 have hcs:∀ j,csN s j<256:=fun j=>lxN_lt lAll 32 s lSecr 0 lZ j
 have ee:∀ label,(∀ x,x∈label→x<256)→label.length≤50→∀ N:Nat,N≤8160→∀ pv iv W,Below w.heap.size w W→BytesIn W pv 32 (csN s)→BytesIn W iv 65 (cxN m info)→Calls Tryz.prog 190 #[.string { data:=#[72,80,75,69,0,32,0,1,0,1] },pv,.int .i64 N,.string (strL label),.slice (some ⟨W.heap.size,0,none⟩) 1 1] (W.alloc (.cells #[iv] 22)) fun e w'=>∃ y,e = .returned y∧NewR W w' y N (ckN label N s m info)∧Below W.heap.size W w':=fun label hl hz N hN pv iv W hb hp hi=>by
  rw [show ckN label N s m info=leN lAll 32 (csN s) label 65 (cxN m info) N from rfl]
  have h:=eall label hl hz pv (.slice (some ⟨W.heap.size,0,none⟩) 1 1) 1 65 N (csN s) (cxN m info) hN hcs hcl (by decide) (by decide) (W.alloc (.cells #[iv] 22)) (hT.keep (hb.alloc hb.size _)) (hp.keep ((Below.refl _ _).alloc (Nat.le_refl _) _)) (texts_one W iv 65 (cxN m info) hi)
  generalize leN lAll 32 (csN s) label 65 (cxN m info) N=Y at h ⊢
  exact h.mono fun _ _ ⟨y,he,⟨g,hy,hg,hr⟩,hb'⟩=>⟨y,he,⟨g,hy,Nat.le_trans (by rw [World.size_alloc];omega) hg,hr⟩,below_next ((Below.refl _ _).alloc (Nat.le_refl _) _) hb'⟩
 have ek:∀ pv iv W,Below w.heap.size w W→BytesIn W pv 32 (csN s)→BytesIn W iv 65 (cxN m info)→Calls Tryz.prog 190 #[.string { data:=#[72,80,75,69,0,32,0,1,0,1] },pv,.int .i64 16,.string { data:=#[107,101,121] },.slice (some ⟨W.heap.size,0,none⟩) 1 1] (W.alloc (.cells #[iv] 22)) _:=ee lKey (by decide) (by decide) 16 (by decide)
 have en:∀ pv iv W,Below w.heap.size w W→BytesIn W pv 32 (csN s)→BytesIn W iv 65 (cxN m info)→Calls Tryz.prog 190 #[.string { data:=#[72,80,75,69,0,32,0,1,0,1] },pv,.int .i64 12,.string { data:=#[98,97,115,101,95,110,111,110,99,101] },.slice (some ⟨W.heap.size,0,none⟩) 1 1] (W.alloc (.cells #[iv] 22)) _:=ee lBn (by decide) (by decide) 12 (by decide)
 have ex:∀ pv iv W,Below w.heap.size w W→BytesIn W pv 32 (csN s)→BytesIn W iv 65 (cxN m info)→Calls Tryz.prog 190 #[.string { data:=#[72,80,75,69,0,32,0,1,0,1] },pv,.int .i64 32,.string { data:=#[101,120,112] },.slice (some ⟨W.heap.size,0,none⟩) 1 1] (W.alloc (.cells #[iv] 22)) _:=ee lExp (by decide) (by decide) 32 (by decide)
 clear ee
 rw [hW0] at xp
 generalize lxN lAll 0 lZ lPsk 0 lZ=P1 at xp hj
 generalize lxN lAll 0 lZ lInf m info=P2 at xi hj
 have hS:lxN lAll 32 s lSecr 0 lZ=csN s:=rfl
 rw [hS] at xs
 clear hS
 generalize csN s=S at xs ek en ex
 generalize cxN m info=C at hj ek en ex
 generalize ckN lKey 16 s m info=Y1 at ek ⊢
 generalize ckN lBn 12 s m info=Y2 at en ⊢
 generalize ckN lExp 32 s m info=Y3 at ex ⊢
 have g0:w.heap.size≤w.heap.size:=Nat.le_refl _
 rw [hW0] at b0 r0 q0
 clear hcl hcs hv hu hT hW0
 go_enter Tryz.func194,Tryz.ntmps194
 go_upto_region 2 with (first
  | (go_at_call 191;refine xp.mono ?_;clear xp;rintro e w1 ⟨k1,rfl,q1,h1⟩;(have b1:=below_next b0 h1);(replace q0:=q0.keep h1);(replace r0:=r0.still h1);(have y1:=xi w1 b1);(have d1:Below w1.heap.size w1 (w1.alloc (.cells #[.slice x2 m c2] 22)):=(Below.refl _ _).alloc (Nat.le_refl _) _);clear xi h1 b0)
  | (go_at_call 191;refine y1.mono ?_;clear y1;rintro e w2 ⟨k2,rfl,q2,h2⟩;(replace h2:=below_next d1 h2);(have b2:=below_next b1 h2);(replace q0:=q0.keep h2);(replace q1:=q1.keep h2);(replace r0:=r0.still h2);(have j2:=hj w2 _ _ _ q0 q1 q2);(obtain ⟨z1,d1,e1,-,-,-⟩:=q1.src);(obtain ⟨z2,d2,e2,-,-,-⟩:=q2.src);subst e1;subst e2;clear hj q0 q1 q2 h2 b1)
  | (go_at_call 47;refine j2.mono ?_;clear j2;rintro e w3 ⟨k3,rfl,c3,h3⟩;(have b3:=below_next b2 h3);(replace r0:=r0.still h3);(have y3:=xs w3 b3);clear xs h3 b2))
 go_upto_region 3 with (go_at_call 191;refine y3.mono ?_;clear y3;rintro e w4 ⟨k4,rfl,s4,h4⟩;(have b4:=below_next b3 h4);(replace r0:=r0.still h4);(replace c3:=c3.keep h4);(have y4:=ek k4 k3 w4 b4 s4 c3);(obtain ⟨z3,d3,e3,-,-,-⟩:=c3.src);subst e3;clear ek h4 b3)
 go_wp2_with (first
  | (go_at_call 190;refine y4.mono ?_;clear y4;rintro e w5 ⟨k5,rfl,⟨g5,rfl,hg,t5⟩,h5⟩;(have l5:g5≠w.heap.size:=Nat.ne_of_gt (Nat.lt_of_lt_of_le r0.lt hg));clear hg;(have b5:=below_next b4 h5);(replace r0:=r0.still h5);(replace c3:=c3.keep h5);(replace s4:=s4.keep h5);(have y5:=en k4 _ w5 b5 s4 c3);clear en h5 b4)
  | (go_at_call 190;refine y5.mono ?_;clear y5;rintro e w6 ⟨k6,rfl,⟨g6,rfl,hg,t6⟩,h6⟩;(have l6:g6≠w.heap.size:=Nat.ne_of_gt (Nat.lt_of_lt_of_le r0.lt hg));clear hg;(have b6:=below_next b5 h6);(replace r0:=r0.still h6);(replace c3:=c3.keep h6);(replace s4:=s4.keep h6);(replace t5:=t5.stay (by decide) h6);(have y6:=ex k4 _ w6 b6 s4 c3);clear ex h6 b5)
  | (go_at_call 190;refine y6.mono ?_;clear y6;rintro e w7 ⟨k7,rfl,⟨g7,rfl,hg,t7⟩,h7⟩;(have l7:g7≠w.heap.size:=Nat.ne_of_gt (Nat.lt_of_lt_of_le r0.lt hg));clear hg;(have b7:=below_next b6 h7);(replace r0:=r0.still h7);(replace t5:=t5.stay (by decide) h7);(replace t6:=t6.stay (by decide) h7);(have th:w7.there w.heap.size 0 (#[.slice (some ⟨g5,0,none⟩) 16 16,.slice (some ⟨g6,0,none⟩) 12 12,.slice (some ⟨g7,0,none⟩) 32 32]:Array Value).size:=r0.there);clear h7 b6 c3 s4)
  | (with_reducible (refine id (?_:wpList _ _ _ _ _ _));refine wpList_store_mid rfl 217 _ _ rfl w.heap.size 0 #[.slice (some ⟨g5,0,none⟩) 16 16,.slice (some ⟨g6,0,none⟩) 12 12,.slice (some ⟨g7,0,none⟩) 32 32] rfl rfl th (infoKs _ _ _) (oneKs _ _ _ _ _ _ _ _ _) ?_))
 (try simp only [Exit.inBlock,Exit.then])
 exact bodyPost_ret (results_keys _ _ w.heap.size _ _ _ rfl (r0.stored [.slice (some ⟨g5,0,none⟩) 16 16,.slice (some ⟨g6,0,none⟩) 12 12,.slice (some ⟨g7,0,none⟩) 32 32] rfl)) rfl ⟨g5,g6,g7,rfl,t5.farCells l5 0 _,t6.farCells l6 0 _,t7.farCells l7 0 _,below_setCells (Nat.le_refl _) _ _ _ b7⟩
end Go.Proofs.YtibdhadbflfdpaaGreatDoor
namespace Go.Proofs.YtibdhadbflfdpaaGreatDoor
open Go.RowKit
def ncA (nn:Nat→Nat) (n k:Nat):Nat→Nat:=fun j=>if 12 - k≤j then ncN nn n j else nn j
theorem ncA_next (nn:Nat→Nat) (n k:Nat) (hk:k<8) (j:Nat) (hj:j<12):upd (ncA nn n k) (11 - k) (nn (11 - k) ^^^ (n / 2 ^ (8*k)%256)) j=ncA nn n (k+1) j:=by
 unfold upd ncA
 by_cases e:j=11 - k
 · rw [if_pos e,if_pos (by omega)]
   unfold ncN
   rw [if_neg (by omega),e,show 11 - (11 - k)=k by omega]
 · rw [if_neg e]
   by_cases h:12 - k≤j
   · rw [if_pos h,if_pos (by omega)]
   · rw [if_neg h,if_neg (by omega)]
theorem ncA_full (nn:Nat→Nat) (n j:Nat) (hj:j<12):ncA nn n 8 j=ncN nn n j:=by
 unfold ncA
 by_cases h:12 - 8≤j
 · rw [if_pos h]
 · rw [if_neg h];unfold ncN;rw [if_pos (by omega)]
theorem ncN_lt {nn:Nat→Nat} (h:∀ j,nn j<256) (n j:Nat):ncN nn n j<256:=by
 unfold ncN
 split
 · exact h j
 · exact xor_byte (h j) (Nat.mod_lt _ (by decide))
set_option maxRecDepth 20000 in
set_option maxHeartbeats 2000000 in
theorem rnonce_any (gc n:Nat) (K N X:Nat→Nat) (hN:∀ j,N j<256) (w:World) (h:RCtx w gc K N X n) :
 Calls Tryz.prog 146 #[.pointer (some ⟨gc,0,none⟩)] w fun e w'=>∃ s,e = .returned s∧BytesIn w' s 12 (ncN N n)∧Below w.heap.size w w':=by
 obtain ⟨vk,vu,vx,r,-,hu,-⟩:=h
 obtain ⟨xu,cu,rfl,hxn,-,hsrc⟩:=hu.src
 have hsu:=hsrc _ ((Below.refl w.heap.size w).alloc (Nat.le_refl _) (.cells #[] 5))
 have f1:w.cell? ⟨gc,1,none⟩=some (.slice xu 12 cu):=r.range 1 _ rfl
 have f1':(w.alloc (.cells #[] 5)).cell? ⟨gc,1,none⟩=some (.slice xu 12 cu):=Lib.cell?_alloc_marked _ f1
 clear hu hsrc
 go_enter Tryz.func146,Tryz.ntmps146
 go_wp2_with (at_builtin;refine wpList_append_empty rfl (.tmp 5) (.tmp 9) rfl w.heap.size N w.heap.size rfl rfl xu 12 cu rfl hsu hxn (by decide) (Nat.le_refl _) ?_;intro v3 w3 own3 hb3;(obtain ⟨g3,c3,hv3,hg3,hgl3,hc3,hr3⟩:=own3.form.resolve_left (fun h=>by omega));subst hv3)
 replace hr3:RowAt .u8 w3 g3 0 12 (ncA N n 0):=hr3.congr fun j hj=>by unfold ncA;rw [if_neg (by omega)]
 have hcur:c3=c3:=rfl
 go_loopw [4] (fun i wr=>∃ k:Nat,k≤8∧i = .int .i64 k∧RowAt .u8 wr g3 0 12 (ncA N n k)∧Below w.heap.size w wr) (fun i _=>8 - (intOf i).toNat)
 case atStart=>exact ⟨0,Nat.zero_le _,rfl,hr3,hb3⟩
 case round =>
  clear hr3 hb3 own3
  obtain ⟨k,hk,rfl,hr,hb⟩:=hrel
  by_cases hlt:k<8
  · obtain ⟨q1,z1⟩:=hr (11 - k) (by omega)
    have hs:=hr.set (i:=11 - k) (by omega) (v:=((N (11 - k) ^^^ (n / 2 ^ (8*k)%256):Nat):Int)) rfl
    rw [Nat.zero_add] at q1 z1 hs
    replace hs:=hs.congr fun j hj=>ncA_next N n k hlt j hj
    have hq1:ncA N n k (11 - k)=N (11 - k):=by unfold ncA;rw [if_neg (by omega)]
    rw [hq1] at q1
    have x1:=u8_xor_nat (N (11 - k)) (n / 2 ^ (8*k)%256) (hN _) (Nat.mod_lt _ (by decide))
    have e1:IntKind.u8.wrap ((n:Int) / 2 ^ (8*k))=((n / 2 ^ (8*k)%256:Nat):Int):=by
     show (n:Int) / 2 ^ (8*k)%256=_
     simp
    have cn:wr.cell? ⟨gc,3,none⟩=some (.int .i64 (n:Int)):=(r.still hb).range 3 _ rfl
    obtain ⟨y,hy⟩:∃ y,y=n / 2 ^ (8*k)%256:=⟨_,rfl⟩
    obtain ⟨z,hz⟩:∃ z,z=N (11 - k) ^^^ (n / 2 ^ (8*k)%256):=⟨_,rfl⟩
    rw [←hz] at hs x1
    rw [←hy] at x1 e1
    obtain ⟨u,hu⟩:∃ u,u=N (11 - k):=⟨_,rfl⟩
    rw [←hu] at q1 x1
    obtain ⟨q,hq⟩:∃ q,q=11 - k:=⟨_,rfl⟩
    rw [←hq] at q1 z1 hs
    obtain ⟨sh,hsh⟩:∃ sh,sh=8*k:=⟨_,rfl⟩
    rw [←hsh] at e1
    have e2:(11:Int) - (k:Int)=(q:Int):=by omega
    have e2':IntKind.i64.wrap ((11:Int) - (k:Int))=(q:Int):=by simp only [IntKind.wrap_i64];omega
    have e3:8*(k:Int)=(sh:Int):=by omega
    have e3':IntKind.i64.wrap (8*(k:Int))=(sh:Int):=by simp only [IntKind.wrap_i64];omega
    have e4:IntKind.u64.wrap (sh:Int)=(sh:Int):=by show (sh:Int)%18446744073709551616=_;omega
    have t1:(0:Int)≤(q:Int)∧(q:Int)<12:=by omega
    have t2:(0:Int)≤(sh:Int)∧(sh:Int)<64:=by omega
    have hlt':(k:Int)<8:=by omega
    have t3:q<12:=by omega
    clear hy hz hu hq hsh hq1 hr
    go_wp2
    go_region
    go_wp2
    go_roundw
    case rel=>exact ⟨k+1,hlt,by go_num,hs.drew,(hb.setCell hg3 _).drew⟩
    case measure=>simp [intOf];omega
  · obtain rfl:k=8:=by omega
    go_wp2
    go_ret
    exact ⟨_,rfl,.inr ⟨g3,0,c3,rfl,block_lt_of_cell (hr 0 (by decide)).1,hc3,fun j hj=>by rw [(hr j hj).1,ncA_full N n j hj]⟩,hb⟩
end Go.Proofs.YtibdhadbflfdpaaGreatDoor
namespace Go.Proofs.YtibdhadbflfdpaaGreatDoor
open Go.RowKit
theorem run_eql_slice_nil {P:Program} (w:World) (t e:TypeId) (a:Option Addr) (l c:Nat) (h:P.underlying t=some (.slice e)):(binOp .eql t (.slice a l c) (.slice none 0 0)).run P w = .ok (.bool a.isNone) w:=by
 simp only [binOp]
 simp [run_equal_slice_nil w t e a l c h]
theorem wpList_eqnil {ops:Array Oper} {rest:List Oper} {op:Oper} {a:Act} {w:World} {Q:Exit→Act→World→Prop} (hgd:op.guard=none) (x y:Operand) (t2:TypeId) (ho:op.op = .binOp .eql 22 x y t2) (ad:Addr) (l c:Nat)
 (hx:a.eval x = .slice (some ad) l c) (hy:a.eval y = .slice none 0 0) (h:wpList Tryz.prog ops Q rest (a.put op.dst (.bool false)) w):wpList Tryz.prog ops Q (op :: rest) a w :=
 wpList_plain hgd fun K hK=>by
  unfold Oper.wp execOp
  simp only [ho,hx,hy]
  have e:(eqGuard .eql 22 x y (.slice (some ad) l c) (.slice none 0 0)).run Tryz.prog w = .ok () w:=by
   simp [eqGuard]
  rw [Sem.run_bind,Sem.run_bind,e]
  simp only [Result.andThen_ok]
  rw [run_eql_slice_nil w 22 5 (some ad) l c Tryz.underlying22]
  exact hK _ _ h
end Go.Proofs.YtibdhadbflfdpaaGreatDoor
namespace Go.Proofs.YtibdhadbflfdpaaGreatDoor
open Go.RowKit
set_option maxRecDepth 20000 in
set_option maxHeartbeats 4000000 in
theorem sclone_any (g o n c:Nat) (hn:0<n) (hn2:n≤1000000) (X:Nat→Nat) (w:World) (hv:BytesIn w (.slice (some ⟨g,o,none⟩) n c) n X) :
 Calls Tryz.prog 230 #[.slice (some ⟨g,o,none⟩) n c] w fun e w'=>∃ gn cap,e = .returned (.slice (some ⟨gn,0,none⟩) n cap)∧w.heap.size≤gn∧n≤cap∧RowAt .u8 w' gn 0 n X∧Below w.heap.size w w':=by
 obtain ⟨xs,cs,e,-,-,hsrc⟩:=hv.src
 cases e
 have hsu:=hsrc _ ((Below.refl w.heap.size w).alloc (Nat.le_refl _) (.cells #[] 5))
 clear hv hsrc
 go_enter Tryz.func230,Tryz.ntmps230
 go_wp2_with (first
  | (refine wpList_eqnil rfl _ _ _ rfl _ _ _ rfl rfl ?_)
  | (at_builtin;refine wpList_append_empty rfl (.tmp 5) (.tmp 6) rfl w.heap.size X w.heap.size rfl rfl (some ⟨g,o,none⟩) n c rfl hsu (fun h=>by cases h) (by omega) (Nat.le_refl _) ?_;intro v3 w3 own3 hb3;(obtain ⟨g3,c3,hv3,hg3,hgl3,hc3,hr3⟩:=own3.form.resolve_left (fun h=>by omega));subst hv3))
 go_ret
 exact ⟨g3,c3,rfl,hg3,hc3,hr3,hb3⟩
set_option maxRecDepth 20000 in
set_option maxHeartbeats 4000000 in
theorem cnonce_any (gk gu gx n:Nat) (N:Nat→Nat) (hN:∀ j,N j<256) (w:World) (h:RowAt .u8 w gu 0 12 N) :
 Calls Tryz.prog 196 #[.agg #[.slice (some ⟨gk,0,none⟩) 16 16,.slice (some ⟨gu,0,none⟩) 12 12,.slice (some ⟨gx,0,none⟩) 32 32],.int .u64 (n:Int)] w fun e w'=>∃ s,e = .returned s∧BytesIn w' s 12 (ncN N n)∧Below w.heap.size w w':=by
 have b0:Below w.heap.size w (w.alloc (.cells #[.slice (some ⟨gk,0,none⟩) 16 16,.slice (some ⟨gu,0,none⟩) 12 12,.slice (some ⟨gx,0,none⟩) 32 32] 217)):=(Below.refl _ _).alloc (Nat.le_refl _) _
 have cc:=sclone_any gu 0 12 12 (by decide) (by decide) N _ ((row_bytes (by decide) h).keep b0)
 clear h
 go_enter Tryz.func196,Tryz.ntmps196
 go_wp2_with (go_at_call 230;refine cc.mono ?_;clear cc;rintro e w3 ⟨g3,c3,rfl,hg3,hc3,hr3,hb3⟩;(replace hb3:=below_next b0 hb3);(replace hg3:w.heap.size≤g3:=Nat.le_trans b0.size hg3))
 replace hr3:RowAt .u8 w3 g3 0 12 (ncA N n 0):=hr3.congr fun j hj=>by unfold ncA;rw [if_neg (by omega)]
 have hcur:c3=c3:=rfl
 go_loopw [10] (fun i wr=>∃ k:Nat,k≤8∧i = .int .i64 k∧RowAt .u8 wr g3 0 12 (ncA N n k)∧Below w.heap.size w wr) (fun i _=>8 - (intOf i).toNat)
 case atStart=>exact ⟨0,Nat.zero_le _,rfl,hr3,hb3⟩
 case round =>
  clear hr3 hb3
  obtain ⟨k,hk,rfl,hr,hb⟩:=hrel
  by_cases hlt:k<8
  · obtain ⟨q1,z1⟩:=hr (11 - k) (by omega)
    have hs:=hr.set (i:=11 - k) (by omega) (v:=((N (11 - k) ^^^ (n / 2 ^ (8*k)%256):Nat):Int)) rfl
    rw [Nat.zero_add] at q1 z1 hs
    replace hs:=hs.congr fun j hj=>ncA_next N n k hlt j hj
    have hq1:ncA N n k (11 - k)=N (11 - k):=by unfold ncA;rw [if_neg (by omega)]
    rw [hq1] at q1
    have x1:=u8_xor_nat (N (11 - k)) (n / 2 ^ (8*k)%256) (hN _) (Nat.mod_lt _ (by decide))
    have e1:IntKind.u8.wrap ((n:Int) / 2 ^ (8*k))=((n / 2 ^ (8*k)%256:Nat):Int):=by
     show (n:Int) / 2 ^ (8*k)%256=_
     simp
    obtain ⟨y,hy⟩:∃ y,y=n / 2 ^ (8*k)%256:=⟨_,rfl⟩
    obtain ⟨z,hz⟩:∃ z,z=N (11 - k) ^^^ (n / 2 ^ (8*k)%256):=⟨_,rfl⟩
    rw [←hz] at hs x1
    rw [←hy] at x1 e1
    obtain ⟨u,hu⟩:∃ u,u=N (11 - k):=⟨_,rfl⟩
    rw [←hu] at q1 x1
    obtain ⟨q,hq⟩:∃ q,q=11 - k:=⟨_,rfl⟩
    rw [←hq] at q1 z1 hs
    obtain ⟨sh,hsh⟩:∃ sh,sh=8*k:=⟨_,rfl⟩
    rw [←hsh] at e1
    have e2:(11:Int) - (k:Int)=(q:Int):=by omega
    have e2':IntKind.i64.wrap ((11:Int) - (k:Int))=(q:Int):=by simp only [IntKind.wrap_i64];omega
    have e3:8*(k:Int)=(sh:Int):=by omega
    have e3':IntKind.i64.wrap (8*(k:Int))=(sh:Int):=by simp only [IntKind.wrap_i64];omega
    have t1:(0:Int)≤(q:Int)∧(q:Int)<12:=by omega
    have t2:(0:Int)≤(sh:Int)∧(sh:Int)<64:=by omega
    have hlt':(k:Int)<8:=by omega
    have t3:q<12:=by omega
    clear hy hz hu hq hsh hq1 hr
    go_wp2
    go_region
    go_wp2
    go_roundw
    case rel=>exact ⟨k+1,hlt,by go_num,hs.drew,(hb.setCell hg3 _).drew⟩
    case measure=>simp [intOf];omega
  · obtain rfl:k=8:=by omega
    go_wp2
    go_ret
    exact ⟨_,rfl,.inr ⟨g3,0,c3,rfl,block_lt_of_cell (hr 0 (by decide)).1,hc3,fun j hj=>by rw [(hr j hj).1,ncA_full N n j hj]⟩,hb⟩
end Go.Proofs.YtibdhadbflfdpaaGreatDoor
