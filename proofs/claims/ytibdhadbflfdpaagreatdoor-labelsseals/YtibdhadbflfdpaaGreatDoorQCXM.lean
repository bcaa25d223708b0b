/- What the proof stands on: QCX, QRE, QRD, QRS, QRC, QCK. -/
import Derived.Test.YtibdhadbflfdpaaGreatDoorHRefSumM
import Derived.Test.YtibdhadbflfdpaaGreatDoorLProdM
import Derived.Test.YtibdhadbflfdpaaGreatDoorQAppM
import Derived.Test.YtibdhadbflfdpaaGreatDoorRAnyM
namespace Go.Proofs.YtibdhadbflfdpaaGreatDoor
open Go.RowKit
theorem HTab.keep {w w':World} (h:HTab w cubeK squareK) (hb:Below w.heap.size w w'):HTab w' cubeK squareK:=h.below hb h.size
theorem lbT0 (suite label:List Nat) (X:Nat→Nat) (m:Nat) (t:Nat→Nat):catL (lbT suite label 0 X m t)=catL (lxT suite label m t):=by
 funext j
 show cat 0 X (catL (lxT suite label m t)) j=_
 unfold cat
 rw [if_neg (Nat.not_lt_zero j),Nat.sub_zero]
theorem lxT_lt {suite label:List Nat} {m:Nat} {t:Nat→Nat} (hsu:∀ x,x∈suite→x<256) (hla:∀ x,x∈label→x<256) (ht:∀ j,t j<256):∀ j,catL (lxT suite label m t) j<256:=catL_lt _ (by
 intro p hp
 simp only [lxT,List.mem_cons,List.not_mem_nil,or_false] at hp
 rcases hp with rfl | rfl | rfl | rfl
 · exact litB_lt lV1_lt
 · exact litB_lt hsu
 · exact litB_lt hla
 · exact ht)
theorem leT_lt {suite label:List Nat} {m N:Nat} {t:Nat→Nat} (hsu:∀ x,x∈suite→x<256) (hla:∀ x,x∈label→x<256) (ht:∀ j,t j<256):∀ j,catL (leT suite label m t N) j<256 :=
 cat_lt (litB_lt (by intro x hx;simp only [List.mem_cons,List.not_mem_nil,or_false] at hx;omega)) (lxT_lt hsu hla ht)
theorem row_bytes {w:World} {g n:Nat} {X:Nat→Nat} (h0:0<n) (h:RowAt .u8 w g 0 n X):BytesIn w (.slice (some ⟨g,0,none⟩) n n) n X :=
 .inr ⟨g,0,n,rfl,block_lt_of_cell (h 0 h0).1,Nat.le_refl _,fun j hj=>(h j hj).1⟩
set_option maxRecDepth 20000 in
set_option maxHeartbeats 2000000 in
theorem cextract_any (suite label:List Nat) (hsu:∀ x,x∈suite→x<256) (hla:∀ x,x∈label→x<256) (hsz:suite.length+label.length≤100) (sv tv:Value) (sn cnt m:Nat) (salt t:Nat→Nat) (hsalt:∀ j,salt j<256) (ht:∀ j,t j<256) (hsn:sn<140737488355000) (hcnt:cnt<1000000) (hm:m+300<140737488355000) (w:World) (hT:HTab w cubeK squareK) (h1:BytesIn w sv sn salt) (h2:Texts w tv cnt m t) :
 Calls Tryz.prog 191 #[.string (strL suite),sv,.string (strL label),tv] w fun e w'=>∃ s,e = .returned s∧BytesIn w' s 32 (lxN suite sn salt label m t)∧Below w.heap.size w w':=by
 have cl:=labelled_any suite label hsu hla hsz (.slice none 0 0) tv 0 cnt m lZ t (by decide) hcnt hm w (.inl ⟨none,rfl,rfl⟩) h2
 rw [lbT0,show 0+7+suite.length+label.length+m=lenL (lxT suite label m t) by show _=7+(suite.length+(label.length+(m+0)));omega] at cl
 have hL:lenL (lxT suite label m t)<2305843009213693000:=by show 7+(suite.length+(label.length+(m+0)))<_;omega
 have hx:=fun v W hb hv=>extract_any sv v sn (lenL (lxT suite label m t)) salt (catL (lxT suite label m t)) hsalt (lxT_lt hsu hla ht) (by omega) hL W (hT.keep hb) (h1.keep hb) hv
 obtain ⟨N,hN⟩:∃ N,N=lenL (lxT suite label m t):=⟨_,rfl⟩
 obtain ⟨F,hF⟩:∃ F,F=catL (lxT suite label m t):=⟨_,rfl⟩
 obtain ⟨X,hX⟩:∃ T,T=lxN suite sn salt label m t:=⟨_,rfl⟩
 have hX2:tagH (keyB sn salt) N F=X:=by rw [hX,hN,hF];rfl
 rw [←hN,←hF] at cl hx
 rw [hX2] at hx
 rw [←hX]
 generalize strL suite=su at *
 generalize strL label=lb at *
 clear hX hX2 hN hF hL h1 h2 hT
 go_enter Tryz.func191,Tryz.ntmps191
 go_wp2_with (first
  | (go_at_call 226;refine cl.mono ?_;clear cl;rintro e w4 ⟨s4,rfl,own4,b4⟩;(have x4:=hx s4 w4 b4 own4.bytesIn);clear hx)
  | (go_at_call 227;refine x4.mono ?_;clear x4;rintro e w5 ⟨g5,rfl,hg5,r5,hb5⟩))
 go_ret
 exact ⟨_,rfl,row_bytes (by decide) r5,below_next b4 hb5⟩
set_option maxRecDepth 20000 in
set_option maxHeartbeats 2000000 in
theorem cexpand_any (suite label:List Nat) (hsu:∀ x,x∈suite→x<256) (hla:∀ x,x∈label→x<256) (hsz:suite.length+label.length≤100) (pv tv:Value) (pn cnt m N:Nat) (prk t:Nat→Nat) (hN:N≤8160) (hprk:∀ j,prk j<256) (ht:∀ j,t j<256) (hpn:pn<140737488355000) (hcnt:cnt<1000000) (hm:m+300<140737488355000) (w:World) (hT:HTab w cubeK squareK) (h1:BytesIn w pv pn prk) (h2:Texts w tv cnt m t) :
 Calls Tryz.prog 190 #[.string (strL suite),pv,.int .i64 N,.string (strL label),tv] w fun e w'=>∃ s,e = .returned s∧(∃ g,s = .slice (some ⟨g,0,none⟩) N N∧w.heap.size≤g∧RowAt .u8 w' g 0 N (leN suite pn prk label m t N))∧Below w.heap.size w w':=by
 obtain ⟨xp,cp,rfl,-,-,-⟩:=h1.src
 obtain ⟨W0,hW0⟩:∃ W,W=w.alloc (.cells #[.int .u8 ((N / 256%256:Nat):Int),.int .u8 ((N%256:Nat):Int)] 5):=⟨_,rfl⟩
 have hb0:Below w.heap.size w W0:=by rw [hW0];exact (Below.refl _ _).alloc (Nat.le_refl _) _
 have hB0:BytesIn W0 (.slice (some ⟨w.heap.size,0,none⟩) 2 2) 2 (litB [N / 256%256,N%256]):=by rw [hW0];exact litB_B w [N / 256%256,N%256] (0,0)
 have cl:=labelled_any suite label hsu hla hsz _ tv 2 cnt m _ t (by decide) hcnt hm W0 hB0 (h2.keep hb0)
 rw [show 2+7+suite.length+label.length+m=lenL (leT suite label m t N) by show _=2+(7+(suite.length+(label.length+(m+0))));omega] at cl
 replace cl:Calls Tryz.prog 226 #[.string (strL suite),.slice (some ⟨w.heap.size,0,none⟩) 2 2,.string (strL label),tv] W0 fun e w'=>∃ s,e = .returned s∧Own W0.heap.size w' s (lenL (leT suite label m t N)) (catL (leT suite label m t N))∧Below W0.heap.size W0 w':=cl
 have hL:lenL (leT suite label m t N)<2305843009213692000:=by show 2+(7+(suite.length+(label.length+(m+0))))<_;omega
 have hx:=fun x c W hb hv=>expand_any xp x pn (lenL (leT suite label m t N)) cp c prk (catL (leT suite label m t N)) hprk (leT_lt hsu hla ht) (by omega) hL W (hT.keep hb) (h1.keep hb) hv N hN
 obtain ⟨LN,hLN⟩:∃ N',N'=lenL (leT suite label m t N):=⟨_,rfl⟩
 obtain ⟨F,hF⟩:∃ F,F=catL (leT suite label m t N):=⟨_,rfl⟩
 obtain ⟨X,hX⟩:∃ T,T=leN suite pn prk label m t N:=⟨_,rfl⟩
 have hX2:outF (keyB pn prk) LN F N=X:=by rw [hX,hLN,hF];rfl
 rw [←hLN,←hF] at cl hx
 rw [hX2] at hx
 rw [←hX]
 have hW:w.alloc (.cells #[.int .u8 ((N:Int) / 256),.int .u8 ((N:Int)%256)] 5)=W0:=by
  rw [hW0,show ((N / 256%256:Nat):Int)=(N:Int) / 256 by omega,show ((N%256:Nat):Int)=(N:Int)%256 by omega]
 rw [←hW] at cl
 generalize strL suite=su at *
 generalize strL label=lb at *
 rw [←hW] at hb0
 clear hX hX2 hLN hF hL h1 h2 hT hW0 hW hB0
 go_enter Tryz.func190,Tryz.ntmps190
 go_wp2_with (first
  | (go_at_call 226;refine cl.mono ?_;clear cl;rintro e w4 ⟨s4,rfl,own4,hb4⟩;(have b4:=below_next hb0 hb4);(obtain ⟨y4,d4,e4⟩:=own4.slice);subst e4;(have x4:=hx y4 d4 w4 b4 own4.bytesIn);clear hx)
  | (go_at_call 64;refine x4.mono ?_;clear x4;rintro e w5 ⟨g5,rfl,hg5,r5,hb5⟩))
 go_ret
 exact ⟨_,rfl,⟨g5,rfl,Nat.le_trans b4.size hg5,r5⟩,below_next b4 hb5⟩
end Go.Proofs.YtibdhadbflfdpaaGreatDoor
namespace Go.Proofs.YtibdhadbflfdpaaGreatDoor
open Go.RowKit
set_option maxRecDepth 20000 in
set_option maxHeartbeats 1000000 in
theorem rexpand_any (suite label:List Nat) (hsu:∀ x,x∈suite→x<256) (hla:∀ x,x∈label→x<256) (hsz:suite.length+label.length≤100) (sv pv iv:Value) (pn m N:Nat) (prk info:Nat→Nat) (hN:N≤8160) (hprk:∀ j,prk j<256) (hinfo:∀ j,info j<256) (hpn:pn<140737488355000) (hm:m+300<140737488355000) (w:World) (h1:BytesIn w sv suite.length (litB suite)) (h2:BytesIn w pv pn prk) (h3:BytesIn w iv m info) :
 Calls Tryz.prog 31 #[sv,pv,.string (strL label),iv,.int .i64 N] w fun e w'=>∃ s,e = .returned s∧BytesIn w' s N (leN suite pn prk label m info N)∧Below w.heap.size w w':=by
 obtain ⟨xs,cs,rfl,-,-,-⟩:=h1.src
 obtain ⟨xi,ci,rfl,-,-,-⟩:=h3.src
 obtain ⟨W0,hW0⟩:∃ W,W=w.alloc (.cells #[.int .u8 ((N / 256%256:Nat):Int),.int .u8 ((N%256:Nat):Int)] 5):=⟨_,rfl⟩
 have hb0:Below w.heap.size w W0:=by rw [hW0];exact (Below.refl _ _).alloc (Nat.le_refl _) _
 have hB0:BytesIn W0 (.slice (some ⟨w.heap.size,0,none⟩) 2 2) 2 (litB [N / 256%256,N%256]):=by rw [hW0];exact litB_B w [N / 256%256,N%256] (0,0)
 have hc:(convert 22 22 (.slice (some ⟨W0.heap.size,0,none⟩) 7 7)).run Tryz.prog (W0.alloc (.cells #[.int .u8 72,.int .u8 80,.int .u8 75,.int .u8 69,.int .u8 45,.int .u8 118,.int .u8 49] 5)) = .ok (.slice (some ⟨W0.heap.size,0,none⟩) 7 7) (W0.alloc (.cells #[.int .u8 72,.int .u8 80,.int .u8 75,.int .u8 69,.int .u8 45,.int .u8 118,.int .u8 49] 5 (7,8))):=convC W0 lV1
 have hb1:Below W0.heap.size W0 (W0.alloc (.cells #[.int .u8 72,.int .u8 80,.int .u8 75,.int .u8 69,.int .u8 45,.int .u8 118,.int .u8 49] 5 (7,8))):=(Below.refl _ _).alloc (Nat.le_refl _) _
 have hB1:BytesIn (W0.alloc (.cells #[.int .u8 72,.int .u8 80,.int .u8 75,.int .u8 69,.int .u8 45,.int .u8 118,.int .u8 49] 5 (7,8))) (.slice (some ⟨W0.heap.size,0,none⟩) 7 7) 7 (litB lV1):=litB_B W0 lV1 (7,8)
 obtain ⟨W1,hW1⟩:∃ W,W=W0.alloc (.cells #[.int .u8 72,.int .u8 80,.int .u8 75,.int .u8 69,.int .u8 45,.int .u8 118,.int .u8 49] 5 (7,8)):=⟨_,rfl⟩
 rw [←hW1] at hc hb1 hB1
 obtain ⟨c3,W2,hcl,hB2,hb2⟩:=conv_label W1 label hla
 have hb02:=below_next (below_next hb0 hb1) hb2
 have hP:=parts_list W2 [(.slice (some ⟨w.heap.size,0,none⟩) 2 2,2,litB [N / 256%256,N%256]),(.slice (some ⟨W0.heap.size,0,none⟩) 7 7,7,litB lV1),(.slice xs suite.length cs,suite.length,litB suite),(.slice (some ⟨W1.heap.size,0,none⟩) label.length c3,label.length,litB label),(.slice xi m ci,m,info)] 22 (by
  intro p hp
  simp only [List.mem_cons,List.not_mem_nil,or_false] at hp
  rcases hp with rfl | rfl | rfl | rfl | rfl
  · exact (hB0.keep hb1).keep hb2
  · exact hB1.keep hb2
  · exact h1.keep hb02
  · exact hB2
  · exact h3.keep hb02)
 have hb3:Below w.heap.size w (W2.alloc (.cells #[.slice (some ⟨w.heap.size,0,none⟩) 2 2,.slice (some ⟨W0.heap.size,0,none⟩) 7 7,.slice xs suite.length cs,.slice (some ⟨W1.heap.size,0,none⟩) label.length c3,.slice xi m ci] 22)):=hb02.alloc hb02.size _
 have hL:lenL (leT suite label m info N)=2+(7+(suite.length+(label.length+(m+0)))):=rfl
 have hlt:∀ j,catL (leT suite label m info N) j<256:=catL_lt _ (by
  intro p hp
  simp only [leT,lxT,List.mem_cons,List.not_mem_nil,or_false] at hp
  rcases hp with rfl | rfl | rfl | rfl | rfl
  · exact litB_lt (by intro x hx;simp only [List.mem_cons,List.not_mem_nil,or_false] at hx;omega)
  · exact litB_lt lV1_lt
  · exact litB_lt hsu
  · exact litB_lt hla
  · exact hinfo)
 have hj:=rjoin_any W2.heap.size 5 5 (lenL (leT suite label m info N)) (catL (leT suite label m info N)) (by rw [hL];omega) (by decide) _ hP
 have hx:=fun v W hb hv=>rExpand_any pv v pn (lenL (leT suite label m info N)) prk (catL (leT suite label m info N)) hprk hlt hpn (by rw [hL];omega) W (h2.keep hb) hv N hN
 replace hj:Calls Tryz.prog 69 #[.slice (some ⟨W2.heap.size,0,none⟩) 5 5] (W2.alloc (.cells #[.slice (some ⟨w.heap.size,0,none⟩) 2 2,.slice (some ⟨W0.heap.size,0,none⟩) 7 7,.slice xs suite.length cs,.slice (some ⟨W1.heap.size,0,none⟩) label.length c3,.slice xi m ci] 22)) _:=hj
 obtain ⟨LN,hLN⟩:∃ N',N'=lenL (leT suite label m info N):=⟨_,rfl⟩
 obtain ⟨F,hF⟩:∃ F,F=catL (leT suite label m info N):=⟨_,rfl⟩
 obtain ⟨T,hT⟩:∃ T,T=leN suite pn prk label m info N:=⟨_,rfl⟩
 have hT2:outF (keyB pn prk) LN F N=T:=by rw [hT,hLN,hF];rfl
 rw [←hLN,←hF] at hj hx
 rw [hT2] at hx
 rw [←hT]
 obtain ⟨S,hS⟩:∃ S,S=strL label:=⟨_,rfl⟩
 rw [←hS] at hcl ⊢
 have hz:W0.heap.size=w.heap.size+1:=by rw [hW0,World.size_alloc]
 have hW:w.alloc (.cells #[.int .u8 ((N:Int) / 256),.int .u8 ((N:Int)%256)] 5)=W0:=by
  rw [hW0,show ((N / 256%256:Nat):Int)=(N:Int) / 256 by omega,show ((N%256:Nat):Int)=(N:Int)%256 by omega]
 rw [hz] at hc hb3 hj
 rw [←hW] at hc
 clear hP hB0 hB1 hB2 hL hlt hLN hF hT hT2 hS hW0 hW1 hW hz hb0 hb1 hb2 h1 h3
 go_enter Tryz.func31,Tryz.ntmps31
 go_wp2_with (first
  | rw [hc]
  | rw [hcl]
  | (go_at_call 69;refine hj.mono ?_;clear hj;rintro e w4 ⟨s4,rfl,own4,hb4⟩;(have b4:=below_next hb3 hb4))
  | (go_at_call 68;refine (hx s4 _ b4 own4.bytesIn).mono ?_;clear hx;rintro e w5 ⟨s5,rfl,own5,hb5⟩))
 go_ret
 exact ⟨s5,rfl,own5,below_next b4 hb5⟩
end Go.Proofs.YtibdhadbflfdpaaGreatDoor
namespace Go.Proofs.YtibdhadbflfdpaaGreatDoor
open Go.RowKit
theorem lxN_lt (suite:List Nat) (sn:Nat) (salt:Nat→Nat) (label:List Nat) (m:Nat) (ikm:Nat→Nat) (j:Nat):lxN suite sn salt label m ikm j<256:=tagH_lt _ _ _ _
theorem leN_lt (suite:List Nat) (pn:Nat) (prk:Nat→Nat) (label:List Nat) (m:Nat) (info:Nat→Nat) (N j:Nat):leN suite pn prk label m info N j<256:=by
 unfold leN outF
 split
 · exact tE_lt _ _ _ _ _
 · decide
theorem lKem_lt:∀ x,x∈lKem→x<256:=by decide
theorem lAll_lt:∀ x,x∈lAll→x<256:=by decide
theorem BytesIn.nil0 (w:World) (X:Nat→Nat):BytesIn w (.slice none 0 0) 0 X := .inl ⟨none,rfl,rfl⟩
theorem lZ_lt:∀ j,lZ j<256:=fun _=>(by decide:0<256)
def puN (s:Nat→Nat):Nat→Nat:=byt (mulL (clB s) 9)
set_option maxRecDepth 20000 in
set_option maxHeartbeats 1000000 in
theorem rDerive_any (v:Value) (m:Nat) (ikm:Nat→Nat) (hikm:∀ j,ikm j<256) (hm:m+300<140737488355000) (w:World) (hv:BytesIn w v m ikm) :
 Calls Tryz.prog 14 #[v] w fun e w'=>∃ s p,e = .returned (.tuple #[s,p])∧BytesIn w' s 32 (dsN m ikm)∧BytesIn w' p 32 (puN (dsN m ikm))∧Below w.heap.size w w':=by
 have hx:∀ kv W,Below w.heap.size w W→BytesIn W kv 5 (litB lKem)→Calls Tryz.prog 33 #[kv,.slice none 0 0,.string { data:=#[100,107,112,95,112,114,107] },v] W _:=fun kv W hb hk=>rextract_any lKem lDkp lKem_lt (by decide) (by decide) kv (.slice none 0 0) v 0 m lZ ikm lZ_lt hikm (by decide) (by omega) W hk (BytesIn.nil0 _ _) (hv.keep hb)
 have he:∀ kv pv W,BytesIn W kv 5 (litB lKem)→BytesIn W pv 32 (lxN lKem 0 lZ lDkp m ikm)→Calls Tryz.prog 31 #[kv,pv,.string { data:=#[115,107] },.slice none 0 0,.int .i64 32] W _:=fun kv pv W hk hp=>rexpand_any lKem lSk lKem_lt (by decide) (by decide) kv pv (.slice none 0 0) 32 0 32 _ lZ (by decide) (lxN_lt _ _ _ _ _ _) lZ_lt (by decide) (by decide) W hk hp (BytesIn.nil0 _ _)
 have hp:=fun s W (hs:BytesIn W s 32 (dsN m ikm))=>rpublic_good s (dsN m ikm) (leN_lt _ _ _ _ _ _ _) W hs
 obtain ⟨X,hX⟩:∃ X,X=lxN lKem 0 lZ lDkp m ikm:=⟨_,rfl⟩
 obtain ⟨D,hD⟩:∃ D,D=dsN m ikm:=⟨_,rfl⟩
 have hD2:leN lKem 32 X lSk 0 lZ 32=D:=by rw [hD,hX];rfl
 rw [←hX] at hx he
 rw [hD2] at he
 rw [←hD] at hp ⊢
 obtain ⟨P,hP⟩:∃ P,P=puN D:=⟨_,rfl⟩
 have hP2:byt (mulL (clB D) 9)=P:=hP.symm
 rw [hP2] at hp
 rw [←hP]
 obtain ⟨xv,cv,rfl,-,-,-⟩:=hv.src
 obtain ⟨K,hK⟩:∃ K,K=litB lKem:=⟨_,rfl⟩
 have hk:=fun W=>rkem_any W
 rw [←hK] at hx he hk
 clear hX hD hD2 hP hP2 hK hv
 go_enter Tryz.func14,Tryz.ntmps14
 go_wp2_with (first
  | (go_at_call 32;refine (hk _).mono ?_;first
      | (guard_hyp b1:Below _ _ _;rintro e w2 ⟨k2,rfl,o2,hb2⟩;(have b2:=below_next b1 hb2);(replace o1:=o1.keep hb2);(have x2:=hx k2 w2 b2 o2.bytesIn);clear hx)
      | (rintro e w1 ⟨k1,rfl,o1,b1⟩;(replace o1:=o1.bytesIn)))
  | (go_at_call 33;refine x2.mono ?_;clear x2;rintro e w3 ⟨x3,rfl,o3,hb3⟩;(have b3:=below_next b2 hb3);(have e3:=he k1 x3 w3 (o1.keep hb3) o3.bytesIn);clear he)
  | (go_at_call 31;refine e3.mono ?_;clear e3;rintro e w4 ⟨s4,rfl,o4,hb4⟩;(have b4:=below_next b3 hb4);(have p4:=hp s4 w4 o4);clear hp)
  | (go_at_call 34;refine p4.mono ?_;clear p4;rintro e w5 ⟨s5,rfl,o5,hb5⟩;(have b5:=below_next b4 hb5)))
 go_ret2
 exact ⟨s4,s5,rfl,o4.keep hb5,o5,b5⟩
end Go.Proofs.YtibdhadbflfdpaaGreatDoor
namespace Go.Proofs.YtibdhadbflfdpaaGreatDoor
open Go.RowKit
set_option maxRecDepth 20000 in
set_option maxHeartbeats 1000000 in
theorem rmutual_any (dv ev pv:Value) (dh enc pub:Nat→Nat) (hdh:∀ j,dh j<256) (henc:∀ j,enc j<256) (hpub:∀ j,pub j<256) (w:World) (h1:BytesIn w dv 32 dh) (h2:BytesIn w ev 32 enc) (h3:BytesIn w pv 32 pub) :
 Calls Tryz.prog 143 #[dv,ev,pv] w fun e w'=>∃ s,e = .returned s∧BytesIn w' s 32 (shN2 dh enc pub)∧Below w.heap.size w w':=by
 obtain ⟨x1,c1,rfl,-,-,-⟩:=h1.src
 obtain ⟨x2,c2,rfl,-,-,-⟩:=h2.src
 obtain ⟨x3,c3,rfl,-,-,-⟩:=h3.src
 have hx:∀ kv W,Below w.heap.size w W→BytesIn W kv 5 (litB lKem)→Calls Tryz.prog 33 #[kv,.slice none 0 0,.string { data:=#[101,97,101,95,112,114,107] },.slice x1 32 c1] W _:=fun kv W hb hk=>rextract_any lKem lEae lKem_lt (by decide) (by decide) kv (.slice none 0 0) (.slice x1 32 c1) 0 32 lZ dh lZ_lt hdh (by decide) (by decide) W hk (BytesIn.nil0 _ _) (h1.keep hb)
 have hj:∀ W,Below w.heap.size w W→Calls Tryz.prog 69 #[.slice (some ⟨W.heap.size,0,none⟩) 2 2] (W.alloc (.cells #[.slice x2 32 c2,.slice x3 32 c3] 22)) fun e w'=>∃ s,e = .returned s∧BytesIn w' s 64 (catL [(32,enc),(32,pub)])∧Below W.heap.size W w':=fun W hb=>by
  have hP:=parts_list W [(.slice x2 32 c2,32,enc),(.slice x3 32 c3,32,pub)] 22 (by
   intro p hp
   simp only [List.mem_cons,List.not_mem_nil,or_false] at hp
   rcases hp with rfl | rfl
   · exact h2.keep hb
   · exact h3.keep hb)
  exact (rjoin_any W.heap.size 2 2 64 (catL [(32,enc),(32,pub)]) (by decide) (by decide) _ hP).mono fun _ _ ⟨s,he,ho,hb'⟩=>⟨s,he,ho.bytesIn,below_next ((Below.refl _ _).alloc (Nat.le_refl _) _) hb'⟩
 have he:∀ kv pv iv W,BytesIn W kv 5 (litB lKem)→BytesIn W pv 32 (lxN lKem 0 lZ lEae 32 dh)→BytesIn W iv 64 (catL [(32,enc),(32,pub)])→Calls Tryz.prog 31 #[kv,pv,.string { data:=#[115,104,97,114,101,100,95,115,101,99,114,101,116] },iv,.int .i64 32] W _:=fun kv pv iv W hk hp hi=>rexpand_any lKem lSs lKem_lt (by decide) (by decide) kv pv iv 32 64 32 _ _ (by decide) (lxN_lt _ _ _ _ _ _) (catL_lt _ (by
  intro p hp
  simp only [List.mem_cons,List.not_mem_nil,or_false] at hp
  rcases hp with rfl | rfl
  · exact henc
  · exact hpub)) (by decide) (by decide) W hk hp hi
 obtain ⟨X,hX⟩:∃ X,X=lxN lKem 0 lZ lEae 32 dh:=⟨_,rfl⟩
 obtain ⟨C,hC⟩:∃ C,C=catL [(32,enc),(32,pub)]:=⟨_,rfl⟩
 obtain ⟨D,hD⟩:∃ D,D=shN2 dh enc pub:=⟨_,rfl⟩
 have hD2:leN lKem 32 X lSs 64 C 32=D:=by rw [hD,hX,hC];rfl
 rw [←hX] at hx he
 rw [←hC] at hj he
 rw [hD2] at he
 rw [←hD]
 obtain ⟨K,hK⟩:∃ K,K=litB lKem:=⟨_,rfl⟩
 have hk:=fun W=>rkem_any W
 rw [←hK] at hx he hk
 clear hX hC hD hD2 hK h1 h2 h3
 go_enter Tryz.func143,Tryz.ntmps143
 go_wp2_with (first
  | (go_at_call 32;refine (hk _).mono ?_;first
      | (guard_hyp b1:Below _ _ _;rintro e w2 ⟨k2,rfl,o2,hb2⟩;(have b2:=below_next b1 hb2);(replace o1:=o1.keep hb2);(have x2:=hx k2 w2 b2 o2.bytesIn);clear hx)
      | (rintro e w1 ⟨k1,rfl,o1,b1⟩;(replace o1:=o1.bytesIn)))
  | (go_at_call 33;refine x2.mono ?_;clear x2;rintro e w3 ⟨x3,rfl,o3,hb3⟩;(have b3:=below_next b2 hb3);(replace o1:=o1.keep hb3);(replace o3:=o3.bytesIn);(have j3:=hj w3 b3);clear hj)
  | (go_at_call 69;refine j3.mono ?_;clear j3;rintro e w4 ⟨s4,rfl,o4,hb4⟩;(have b4:=below_next b3 hb4);(have e4:=he k1 x3 s4 w4 (o1.keep hb4) (o3.keep hb4) o4);clear he)
  | (go_at_call 31;refine e4.mono ?_;clear e4;rintro e w5 ⟨s5,rfl,o5,hb5⟩))
 go_ret
 exact ⟨s5,rfl,o5,below_next b4 hb5⟩
end Go.Proofs.YtibdhadbflfdpaaGreatDoor
namespace Go.Proofs.YtibdhadbflfdpaaGreatDoor
open Go.RowKit
def sdN (k u:Nat→Nat):Nat:=mulL (clB k) (ofB (loB u) 32%pF)
theorem sdN_lt (k u:Nat→Nat):sdN k u<pF:=fmul_lt _ _
theorem rsh_none (v u:Value) (k x:Nat→Nat) (hk:∀ j,k j<256) (hx:∀ j,x j<256) (h0:sdN k x=0) (w:World) (hv:BytesIn w v 32 k) (hu:BytesIn w u 32 x) :
 Calls Tryz.prog 142 #[v,u] w fun e w'=>e = .returned (.tuple #[.slice none 0 0,.int .i64 30])∧Below w.heap.size w w' :=
 rshared_none v u (byt (sdN k x)) (fun j _=>by rw [h0];unfold byt;rw [Nat.zero_div]) w (rlmul_good v u k x hk hx w hv hu)
theorem rsh_some (v u:Value) (k x:Nat→Nat) (hk:∀ j,k j<256) (hx:∀ j,x j<256) (h0:sdN k x≠0) (w:World) (hv:BytesIn w v 32 k) (hu:BytesIn w u 32 x) :
 Calls Tryz.prog 142 #[v,u] w fun e w'=>∃ s,e = .returned (.tuple #[s,.int .i64 0])∧BytesIn w' s 32 (byt (sdN k x))∧Below w.heap.size w w' :=
 rshared_some v u (byt (sdN k x)) (byt_some (Nat.lt_trans (sdN_lt k x) (by decide)) h0) w (rlmul_good v u k x hk hx w hv hu)
theorem shN2_lt (dh enc pub:Nat→Nat) (j:Nat):shN2 dh enc pub j<256:=leN_lt _ _ _ _ _ _ _ _
theorem dsN_lt (m:Nat) (ikm:Nat→Nat) (j:Nat):dsN m ikm j<256:=leN_lt _ _ _ _ _ _ _ _
theorem puN_lt (s:Nat→Nat) (j:Nat):puN s j<256:=byt_lt _ _
theorem rDecap_arg (v u:Value) (n m:Nat) (k x:Nat→Nat) (h:¬(n=32∧m=32)) (w:World) (hv:BytesIn w v n k) (hu:BytesIn w u m x) :
 Calls Tryz.prog 81 #[v,u] w fun e w'=>e = .returned (.tuple #[.slice none 0 0,.int .i64 1])∧Below w.heap.size w w':=by
 obtain ⟨x1,c1,rfl,-,-,-⟩:=hv.src
 obtain ⟨x2,c2,rfl,-,-,-⟩:=hu.src
 by_cases h1:n=32
 · have h2:¬((m:Int)=32):=by omega
   subst h1
   go_enter Tryz.func81,Tryz.ntmps81
   go_wp2
   go_ret2
   exact ⟨rfl,Below.refl _ _⟩
 · have h2:¬((n:Int)=32):=by omega
   go_enter Tryz.func81,Tryz.ntmps81
   go_wp2
   go_ret2
   exact ⟨rfl,Below.refl _ _⟩
theorem rDecap_none (v u:Value) (k x:Nat→Nat) (hk:∀ j,k j<256) (hx:∀ j,x j<256) (h0:sdN k x=0) (w:World) (hv:BytesIn w v 32 k) (hu:BytesIn w u 32 x) :
 Calls Tryz.prog 81 #[v,u] w fun e w'=>e = .returned (.tuple #[.slice none 0 0,.int .i64 30])∧Below w.heap.size w w':=by
 have hs:=rsh_none v u k x hk hx h0 w hv hu
 obtain ⟨x1,c1,rfl,-,-,-⟩:=hv.src
 obtain ⟨x2,c2,rfl,-,-,-⟩:=hu.src
 clear hv hu
 go_enter Tryz.func81,Tryz.ntmps81
 go_wp2_with (go_at_call 142;refine hs.mono ?_;clear hs;rintro e w1 ⟨rfl,b1⟩)
 go_ret2
 exact ⟨rfl,b1⟩
theorem rDecap_some (v u:Value) (k x:Nat→Nat) (hk:∀ j,k j<256) (hx:∀ j,x j<256) (h0:sdN k x≠0) (w:World) (hv:BytesIn w v 32 k) (hu:BytesIn w u 32 x) :
 Calls Tryz.prog 81 #[v,u] w fun e w'=>∃ s,e = .returned (.tuple #[s,.int .i64 0])∧BytesIn w' s 32 (shN2 (byt (sdN k x)) x (puN k))∧Below w.heap.size w w':=by
 have hs:=rsh_some v u k x hk hx h0 w hv hu
 have hp:=fun W hb=>rpublic_good v k hk W (hv.keep hb)
 have hm:=fun d p W hd hb hp=>rmutual_any d u p (byt (sdN k x)) x (puN k) (byt_lt _) hx (puN_lt _) W hd (hu.keep hb) hp
 obtain ⟨T,hT⟩:∃ T,T=shN2 (byt (sdN k x)) x (puN k):=⟨_,rfl⟩
 obtain ⟨D,hD⟩:∃ D,D=byt (sdN k x):=⟨_,rfl⟩
 obtain ⟨P,hP⟩:∃ P,P=puN k:=⟨_,rfl⟩
 have hP2:byt (mulL (clB k) 9)=P:=hP.symm
 rw [←hT] at hm ⊢
 rw [←hD] at hs hm
 rw [hP2] at hp
 rw [←hP] at hm
 obtain ⟨x1,c1,rfl,-,-,-⟩:=hv.src
 obtain ⟨x2,c2,rfl,-,-,-⟩:=hu.src
 clear hv hu hT hD hP hP2
 go_enter Tryz.func81,Tryz.ntmps81
 go_wp2_with (first
  | (go_at_call 142;refine hs.mono ?_;clear hs;rintro e w1 ⟨s1,rfl,o1,b1⟩;(have p1:=hp w1 b1);clear hp)
  | (go_at_call 34;refine p1.mono ?_;clear p1;rintro e w2 ⟨s2,rfl,o2,hb2⟩;(have b2:=below_next b1 hb2);(have m2:=hm s1 s2 w2 (o1.keep hb2) b2 o2);clear hm)
  | (go_at_call 143;refine m2.mono ?_;clear m2;rintro e w3 ⟨s3,rfl,o3,hb3⟩))
 go_ret2
 exact ⟨s3,rfl,o3,below_next b2 hb3⟩
theorem rEncap_arg (u v:Value) (n:Nat) (x:Nat→Nat) (h:¬(n=32)) (w:World) (hu:BytesIn w u n x) :
 Calls Tryz.prog 76 #[u,v] w fun e w'=>e = .returned (.tuple #[.slice none 0 0,.slice none 0 0,.int .i64 1])∧Below w.heap.size w w':=by
 obtain ⟨x1,c1,rfl,-,-,-⟩:=hu.src
 have h2:¬((n:Int)=32):=by omega
 go_enter Tryz.func76,Tryz.ntmps76
 go_wp2
 go_ret3
 exact ⟨rfl,Below.refl _ _⟩
theorem rEncap_none (u v:Value) (m:Nat) (x ikm:Nat→Nat) (hx:∀ j,x j<256) (hikm:∀ j,ikm j<256) (hm:m+300<140737488355000) (h0:sdN (dsN m ikm) x=0) (w:World) (hu:BytesIn w u 32 x) (hv:BytesIn w v m ikm) :
 Calls Tryz.prog 76 #[u,v] w fun e w'=>e = .returned (.tuple #[.slice none 0 0,.slice none 0 0,.int .i64 30])∧Below w.heap.size w w':=by
 have hd:=rDerive_any v m ikm hikm hm w hv
 have hs:=fun s W hb hs=>rsh_none s u (dsN m ikm) x (dsN_lt _ _) hx h0 W hs (hu.keep hb)
 obtain ⟨D,hD⟩:∃ D,D=dsN m ikm:=⟨_,rfl⟩
 rw [←hD] at hd hs
 obtain ⟨x1,c1,rfl,-,-,-⟩:=hu.src
 obtain ⟨x2,c2,rfl,-,-,-⟩:=hv.src
 clear hv hu h0 hD
 go_enter Tryz.func76,Tryz.ntmps76
 go_wp2_with (first
  | (go_at_call 14;refine hd.mono ?_;clear hd;rintro e w1 ⟨s1,p1,rfl,o1,q1,b1⟩;(have s2:=hs s1 w1 b1 o1);clear hs)
  | (go_at_call 142;refine s2.mono ?_;clear s2;rintro e w2 ⟨rfl,hb2⟩))
 go_ret3
 exact ⟨rfl,below_next b1 hb2⟩
theorem rEncap_some (u v:Value) (m:Nat) (x ikm:Nat→Nat) (hx:∀ j,x j<256) (hikm:∀ j,ikm j<256) (hm:m+300<140737488355000) (h0:sdN (dsN m ikm) x≠0) (w:World) (hu:BytesIn w u 32 x) (hv:BytesIn w v m ikm) :
 Calls Tryz.prog 76 #[u,v] w fun e w'=>∃ s p,e = .returned (.tuple #[s,p,.int .i64 0])∧BytesIn w' s 32 (shN2 (byt (sdN (dsN m ikm) x)) (puN (dsN m ikm)) x)∧BytesIn w' p 32 (puN (dsN m ikm))∧Below w.heap.size w w':=by
 have hd:=rDerive_any v m ikm hikm hm w hv
 have hs:=fun s W hb hs=>rsh_some s u (dsN m ikm) x (dsN_lt _ _) hx h0 W hs (hu.keep hb)
 have hmu:=fun d p W hd hp hb=>rmutual_any d p u (byt (sdN (dsN m ikm) x)) (puN (dsN m ikm)) x (byt_lt _) (puN_lt _) hx W hd hp (hu.keep hb)
 obtain ⟨T,hT⟩:∃ T,T=shN2 (byt (sdN (dsN m ikm) x)) (puN (dsN m ikm)) x:=⟨_,rfl⟩
 rw [←hT] at hmu ⊢
 obtain ⟨Z,hZ⟩:∃ Z,Z=byt (sdN (dsN m ikm) x):=⟨_,rfl⟩
 rw [←hZ] at hmu hs
 obtain ⟨D,hD⟩:∃ D,D=dsN m ikm:=⟨_,rfl⟩
 rw [←hD] at hd hs hmu ⊢
 obtain ⟨P,hP⟩:∃ P,P=puN D:=⟨_,rfl⟩
 rw [←hP] at hd hmu ⊢
 obtain ⟨x1,c1,rfl,-,-,-⟩:=hu.src
 obtain ⟨x2,c2,rfl,-,-,-⟩:=hv.src
 clear hv hu h0 hD hP hT hZ
 go_enter Tryz.func76,Tryz.ntmps76
 go_wp2_with (first
  | (go_at_call 14;refine hd.mono ?_;clear hd;rintro e w1 ⟨s1,p1,rfl,o1,q1,b1⟩;(have s2:=hs s1 w1 b1 o1);clear hs)
  | (go_at_call 142;refine s2.mono ?_;clear s2;rintro e w2 ⟨d2,rfl,o2,hb2⟩;(have b2:=below_next b1 hb2);(replace q1:=q1.keep hb2);(have m3:=hmu d2 p1 w2 o2 q1 b2);clear hmu)
  | (go_at_call 143;refine m3.mono ?_;clear m3;rintro e w3 ⟨s3,rfl,o3,hb3⟩))
 go_ret3
 exact ⟨s3,p1,rfl,o3,q1.keep hb3,below_next b2 hb3⟩
end Go.Proofs.YtibdhadbflfdpaaGreatDoor
namespace Go.Proofs.YtibdhadbflfdpaaGreatDoor
open Go.RowKit
abbrev NewR (w w':World) (s:Value) (n:Nat) (X:Nat→Nat):Prop:=∃ g,s = .slice (some ⟨g,0,none⟩) n n∧w.heap.size≤g∧RowAt .u8 w' g 0 n X
theorem NewR.bytes {w w':World} {s:Value} {n:Nat} {X:Nat→Nat} (h0:0<n) (h:NewR w w' s n X):BytesIn w' s n X:=by
 obtain ⟨g,rfl,-,hr⟩:=h
 exact row_bytes h0 hr
theorem ckem (label:List Nat) (hl:∀ x,x∈label→x<256) (hz:label.length≤50) (tv:Value) (cnt m:Nat) (t:Nat→Nat) (ht:∀ j,t j<256) (hc:cnt<1000000) (hm:m+300<140737488355000) (w:World) (hT:HTab w cubeK squareK) (h2:Texts w tv cnt m t) :
 Calls Tryz.prog 191 #[.string { data:=#[75,69,77,0,32] },.slice none 0 0,.string (strL label),tv] w fun e w'=>∃ s,e = .returned s∧BytesIn w' s 32 (lxN lKem 0 lZ label m t)∧Below w.heap.size w w' :=
 cextract_any lKem label lKem_lt hl (by show 5+label.length≤100;omega) (.slice none 0 0) tv 0 cnt m lZ t lZ_lt ht (by decide) hc hm w hT (BytesIn.nil0 _ _) h2
theorem ekem (label:List Nat) (hl:∀ x,x∈label→x<256) (hz:label.length≤50) (pv tv:Value) (cnt m:Nat) (prk t:Nat→Nat) (hp:∀ j,prk j<256) (ht:∀ j,t j<256) (hc:cnt<1000000) (hm:m+300<140737488355000) (w:World) (hT:HTab w cubeK squareK) (h1:BytesIn w pv 32 prk) (h2:Texts w tv cnt m t) :
 Calls Tryz.prog 190 #[.string { data:=#[75,69,77,0,32] },pv,.int .i64 32,.string (strL label),tv] w fun e w'=>∃ s,e = .returned s∧NewR w w' s 32 (leN lKem 32 prk label m t 32)∧Below w.heap.size w w' :=
 cexpand_any lKem label lKem_lt hl (by show 5+label.length≤100;omega) pv tv 32 cnt m 32 prk t (by decide) hp ht (by decide) hc hm w hT h1 h2
set_option maxRecDepth 20000 in
set_option maxHeartbeats 2000000 in
theorem cDerive_any (v:Value) (m:Nat) (ikm:Nat→Nat) (hikm:∀ j,ikm j<256) (hm:m+300<140737488355000) (w:World) (hT:HTab w cubeK squareK) (hv:BytesIn w v m ikm) :
 Calls Tryz.prog 136 #[v] w fun e w'=>∃ s p,e = .returned (.tuple #[s,p])∧BytesIn w' s 32 (dsN m ikm)∧BytesIn w' p 32 (puN (dsN m ikm))∧Below w.heap.size w w':=by
 obtain ⟨xv,cv,rfl,-,-,-⟩:=hv.src
 have b0:Below w.heap.size w (w.alloc (.cells #[.slice xv m cv] 22)):=(Below.refl _ _).alloc (Nat.le_refl _) _
 have hx:Calls Tryz.prog 191 #[.string { data:=#[75,69,77,0,32] },.slice none 0 0,.string { data:=#[100,107,112,95,112,114,107] },.slice (some ⟨w.heap.size,0,none⟩) 1 1] (w.alloc (.cells #[.slice xv m cv] 22)) _:=ckem lDkp (by decide) (by decide) _ 1 m ikm hikm (by decide) hm _ (hT.keep b0) (texts_one w _ m ikm hv)
 have he:∀ pv W,Below w.heap.size w W→BytesIn W pv 32 (lxN lKem 0 lZ lDkp m ikm)→Calls Tryz.prog 190 #[.string { data:=#[75,69,77,0,32] },pv,.int .i64 32,.string { data:=#[115,107] },.slice none 0 0] W _:=fun pv W hb hp=>ekem lSk (by decide) (by decide) pv (.slice none 0 0) 0 0 _ lZ (lxN_lt _ _ _ _ _ _) lZ_lt (by decide) (by decide) W (hT.keep hb) hp (texts_none W lZ)
 have hp:=fun s W (hs:BytesIn W s 32 (dsN m ikm))=>public_good s (dsN m ikm) (leN_lt _ _ _ _ _ _ _) W hs
 obtain ⟨X,hX⟩:∃ X,X=lxN lKem 0 lZ lDkp m ikm:=⟨_,rfl⟩
 obtain ⟨D,hD⟩:∃ D,D=dsN m ikm:=⟨_,rfl⟩
 have hD2:leN lKem 32 X lSk 0 lZ 32=D:=by rw [hD,hX];rfl
 rw [←hX] at hx he
 rw [hD2] at he
 rw [←hD] at hp ⊢
 obtain ⟨P,hP⟩:∃ P,P=puN D:=⟨_,rfl⟩
 have hP2:byt (mulL (clB D) 9)=P:=hP.symm
 rw [hP2] at hp
 rw [←hP]
 clear hX hD hD2 hP hP2 hv
 go_enter Tryz.func136,Tryz.ntmps136
 go_wp2_with (first
  | (go_at_call 191;refine hx.mono ?_;clear hx;rintro e w3 ⟨x3,rfl,o3,hb3⟩;(have b3:=below_next b0 hb3);(have e3:=he x3 w3 b3 o3);clear he)
  | (go_at_call 190;refine e3.mono ?_;clear e3;rintro e w4 ⟨s4,rfl,o4,hb4⟩;(have b4:=below_next b3 hb4);(replace o4:=NewR.bytes (by decide) o4);(have p4:=hp s4 w4 o4);clear hp)
  | (go_at_call 147;refine p4.mono ?_;clear p4;rintro e w5 ⟨s5,rfl,o5,hb5⟩;(have b5:=below_next b4 hb5)))
 go_ret2
 exact ⟨s4,s5,rfl,o4.keep hb5,NewR.bytes (by decide) o5,b5⟩
set_option maxRecDepth 20000 in
set_option maxHeartbeats 2000000 in
theorem cmutual_any (dv ev pv:Value) (dh enc pub:Nat→Nat) (hdh:∀ j,dh j<256) (henc:∀ j,enc j<256) (hpub:∀ j,pub j<256) (w:World) (hT:HTab w cubeK squareK) (h1:BytesIn w dv 32 dh) (h2:BytesIn w ev 32 enc) (h3:BytesIn w pv 32 pub) :
 Calls Tryz.prog 138 #[dv,ev,pv] w fun e w'=>∃ s,e = .returned s∧BytesIn w' s 32 (shN2 dh enc pub)∧Below w.heap.size w w':=by
 obtain ⟨x1,c1,rfl,-,-,-⟩:=h1.src
 obtain ⟨x2,c2,rfl,-,-,-⟩:=h2.src
 obtain ⟨x3,c3,rfl,-,-,-⟩:=h3.src
 have b0:Below w.heap.size w (w.alloc (.cells #[.slice x1 32 c1] 22)):=(Below.refl _ _).alloc (Nat.le_refl _) _
 have hx:Calls Tryz.prog 191 #[.string { data:=#[75,69,77,0,32] },.slice none 0 0,.string { data:=#[101,97,101,95,112,114,107] },.slice (some ⟨w.heap.size,0,none⟩) 1 1] (w.alloc (.cells #[.slice x1 32 c1] 22)) _:=ckem lEae (by decide) (by decide) _ 1 32 dh hdh (by decide) (by decide) _ (hT.keep b0) (texts_one w _ 32 dh h1)
 have he:∀ kv W,Below w.heap.size w W→BytesIn W kv 32 (lxN lKem 0 lZ lEae 32 dh)→Calls Tryz.prog 190 #[.string { data:=#[75,69,77,0,32] },kv,.int .i64 32,.string { data:=#[115,104,97,114,101,100,95,115,101,99,114,101,116] },.slice (some ⟨W.heap.size,0,none⟩) 2 2] (W.alloc (.cells #[.slice x2 32 c2,.slice x3 32 c3] 22)) _:=fun kv W hb hp=>ekem lSs (by decide) (by decide) kv _ 2 64 _ (catL [(32,enc),(32,pub)]) (lxN_lt _ _ _ _ _ _) (catL_lt _ (by
  intro p hp
  simp only [List.mem_cons,List.not_mem_nil,or_false] at hp
  rcases hp with rfl | rfl
  · exact henc
  · exact hpub)) (by decide) (by decide) _ (hT.keep (hb.alloc hb.size _)) (hp.keep ((Below.refl _ _).alloc (Nat.le_refl _) _)) (texts_two W _ _ 32 32 enc pub (h2.keep hb) (h3.keep hb))
 obtain ⟨X,hX⟩:∃ X,X=lxN lKem 0 lZ lEae 32 dh:=⟨_,rfl⟩
 obtain ⟨D,hD⟩:∃ D,D=shN2 dh enc pub:=⟨_,rfl⟩
 have hD2:leN lKem 32 X lSs 64 (catL [(32,enc),(32,pub)]) 32=D:=by rw [hD,hX];rfl
 rw [←hX] at hx he
 rw [hD2] at he
 rw [←hD]
 clear hX hD hD2 h1 h2 h3
 go_enter Tryz.func138,Tryz.ntmps138
 go_wp2_with (first
  | (go_at_call 191;refine hx.mono ?_;clear hx;rintro e w3 ⟨x3,rfl,o3,hb3⟩;(have b3:=below_next b0 hb3);(have e3:=he x3 w3 b3 o3);clear he)
  | (go_at_call 190;refine e3.mono ?_;clear e3;rintro e w4 ⟨s4,rfl,o4,hb4⟩))
 go_ret
 exact ⟨s4,rfl,NewR.bytes (by decide) o4,below_next (b3.alloc b3.size _) hb4⟩
theorem csh_arg (v u:Value) (n m:Nat) (k x:Nat→Nat) (hk:∀ j,k j<256) (h:¬(n=32∧m=32)) (w:World) (hv:BytesIn w v n k) (hu:BytesIn w u m x) :
 Calls Tryz.prog 137 #[v,u] w fun e w'=>e = .returned (.tuple #[.slice none 0 0,.int .i64 1])∧Below w.heap.size w w':=by
 by_cases h1:n=32
 · subst h1
   exact shared_arg v u w (lmul_point v u m k x hk w hv hu (by omega))
 · exact shared_arg v u w (lmul_key v u n k w hv h1)
theorem csh_none (v u:Value) (k x:Nat→Nat) (hk:∀ j,k j<256) (hx:∀ j,x j<256) (h0:sdN k x=0) (w:World) (hv:BytesIn w v 32 k) (hu:BytesIn w u 32 x) :
 Calls Tryz.prog 137 #[v,u] w fun e w'=>e = .returned (.tuple #[.slice none 0 0,.int .i64 30])∧Below w.heap.size w w' :=
 shared_none v u (sdN k x) h0 w (lmul_good v u k x hk hx w hv hu)
theorem csh_some (v u:Value) (k x:Nat→Nat) (hk:∀ j,k j<256) (hx:∀ j,x j<256) (h0:sdN k x≠0) (w:World) (hv:BytesIn w v 32 k) (hu:BytesIn w u 32 x) :
 Calls Tryz.prog 137 #[v,u] w fun e w'=>∃ s,e = .returned (.tuple #[s,.int .i64 0])∧NewB w w' s 32 (byt (sdN k x))∧Below w.heap.size w w' :=
 shared_some v u (sdN k x) h0 (sdN_lt k x) w (lmul_good v u k x hk hx w hv hu)
theorem cDecap_stop (v u:Value) (E:Int) (hE:¬E=0) (w:World) (hs:Calls Tryz.prog 137 #[v,u] w fun e w'=>e = .returned (.tuple #[.slice none 0 0,.int .i64 E])∧Below w.heap.size w w') :
 Calls Tryz.prog 79 #[v,u] w fun e w'=>e = .returned (.tuple #[.slice none 0 0,.int .i64 E])∧Below w.heap.size w w':=by
 go_enter Tryz.func79,Tryz.ntmps79
 go_wp2_with (go_at_call 137;refine hs.mono ?_;clear hs;rintro e w1 ⟨rfl,b1⟩)
 go_ret2
 exact ⟨rfl,b1⟩
set_option maxRecDepth 20000 in
set_option maxHeartbeats 2000000 in
theorem cDecap_some (v u:Value) (k x:Nat→Nat) (hk:∀ j,k j<256) (hx:∀ j,x j<256) (h0:sdN k x≠0) (w:World) (hT:HTab w cubeK squareK) (hv:BytesIn w v 32 k) (hu:BytesIn w u 32 x) :
 Calls Tryz.prog 79 #[v,u] w fun e w'=>∃ s,e = .returned (.tuple #[s,.int .i64 0])∧BytesIn w' s 32 (shN2 (byt (sdN k x)) x (puN k))∧Below w.heap.size w w':=by
 have hs:=csh_some v u k x hk hx h0 w hv hu
 have hp:=fun W hb=>public_good v k hk W (hv.keep hb)
 have hm:=fun d p W hd hb hp=>cmutual_any d u p (byt (sdN k x)) x (puN k) (byt_lt _) hx (puN_lt _) W (hT.keep hb) hd (hu.keep hb) hp
 obtain ⟨T,hT'⟩:∃ T,T=shN2 (byt (sdN k x)) x (puN k):=⟨_,rfl⟩
 obtain ⟨D,hD⟩:∃ D,D=byt (sdN k x):=⟨_,rfl⟩
 obtain ⟨P,hP⟩:∃ P,P=puN k:=⟨_,rfl⟩
 have hP2:byt (mulL (clB k) 9)=P:=hP.symm
 rw [←hT'] at hm ⊢
 rw [←hD] at hs hm
 rw [hP2] at hp
 rw [←hP] at hm
 obtain ⟨x1,c1,rfl,-,-,-⟩:=hv.src
 obtain ⟨x2,c2,rfl,-,-,-⟩:=hu.src
 clear hv hu hT' hD hP hP2 hT
 go_enter Tryz.func79,Tryz.ntmps79
 go_wp2_with (first
  | (go_at_call 137;refine hs.mono ?_;clear hs;rintro e w1 ⟨s1,rfl,o1,b1⟩;(replace o1:=NewR.bytes (by decide) o1);(have p1:=hp w1 b1);clear hp)
  | (go_at_call 147;refine p1.mono ?_;clear p1;rintro e w2 ⟨s2,rfl,o2,hb2⟩;(have b2:=below_next b1 hb2);(have m2:=hm s1 s2 w2 (o1.keep hb2) b2 (NewR.bytes (by decide) o2));clear hm)
  | (go_at_call 138;refine m2.mono ?_;clear m2;rintro e w3 ⟨s3,rfl,o3,hb3⟩))
 go_ret2
 exact ⟨s3,rfl,o3,below_next b2 hb3⟩
set_option maxRecDepth 20000 in
set_option maxHeartbeats 2000000 in
theorem cEncap_stop (u v:Value) (m:Nat) (ikm:Nat→Nat) (hikm:∀ j,ikm j<256) (hm:m+300<140737488355000) (E:Int) (hE:¬E=0) (w:World) (hT:HTab w cubeK squareK) (hv:BytesIn w v m ikm)
 (hs:∀ s W,Below w.heap.size w W→BytesIn W s 32 (dsN m ikm)→Calls Tryz.prog 137 #[s,u] W fun e w'=>e = .returned (.tuple #[.slice none 0 0,.int .i64 E])∧Below W.heap.size W w') :
 Calls Tryz.prog 73 #[u,v] w fun e w'=>e = .returned (.tuple #[.slice none 0 0,.slice none 0 0,.int .i64 E])∧Below w.heap.size w w':=by
 have hd:=cDerive_any v m ikm hikm hm w hT hv
 generalize dsN m ikm=D at hd hs
 generalize puN D=P at hd
 clear hv hT
 go_enter Tryz.func73,Tryz.ntmps73
 go_wp2_with (first
  | (go_at_call 136;refine hd.mono ?_;clear hd;rintro e w1 ⟨s1,p1,rfl,o1,q1,b1⟩;(have s2:=hs s1 w1 b1 o1);clear hs)
  | (go_at_call 137;refine s2.mono ?_;clear s2;rintro e w2 ⟨rfl,hb2⟩))
 go_ret3
 exact ⟨rfl,below_next b1 hb2⟩
set_option maxRecDepth 20000 in
set_option maxHeartbeats 2000000 in
theorem cEncap_some (u v:Value) (m:Nat) (x ikm:Nat→Nat) (hx:∀ j,x j<256) (hikm:∀ j,ikm j<256) (hm:m+300<140737488355000) (h0:sdN (dsN m ikm) x≠0) (w:World) (hT:HTab w cubeK squareK) (hu:BytesIn w u 32 x) (hv:BytesIn w v m ikm) :
 Calls Tryz.prog 73 #[u,v] w fun e w'=>∃ s p,e = .returned (.tuple #[s,p,.int .i64 0])∧BytesIn w' s 32 (shN2 (byt (sdN (dsN m ikm) x)) (puN (dsN m ikm)) x)∧BytesIn w' p 32 (puN (dsN m ikm))∧Below w.heap.size w w':=by
 have hd:=cDerive_any v m ikm hikm hm w hT hv
 have hs:=fun s W hb hs=>csh_some s u (dsN m ikm) x (dsN_lt _ _) hx h0 W hs (hu.keep hb)
 have hmu:=fun d p W hd hp hb=>cmutual_any d p u (byt (sdN (dsN m ikm) x)) (puN (dsN m ikm)) x (byt_lt _) (puN_lt _) hx W (hT.keep hb) hd hp (hu.keep hb)
 obtain ⟨T,hT'⟩:∃ T,T=shN2 (byt (sdN (dsN m ikm) x)) (puN (dsN m ikm)) x:=⟨_,rfl⟩
 rw [←hT'] at hmu ⊢
 obtain ⟨Z,hZ⟩:∃ Z,Z=byt (sdN (dsN m ikm) x):=⟨_,rfl⟩
 rw [←hZ] at hmu hs
 obtain ⟨D,hD⟩:∃ D,D=dsN m ikm:=⟨_,rfl⟩
 rw [←hD] at hd hs hmu ⊢
 obtain ⟨P,hP⟩:∃ P,P=puN D:=⟨_,rfl⟩
 rw [←hP] at hd hmu ⊢
 obtain ⟨x1,c1,rfl,-,-,-⟩:=hu.src
 obtain ⟨x2,c2,rfl,-,-,-⟩:=hv.src
 clear hv hu h0 hD hP hT' hZ hT
 go_enter Tryz.func73,Tryz.ntmps73
 go_wp2_with (first
  | (go_at_call 136;refine hd.mono ?_;clear hd;rintro e w1 ⟨s1,p1,rfl,o1,q1,b1⟩;(have s2:=hs s1 w1 b1 o1);clear hs)
  | (go_at_call 137;refine s2.mono ?_;clear s2;rintro e w2 ⟨d2,rfl,o2,hb2⟩;(have b2:=below_next b1 hb2);(replace q1:=q1.keep hb2);(have m3:=hmu d2 p1 w2 (NewR.bytes (by decide) o2) q1 b2);clear hmu)
  | (go_at_call 138;refine m3.mono ?_;clear m3;rintro e w3 ⟨s3,rfl,o3,hb3⟩))
 go_ret3
 exact ⟨s3,p1,rfl,o3,q1.keep hb3,below_next b2 hb3⟩
end Go.Proofs.YtibdhadbflfdpaaGreatDoor
