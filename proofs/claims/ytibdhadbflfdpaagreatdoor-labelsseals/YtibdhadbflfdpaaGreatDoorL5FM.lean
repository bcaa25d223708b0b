/- What the proof stands on: L5F, L5H, L5S, L5L. -/
import Derived.Test.YtibdhadbflfdpaaGreatDoorL5AM
import Derived.Test.YtibdhadbflfdpaaGreatDoorLentM
import Derived.Test.YtibdhadbflfdpaaGreatDoorQ10Laid
import Derived.Test.YtibdhadbflfdpaaGreatDoorQROM
import Derived.ChangeMaps5
namespace Go.Proofs.YtibdhadbflfdpaaGreatDoor
open Go.RowKit
theorem cSeal5_good (l:List Nat) (h:∀ x,x∈l→x<256) (hl:l.length≤65528) (pv iv cv tv:Value) (n:Nat) (bs:Nat→Nat) (hbs:∀ j,bs j<256) (hn:n≤65528) (L:Nat) (A:Nat→Nat) (N:Nat) (B:Nat→Nat) (E:Int) (w:World) (hv:BytesIn w cv n bs) (cS:∀ s W,Below w.heap.size w W→BytesIn W s (v2L (8+l.length) n) (v2B (8+l.length) (litB (lMls ++ l)) n bs)→AnsE 35 #[pv,iv,s,.slice none 0 0,tv] W L A N B E) :
 AnsE 15 #[pv,iv,.string (strL l),cv,tv] w L A N B E:=by
 have hla:=labelled_good l h hl cv n bs hbs hn w hv
 obtain ⟨S,hS⟩:∃ S,S=strL l:=⟨_,rfl⟩
 obtain ⟨T,hT⟩:∃ T,T=v2L (8+l.length) n:=⟨_,rfl⟩
 obtain ⟨F,hF⟩:∃ F,F=v2B (8+l.length) (litB (lMls ++ l)) n bs:=⟨_,rfl⟩
 rw [←hT,←hF] at hla cS
 rw [←hS] at hla ⊢
 clear hS hT hF hv
 go_enter Tryz.func15,Tryz.ntmps15
 go_wp2_with (first
  | (go_at_call 21;refine hla.mono ?_;clear hla;rintro e w2 ⟨s2,rfl,own2,b2⟩;(have cS2:=cS s2 w2 b2 own2.bytesIn);clear cS)
  | (go_at_call 35;refine cS2.mono ?_;clear cS2;rintro e w5 ⟨a5,p5,rfl,A5,P5,hb5⟩))
 go_ret3
 exact ⟨a5,p5,rfl,A5,P5,below_next b2 hb5⟩
theorem cSeal5_long (l:List Nat) (pv iv cv tv:Value) (n:Nat) (bs:Nat→Nat) (hn:65528<l.length∨65528<n) (w:World) (hv:BytesIn w cv n bs) :
 Calls Tryz.prog 15 #[pv,iv,.string (strL l),cv,tv] w fun e w'=>e = .returned (.tuple #[.slice none 0 0,.slice none 0 0,.int .i64 6])∧Below w.heap.size w w':=by
 have hla:=labelled_long l cv n bs hn w hv
 obtain ⟨S,hS⟩:∃ S,S=strL l:=⟨_,rfl⟩
 rw [←hS] at hla ⊢
 clear hS hv hn
 go_enter Tryz.func15,Tryz.ntmps15
 go_wp2_with (go_at_call 21;refine hla.mono ?_;clear hla;rintro e w2 ⟨rfl,rfl⟩)
 go_ret3
 exact ⟨rfl,Below.refl _ _⟩
theorem rSeal5_good (l:List Nat) (h:∀ x,x∈l→x<256) (hl:l.length≤65528) (pv iv cv tv:Value) (n:Nat) (bs:Nat→Nat) (hbs:∀ j,bs j<256) (hn:n≤65528) (L:Nat) (A:Nat→Nat) (N:Nat) (B:Nat→Nat) (E:Int) (w:World) (hv:BytesIn w cv n bs) (cS:∀ s W,Below w.heap.size w W→BytesIn W s (v2L (8+l.length) n) (v2B (8+l.length) (litB (lMls ++ l)) n bs)→AnsE 36 #[pv,iv,s,.slice none 0 0,tv] W L A N B E) :
 AnsE 16 #[pv,iv,.string (strL l),cv,tv] w L A N B E:=by
 have hfi:=rfits_good l hl cv n bs hn w hv
 have hla:=rLabelled_good l h hl cv n bs hbs hn w hv
 obtain ⟨S,hS⟩:∃ S,S=strL l:=⟨_,rfl⟩
 obtain ⟨T,hT⟩:∃ T,T=v2L (8+l.length) n:=⟨_,rfl⟩
 obtain ⟨F,hF⟩:∃ F,F=v2B (8+l.length) (litB (lMls ++ l)) n bs:=⟨_,rfl⟩
 rw [←hT,←hF] at hla cS
 rw [←hS] at hla hfi ⊢
 clear hS hT hF hv
 go_enter Tryz.func16,Tryz.ntmps16
 go_wp2_with (first
  | (go_at_call 23;refine hfi.mono ?_;clear hfi;rintro e w1 ⟨rfl,hw1⟩;obtain rfl:=hw1.symm)
  | (go_at_call 25;refine hla.mono ?_;clear hla;rintro e w2 ⟨s2,rfl,own2,b2⟩;(have cS2:=cS s2 w2 b2 own2.bytesIn);clear cS)
  | (go_at_call 36;refine cS2.mono ?_;clear cS2;rintro e w5 ⟨a5,p5,rfl,A5,P5,hb5⟩))
 go_ret3
 exact ⟨a5,p5,rfl,A5,P5,below_next b2 hb5⟩
theorem rSeal5_long (l:List Nat) (pv iv cv tv:Value) (n:Nat) (bs:Nat→Nat) (hn:65528<l.length∨65528<n) (w:World) (hv:BytesIn w cv n bs) :
 Calls Tryz.prog 16 #[pv,iv,.string (strL l),cv,tv] w fun e w'=>e = .returned (.tuple #[.slice none 0 0,.slice none 0 0,.int .i64 6])∧Below w.heap.size w w':=by
 have hfi:=rfits_long l cv n bs hn w hv
 obtain ⟨S,hS⟩:∃ S,S=strL l:=⟨_,rfl⟩
 rw [←hS] at hfi ⊢
 clear hS hv hn
 go_enter Tryz.func16,Tryz.ntmps16
 go_wp2_with (go_at_call 23;refine hfi.mono ?_;clear hfi;rintro e w2 ⟨rfl,rfl⟩)
 go_ret3
 exact ⟨rfl,Below.refl _ _⟩
theorem cOpen5_good (l:List Nat) (h:∀ x,x∈l→x<256) (hl:l.length≤65528) (pv iv cv tv:Value) (n:Nat) (bs:Nat→Nat) (hbs:∀ j,bs j<256) (hn:n≤65528) (L:Nat) (A:Nat→Nat) (E:Int) (w:World) (hv:BytesIn w cv n bs) (cS:∀ s W,Below w.heap.size w W→BytesIn W s (v2L (8+l.length) n) (v2B (8+l.length) (litB (lMls ++ l)) n bs)→AnsD 37 #[pv,iv,s,.slice none 0 0,tv] W L A E) :
 AnsD 17 #[pv,.string (strL l),cv,iv,tv] w L A E:=by
 have hla:=labelled_good l h hl cv n bs hbs hn w hv
 obtain ⟨S,hS⟩:∃ S,S=strL l:=⟨_,rfl⟩
 obtain ⟨T,hT⟩:∃ T,T=v2L (8+l.length) n:=⟨_,rfl⟩
 obtain ⟨F,hF⟩:∃ F,F=v2B (8+l.length) (litB (lMls ++ l)) n bs:=⟨_,rfl⟩
 rw [←hT,←hF] at hla cS
 rw [←hS] at hla ⊢
 clear hS hT hF hv
 go_enter Tryz.func17,Tryz.ntmps17
 go_wp2_with (first
  | (go_at_call 21;refine hla.mono ?_;clear hla;rintro e w2 ⟨s2,rfl,own2,b2⟩;(have cS2:=cS s2 w2 b2 own2.bytesIn);clear cS)
  | (go_at_call 37;refine cS2.mono ?_;clear cS2;rintro e w5 ⟨a5,rfl,A5,hb5⟩))
 go_ret2
 exact ⟨a5,rfl,A5,below_next b2 hb5⟩
theorem cOpen5_long (l:List Nat) (pv iv cv tv:Value) (n:Nat) (bs:Nat→Nat) (hn:65528<l.length∨65528<n) (w:World) (hv:BytesIn w cv n bs) :
 Calls Tryz.prog 17 #[pv,.string (strL l),cv,iv,tv] w fun e w'=>e = .returned (.tuple #[.slice none 0 0,.int .i64 6])∧Below w.heap.size w w':=by
 have hla:=labelled_long l cv n bs hn w hv
 obtain ⟨S,hS⟩:∃ S,S=strL l:=⟨_,rfl⟩
 rw [←hS] at hla ⊢
 clear hS hv hn
 go_enter Tryz.func17,Tryz.ntmps17
 go_wp2_with (go_at_call 21;refine hla.mono ?_;clear hla;rintro e w2 ⟨rfl,rfl⟩)
 go_ret2
 exact ⟨rfl,Below.refl _ _⟩
theorem rOpen5_good (l:List Nat) (h:∀ x,x∈l→x<256) (hl:l.length≤65528) (pv iv cv tv:Value) (n:Nat) (bs:Nat→Nat) (hbs:∀ j,bs j<256) (hn:n≤65528) (L:Nat) (A:Nat→Nat) (E:Int) (w:World) (hv:BytesIn w cv n bs) (cS:∀ s W,Below w.heap.size w W→BytesIn W s (v2L (8+l.length) n) (v2B (8+l.length) (litB (lMls ++ l)) n bs)→AnsD 38 #[pv,iv,s,.slice none 0 0,tv] W L A E) :
 AnsD 18 #[pv,.string (strL l),cv,iv,tv] w L A E:=by
 have hfi:=rfits_good l hl cv n bs hn w hv
 have hla:=rLabelled_good l h hl cv n bs hbs hn w hv
 obtain ⟨S,hS⟩:∃ S,S=strL l:=⟨_,rfl⟩
 obtain ⟨T,hT⟩:∃ T,T=v2L (8+l.length) n:=⟨_,rfl⟩
 obtain ⟨F,hF⟩:∃ F,F=v2B (8+l.length) (litB (lMls ++ l)) n bs:=⟨_,rfl⟩
 rw [←hT,←hF] at hla cS
 rw [←hS] at hla hfi ⊢
 clear hS hT hF hv
 go_enter Tryz.func18,Tryz.ntmps18
 go_wp2_with (first
  | (go_at_call 23;refine hfi.mono ?_;clear hfi;rintro e w1 ⟨rfl,hw1⟩;obtain rfl:=hw1.symm)
  | (go_at_call 25;refine hla.mono ?_;clear hla;rintro e w2 ⟨s2,rfl,own2,b2⟩;(have cS2:=cS s2 w2 b2 own2.bytesIn);clear cS)
  | (go_at_call 38;refine cS2.mono ?_;clear cS2;rintro e w5 ⟨a5,rfl,A5,hb5⟩))
 go_ret2
 exact ⟨a5,rfl,A5,below_next b2 hb5⟩
theorem rOpen5_long (l:List Nat) (pv iv cv tv:Value) (n:Nat) (bs:Nat→Nat) (hn:65528<l.length∨65528<n) (w:World) (hv:BytesIn w cv n bs) :
 Calls Tryz.prog 18 #[pv,.string (strL l),cv,iv,tv] w fun e w'=>e = .returned (.tuple #[.slice none 0 0,.int .i64 6])∧Below w.heap.size w w':=by
 have hfi:=rfits_long l cv n bs hn w hv
 obtain ⟨S,hS⟩:∃ S,S=strL l:=⟨_,rfl⟩
 rw [←hS] at hfi ⊢
 clear hS hv hn
 go_enter Tryz.func18,Tryz.ntmps18
 go_wp2_with (go_at_call 23;refine hfi.mono ?_;clear hfi;rintro e w2 ⟨rfl,rfl⟩)
 go_ret2
 exact ⟨rfl,Below.refl _ _⟩
theorem v2_lt5 {l:List Nat} (h:∀ x,x∈l→x<256) {n:Nat} {bs:Nat→Nat} (hbs:∀ j,bs j<256) (j:Nat):v2B (8+l.length) (litB (lMls ++ l)) n bs j<256:=v2B_lt (litB_lt (mls_lt h)) hbs j
theorem seal_both5 (l:List Nat) (h:∀ x,x∈l→x<256) (n pn m tn:Nat) (bs x ikm T:Nat→Nat) (hbs:∀ j,bs j<256) (hx:∀ j,x j<256) (hikm:∀ j,ikm j<256) (hT:∀ j,T j<256) (hm:m+300<140737488355000) :
 ∃ L A N B E,(∀ j,A j<256)∧(∀ j,B j<256)∧(∀ pv iv cv tv W,TabAt W→BytesIn W pv pn x→BytesIn W iv m ikm→BytesIn W cv n bs→BytesIn W tv tn T→AnsE 15 #[pv,iv,.string (strL l),cv,tv] W L A N B E)∧(∀ pv iv cv tv W,BytesIn W pv pn x→BytesIn W iv m ikm→BytesIn W cv n bs→BytesIn W tv tn T→AnsE 16 #[pv,iv,.string (strL l),cv,tv] W L A N B E):=by
 by_cases hl:l.length≤65528∧n≤65528
 · obtain ⟨L,A,N,B,E,lA,lB,c,r⟩:=sealto_both pn m (v2L (8+l.length) n) 0 tn x ikm (v2B (8+l.length) (litB (lMls ++ l)) n bs) lZ T hx hikm (v2_lt5 h hbs) lZ_lt5 hT hm
   exact ⟨L,A,N,B,E,lA,lB,fun pv iv cv tv W hW h1 h2 h3 h4=>cSeal5_good l h hl.1 pv iv cv tv n bs hbs hl.2 L A N B E W h3 fun s V hb hs=>c pv iv s _ tv V (hW.still hb).h (h1.keep hb) (h2.keep hb) hs (nil_bytes V lZ) (h4.keep hb),
    fun pv iv cv tv W h1 h2 h3 h4=>rSeal5_good l h hl.1 pv iv cv tv n bs hbs hl.2 L A N B E W h3 fun s V hb hs=>r pv iv s _ tv V (h1.keep hb) (h2.keep hb) hs (nil_bytes V lZ) (h4.keep hb)⟩
 · exact ⟨0,lZ,0,lZ,6,lZ_lt5,lZ_lt5,fun pv iv cv tv W hW h1 h2 h3 h4=>ansE_nil (cSeal5_long l pv iv cv tv n bs (by omega) W h3),fun pv iv cv tv W h1 h2 h3 h4=>ansE_nil (rSeal5_long l pv iv cv tv n bs (by omega) W h3)⟩
theorem open_both5 (l:List Nat) (h:∀ x,x∈l→x<256) (n pn m tn:Nat) (bs k x T:Nat→Nat) (hbs:∀ j,bs j<256) (hk:∀ j,k j<256) (hx:∀ j,x j<256) (hT:∀ j,T j<256) :
 ∃ L A E,(∀ j,A j<256)∧(∀ pv iv cv tv W,TabAt W→BytesIn W pv pn k→BytesIn W iv m x→BytesIn W cv n bs→BytesIn W tv tn T→AnsD 17 #[pv,.string (strL l),cv,iv,tv] W L A E)∧(∀ pv iv cv tv W,BytesIn W pv pn k→BytesIn W iv m x→BytesIn W cv n bs→BytesIn W tv tn T→AnsD 18 #[pv,.string (strL l),cv,iv,tv] W L A E):=by
 by_cases hl:l.length≤65528∧n≤65528
 · obtain ⟨L,A,E,lA,c,r⟩:=openby_both pn m (v2L (8+l.length) n) 0 tn k x (v2B (8+l.length) (litB (lMls ++ l)) n bs) lZ T hk hx (v2_lt5 h hbs) lZ_lt5 hT
   exact ⟨L,A,E,lA,fun pv iv cv tv W hW h1 h2 h3 h4=>cOpen5_good l h hl.1 pv iv cv tv n bs hbs hl.2 L A E W h3 fun s V hb hs=>c pv iv s _ tv V (hW.still hb).h (h1.keep hb) (h2.keep hb) hs (nil_bytes V lZ) (h4.keep hb),
    fun pv iv cv tv W h1 h2 h3 h4=>rOpen5_good l h hl.1 pv iv cv tv n bs hbs hl.2 L A E W h3 fun s V hb hs=>r pv iv s _ tv V (h1.keep hb) (h2.keep hb) hs (nil_bytes V lZ) (h4.keep hb)⟩
 · exact ⟨0,lZ,6,lZ_lt5,fun pv iv cv tv W hW h1 h2 h3 h4=>ansD_nil (cOpen5_long l pv iv cv tv n bs (by omega) W h3),fun pv iv cv tv W h1 h2 h3 h4=>ansD_nil (rOpen5_long l pv iv cv tv n bs (by omega) W h3)⟩
end Go.Proofs.YtibdhadbflfdpaaGreatDoor
namespace Go.Proofs.YtibdhadbflfdpaaGreatDoor
open Go.RowKit
set_option maxRecDepth 20000 in
set_option maxHeartbeats 4000000 in
theorem knows15 (w:World) (hT:TabAt w):Calls Tryz.prog 13 #[] w fun e w'=>e = .returned (.bool true)∧Below w.heap.size w w':=by
 have cE:=fun (v:Value) (W:World) (hT:TabAt W) (hv:BytesIn W v 32 lZ)=>anE5 (exN_lt 32 lZ [97] 0 lZ 32) (cExpand_good [97] (by decide) (by decide) v (.slice none 0 0) 32 0 lZ lZ lZ_lt5 lZ_lt5 (by decide) (by decide) 32 (by decide) W hT.h hv (nil_bytes W lZ))
 have cA:=fun (v:Value) (W:World) (hT:TabAt W) (hv:BytesIn W v 32 lZ)=>anB5 (exN_lt 32 lZ [97] 0 lZ 32) (cDerive_good5 [97] (by decide) (by decide) v 32 lZ lZ_lt5 (by decide) W hT.h hv)
 have cB:=fun (v:Value) (W:World) (hT:TabAt W) (hv:BytesIn W v 32 lZ)=>anB5 (exN_lt 32 lZ [98] 0 lZ 32) (cDerive_good5 [98] (by decide) (by decide) v 32 lZ lZ_lt5 (by decide) W hT.h hv)
 have cR:=fun (v:Value) (W:World) (hT:TabAt W) (hv:BytesIn W v 32 lZ)=>cRef_good [120] (by decide) (by decide) v 32 lZ lZ_lt5 (by decide) W hT.h hv
 replace cE:∀ (v:Value) (W:World),TabAt W→BytesIn W v 32 lZ→Calls Tryz.prog 28 #[v,.string { data:=#[97] },.slice none 0 0,.int .i64 32] W fun e w'=>∃ x c,e = .returned (.tuple #[.slice x 32 c,.int .i64 0])∧Cs w' (.slice x 32 c) (strB 32 (exN 32 lZ [97] 0 lZ 32))∧Below W.heap.size W w':=fun v W hT hv=>(cExpand_good [97] (by decide) (by decide) v (.slice none 0 0) 32 0 lZ lZ lZ_lt5 lZ_lt5 (by decide) (by decide) 32 (by decide) W hT.h hv (nil_bytes W lZ)).mono fun _ _ ⟨s,h1,h2,h3⟩=>by
  obtain ⟨x,c,rfl,-⟩:=h2.src
  exact ⟨x,c,h1,h2.cs (exN_lt 32 lZ [97] 0 lZ 32),h3⟩
 replace cA:∀ (v:Value) (W:World),TabAt W→BytesIn W v 32 lZ→AnB5 29 #[v,.string { data:=#[97] }] W (strB 32 (exN 32 lZ [97] 0 lZ 32)):=cA
 replace cB:∀ (v:Value) (W:World),TabAt W→BytesIn W v 32 lZ→AnB5 29 #[v,.string { data:=#[98] }] W (strB 32 (exN 32 lZ [98] 0 lZ 32)):=cB
 replace cR:∀ (v:Value) (W:World),TabAt W→BytesIn W v 32 lZ→Calls Tryz.prog 30 #[.string { data:=#[120] },v] W fun e w'=>∃ s,e = .returned s∧BytesIn w' s 32 (rfN [120] 32 lZ)∧Below W.heap.size W w':=cR
 have hne:=strB_ne (n:=32) (exN_lt 32 lZ [98] 0 lZ 32) (exN_lt 32 lZ [97] 0 lZ 32) (by decide) ex_ab
 generalize strB 32 (exN 32 lZ [97] 0 lZ 32)=SA at *
 generalize strB 32 (exN 32 lZ [98] 0 lZ 32)=SB at *
 have e1:(SA.toList == SA.toList)=true:=beq_self_eq_true _
 have e2:(SB.toList == SA.toList)=false:=by
  rw [beq_eq_false_iff_ne]
  exact fun e=>hne (WideShapes.bytes_inj (by simpa [ByteArray.toList_eq] using e))
 have e3:(SB.toList != SA.toList)=true:=by rw [bne,e2];rfl
 have hzb:BytesIn (w.alloc (.cells (zb 32) 5)) (.slice (some ⟨w.heap.size,0,none⟩) 32 32) 32 lZ:=(Own.made w.heap.size w 32 (by decide) (Nat.le_refl _)).bytesIn
 have b1:Below w.heap.size w (w.alloc (.cells (zb 32) 5)):=(Below.refl _ _).alloc (Nat.le_refl _) _
 have cE1:=cE _ _ (hT.still b1) hzb
 have hm:=make_bytes w 32 32 rfl (by decide)
 clear cE hne
 have HB:=Hid.mk' hzb
 have B1:=Hid.mk' b1
 have HT:=Hid.mk' hT
 clear hzb b1 hT
 go_enter Tryz.func13,Tryz.ntmps13
 go_upto_region 3 with (first
  | rw [hm]
  | (go_at_call 28;refine cE1.mono ?_;clear cE1;rintro e w2 ⟨xa,ca,rfl,ta,hb2⟩))
 have bz:=HB.out.still hb2
 have hw:=below_next B1.out hb2
 have hT:=HT.out.still hw
 clear HB B1 HT hb2
 have hdrew:Below w2.heap.size w2 w2.drew:=(Below.refl _ _).drew
 replace hT:=hT.still hdrew
 replace bz:=bz.still hdrew
 replace ta:=ta.still hdrew
 replace hw:=below_next hw hdrew
 clear hdrew
 refine wp_region_noPanic ?_
 refine wp_region_held_drew (S:=fun w'=>Below w2.drew.heap.size w2.drew w') (by kernel_rfl) (Below.refl _ _) (fun hHeld => ?_)
 clear hHeld
 refine tg 0 bR ?_
 (try simp only [pS])
 refine wpAnyH_ready (rs:=[1]) (by kernel_rfl) (by simp) ?_
 refine AllReadyH.cons (o:=oN 11 (cF1 9 #[oT 10] #[24]) 3 "law.go:20" #[jD 0]) rfl (fun K hK => ?_) AllReadyH.nil
 go_simp
 (go_at_call 9;refine (num15_any _ _).mono ?_;rintro e wn ⟨rfl,hwn⟩;subst hwn)
 (try go_simp)
 refine hK.out _ _ (Below.refl _ _) (fun h => ?_)
 clear h hK K
 (try simp only [pS])
 refine tg 2 bR ?_
 (try simp only [pS])
 refine tg 3 bR ?_
 (try simp only [pS])
 refine tg 4 bR ?_
 (try simp only [pS])
 refine tg 5 bR ?_
 (try simp only [pS])
 refine tg 6 bR ?_
 (try simp only [pS])
 refine tg 7 bR ?_
 (try simp only [pS])
 refine tg 8 bR ?_
 (try simp only [pS])
 refine tg 9 bR ?_
 (try simp only [pS])
 refine tg 12 bR ?_
 (try simp only [pS])
 refine tk 13 _ bR (hy := .inl ⟨by rfl,fun w hSw=>by have q:=ta.conv w hSw;go_simp;try with_reducible rfl⟩) (h := ?_)
 (try simp only [pS])
 refine cn 10 (cA _ _ hT bz) ?_
 (rintro e w11 ⟨x11,n11,c11,rfl,t11,hb11⟩)
 refine ⟨_,rfl,hb11,?_⟩
 replace hT:=hT.still hb11
 replace bz:=bz.still hb11
 replace ta:=ta.still hb11
 replace hw:=below_next hw hb11
 clear hb11
 (try simp only [pS])
 refine tk 11 _ bR (hy := .inl ⟨by rfl,fun w hSw=>by have q:=t11.conv w hSw;go_simp;try with_reducible rfl⟩) (h := ?_)
 (try simp only [pS])
 refine tg 14 bR ?_
 (try simp only [pS])
 refine tg 15 bR ?_
 (try simp only [pS])
 refine tg 16 bR ?_
 (try simp only [pS])
 refine tg 17 bR ?_
 (try simp only [pS])
 refine tg 20 bR ?_
 (try simp only [pS])
 refine tk 21 _ bR (hy := .inl ⟨by rfl,fun w hSw=>by have q:=ta.conv w hSw;go_simp;try with_reducible rfl⟩) (h := ?_)
 (try simp only [pS])
 refine cn 18 (cB _ _ hT bz) ?_
 (rintro e w12 ⟨x12,n12,c12,rfl,t12,hb12⟩)
 refine ⟨_,rfl,hb12,?_⟩
 replace hT:=hT.still hb12
 replace bz:=bz.still hb12
 replace ta:=ta.still hb12
 replace t11:=t11.still hb12
 replace hw:=below_next hw hb12
 clear hb12
 (try simp only [pS])
 refine tk 19 _ bR (hy := .inl ⟨by rfl,fun w hSw=>by have q:=t12.conv w hSw;go_simp;try with_reducible rfl⟩) (h := ?_)
 (try simp only [pS])
 refine tg 22 bR ?_
 (try simp only [pS])
 refine tg 23 bR ?_
 (try simp only [pS])
 refine tg 24 bR ?_
 (try simp only [pS])
 refine tg 25 bR ?_
 (try simp only [pS])
 refine cn 26 (cR _ _ hT bz) ?_
 (rintro e w13 ⟨s13,rfl,y13,hb13⟩;(obtain ⟨x13,c13,hs13,-⟩:=y13.src);subst hs13)
 refine ⟨_,rfl,hb13,?_⟩
 replace hT:=hT.still hb13
 replace bz:=bz.still hb13
 replace ta:=ta.still hb13
 replace t11:=t11.still hb13
 replace t12:=t12.still hb13
 replace hw:=below_next hw hb13
 clear hb13
 (try simp only [pS])
 refine tg 27 bR ?_
 (try simp only [pS])
 refine tg 28 bR ?_
 (try simp only [pS])
 refine tg 29 bR ?_
 (try simp only [pS])
 refine tg 30 bR ?_
 (try simp only [pS])
 refine wpAnyH_done (by kernel_rfl) ?_ _
 refine NoPanic.normal ?_
 go_wp2
 go_ret
 exact ⟨rfl,hw⟩
end Go.Proofs.YtibdhadbflfdpaaGreatDoor
namespace Go.Proofs.YtibdhadbflfdpaaGreatDoor
open Go.RowKit
set_option maxRecDepth 20000 in
set_option maxHeartbeats 8000000 in
theorem labelsSeals_any (v0 v1 v3 v4:Value) (l o:List Nat) (hl:∀ x,x∈l→x<256) (ho:∀ x,x∈o→x<256) (n0 n1 n3 n4:Nat) (b0 b1 b3 b4:Nat→Nat) (l0:∀ j,b0 j<256) (l1:∀ j,b1 j<256) (l3:∀ j,b3 j<256) (l4:∀ j,b4 j<256) (k0:n0+300<140737488355000) (k1:n1+300<140737488355000) (k3:n3<140737488355000) (k4:n4<140737488355000) (w:World) (hT:TabAt w) (h0:BytesIn w v0 n0 b0) (h1:BytesIn w v1 n1 b1) (h3:BytesIn w v3 n3 b3) (h4:BytesIn w v4 n4 b4) :
 Calls Tryz.prog 4 #[v0,v1,.string (strL l),v3,v4,.string (strL o)] w fun e w'=>e = .returned (.bool true)∧Below w.heap.size w w':=by
 have hnum:=num15_any
 have lD:∀ j,dsN n0 b0 j<256:=dsN_lt _ _
 have lP:∀ j,puN (dsN n0 b0) j<256:=puN_lt _
 have c1:=rDerive_any v0 n0 b0 l0 k0 w h0
 obtain ⟨La,A,Lb,B,E,lA,lB,cS,rS⟩:=seal_both5 l hl n3 32 n1 n4 b3 (puN (dsN n0 b0)) b1 b4 l3 lP l1 l4 k1
 obtain ⟨Lc,C,F,lC,cO,rO⟩:=open_both5 o ho n3 32 La Lb b3 (dsN n0 b0) A B l3 lD lA lB
 generalize dsN n0 b0=D at *
 generalize puN D=P at *
 generalize strL l=S at *
 generalize strL o=O at *
 have c2:=fun W (h:BytesIn W v3 n3 b3)=>lent_any v3 n3 b3 W h k3
 have c3:=fun W (h:BytesIn W v4 n4 b4)=>lent_any v4 n4 b4 W h k4
 have s0:∀ S:ByteArray,(S.toList == S.toList)=true:=fun _=>beq_self_eq_true _
 have HT:=Hid.mk' hT
 have H1:=Hid.mk' h1
 have H3:=Hid.mk' h3
 have H4:=Hid.mk' h4
 have e0:=h0.src
 have e1:=h1.src
 have e3:=h3.src
 have e4:=h4.src
 clear hT h0 h1 h3 h4
 obtain ⟨x0,d0,rfl,-⟩:=e0
 obtain ⟨x1,d1,rfl,-⟩:=e1
 obtain ⟨x3,d3,rfl,-⟩:=e3
 obtain ⟨x4,d4,rfl,-⟩:=e4
 go_enter Tryz.func4,Tryz.ntmps4
 go_upto_region 8 with (first
  | (go_at_call 14;refine c1.mono ?_;clear c1;rintro e w1 ⟨s1,p1,rfl,o1,q1,bw⟩;(have y1:=c2 w1 (H3.out.still bw));clear c2)
  | (go_at_call 6;refine y1.mono ?_;clear y1;rintro e w2 ⟨g2,m2,rfl,hc2,-,r2,hb2⟩;(have lx:LntAt w2 g2 m2 n3 b3:=⟨hc2,r2⟩);(replace bw:=below_next bw hb2);(replace o1:=o1.still hb2);(replace q1:=q1.still hb2);(have y2:=c3 w2 (H4.out.still bw));clear c3 hb2 hc2 r2)
  | (go_at_call 6;refine y2.mono ?_;clear y2;rintro e w3 ⟨g3,m3,rfl,hc3,-,r3,hb3⟩;(have ly:LntAt w3 g3 m3 n4 b4:=⟨hc3,r3⟩);(replace bw:=below_next bw hb3);(replace lx:=lx.still hb3);(replace o1:=o1.still hb3);(replace q1:=q1.still hb3);(have y3:=cS _ _ _ _ w3 (HT.out.still bw) q1 (H1.out.still bw) lx.bytes ly.bytes);clear cS hb3 hc3 r3)
  | (go_at_call 15;refine y3.mono ?_;clear y3;rintro e w4 ⟨s4,p4,rfl,o4,q4,hb4⟩;(replace bw:=below_next bw hb4);(replace lx:=lx.still hb4);(replace ly:=ly.still hb4);(replace o1:=o1.still hb4);(replace q1:=q1.still hb4);(have y4:=rS _ _ _ _ w4 q1 (H1.out.still bw) (H3.out.still bw) (H4.out.still bw));clear rS hb4)
  | (go_at_call 16;refine y4.mono ?_;clear y4;rintro e w5 ⟨s5,p5,rfl,o5,q5,hb5⟩;(replace bw:=below_next bw hb5);(replace lx:=lx.still hb5);(replace ly:=ly.still hb5);(replace o1:=o1.still hb5);(replace o4:=o4.still hb5);(replace q4:=q4.still hb5);(have y5:=cO _ _ _ _ w5 (HT.out.still bw) o1 o4 lx.bytes q4);clear cO hb5 q1)
  | (go_at_call 17;refine y5.mono ?_;clear y5;rintro e w6 ⟨s6,rfl,o6,hb6⟩;(replace bw:=below_next bw hb6);(replace lx:=lx.still hb6);(replace ly:=ly.still hb6);(replace o1:=o1.still hb6);(replace o4:=o4.still hb6);(replace q4:=q4.still hb6);(replace o5:=o5.still hb6);(replace q5:=q5.still hb6);(have y6:=rO _ _ _ _ w6 o1 o5 (H3.out.still bw) q5);clear rO hb6)
  | (go_at_call 18;refine y6.mono ?_;clear y6;rintro e w7 ⟨s7,rfl,o7,hb7⟩;(replace bw:=below_next bw hb7);(replace lx:=lx.still hb7);(replace ly:=ly.still hb7);(replace o4:=o4.still hb7);(replace q4:=q4.still hb7);(replace o5:=o5.still hb7);(replace q5:=q5.still hb7);(replace o6:=o6.still hb7);clear hb7 o1))
 have a1:=o4.conv lA w7 (Below.refl _ _)
 have a2:=o5.conv lA w7 (Below.refl _ _)
 have a3:=q4.conv lB w7 (Below.refl _ _)
 have a4:=q5.conv lB w7 (Below.refl _ _)
 have a5:=o6.conv lC w7 (Below.refl _ _)
 have a6:=o7.conv lC w7 (Below.refl _ _)
 have e1:=s0 (strB La A)
 have e2:=s0 (strB Lb B)
 have e3:=s0 (strB Lc C)
 have z1:=stays_any g2 m2 n3 _ b3 l3 w7 k3 lx.cap lx.row (H3.out.still bw)
 have z2:=fun W (hb:Below w7.heap.size w7 W)=>stays_any g3 m3 n4 _ b4 l4 W k4 ly.cap (ly.still hb).row (H4.out.still (below_next bw hb))
 have z3:=fun W (hb:Below w.heap.size w W)=>knows15 W (HT.out.still hb)
 clear o4 q4 o5 q5 o6 o7 s0 lx ly HT H1 H3 H4 lA lB lC lD lP
 generalize strB La A=S1 at *
 generalize strB Lb B=S2 at *
 generalize strB Lc C=S3 at *
 go_wp2_with (first
  | (go_at_call 9;refine (hnum _ _).mono ?_;rintro e wn ⟨rfl,rfl⟩)
  | rw [a1]
  | rw [a2]
  | rw [a3]
  | rw [a4]
  | rw [a5]
  | rw [a6]
  | (go_at_call 12;refine z1.mono ?_;clear z1;rintro e w8 ⟨rfl,hb8⟩;(have y8:=z2 w8 hb8);clear z2)
  | (go_at_call 12;refine y8.mono ?_;clear y8;rintro e w9 ⟨rfl,hb9⟩;(have bz:=below_next (below_next bw hb8) hb9);(have y9:=z3 w9 bz);clear z3)
  | (go_at_call 13;refine y9.mono ?_;clear y9;rintro e w10 ⟨rfl,hb10⟩))
 go_ret
 exact ⟨rfl,below_next bz hb10⟩
end Go.Proofs.YtibdhadbflfdpaaGreatDoor
namespace Go.Proofs.YtibdhadbflfdpaaGreatDoor
open Go.RowKit
def litS (s:ByteArray):List Nat:=s.data.toList.map UInt8.toNat
theorem litS_lt (s:ByteArray):∀ x,x∈litS s→x<256:=by
 intro x hx
 obtain ⟨y,-,rfl⟩:=List.mem_map.1 hx
 exact y.toNat_lt
theorem str_lit (s:ByteArray):strL (litS s)=s:=by
 apply ByteArray.ext
 unfold strL litS
 rw [List.map_map]
 have e:(UInt8.ofNat ∘ UInt8.toNat)=id:=by
  funext y
  exact UInt8.ofNat_toNat
 rw [e,List.map_id]
theorem str_reach {H:Type} {ts:List TypeId} {ds:List (DataW H)} (hR:(DataW.weightsEach Tryz.prog ts ds).all (·≤reachBytes)=true) {j:Nat} {s:ByteArray} (ht:ts[j]? = some 9) (hd:ds[j]? = some (.lit (.string s.data.toList))):s.size<140737488355000:=by
 have h:=sized_string hR ht hd
 have e:s.data.toList.length=s.size:=Array.length_toList
 rw [e] at h
 unfold reachBytes at h
 omega
end Go.Proofs.YtibdhadbflfdpaaGreatDoor
