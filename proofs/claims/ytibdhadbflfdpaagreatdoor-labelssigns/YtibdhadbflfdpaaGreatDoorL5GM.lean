/- What the proof stands on: L5G, L5H, L5T, L5P. -/
import Derived.Test.YtibdhadbflfdpaaGreatDoorL5AM
import Derived.Test.YtibdhadbflfdpaaGreatDoorLentM
import Derived.Test.YtibdhadbflfdpaaGreatDoorSgRVerM
import Derived.Test.YtibdhadbflfdpaaGreatDoorSgVerM
import Derived.ChangeMaps5
namespace Go.Proofs.YtibdhadbflfdpaaGreatDoor
open Go.RowKit
abbrev Au (f:FuncId) (args:Array Value) (W:World) (z:Int):Prop:=Calls Tryz.prog f args W fun e w'=>e = .returned (.int .i64 z)∧Below W.heap.size W w'
theorem mA (l:List Nat) (h:∀ x,x∈l→x<256) (hl:l.length≤65528) (pv cv:Value) (n:Nat) (bs:Nat→Nat) (hbs:∀ j,bs j<256) (hn:n≤65528) (T:ByteArray) (E:Int) (w:World) (hv:ae w cv n bs) (cS:∀ s W,Below w.heap.size w W→ae W s (iE (8+l.length) n) (jv (8+l.length) (bm (dB ++ l)) n bs)→tZ 22 #[pv,s] W T E) :
 tZ 7 #[pv,.string (bg l),cv] w T E:=by
 have hla:=gB l h hl cv n bs hbs hn w hv
 obtain ⟨S,hS⟩:∃ S,S=bg l:=⟨_,rfl⟩
 obtain ⟨T,hT⟩:∃ T,T=iE (8+l.length) n:=⟨_,rfl⟩
 obtain ⟨F,hF⟩:∃ F,F=jv (8+l.length) (bm (dB ++ l)) n bs:=⟨_,rfl⟩
 rw [←hT,←hF] at hla cS;rw [←hS] at hla ⊢;clear hS hT hF hv;go_enter Tryz.func7,Tryz.ntmps7
 go_wp2_with (first
  | (go_at_call 21;refine hla.mono ?_;clear hla;rintro e w2 ⟨s2,rfl,own2,b2⟩;(have cS2:=cS s2 w2 b2 own2.bytesIn);clear cS)
  | (go_at_call 22;refine cS2.mono ?_;clear cS2;rintro e w5 ⟨x5,n5,c5,rfl,t5,hb5⟩))
 go_ret2;exact ⟨x5,n5,c5,rfl,t5,aa b2 hb5⟩
theorem un (l:List Nat) (pv cv:Value) (n:Nat) (bs:Nat→Nat) (hn:65528<l.length∨65528<n) (w:World) (hv:ae w cv n bs) :
 Calls Tryz.prog 7 #[pv,.string (bg l),cv] w fun e w'=>e = .returned (.tuple #[.slice none 0 0,.int .i64 6])∧Below w.heap.size w w':=by
 have hla:=ju l cv n bs hn w hv
 obtain ⟨S,hS⟩:∃ S,S=bg l:=⟨_,rfl⟩
 rw [←hS] at hla ⊢;clear hS hv hn;go_enter Tryz.func7,Tryz.ntmps7;go_wp2_with (go_at_call 21;refine hla.mono ?_;clear hla;rintro e w2 ⟨rfl,rfl⟩);go_ret2;exact ⟨rfl,Below.refl _ _⟩
theorem mM (l:List Nat) (h:∀ x,x∈l→x<256) (hl:l.length≤65528) (pv cv:Value) (n:Nat) (bs:Nat→Nat) (hbs:∀ j,bs j<256) (hn:n≤65528) (T:ByteArray) (E:Int) (w:World) (hv:ae w cv n bs) (cS:∀ s W,Below w.heap.size w W→ae W s (iE (8+l.length) n) (jv (8+l.length) (bm (dB ++ l)) n bs)→tZ 24 #[pv,s] W T E) :
 tZ 8 #[pv,.string (bg l),cv] w T E:=by
 have hfi:=pa l hl cv n bs hn w hv;have hla:=jc l h hl cv n bs hbs hn w hv
 obtain ⟨S,hS⟩:∃ S,S=bg l:=⟨_,rfl⟩
 obtain ⟨T,hT⟩:∃ T,T=iE (8+l.length) n:=⟨_,rfl⟩
 obtain ⟨F,hF⟩:∃ F,F=jv (8+l.length) (bm (dB ++ l)) n bs:=⟨_,rfl⟩
 rw [←hT,←hF] at hla cS;rw [←hS] at hla hfi ⊢;clear hS hT hF hv;go_enter Tryz.func8,Tryz.ntmps8
 go_wp2_with (first
  | (go_at_call 23;refine hfi.mono ?_;clear hfi;rintro e w1 ⟨rfl,hw1⟩;obtain rfl:=hw1.symm)
  | (go_at_call 25;refine hla.mono ?_;clear hla;rintro e w2 ⟨s2,rfl,own2,b2⟩;(have cS2:=cS s2 w2 b2 own2.bytesIn);clear cS)
  | (go_at_call 24;refine cS2.mono ?_;clear cS2;rintro e w5 ⟨x5,n5,c5,rfl,t5,hb5⟩))
 go_ret2;exact ⟨x5,n5,c5,rfl,t5,aa b2 hb5⟩
theorem tM (l:List Nat) (pv cv:Value) (n:Nat) (bs:Nat→Nat) (hn:65528<l.length∨65528<n) (w:World) (hv:ae w cv n bs) :
 Calls Tryz.prog 8 #[pv,.string (bg l),cv] w fun e w'=>e = .returned (.tuple #[.slice none 0 0,.int .i64 6])∧Below w.heap.size w w':=by
 have hfi:=oJ l cv n bs hn w hv
 obtain ⟨S,hS⟩:∃ S,S=bg l:=⟨_,rfl⟩
 rw [←hS] at hfi ⊢;clear hS hv hn;go_enter Tryz.func8,Tryz.ntmps8;go_wp2_with (go_at_call 23;refine hfi.mono ?_;clear hfi;rintro e w2 ⟨rfl,rfl⟩);go_ret2;exact ⟨rfl,Below.refl _ _⟩
theorem pQ (l:List Nat) (h:∀ x,x∈l→x<256) (hl:l.length≤65528) (pv sv cv:Value) (n:Nat) (bs:Nat→Nat) (hbs:∀ j,bs j<256) (hn:n≤65528) (z:Int) (w:World) (hv:ae w cv n bs) (cS:∀ s W,Below w.heap.size w W→ae W s (iE (8+l.length) n) (jv (8+l.length) (bm (dB ++ l)) n bs)→Au 26 #[pv,s,sv] W z) :
 Au 10 #[pv,.string (bg l),cv,sv] w z:=by
 have hla:=gB l h hl cv n bs hbs hn w hv
 obtain ⟨S,hS⟩:∃ S,S=bg l:=⟨_,rfl⟩
 obtain ⟨T,hT⟩:∃ T,T=iE (8+l.length) n:=⟨_,rfl⟩
 obtain ⟨F,hF⟩:∃ F,F=jv (8+l.length) (bm (dB ++ l)) n bs:=⟨_,rfl⟩
 rw [←hT,←hF] at hla cS;rw [←hS] at hla ⊢;clear hS hT hF hv;go_enter Tryz.func10,Tryz.ntmps10
 go_wp2_with (first
  | (go_at_call 21;refine hla.mono ?_;clear hla;rintro e w2 ⟨s2,rfl,own2,b2⟩;(have cS2:=cS s2 w2 b2 own2.bytesIn);clear cS)
  | (go_at_call 26;refine cS2.mono ?_;clear cS2;rintro e w5 ⟨rfl,hb5⟩))
 go_ret;exact ⟨rfl,aa b2 hb5⟩
theorem pJ (l:List Nat) (pv sv cv:Value) (n:Nat) (bs:Nat→Nat) (hn:65528<l.length∨65528<n) (w:World) (hv:ae w cv n bs) :
 Calls Tryz.prog 10 #[pv,.string (bg l),cv,sv] w fun e w'=>e = .returned (.int .i64 6)∧Below w.heap.size w w':=by
 have hla:=ju l cv n bs hn w hv
 obtain ⟨S,hS⟩:∃ S,S=bg l:=⟨_,rfl⟩
 rw [←hS] at hla ⊢;clear hS hv hn;go_enter Tryz.func10,Tryz.ntmps10;go_wp2_with (go_at_call 21;refine hla.mono ?_;clear hla;rintro e w2 ⟨rfl,rfl⟩);go_ret;exact ⟨rfl,Below.refl _ _⟩
theorem pE (l:List Nat) (h:∀ x,x∈l→x<256) (hl:l.length≤65528) (pv sv cv:Value) (n:Nat) (bs:Nat→Nat) (hbs:∀ j,bs j<256) (hn:n≤65528) (z:Int) (w:World) (hv:ae w cv n bs) (cS:∀ s W,Below w.heap.size w W→ae W s (iE (8+l.length) n) (jv (8+l.length) (bm (dB ++ l)) n bs)→Au 27 #[pv,s,sv] W z) :
 Au 11 #[pv,.string (bg l),cv,sv] w z:=by
 have hfi:=pa l hl cv n bs hn w hv;have hla:=jc l h hl cv n bs hbs hn w hv
 obtain ⟨S,hS⟩:∃ S,S=bg l:=⟨_,rfl⟩
 obtain ⟨T,hT⟩:∃ T,T=iE (8+l.length) n:=⟨_,rfl⟩
 obtain ⟨F,hF⟩:∃ F,F=jv (8+l.length) (bm (dB ++ l)) n bs:=⟨_,rfl⟩
 rw [←hT,←hF] at hla cS;rw [←hS] at hla hfi ⊢;clear hS hT hF hv;go_enter Tryz.func11,Tryz.ntmps11
 go_wp2_with (first
  | (go_at_call 23;refine hfi.mono ?_;clear hfi;rintro e w1 ⟨rfl,hw1⟩;obtain rfl:=hw1.symm)
  | (go_at_call 25;refine hla.mono ?_;clear hla;rintro e w2 ⟨s2,rfl,own2,b2⟩;(have cS2:=cS s2 w2 b2 own2.bytesIn);clear cS)
  | (go_at_call 27;refine cS2.mono ?_;clear cS2;rintro e w5 ⟨rfl,hb5⟩))
 go_ret;exact ⟨rfl,aa b2 hb5⟩
theorem pM (l:List Nat) (pv sv cv:Value) (n:Nat) (bs:Nat→Nat) (hn:65528<l.length∨65528<n) (w:World) (hv:ae w cv n bs) :
 Calls Tryz.prog 11 #[pv,.string (bg l),cv,sv] w fun e w'=>e = .returned (.int .i64 6)∧Below w.heap.size w w':=by
 have hfi:=oJ l cv n bs hn w hv
 obtain ⟨S,hS⟩:∃ S,S=bg l:=⟨_,rfl⟩
 rw [←hS] at hfi ⊢;clear hS hv hn;go_enter Tryz.func11,Tryz.ntmps11;go_wp2_with (go_at_call 23;refine hfi.mono ?_;clear hfi;rintro e w2 ⟨rfl,rfl⟩);go_ret;exact ⟨rfl,Below.refl _ _⟩
theorem nH {l:List Nat} (h:∀ x,x∈l→x<256) {n:Nat} {bs:Nat→Nat} (hbs:∀ j,bs j<256) (j:Nat):jv (8+l.length) (bm (dB ++ l)) n bs j<256:=wA (jq (oG h)) hbs j
theorem ua (bs:Nat→Nat) (n:Nat) (ts:Nat→Nat) (j:Nat):zu bs n ts j<256:=Eg _ _ _ _
theorem xC {G:World→Prop} {R:List Value→Fp × Fp→Prop} (cx:gi G R) (hGk:∀ w w',G w→Below w.heap.size w w'→G w') (l:List Nat) (h:∀ x,x∈l→x<256) (n sn:Nat) (bs ks:Nat→Nat) (hbs:∀ j,bs j<256) (hks:∀ j,ks j<256) :
 ∃ T E,(∀ pv cv W,G W→ae W pv sn ks→ae W cv n bs→tZ 7 #[pv,.string (bg l),cv] W T E)∧(∀ pv cv W,ae W pv sn ks→ae W cv n bs→tZ 8 #[pv,.string (bg l),cv] W T E):=by
 by_cases hl:l.length≤65528∧n≤65528
 · have hle:=rJ (8+l.length) n
   by_cases h32:sn=32
   · subst h32
     exact ⟨_,0,fun pv cv W hG h1 h2=>mA l h hl.1 pv cv n bs hbs hl.2 _ 0 W h2 fun s V hb hs=>Gr (ua ks _ _) ((zF cx pv s _ ks _ hks (nH h hbs) (by omega) V (h1.keep hb) hs (hGk _ _ hG hb)).mono fun _ _ ⟨g,cap,he,hc,r,b⟩=>⟨_,he,.inr ⟨g,0,cap,rfl,block_lt_of_cell (r 0 (by decide)).1,hc,fun j hj=>(r j hj).1⟩,b⟩),
      fun pv cv W h1 h2=>mM l h hl.1 pv cv n bs hbs hl.2 _ 0 W h2 fun s V hb hs=>Gr (ua ks _ _) (xI pv s _ ks _ hks (nH h hbs) (by omega) V (h1.keep hb) hs)⟩
   · exact ⟨_,1,fun pv cv W hG h1 h2=>mA l h hl.1 pv cv n bs hbs hl.2 _ 1 W h2 fun s V hb hs=>yU (Dy pv s sn ks V (h1.keep hb) h32),
      fun pv cv W h1 h2=>mM l h hl.1 pv cv n bs hbs hl.2 _ 1 W h2 fun s V hb hs=>yU ((AB pv s sn ks V (h1.keep hb) h32).mono fun _ _ ⟨a,b⟩=>⟨a,b ▸ Below.refl _ _⟩)⟩
 · exact ⟨_,6,fun pv cv W hG h1 h2=>yU (un l pv cv n bs (by omega) W h2),fun pv cv W h1 h2=>yU (tM l pv cv n bs (by omega) W h2)⟩
theorem sB {G:World→Prop} {R:List Value→Fp × Fp→Prop} (cx:gi G R) (hGk:∀ w w',G w→Below w.heap.size w w'→G w') (l:List Nat) (h:∀ x,x∈l→x<256) (n pn q:Nat) (bs ps ss:Nat→Nat) (hbs:∀ j,bs j<256) (hps:∀ j,ps j<256) (hss:∀ j,ss j<256) :
 ∃ z,(∀ pv sv cv W,G W→ae W pv pn ps→ae W cv n bs→ae W sv q ss→Au 10 #[pv,.string (bg l),cv,sv] W z)∧(∀ pv sv cv W,ae W pv pn ps→ae W cv n bs→ae W sv q ss→Au 11 #[pv,.string (bg l),cv,sv] W z):=by
 by_cases hl:l.length≤65528∧n≤65528
 · have hle:=rJ (8+l.length) n
   exact ⟨_,fun pv sv cv W hG h1 h2 h3=>pQ l h hl.1 pv sv cv n bs hbs hl.2 _ W h2 fun s V hb hs=>xM cx pv s sv pn _ q ps _ ss hps (nH h hbs) hss (by omega) V (h1.keep hb) hs (h3.keep hb) (hGk _ _ hG hb),
    fun pv sv cv W h1 h2 h3=>pE l h hl.1 pv sv cv n bs hbs hl.2 _ W h2 fun s V hb hs=>uh pv s sv pn _ q ps _ ss hps (nH h hbs) hss (by omega) V (h1.keep hb) hs (h3.keep hb)⟩
 · exact ⟨6,fun pv sv cv W hG h1 h2 h3=>pJ l pv sv cv n bs (by omega) W h2,fun pv sv cv W h1 h2 h3=>pM l pv sv cv n bs (by omega) W h2⟩
set_option maxRecDepth 20000 in
set_option maxHeartbeats 4000000 in
theorem Eb (w:World) (hT:iq w):Calls Tryz.prog 13 #[] w fun e w'=>e = .returned (.bool true)∧Below w.heap.size w w':=by
 have cE:=fun (v:Value) (W:World) (hT:iq W) (hv:ae W v 32 lZ)=>Gr (lN 32 lZ [97] 0 lZ 32) (ik [97] (by decide) (by decide) v (.slice none 0 0) 32 0 lZ lZ iV iV (by decide) (by decide) 32 (by decide) W hT.h hv (jj W lZ))
 have cA:=fun (v:Value) (W:World) (hT:iq W) (hv:ae W v 32 lZ)=>IV (lN 32 lZ [97] 0 lZ 32) (jF [97] (by decide) (by decide) v 32 lZ iV (by decide) W hT.h hv)
 have cB:=fun (v:Value) (W:World) (hT:iq W) (hv:ae W v 32 lZ)=>IV (lN 32 lZ [98] 0 lZ 32) (jF [98] (by decide) (by decide) v 32 lZ iV (by decide) W hT.h hv)
 have cR:=fun (v:Value) (W:World) (hT:iq W) (hv:ae W v 32 lZ)=>zJ [120] (by decide) (by decide) v 32 lZ iV (by decide) W hT.h hv
 replace cE:∀ (v:Value) (W:World),iq W→ae W v 32 lZ→Calls Tryz.prog 28 #[v,.string { data:=#[97] },.slice none 0 0,.int .i64 32] W fun e w'=>∃ x c,e = .returned (.tuple #[.slice x 32 c,.int .i64 0])∧Cs w' (.slice x 32 c) (bF 32 (vN 32 lZ [97] 0 lZ 32))∧Below W.heap.size W w':=fun v W hT hv=>(ik [97] (by decide) (by decide) v (.slice none 0 0) 32 0 lZ lZ iV iV (by decide) (by decide) 32 (by decide) W hT.h hv (jj W lZ)).mono fun _ _ ⟨s,h1,h2,h3⟩=>by
  obtain ⟨x,c,rfl,-⟩:=h2.src;exact ⟨x,c,h1,h2.cs (lN 32 lZ [97] 0 lZ 32),h3⟩
 replace cA:∀ (v:Value) (W:World),iq W→ae W v 32 lZ→Gw 29 #[v,.string { data:=#[97] }] W (bF 32 (vN 32 lZ [97] 0 lZ 32)):=cA;replace cB:∀ (v:Value) (W:World),iq W→ae W v 32 lZ→Gw 29 #[v,.string { data:=#[98] }] W (bF 32 (vN 32 lZ [98] 0 lZ 32)):=cB
 replace cR:∀ (v:Value) (W:World),iq W→ae W v 32 lZ→Calls Tryz.prog 30 #[.string { data:=#[120] },v] W fun e w'=>∃ s,e = .returned s∧ae w' s 32 (Jw [120] 32 lZ)∧Below W.heap.size W w':=cR
 have hne:=D3 (n:=32) (lN 32 lZ [98] 0 lZ 32) (lN 32 lZ [97] 0 lZ 32) (by decide) I5;generalize bF 32 (vN 32 lZ [97] 0 lZ 32)=SA at *;generalize bF 32 (vN 32 lZ [98] 0 lZ 32)=SB at *;have e1:(SA.toList == SA.toList)=true:=beq_self_eq_true _
 have e2:(SB.toList == SA.toList)=false:=by
  rw [beq_eq_false_iff_ne]
  exact fun e=>hne (WideShapes.bytes_inj (by simpa [ByteArray.toList_eq] using e))
 have e3:(SB.toList != SA.toList)=true:=by rw [bne,e2];rfl
 have hzb:ae (w.alloc (.cells (zb 32) 5)) (.slice (some ⟨w.heap.size,0,none⟩) 32 32) 32 lZ:=(bx.made w.heap.size w 32 (by decide) (Nat.le_refl _)).bytesIn;have b1:Below w.heap.size w (w.alloc (.cells (zb 32) 5)):=(Below.refl _ _).alloc (Nat.le_refl _) _;have cE1:=cE _ _ (hT.still b1) hzb;have hm:=cO w 32 32 rfl (by decide);clear cE hne;have HB:=Hid.mk' hzb;have B1:=Hid.mk' b1;have HT:=Hid.mk' hT;clear hzb b1 hT;go_enter Tryz.func13,Tryz.ntmps13
 go_upto_region 3 with (first
  | rw [hm]
  | (go_at_call 28;refine cE1.mono ?_;clear cE1;rintro e w2 ⟨xa,ca,rfl,ta,hb2⟩))
 have bz:=HB.out.still hb2;have hw:=aa B1.out hb2;have hT:=HT.out.still hw;clear HB B1 HT hb2;have hdrew:Below w2.heap.size w2 w2.drew:=(Below.refl _ _).drew;replace hT:=hT.still hdrew;replace bz:=bz.still hdrew;replace ta:=ta.still hdrew;replace hw:=aa hw hdrew;clear hdrew;refine wp_region_noPanic ?_;refine wp_region_held_drew (S:=fun w'=>Below w2.drew.heap.size w2.drew w') (by kernel_rfl) (Below.refl _ _) (fun hHeld => ?_);clear hHeld;refine tg 0 bR ?_;(try simp only [pS]);refine wpAnyH_ready (rs:=[1]) (by kernel_rfl) (by simp) ?_;refine AllReadyH.cons (o:=oN 11 (dA 9 #[oT 10] #[24]) 3 "law.go:20" #[jD 0]) rfl (fun K hK => ?_) AllReadyH.nil;go_simp;(go_at_call 9;refine (qE _ _).mono ?_;rintro e wn ⟨rfl,hwn⟩;subst hwn);(try go_simp);refine hK.out _ _ (Below.refl _ _) (fun h => ?_);clear h hK K;(try simp only [pS]);refine tg 2 bR ?_;(try simp only [pS]);refine tg 3 bR ?_;(try simp only [pS]);refine tg 4 bR ?_;(try simp only [pS]);refine tg 5 bR ?_;(try simp only [pS]);refine tg 6 bR ?_;(try simp only [pS]);refine tg 7 bR ?_;(try simp only [pS]);refine tg 8 bR ?_;(try simp only [pS]);refine tg 9 bR ?_;(try simp only [pS]);refine tg 12 bR ?_;(try simp only [pS]);refine tk 13 _ bR (hy := .inl ⟨by rfl,fun w hSw=>by have q:=ta.conv w hSw;go_simp;try with_reducible rfl⟩) (h := ?_);(try simp only [pS]);refine cn 10 (cA _ _ hT bz) ?_
 (rintro e w11 ⟨x11,n11,c11,rfl,t11,hb11⟩)
 refine ⟨_,rfl,hb11,?_⟩;replace hT:=hT.still hb11;replace bz:=bz.still hb11;replace ta:=ta.still hb11;replace hw:=aa hw hb11;clear hb11;(try simp only [pS]);refine tk 11 _ bR (hy := .inl ⟨by rfl,fun w hSw=>by have q:=t11.conv w hSw;go_simp;try with_reducible rfl⟩) (h := ?_);(try simp only [pS]);refine tg 14 bR ?_;(try simp only [pS]);refine tg 15 bR ?_;(try simp only [pS]);refine tg 16 bR ?_;(try simp only [pS]);refine tg 17 bR ?_;(try simp only [pS]);refine tg 20 bR ?_;(try simp only [pS]);refine tk 21 _ bR (hy := .inl ⟨by rfl,fun w hSw=>by have q:=ta.conv w hSw;go_simp;try with_reducible rfl⟩) (h := ?_);(try simp only [pS]);refine cn 18 (cB _ _ hT bz) ?_
 (rintro e w12 ⟨x12,n12,c12,rfl,t12,hb12⟩)
 refine ⟨_,rfl,hb12,?_⟩;replace hT:=hT.still hb12;replace bz:=bz.still hb12;replace ta:=ta.still hb12;replace t11:=t11.still hb12;replace hw:=aa hw hb12;clear hb12;(try simp only [pS]);refine tk 19 _ bR (hy := .inl ⟨by rfl,fun w hSw=>by have q:=t12.conv w hSw;go_simp;try with_reducible rfl⟩) (h := ?_);(try simp only [pS]);refine tg 22 bR ?_;(try simp only [pS]);refine tg 23 bR ?_;(try simp only [pS]);refine tg 24 bR ?_;(try simp only [pS]);refine tg 25 bR ?_;(try simp only [pS]);refine cn 26 (cR _ _ hT bz) ?_
 (rintro e w13 ⟨s13,rfl,y13,hb13⟩;(obtain ⟨x13,c13,hs13,-⟩:=y13.src);subst hs13)
 refine ⟨_,rfl,hb13,?_⟩;replace hT:=hT.still hb13;replace bz:=bz.still hb13;replace ta:=ta.still hb13;replace t11:=t11.still hb13;replace t12:=t12.still hb13;replace hw:=aa hw hb13;clear hb13;(try simp only [pS]);refine tg 27 bR ?_;(try simp only [pS]);refine tg 28 bR ?_;(try simp only [pS]);refine tg 29 bR ?_;(try simp only [pS]);refine tg 30 bR ?_;(try simp only [pS]);refine wpAnyH_done (by kernel_rfl) ?_ _;refine NoPanic.normal ?_;go_wp2;go_ret;exact ⟨rfl,hw⟩
set_option maxRecDepth 20000 in
set_option maxHeartbeats 8000000 in
theorem m8 {G:World→Prop} {R:List Value→Fp × Fp→Prop} (cx:gi G R) (hGk:∀ w w',G w→Below w.heap.size w w'→G w') (v0 v2 v3 v4:Value) (l:List Nat) (hl:∀ x,x∈l→x<256) (n0 n2 n3 n4:Nat) (b0 b2 b3 b4:Nat→Nat) (l0:∀ j,b0 j<256) (l2:∀ j,b2 j<256) (l3:∀ j,b3 j<256) (l4:∀ j,b4 j<256) (k0:n0<140737488355000) (k2:n2<140737488355000) (w:World) (hG:G w) (h0:ae w v0 n0 b0) (h2:ae w v2 n2 b2) (h3:ae w v3 n3 b3) (h4:ae w v4 n4 b4) :
 Calls Tryz.prog 3 #[v0,.string (bg l),v2,v3,v4] w fun e w'=>e = .returned (.bool true)∧Below w.heap.size w w':=by
 have hnum:=qE;obtain ⟨T,E,cS,rS⟩:=xC cx hGk l hl n2 n0 b2 b0 l2 l0;obtain ⟨z,cV,rV⟩:=sB cx hGk l hl n2 n3 n4 b2 b3 b4 l2 l3 l4;generalize bg l=S at *;have c1:=vj v2 n2 b2 w h2 k2
 have c2:=fun W (h:ae W v0 n0 b0)=>vj v0 n0 b0 W h k0
 have e1:(T.toList == T.toList)=true:=beq_self_eq_true _;have HT:=Hid.mk' hG;have H0:=Hid.mk' h0;have H2:=Hid.mk' h2;have H3:=Hid.mk' h3;have H4:=Hid.mk' h4;have f0:=h0.src;have f2:=h2.src;have f3:=h3.src;have f4:=h4.src;clear hG h0 h2 h3 h4;obtain ⟨x0,d0,rfl,-⟩:=f0;obtain ⟨x2,d2,rfl,-⟩:=f2;obtain ⟨x3,d3,rfl,-⟩:=f3;obtain ⟨x4,d4,rfl,-⟩:=f4;go_enter Tryz.func3,Tryz.ntmps3
 go_upto_region 4 with (first
  | (go_at_call 6;refine c1.mono ?_;clear c1;rintro e w1 ⟨g1,m1,rfl,hc1,-,r1,bw⟩;(have lx:nY w1 g1 m1 n2 b2:=⟨hc1,r1⟩);(have y1:=c2 w1 (H0.out.still bw));clear c2 hc1 r1)
  | (go_at_call 6;refine y1.mono ?_;clear y1;rintro e w2 ⟨g2,m2,rfl,hc2,-,r2,hb2⟩;(have ly:nY w2 g2 m2 n0 b0:=⟨hc2,r2⟩);(replace bw:=aa bw hb2);(replace lx:=lx.still hb2);(have y2:=cS _ _ w2 (hGk _ _ HT.out bw) ly.bytes lx.bytes);clear cS hb2 hc2 r2 ly)
  | (go_at_call 7;refine y2.mono ?_;clear y2;rintro e w3 ⟨xa,na,ca,rfl,ta,hb3⟩;(replace bw:=aa bw hb3);(replace lx:=lx.still hb3);(have y3:=rS _ _ w3 (H0.out.still bw) (H2.out.still bw));clear rS hb3)
  | (go_at_call 8;refine y3.mono ?_;clear y3;rintro e w4 ⟨xb,nb,cb,rfl,tb,hb4⟩;(replace bw:=aa bw hb4);(replace lx:=lx.still hb4);(replace ta:=ta.still hb4);clear hb4))
 have a1:=ta.conv w4 (Below.refl _ _);have a2:=tb.conv w4 (Below.refl _ _);have y4:=cV _ _ _ w4 (hGk _ _ HT.out bw) (H3.out.still bw) lx.bytes (H4.out.still bw)
 have q5:=fun W (hb:Below w.heap.size w W)=>rV _ _ _ W (H3.out.still hb) (H2.out.still hb) (H4.out.still hb)
 have q6:=fun W (hb:Below w4.heap.size w4 W)=>A6 g1 m1 n2 _ b2 l2 W k2 lx.cap (lx.still hb).row (H2.out.still (aa bw hb))
 have q7:=fun W (hb:Below w.heap.size w W)=>Eb W ⟨cx.tab _ (hGk _ _ HT.out hb)⟩
 clear ta tb lx HT H0 H2 H3 H4 cV rV
 go_wp2_with (first
  | (go_at_call 9;refine (hnum _ _).mono ?_;rintro e wn ⟨rfl,hwn⟩;obtain rfl:=hwn.symm)
  | rw [a1]
  | rw [a2]
  | (go_at_call 10;refine y4.mono ?_;clear y4;rintro e w5 ⟨rfl,hb5⟩;(have b5:=aa bw hb5);(have y5:=q5 w5 b5);clear q5)
  | (go_at_call 11;refine y5.mono ?_;clear y5;rintro e w6 ⟨rfl,hb6⟩;(have b6:=aa b5 hb6);(have y6:=q6 w6 (aa hb5 hb6));clear q6)
  | (go_at_call 12;refine y6.mono ?_;clear y6;rintro e w7 ⟨rfl,hb7⟩;(have b7:=aa b6 hb7);(have y7:=q7 w7 b7);clear q7)
  | (go_at_call 13;refine y7.mono ?_;clear y7;rintro e w8 ⟨rfl,hb8⟩))
 go_ret;exact ⟨rfl,aa b7 hb8⟩
def Id (s:ByteArray):List Nat:=s.data.toList.map UInt8.toNat
theorem EH (s:ByteArray):∀ x,x∈Id s→x<256:=by
 intro x hx;obtain ⟨y,-,rfl⟩:=List.mem_map.1 hx;exact y.toNat_lt
theorem D8 (s:ByteArray):bg (Id s)=s:=by
 apply ByteArray.ext;unfold bg Id;rw [List.map_map]
 have e:(UInt8.ofNat ∘ UInt8.toNat)=id:=by
  funext y
  exact UInt8.ofNat_toNat
 rw [e,List.map_id]
theorem zZ {H:Type} {ts:List TypeId} {ds:List (DataW H)} (hR:(DataW.weightsEach Tryz.prog ts ds).all (·≤reachBytes)=true) {j:Nat} {s:ByteArray} (ht:ts[j]? = some 9) (hd:ds[j]? = some (.lit (.string s.data.toList))):s.size<140737488355000:=by
 have h:=sized_string hR ht hd;have e:s.data.toList.length=s.size:=Array.length_toList;rw [e] at h;unfold reachBytes at h;omega
end Go.Proofs.YtibdhadbflfdpaaGreatDoor
