/- The law GcmStreams in the model. -/
import Derived.Test.YtalgabgofpmebaaG9FitM
import Derived.Test.YtalgabgofpmebaaG9MM
namespace Go.Proofs.Ytalgabgofpmebaa
open Go.RowKit
theorem slB_begin (ks nn:Nat→Nat) (ml:Nat) (M:Nat→Nat) (n k:Nat) (X:Nat→Nat) (hk:k≤n) (j:Nat) (hj:j<k):slB ks nn ml M n X j=slB ks nn ml M k X j:=by
 unfold slB slN cat
 rw [if_pos (by omega),if_pos hj]
theorem seal_own (v u m t:Value) (ml n:Nat) (ks nn M X:Nat→Nat) (hml:ml≤65536) (hn:n≤65536) (hks:∀ j,ks j<256) (hnn:∀ j,nn j<256) (hM:∀ j,M j<256) (hX:∀ j,X j<256) (w:World) (hv:BytesIn w v 16 ks) (hu:BytesIn w u 12 nn) (hm:BytesIn w m ml M) (ht:BytesIn w t n X) :
 Calls Try.prog 18 #[v,u,m,t] w fun e w'=>∃ g cap,e = .returned (.tuple #[.slice (some ⟨g,0,none⟩) (n+16) cap,.int .i64 0])∧w.heap.size≤g∧n+16≤cap∧RowAt .u8 w' g 0 (n+16) (slB ks nn ml M n X)∧Below w.heap.size w w' :=
 (seal_good v u m t ml n ks nn M X hml hn hks hnn hM hX w hv hu hm ht).mono fun _ _ ⟨s,he,ho,hb⟩=>by
  obtain ⟨g,cap,rfl,hg,-,hc,hr⟩:=ho.form.resolve_left (fun h=>by omega)
  exact ⟨g,cap,he,hg,hc,hr.congr (fun j hj=>(Nat.mod_eq_of_lt (slN_lt hks hnn hX ml n j hj)).symm),hb⟩
theorem rem_in (z:Int) (L:Nat) (hL:0<L) (hL2:L<1000000):∃ k:Nat,(wrap64 (z.tmod (L:Int)+(L:Int))).tmod (L:Int)=(k:Int)∧k<L:=by
 have h1:=Int.lt_tmod_of_pos z (b:=(L:Int)) (by omega)
 have h2:=Int.tmod_lt_of_pos z (b:=(L:Int)) (by omega)
 have e:wrap64 (z.tmod (L:Int)+(L:Int))=z.tmod (L:Int)+(L:Int):=by unfold wrap64;omega
 rw [e]
 have h3:=Int.tmod_nonneg (L:Int) (a:=z.tmod (L:Int)+(L:Int)) (by omega)
 have h4:=Int.tmod_lt_of_pos (z.tmod (L:Int)+(L:Int)) (b:=(L:Int)) (by omega)
 exact ⟨((z.tmod (L:Int)+(L:Int)).tmod (L:Int)).toNat,by omega,by omega⟩
set_option maxRecDepth 20000 in
set_option maxHeartbeats 8000000 in
theorem gcmStreams_any (v0 v1 v2 v3:Value) (n0 n1 n2 n3:Nat) (b0 b1 b2 b3:Nat→Nat) (l0:∀ j,b0 j<256) (l1:∀ j,b1 j<256) (l3:∀ j,b3 j<256) (z:Int) (w:World) (h0:BytesIn w v0 n0 b0) (h1:BytesIn w v1 n1 b1) (h2:BytesIn w v2 n2 b2) (h3:BytesIn w v3 n3 b3) (k3:n3<140737488355000) :
 Calls Try.prog 9 #[.agg #[v0,v1,v2,v3],.int .i64 z] w fun e w'=>e = .returned (.bool true)∧Below w.heap.size w w':=by
 have ca:=fun W hb=>fit9_any 16 (by decide) v0 n0 b0 W (h0.keep hb)
 have cb:=fun W hb=>fit9_any 12 (by decide) v1 n1 b1 W (h1.keep hb)
 obtain ⟨A,hA⟩:∃ A,A=fitN 16 n0 b0:=⟨_,rfl⟩
 obtain ⟨B,hB⟩:∃ B,B=fitN 12 n1 b1:=⟨_,rfl⟩
 have lA:∀ j,A j<256:=by rw [hA];exact fitN_lt l0
 have lB:∀ j,B j<256:=by rw [hB];exact fitN_lt l1
 rw [←hA] at ca
 rw [←hB] at cb
 have ck:=knows9
 obtain ⟨x0,c0,rfl,-,-,-⟩:=h0.src
 obtain ⟨x1,c1,rfl,-,-,-⟩:=h1.src
 obtain ⟨x2,c2,rfl,-,-,-⟩:=h2.src
 obtain ⟨x3,c3,rfl,-,hc3,-⟩:=h3.src
 obtain ⟨V,hV⟩:∃ V,V=w.alloc (.cells #[.slice x0 n0 c0,.slice x1 n1 c1,.slice x2 n2 c2,.slice x3 n3 c3] 33):=⟨_,rfl⟩
 have rX:RW V w.heap.size 0 [.slice x0 n0 c0,.slice x1 n1 c1,.slice x2 n2 c2,.slice x3 n3 c3]:=by rw [hV];exact RW.fresh w [_,_,_,_] _
 have b:Below w.heap.size w V:=by rw [hV];exact (Below.refl _ _).alloc (Nat.le_refl _) _
 have HV:=Hid.mk' hV
 obtain ⟨f0,f1,f2,f3⟩:=box4 rX
 replace ca:=ca V b
 have hw0:IntKind.i64.wrap 0=0:=rfl
 clear h0 h1 h2 l0 l1 hA hB hV
 rcases (show 2000<n3∨(0<n3∧n3≤2000)∨n3=0 by omega) with hn | ⟨hn,hn2⟩ | hn
 · obtain ⟨bb3,ob3,cc3,hv3,hbb3,hcc3,hr3⟩:=h3.resolve_left (fun ⟨_,_,h⟩=>by omega)
   cases hv3
   have t1:(2000:Int)<(n3:Int):=by omega
   have t2:(2000:Int)≤(c3:Int):=by omega
   have hT:BytesIn w (.slice (some ⟨bb3,ob3,none⟩) 2000 c3) 2000 b3 := .inr ⟨bb3,ob3,c3,rfl,hbb3,by omega,fun j hj=>hr3 j (by omega)⟩
   obtain ⟨κ,hκ,hκl⟩:=rem_in z 2000 (by omega) (by omega)
   have hκ2:(wrap64 (z.tmod 2000+2000)).tmod 2000=(κ:Int):=hκ
   have s1:=fun v u t W hv hu ht=>seal_own v u (.slice none 0 0) t 0 2000 A B z0 b3 (by decide) (by omega) lA lB hz0 l3 W hv hu (BytesIn.none0 _ _) ht
   have s2:=fun v u t W hv hu ht=>seal_own v u (.slice none 0 0) t 0 κ A B z0 b3 (by decide) (by omega) lA lB hz0 l3 W hv hu (BytesIn.none0 _ _) ht
   have eS:strB κ (slB A B 0 z0 2000 b3)=strB κ (slB A B 0 z0 κ b3):=strB_congr fun j hj=>slB_begin A B 0 z0 2000 κ b3 (by omega) j hj
   have cv:=fun (N:Nat) (W:World) g c (h:RowAt .u8 W g 0 (N+16) (slB A B 0 z0 N b3)) (hk:κ≤N)=>conv_bytes W g 0 κ c (slB A B 0 z0 N b3) (fun j=>Nat.mod_lt _ (by decide)) (fun j hj=>(h j (by omega)).1)
   have hK:BytesIn w (.slice (some ⟨bb3,ob3,none⟩) κ c3) κ b3 := .inr ⟨bb3,ob3,c3,rfl,hbb3,by omega,fun j hj=>hr3 j (by omega)⟩
   have u1:(0:Int)≤(κ:Int)∧(κ:Int)≤(c3:Int):=by omega
   obtain ⟨N2,hN2⟩:∃ N,N=κ+16:=⟨_,rfl⟩
   rw [←hN2] at s2
   have y2:IntKind.i64.wrap ((κ:Int)+16)=(N2:Int):=by simp only [IntKind.wrap_i64];omega
   have y4:(κ:Int)+16=(N2:Int):=by omega
   have y7:IntKind.i64.wrap (N2:Int)=(N2:Int):=by simp only [IntKind.wrap_i64];omega
   have HN2:=Hid.mk' hN2
   clear  hN2
   have y8:IntKind.i64.wrap 2016=2016:=rfl
   have y9:IntKind.i64.wrap 16=16:=rfl
   clear h3 l3 hr3
   go_enter Try.func9,Try.ntmps9
   go_upto_region 9 with (first
   | (go_at_call 22;rw [←HV.out];refine ca.mono ?_;clear ca HV;rintro e w1 ⟨ga,rfl,-,ra,bb⟩;(replace rX:=rX.still bb);(replace b:=below_next b bb);(obtain ⟨f0,f1,f2,f3⟩:=box4 rX);(replace cb:=cb w1 b);clear bb)
   | (go_at_call 22;refine cb.mono ?_;clear cb;rintro e w2 ⟨gb,rfl,-,rb,bb⟩;(replace rX:=rX.still bb);(replace ra:=ra.still bb);(replace b:=below_next b bb);(obtain ⟨f0,f1,f2,f3⟩:=box4 rX);clear bb))
   replace s1:=s1 _ _ _ w2 (rowB ra (by decide) (Nat.le_refl _)) (rowB rb (by decide) (Nat.le_refl _)) (hT.keep b)
   clear hT
   go_upto_region 11 with (first
    | (go_at_call 18;refine s1.mono ?_;clear s1;rintro e w3 ⟨g1,p1,rfl,-,hp1,r1,bb⟩;(replace ra:=ra.still bb);(replace rb:=rb.still bb);(replace b:=below_next b bb);(replace s2:=s2 _ _ _ w3 (rowB ra (by decide) (Nat.le_refl _)) (rowB rb (by decide) (Nat.le_refl _)) (hK.keep b));clear bb hK)
    | (go_at_call 18;refine s2.mono ?_;clear s2;rintro e w4 ⟨g2,p2,rfl,-,hp2,r2,bb⟩;(replace r1:=r1.still bb);(replace b:=below_next b bb);clear bb))
   have hdr:Below w4.heap.size w4 w4.drew:=(Below.refl _ _).drew
   replace r1:=r1.still hdr
   replace r2:=r2.still hdr
   replace b:=below_next b hdr
   have o1:(κ:Int)≤(p1:Int):=by omega
   have o2:(κ:Int)≤(p2:Int):=by have:=HN2.out;omega
   have q1:=fun (u:World) (hu:Below w4.drew.heap.size w4.drew u)=>cv 2000 u g1 p1 (r1.still hu) (by omega)
   have q2:=fun (u:World) (hu:Below w4.drew.heap.size w4.drew u)=>cv κ u g2 p2 (by rw [←HN2.out];exact r2.still hu) (Nat.le_refl _)
   simp only [eS] at q1
   obtain ⟨S1,hS1⟩:∃ S,S=strB κ (slB A B 0 z0 κ b3):=⟨_,rfl⟩
   simp only [←hS1] at q1 q2
   clear cv eS hS1
   refine wp_region_noPanic ?_
   refine wp_region_held_drew (S:=fun u=>Below w4.drew.heap.size w4.drew u) (by kernel_rfl) (Below.refl _ _) (fun hS => ?_)
   generalize w4.drew=V4 at *
   refine tg 0 hS ?_
   (try simp only [pS])
   refine tg 2 hS ?_
   (try simp only [pS])
   refine cl 1 (num9_any 0 V4) ?_
   rintro e V11 ⟨rfl,hv11⟩
   subst hv11
   refine ⟨_,rfl,hS,?_⟩
   (try simp only [pS])
   refine cl 3 (num9_any 0 _) ?_
   rintro e V13 ⟨rfl,hv13⟩
   subst hv13
   refine ⟨_,rfl,hS,?_⟩
   (try simp only [pS])
   refine tg 4 hS (v := .int .i64 0) ?_
   (try simp only [pS])
   refine tg 5 hS (v := .bool true) ?_
   (try simp only [pS])
   refine tg 6 hS ?_
   (try simp only [pS])
   refine tg 7 hS ?_
   (try simp only [pS])
   refine tg 8 hS ?_
   (try simp only [pS])
   refine tg 9 hS ?_
   (try simp only [pS])
   refine tg 10 hS ?_
   (try simp only [pS])
   refine tg 11 hS ?_
   (try simp only [pS])
   refine tg 12 hS (v := .bool true) ?_
   (try simp only [pS])
   refine tg 13 hS (v := .bool true) ?_
   (try simp only [pS])
   refine tg 14 hS ?_
   (try simp only [pS])
   refine tg 15 hS ?_
   (try simp only [pS])
   refine tg 16 hS ?_
   (try simp only [pS])
   refine tg 17 hS ?_
   (try simp only [pS])
   refine tg 18 hS ?_
   (try simp only [pS])
   refine tg 19 hS (v := .bool true) ?_
   (try simp only [pS])
   refine tg 20 hS (v := .bool true) ?_
   (try simp only [pS])
   refine tg 21 hS ?_
   (try simp only [pS])
   refine tg 22 hS ?_
   (try simp only [pS])
   refine tg 23 hS ?_
   (try simp only [pS])
   refine tg 24 hS ?_
   (try simp only [pS])
   refine tg 25 hS (v := .string S1) ?_ (hy:=fun u hu=>by
    have hq:=q1 u hu
    go_simp)
   (try simp only [pS])
   refine tg 26 hS ?_
   (try simp only [pS])
   refine tg 27 hS ?_
   (try simp only [pS])
   refine tg 28 hS ?_
   (try simp only [pS])
   refine tg 29 hS (v := .string S1) ?_ (hy:=fun u hu=>by
    have hq:=q2 u hu
    go_simp)
   (try simp only [pS])
   refine tg 30 hS (v := .bool true) ?_
   (try simp only [pS])
   refine tg 31 hS (v := .bool true) ?_
   (try simp only [pS])
   refine tg 32 hS ?_
   (try simp only [pS])
   refine cl 33 (ck _) ?_
   rintro e V33 ⟨rfl,b7⟩
   refine ⟨_,rfl,b7,?_⟩
   (try simp only [pS])
   refine tg 34 b7 (v := .bool true) ?_
   (try simp only [pS])
   refine tg 35 b7 ?_
   (try simp only [pS])
   refine wpAnyH_done (by kernel_rfl) ?_ _
   refine NoPanic.normal ?_
   go_wp2
   go_ret
   exact ⟨rfl,below_next b b7⟩
 · obtain ⟨bb3,ob3,cc3,hv3,hbb3,hcc3,hr3⟩:=h3.resolve_left (fun ⟨_,_,h⟩=>by omega)
   cases hv3
   have t1:¬(2000:Int)<(n3:Int):=by omega
   have t3:(0:Int)<(n3:Int):=by omega
   have hT:=h3
   obtain ⟨κ,hκ,hκl⟩:=rem_in z n3 (by omega) (by omega)
   have s1:=fun v u t W hv hu ht=>seal_own v u (.slice none 0 0) t 0 n3 A B z0 b3 (by decide) (by omega) lA lB hz0 l3 W hv hu (BytesIn.none0 _ _) ht
   have s2:=fun v u t W hv hu ht=>seal_own v u (.slice none 0 0) t 0 κ A B z0 b3 (by decide) (by omega) lA lB hz0 l3 W hv hu (BytesIn.none0 _ _) ht
   have eS:strB κ (slB A B 0 z0 n3 b3)=strB κ (slB A B 0 z0 κ b3):=strB_congr fun j hj=>slB_begin A B 0 z0 n3 κ b3 (by omega) j hj
   have cv:=fun (N:Nat) (W:World) g c (h:RowAt .u8 W g 0 (N+16) (slB A B 0 z0 N b3)) (hk:κ≤N)=>conv_bytes W g 0 κ c (slB A B 0 z0 N b3) (fun j=>Nat.mod_lt _ (by decide)) (fun j hj=>(h j (by omega)).1)
   have hK:BytesIn w (.slice (some ⟨bb3,ob3,none⟩) κ c3) κ b3 := .inr ⟨bb3,ob3,c3,rfl,hbb3,by omega,fun j hj=>hr3 j (by omega)⟩
   have u1:(0:Int)≤(κ:Int)∧(κ:Int)≤(c3:Int):=by omega
   obtain ⟨N1,hN1⟩:∃ N,N=n3+16:=⟨_,rfl⟩
   rw [←hN1] at s1
   have y1:IntKind.i64.wrap ((n3:Int)+16)=(N1:Int):=by simp only [IntKind.wrap_i64];omega
   have y3:(n3:Int)+16=(N1:Int):=by omega
   have y5:κ≤N1:=by omega
   have y6:IntKind.i64.wrap (N1:Int)=(N1:Int):=by simp only [IntKind.wrap_i64];omega
   have HN1:=Hid.mk' hN1
   obtain ⟨N2,hN2⟩:∃ N,N=κ+16:=⟨_,rfl⟩
   rw [←hN2] at s2
   have y2:IntKind.i64.wrap ((κ:Int)+16)=(N2:Int):=by simp only [IntKind.wrap_i64];omega
   have y4:(κ:Int)+16=(N2:Int):=by omega
   have y7:IntKind.i64.wrap (N2:Int)=(N2:Int):=by simp only [IntKind.wrap_i64];omega
   have HN2:=Hid.mk' hN2
   clear hN1 hN2
   have y8:IntKind.i64.wrap 2016=2016:=rfl
   have y9:IntKind.i64.wrap 16=16:=rfl
   clear h3 l3 hr3
   go_enter Try.func9,Try.ntmps9
   go_upto_region 9 with (first
   | (go_at_call 22;rw [←HV.out];refine ca.mono ?_;clear ca HV;rintro e w1 ⟨ga,rfl,-,ra,bb⟩;(replace rX:=rX.still bb);(replace b:=below_next b bb);(obtain ⟨f0,f1,f2,f3⟩:=box4 rX);(replace cb:=cb w1 b);clear bb)
   | (go_at_call 22;refine cb.mono ?_;clear cb;rintro e w2 ⟨gb,rfl,-,rb,bb⟩;(replace rX:=rX.still bb);(replace ra:=ra.still bb);(replace b:=below_next b bb);(obtain ⟨f0,f1,f2,f3⟩:=box4 rX);clear bb))
   replace s1:=s1 _ _ _ w2 (rowB ra (by decide) (Nat.le_refl _)) (rowB rb (by decide) (Nat.le_refl _)) (hT.keep b)
   clear hT
   go_upto_region 11 with (first
    | (go_at_call 18;refine s1.mono ?_;clear s1;rintro e w3 ⟨g1,p1,rfl,-,hp1,r1,bb⟩;(replace ra:=ra.still bb);(replace rb:=rb.still bb);(replace b:=below_next b bb);(replace s2:=s2 _ _ _ w3 (rowB ra (by decide) (Nat.le_refl _)) (rowB rb (by decide) (Nat.le_refl _)) (hK.keep b));clear bb hK)
    | (go_at_call 18;refine s2.mono ?_;clear s2;rintro e w4 ⟨g2,p2,rfl,-,hp2,r2,bb⟩;(replace r1:=r1.still bb);(replace b:=below_next b bb);clear bb))
   have hdr:Below w4.heap.size w4 w4.drew:=(Below.refl _ _).drew
   replace r1:=r1.still hdr
   replace r2:=r2.still hdr
   replace b:=below_next b hdr
   have o1:(κ:Int)≤(p1:Int):=by have:=HN1.out;omega
   have o2:(κ:Int)≤(p2:Int):=by have:=HN2.out;omega
   have q1:=fun (u:World) (hu:Below w4.drew.heap.size w4.drew u)=>cv n3 u g1 p1 (by rw [←HN1.out];exact r1.still hu) (by omega)
   have q2:=fun (u:World) (hu:Below w4.drew.heap.size w4.drew u)=>cv κ u g2 p2 (by rw [←HN2.out];exact r2.still hu) (Nat.le_refl _)
   simp only [eS] at q1
   obtain ⟨S1,hS1⟩:∃ S,S=strB κ (slB A B 0 z0 κ b3):=⟨_,rfl⟩
   simp only [←hS1] at q1 q2
   clear cv eS hS1
   refine wp_region_noPanic ?_
   refine wp_region_held_drew (S:=fun u=>Below w4.drew.heap.size w4.drew u) (by kernel_rfl) (Below.refl _ _) (fun hS => ?_)
   generalize w4.drew=V4 at *
   refine tg 0 hS ?_
   (try simp only [pS])
   refine tg 2 hS ?_
   (try simp only [pS])
   refine cl 1 (num9_any 0 V4) ?_
   rintro e V11 ⟨rfl,hv11⟩
   subst hv11
   refine ⟨_,rfl,hS,?_⟩
   (try simp only [pS])
   refine cl 3 (num9_any 0 _) ?_
   rintro e V13 ⟨rfl,hv13⟩
   subst hv13
   refine ⟨_,rfl,hS,?_⟩
   (try simp only [pS])
   refine tg 4 hS (v := .int .i64 0) ?_
   (try simp only [pS])
   refine tg 5 hS (v := .bool true) ?_
   (try simp only [pS])
   refine tg 6 hS ?_
   (try simp only [pS])
   refine tg 7 hS ?_
   (try simp only [pS])
   refine tg 8 hS ?_
   (try simp only [pS])
   refine tg 9 hS ?_
   (try simp only [pS])
   refine tg 10 hS ?_
   (try simp only [pS])
   refine tg 11 hS ?_
   (try simp only [pS])
   refine tg 12 hS (v := .bool true) ?_
   (try simp only [pS])
   refine tg 13 hS (v := .bool true) ?_
   (try simp only [pS])
   refine tg 14 hS ?_
   (try simp only [pS])
   refine tg 15 hS ?_
   (try simp only [pS])
   refine tg 16 hS ?_
   (try simp only [pS])
   refine tg 17 hS ?_
   (try simp only [pS])
   refine tg 18 hS ?_
   (try simp only [pS])
   refine tg 19 hS (v := .bool true) ?_
   (try simp only [pS])
   refine tg 20 hS (v := .bool true) ?_
   (try simp only [pS])
   refine tg 21 hS ?_
   (try simp only [pS])
   refine tg 22 hS ?_
   (try simp only [pS])
   refine tg 23 hS ?_
   (try simp only [pS])
   refine tg 24 hS ?_
   (try simp only [pS])
   refine tg 25 hS (v := .string S1) ?_ (hy:=fun u hu=>by
    have hq:=q1 u hu
    go_simp)
   (try simp only [pS])
   refine tg 26 hS ?_
   (try simp only [pS])
   refine tg 27 hS ?_
   (try simp only [pS])
   refine tg 28 hS ?_
   (try simp only [pS])
   refine tg 29 hS (v := .string S1) ?_ (hy:=fun u hu=>by
    have hq:=q2 u hu
    go_simp)
   (try simp only [pS])
   refine tg 30 hS (v := .bool true) ?_
   (try simp only [pS])
   refine tg 31 hS (v := .bool true) ?_
   (try simp only [pS])
   refine tg 32 hS ?_
   (try simp only [pS])
   refine cl 33 (ck _) ?_
   rintro e V33 ⟨rfl,b7⟩
   refine ⟨_,rfl,b7,?_⟩
   (try simp only [pS])
   refine tg 34 b7 (v := .bool true) ?_
   (try simp only [pS])
   refine tg 35 b7 ?_
   (try simp only [pS])
   refine wpAnyH_done (by kernel_rfl) ?_ _
   refine NoPanic.normal ?_
   go_wp2
   go_ret
   exact ⟨rfl,below_next b b7⟩
 · have t1:n3=0:=by omega
   subst t1
   have hT:=h3
   have s1:=fun v u t W hv hu ht=>seal_own v u (.slice none 0 0) t 0 0 A B z0 b3 (by decide) (by omega) lA lB hz0 l3 W hv hu (BytesIn.none0 _ _) ht
   have s2:=fun v u t W hv hu ht=>seal_own v u (.slice none 0 0) t 0 0 A B z0 b3 (by decide) (by omega) lA lB hz0 l3 W hv hu (BytesIn.none0 _ _) ht
   have eS:strB 0 (slB A B 0 z0 0 b3)=strB 0 (slB A B 0 z0 0 b3):=strB_congr fun j hj=>slB_begin A B 0 z0 0 0 b3 (by omega) j hj
   have cv:=fun (N:Nat) (W:World) g c (h:RowAt .u8 W g 0 (N+16) (slB A B 0 z0 N b3)) (hk:0≤N)=>conv_bytes W g 0 0 c (slB A B 0 z0 N b3) (fun j=>Nat.mod_lt _ (by decide)) (fun j hj=>(h j (by omega)).1)
   have hK:=hT
   have y8:IntKind.i64.wrap 2016=2016:=rfl
   have y9:IntKind.i64.wrap 16=16:=rfl
   clear h3 l3
   go_enter Try.func9,Try.ntmps9
   go_upto_region 9 with (first
   | (go_at_call 22;rw [←HV.out];refine ca.mono ?_;clear ca HV;rintro e w1 ⟨ga,rfl,-,ra,bb⟩;(replace rX:=rX.still bb);(replace b:=below_next b bb);(obtain ⟨f0,f1,f2,f3⟩:=box4 rX);(replace cb:=cb w1 b);clear bb)
   | (go_at_call 22;refine cb.mono ?_;clear cb;rintro e w2 ⟨gb,rfl,-,rb,bb⟩;(replace rX:=rX.still bb);(replace ra:=ra.still bb);(replace b:=below_next b bb);(obtain ⟨f0,f1,f2,f3⟩:=box4 rX);clear bb))
   replace s1:=s1 _ _ _ w2 (rowB ra (by decide) (Nat.le_refl _)) (rowB rb (by decide) (Nat.le_refl _)) (hT.keep b)
   clear hT
   go_upto_region 11 with (first
    | (go_at_call 18;refine s1.mono ?_;clear s1;rintro e w3 ⟨g1,p1,rfl,-,hp1,r1,bb⟩;(replace ra:=ra.still bb);(replace rb:=rb.still bb);(replace b:=below_next b bb);(replace s2:=s2 _ _ _ w3 (rowB ra (by decide) (Nat.le_refl _)) (rowB rb (by decide) (Nat.le_refl _)) (hK.keep b));clear bb hK)
    | (go_at_call 18;refine s2.mono ?_;clear s2;rintro e w4 ⟨g2,p2,rfl,-,hp2,r2,bb⟩;(replace r1:=r1.still bb);(replace b:=below_next b bb);clear bb))
   have hdr:Below w4.heap.size w4 w4.drew:=(Below.refl _ _).drew
   replace r1:=r1.still hdr
   replace r2:=r2.still hdr
   replace b:=below_next b hdr
   have q1:=fun (u:World) (hu:Below w4.drew.heap.size w4.drew u)=>cv 0 u g1 p1 (r1.still hu) (by omega)
   have q2:=fun (u:World) (hu:Below w4.drew.heap.size w4.drew u)=>cv 0 u g2 p2 (r2.still hu) (Nat.le_refl _)
   obtain ⟨S1,hS1⟩:∃ S,S=strB 0 (slB A B 0 z0 0 b3):=⟨_,rfl⟩
   simp only [←hS1] at q1 q2
   clear cv eS hS1
   refine wp_region_noPanic ?_
   refine wp_region_held_drew (S:=fun u=>Below w4.drew.heap.size w4.drew u) (by kernel_rfl) (Below.refl _ _) (fun hS => ?_)
   generalize w4.drew=V4 at *
   refine tg 0 hS ?_
   (try simp only [pS])
   refine tg 2 hS ?_
   (try simp only [pS])
   refine cl 1 (num9_any 0 V4) ?_
   rintro e V11 ⟨rfl,hv11⟩
   subst hv11
   refine ⟨_,rfl,hS,?_⟩
   (try simp only [pS])
   refine cl 3 (num9_any 0 _) ?_
   rintro e V13 ⟨rfl,hv13⟩
   subst hv13
   refine ⟨_,rfl,hS,?_⟩
   (try simp only [pS])
   refine tg 4 hS (v := .int .i64 0) ?_
   (try simp only [pS])
   refine tg 5 hS (v := .bool true) ?_
   (try simp only [pS])
   refine tg 6 hS ?_
   (try simp only [pS])
   refine tg 7 hS ?_
   (try simp only [pS])
   refine tg 8 hS ?_
   (try simp only [pS])
   refine tg 9 hS ?_
   (try simp only [pS])
   refine tg 10 hS ?_
   (try simp only [pS])
   refine tg 11 hS ?_
   (try simp only [pS])
   refine tg 12 hS (v := .bool true) ?_
   (try simp only [pS])
   refine tg 13 hS (v := .bool true) ?_
   (try simp only [pS])
   refine tg 14 hS ?_
   (try simp only [pS])
   refine tg 15 hS ?_
   (try simp only [pS])
   refine tg 16 hS ?_
   (try simp only [pS])
   refine tg 17 hS ?_
   (try simp only [pS])
   refine tg 18 hS ?_
   (try simp only [pS])
   refine tg 19 hS (v := .bool true) ?_
   (try simp only [pS])
   refine tg 20 hS (v := .bool true) ?_
   (try simp only [pS])
   refine tg 21 hS ?_
   (try simp only [pS])
   refine tg 22 hS ?_
   (try simp only [pS])
   refine tg 23 hS ?_
   (try simp only [pS])
   refine tg 24 hS ?_
   (try simp only [pS])
   refine tg 25 hS (v := .string S1) ?_ (hy:=fun u hu=>by
    have hq:=q1 u hu
    go_simp)
   (try simp only [pS])
   refine tg 26 hS ?_
   (try simp only [pS])
   refine tg 27 hS ?_
   (try simp only [pS])
   refine tg 28 hS ?_
   (try simp only [pS])
   refine tg 29 hS (v := .string S1) ?_ (hy:=fun u hu=>by
    have hq:=q2 u hu
    go_simp)
   (try simp only [pS])
   refine tg 30 hS (v := .bool true) ?_
   (try simp only [pS])
   refine tg 31 hS (v := .bool true) ?_
   (try simp only [pS])
   refine tg 32 hS ?_
   (try simp only [pS])
   refine cl 33 (ck _) ?_
   rintro e V33 ⟨rfl,b7⟩
   refine ⟨_,rfl,b7,?_⟩
   (try simp only [pS])
   refine tg 34 b7 (v := .bool true) ?_
   (try simp only [pS])
   refine tg 35 b7 ?_
   (try simp only [pS])
   refine wpAnyH_done (by kernel_rfl) ?_ _
   refine NoPanic.normal ?_
   go_wp2
   go_ret
   exact ⟨rfl,below_next b b7⟩
end Go.Proofs.Ytalgabgofpmebaa
