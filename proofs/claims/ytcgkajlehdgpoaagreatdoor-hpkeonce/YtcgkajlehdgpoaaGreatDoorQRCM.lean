/- What the proof stands on: QRC, QCK. -/
import Derived.Test.YtcgkajlehdgpoaaGreatDoorLPubM
import Derived.Test.YtcgkajlehdgpoaaGreatDoorQRXM
import Derived.Test.YtcgkajlehdgpoaaGreatDoorRAnyM
namespace Go.Proofs.YtcgkajlehdgpoaaGreatDoor
open Go.RowKit
def sdN (k u:Nat→Nat):Nat:=mulL (clB k) (ofB (loB u) 32%pF)
theorem sdN_lt (k u:Nat→Nat):sdN k u<pF:=fmul_lt _ _
theorem rsh_none (v u:Value) (k x:Nat→Nat) (hk:∀ j,k j<256) (hx:∀ j,x j<256) (h0:sdN k x=0) (w:World) (hv:BytesIn w v 32 k) (hu:BytesIn w u 32 x) :
 Calls Tryz.prog 37 #[v,u] w fun e w'=>e = .returned (.tuple #[.slice none 0 0,.int .i64 30])∧Below w.heap.size w w' :=
 rshared_none v u (byt (sdN k x)) (fun j _=>by rw [h0];unfold byt;rw [Nat.zero_div]) w (rlmul_good v u k x hk hx w hv hu)
theorem rsh_some (v u:Value) (k x:Nat→Nat) (hk:∀ j,k j<256) (hx:∀ j,x j<256) (h0:sdN k x≠0) (w:World) (hv:BytesIn w v 32 k) (hu:BytesIn w u 32 x) :
 Calls Tryz.prog 37 #[v,u] w fun e w'=>∃ s,e = .returned (.tuple #[s,.int .i64 0])∧BytesIn w' s 32 (byt (sdN k x))∧Below w.heap.size w w' :=
 rshared_some v u (byt (sdN k x)) (byt_some (Nat.lt_trans (sdN_lt k x) (by decide)) h0) w (rlmul_good v u k x hk hx w hv hu)
theorem shN2_lt (dh enc pub:Nat→Nat) (j:Nat):shN2 dh enc pub j<256:=leN_lt _ _ _ _ _ _ _ _
theorem dsN_lt (m:Nat) (ikm:Nat→Nat) (j:Nat):dsN m ikm j<256:=leN_lt _ _ _ _ _ _ _ _
theorem puN_lt (s:Nat→Nat) (j:Nat):puN s j<256:=byt_lt _ _
theorem rDecap_arg (v u:Value) (n m:Nat) (k x:Nat→Nat) (h:¬(n=32∧m=32)) (w:World) (hv:BytesIn w v n k) (hu:BytesIn w u m x) :
 Calls Tryz.prog 14 #[v,u] w fun e w'=>e = .returned (.tuple #[.slice none 0 0,.int .i64 1])∧Below w.heap.size w w':=by
 obtain ⟨x1,c1,rfl,-,-,-⟩:=hv.src
 obtain ⟨x2,c2,rfl,-,-,-⟩:=hu.src
 by_cases h1:n=32
 · have h2:¬((m:Int)=32):=by omega
   subst h1
   go_enter Tryz.func14,Tryz.ntmps14
   go_wp2
   go_ret2
   exact ⟨rfl,Below.refl _ _⟩
 · have h2:¬((n:Int)=32):=by omega
   go_enter Tryz.func14,Tryz.ntmps14
   go_wp2
   go_ret2
   exact ⟨rfl,Below.refl _ _⟩
theorem rDecap_none (v u:Value) (k x:Nat→Nat) (hk:∀ j,k j<256) (hx:∀ j,x j<256) (h0:sdN k x=0) (w:World) (hv:BytesIn w v 32 k) (hu:BytesIn w u 32 x) :
 Calls Tryz.prog 14 #[v,u] w fun e w'=>e = .returned (.tuple #[.slice none 0 0,.int .i64 30])∧Below w.heap.size w w':=by
 have hs:=rsh_none v u k x hk hx h0 w hv hu
 obtain ⟨x1,c1,rfl,-,-,-⟩:=hv.src
 obtain ⟨x2,c2,rfl,-,-,-⟩:=hu.src
 clear hv hu
 go_enter Tryz.func14,Tryz.ntmps14
 go_wp2_with (go_at_call 37;refine hs.mono ?_;clear hs;rintro e w1 ⟨rfl,b1⟩)
 go_ret2
 exact ⟨rfl,b1⟩
theorem rDecap_some (v u:Value) (k x:Nat→Nat) (hk:∀ j,k j<256) (hx:∀ j,x j<256) (h0:sdN k x≠0) (w:World) (hv:BytesIn w v 32 k) (hu:BytesIn w u 32 x) :
 Calls Tryz.prog 14 #[v,u] w fun e w'=>∃ s,e = .returned (.tuple #[s,.int .i64 0])∧BytesIn w' s 32 (shN2 (byt (sdN k x)) x (puN k))∧Below w.heap.size w w':=by
 have hs:=rsh_some v u k x hk hx h0 w hv hu
 have hp:=fun W hb=>rpublic_good v k hk W (hv.keep hb)
 have hm:=fun d p W hd hb hp=>rmutual_any d u p (byt (sdN k x)) x (puN k) (byt_lt _) hx (puN_lt _) W hd (hu.keep hb) hp
 obtain ⟨T,hT⟩:∃ T,T=shN2 (byt (sdN k x)) x (puN k):=⟨_,rfl⟩
 obtain ⟨D,hD⟩:∃ D,D=byt (sdN k x):=⟨_,rfl⟩
 obtain ⟨P,hP⟩:∃ P,P=puN k:=⟨_,rfl⟩
 have hP2:byt (mulL (clB k) 9)=P:=hP.symm
 rw [←hT] at hm ⊢
 rw [←hD] at hs hm
 rw [hP2] at hp
 rw [←hP] at hm
 obtain ⟨x1,c1,rfl,-,-,-⟩:=hv.src
 obtain ⟨x2,c2,rfl,-,-,-⟩:=hu.src
 clear hv hu hT hD hP hP2
 go_enter Tryz.func14,Tryz.ntmps14
 go_wp2_with (first
  | (go_at_call 37;refine hs.mono ?_;clear hs;rintro e w1 ⟨s1,rfl,o1,b1⟩;(have p1:=hp w1 b1);clear hp)
  | (go_at_call 34;refine p1.mono ?_;clear p1;rintro e w2 ⟨s2,rfl,o2,hb2⟩;(have b2:=below_next b1 hb2);(have m2:=hm s1 s2 w2 (o1.keep hb2) b2 o2);clear hm)
  | (go_at_call 38;refine m2.mono ?_;clear m2;rintro e w3 ⟨s3,rfl,o3,hb3⟩))
 go_ret2
 exact ⟨s3,rfl,o3,below_next b2 hb3⟩
theorem rEncap_arg (u v:Value) (n:Nat) (x:Nat→Nat) (h:¬(n=32)) (w:World) (hu:BytesIn w u n x) :
 Calls Tryz.prog 12 #[u,v] w fun e w'=>e = .returned (.tuple #[.slice none 0 0,.slice none 0 0,.int .i64 1])∧Below w.heap.size w w':=by
 obtain ⟨x1,c1,rfl,-,-,-⟩:=hu.src
 have h2:¬((n:Int)=32):=by omega
 go_enter Tryz.func12,Tryz.ntmps12
 go_wp2
 go_ret3
 exact ⟨rfl,Below.refl _ _⟩
theorem rEncap_none (u v:Value) (m:Nat) (x ikm:Nat→Nat) (hx:∀ j,x j<256) (hikm:∀ j,ikm j<256) (hm:m+300<140737488355000) (h0:sdN (dsN m ikm) x=0) (w:World) (hu:BytesIn w u 32 x) (hv:BytesIn w v m ikm) :
 Calls Tryz.prog 12 #[u,v] w fun e w'=>e = .returned (.tuple #[.slice none 0 0,.slice none 0 0,.int .i64 30])∧Below w.heap.size w w':=by
 have hd:=rDerive_any v m ikm hikm hm w hv
 have hs:=fun s W hb hs=>rsh_none s u (dsN m ikm) x (dsN_lt _ _) hx h0 W hs (hu.keep hb)
 obtain ⟨D,hD⟩:∃ D,D=dsN m ikm:=⟨_,rfl⟩
 rw [←hD] at hd hs
 obtain ⟨x1,c1,rfl,-,-,-⟩:=hu.src
 obtain ⟨x2,c2,rfl,-,-,-⟩:=hv.src
 clear hv hu h0 hD
 go_enter Tryz.func12,Tryz.ntmps12
 go_wp2_with (first
  | (go_at_call 10;refine hd.mono ?_;clear hd;rintro e w1 ⟨s1,p1,rfl,o1,q1,b1⟩;(have s2:=hs s1 w1 b1 o1);clear hs)
  | (go_at_call 37;refine s2.mono ?_;clear s2;rintro e w2 ⟨rfl,hb2⟩))
 go_ret3
 exact ⟨rfl,below_next b1 hb2⟩
theorem rEncap_some (u v:Value) (m:Nat) (x ikm:Nat→Nat) (hx:∀ j,x j<256) (hikm:∀ j,ikm j<256) (hm:m+300<140737488355000) (h0:sdN (dsN m ikm) x≠0) (w:World) (hu:BytesIn w u 32 x) (hv:BytesIn w v m ikm) :
 Calls Tryz.prog 12 #[u,v] w fun e w'=>∃ s p,e = .returned (.tuple #[s,p,.int .i64 0])∧BytesIn w' s 32 (shN2 (byt (sdN (dsN m ikm) x)) (puN (dsN m ikm)) x)∧BytesIn w' p 32 (puN (dsN m ikm))∧Below w.heap.size w w':=by
 have hd:=rDerive_any v m ikm hikm hm w hv
 have hs:=fun s W hb hs=>rsh_some s u (dsN m ikm) x (dsN_lt _ _) hx h0 W hs (hu.keep hb)
 have hmu:=fun d p W hd hp hb=>rmutual_any d p u (byt (sdN (dsN m ikm) x)) (puN (dsN m ikm)) x (byt_lt _) (puN_lt _) hx W hd hp (hu.keep hb)
 obtain ⟨T,hT⟩:∃ T,T=shN2 (byt (sdN (dsN m ikm) x)) (puN (dsN m ikm)) x:=⟨_,rfl⟩
 rw [←hT] at hmu ⊢
 obtain ⟨Z,hZ⟩:∃ Z,Z=byt (sdN (dsN m ikm) x):=⟨_,rfl⟩
 rw [←hZ] at hmu hs
 obtain ⟨D,hD⟩:∃ D,D=dsN m ikm:=⟨_,rfl⟩
 rw [←hD] at hd hs hmu ⊢
 obtain ⟨P,hP⟩:∃ P,P=puN D:=⟨_,rfl⟩
 rw [←hP] at hd hmu ⊢
 obtain ⟨x1,c1,rfl,-,-,-⟩:=hu.src
 obtain ⟨x2,c2,rfl,-,-,-⟩:=hv.src
 clear hv hu h0 hD hP hT hZ
 go_enter Tryz.func12,Tryz.ntmps12
 go_wp2_with (first
  | (go_at_call 10;refine hd.mono ?_;clear hd;rintro e w1 ⟨s1,p1,rfl,o1,q1,b1⟩;(have s2:=hs s1 w1 b1 o1);clear hs)
  | (go_at_call 37;refine s2.mono ?_;clear s2;rintro e w2 ⟨d2,rfl,o2,hb2⟩;(have b2:=below_next b1 hb2);(replace q1:=q1.keep hb2);(have m3:=hmu d2 p1 w2 o2 q1 b2);clear hmu)
  | (go_at_call 38;refine m3.mono ?_;clear m3;rintro e w3 ⟨s3,rfl,o3,hb3⟩))
 go_ret3
 exact ⟨s3,p1,rfl,o3,q1.keep hb3,below_next b2 hb3⟩
end Go.Proofs.YtcgkajlehdgpoaaGreatDoor
namespace Go.Proofs.YtcgkajlehdgpoaaGreatDoor
open Go.RowKit
abbrev NewR (w w':World) (s:Value) (n:Nat) (X:Nat→Nat):Prop:=∃ g,s = .slice (some ⟨g,0,none⟩) n n∧w.heap.size≤g∧RowAt .u8 w' g 0 n X
theorem NewR.bytes {w w':World} {s:Value} {n:Nat} {X:Nat→Nat} (h0:0<n) (h:NewR w w' s n X):BytesIn w' s n X:=by
 obtain ⟨g,rfl,-,hr⟩:=h
 exact row_bytes h0 hr
theorem ckem (label:List Nat) (hl:∀ x,x∈label→x<256) (hz:label.length≤50) (tv:Value) (cnt m:Nat) (t:Nat→Nat) (ht:∀ j,t j<256) (hc:cnt<1000000) (hm:m+300<140737488355000) (w:World) (hT:HTab w cubeK squareK) (h2:Texts w tv cnt m t) :
 Calls Tryz.prog 29 #[.string { data:=#[75,69,77,0,32] },.slice none 0 0,.string (strL label),tv] w fun e w'=>∃ s,e = .returned s∧BytesIn w' s 32 (lxN lKem 0 lZ label m t)∧Below w.heap.size w w' :=
 cextract_any lKem label lKem_lt hl (by show 5+label.length≤100;omega) (.slice none 0 0) tv 0 cnt m lZ t lZ_lt ht (by decide) hc hm w hT (BytesIn.nil0 _ _) h2
theorem ekem (label:List Nat) (hl:∀ x,x∈label→x<256) (hz:label.length≤50) (pv tv:Value) (cnt m:Nat) (prk t:Nat→Nat) (hp:∀ j,prk j<256) (ht:∀ j,t j<256) (hc:cnt<1000000) (hm:m+300<140737488355000) (w:World) (hT:HTab w cubeK squareK) (h1:BytesIn w pv 32 prk) (h2:Texts w tv cnt m t) :
 Calls Tryz.prog 28 #[.string { data:=#[75,69,77,0,32] },pv,.int .i64 32,.string (strL label),tv] w fun e w'=>∃ s,e = .returned s∧NewR w w' s 32 (leN lKem 32 prk label m t 32)∧Below w.heap.size w w' :=
 cexpand_any lKem label lKem_lt hl (by show 5+label.length≤100;omega) pv tv 32 cnt m 32 prk t (by decide) hp ht (by decide) hc hm w hT h1 h2
set_option maxRecDepth 20000 in
set_option maxHeartbeats 2000000 in
theorem cDerive_any (v:Value) (m:Nat) (ikm:Nat→Nat) (hikm:∀ j,ikm j<256) (hm:m+300<140737488355000) (w:World) (hT:HTab w cubeK squareK) (hv:BytesIn w v m ikm) :
 Calls Tryz.prog 9 #[v] w fun e w'=>∃ s p,e = .returned (.tuple #[s,p])∧BytesIn w' s 32 (dsN m ikm)∧BytesIn w' p 32 (puN (dsN m ikm))∧Below w.heap.size w w':=by
 obtain ⟨xv,cv,rfl,-,-,-⟩:=hv.src
 have b0:Below w.heap.size w (w.alloc (.cells #[.slice xv m cv] 22)):=(Below.refl _ _).alloc (Nat.le_refl _) _
 have hx:Calls Tryz.prog 29 #[.string { data:=#[75,69,77,0,32] },.slice none 0 0,.string { data:=#[100,107,112,95,112,114,107] },.slice (some ⟨w.heap.size,0,none⟩) 1 1] (w.alloc (.cells #[.slice xv m cv] 22)) _:=ckem lDkp (by decide) (by decide) _ 1 m ikm hikm (by decide) hm _ (hT.keep b0) (texts_one w _ m ikm hv)
 have he:∀ pv W,Below w.heap.size w W→BytesIn W pv 32 (lxN lKem 0 lZ lDkp m ikm)→Calls Tryz.prog 28 #[.string { data:=#[75,69,77,0,32] },pv,.int .i64 32,.string { data:=#[115,107] },.slice none 0 0] W _:=fun pv W hb hp=>ekem lSk (by decide) (by decide) pv (.slice none 0 0) 0 0 _ lZ (lxN_lt _ _ _ _ _ _) lZ_lt (by decide) (by decide) W (hT.keep hb) hp (texts_none W lZ)
 have hp:=fun s W (hs:BytesIn W s 32 (dsN m ikm))=>public_good s (dsN m ikm) (leN_lt _ _ _ _ _ _ _) W hs
 obtain ⟨X,hX⟩:∃ X,X=lxN lKem 0 lZ lDkp m ikm:=⟨_,rfl⟩
 obtain ⟨D,hD⟩:∃ D,D=dsN m ikm:=⟨_,rfl⟩
 have hD2:leN lKem 32 X lSk 0 lZ 32=D:=by rw [hD,hX];rfl
 rw [←hX] at hx he
 rw [hD2] at he
 rw [←hD] at hp ⊢
 obtain ⟨P,hP⟩:∃ P,P=puN D:=⟨_,rfl⟩
 have hP2:byt (mulL (clB D) 9)=P:=hP.symm
 rw [hP2] at hp
 rw [←hP]
 clear hX hD hD2 hP hP2 hv
 go_enter Tryz.func9,Tryz.ntmps9
 go_wp2_with (first
  | (go_at_call 29;refine hx.mono ?_;clear hx;rintro e w3 ⟨x3,rfl,o3,hb3⟩;(have b3:=below_next b0 hb3);(have e3:=he x3 w3 b3 o3);clear he)
  | (go_at_call 28;refine e3.mono ?_;clear e3;rintro e w4 ⟨s4,rfl,o4,hb4⟩;(have b4:=below_next b3 hb4);(replace o4:=NewR.bytes (by decide) o4);(have p4:=hp s4 w4 o4);clear hp)
  | (go_at_call 30;refine p4.mono ?_;clear p4;rintro e w5 ⟨s5,rfl,o5,hb5⟩;(have b5:=below_next b4 hb5)))
 go_ret2
 exact ⟨s4,s5,rfl,o4.keep hb5,NewR.bytes (by decide) o5,b5⟩
set_option maxRecDepth 20000 in
set_option maxHeartbeats 2000000 in
theorem cmutual_any (dv ev pv:Value) (dh enc pub:Nat→Nat) (hdh:∀ j,dh j<256) (henc:∀ j,enc j<256) (hpub:∀ j,pub j<256) (w:World) (hT:HTab w cubeK squareK) (h1:BytesIn w dv 32 dh) (h2:BytesIn w ev 32 enc) (h3:BytesIn w pv 32 pub) :
 Calls Tryz.prog 36 #[dv,ev,pv] w fun e w'=>∃ s,e = .returned s∧BytesIn w' s 32 (shN2 dh enc pub)∧Below w.heap.size w w':=by
 obtain ⟨x1,c1,rfl,-,-,-⟩:=h1.src
 obtain ⟨x2,c2,rfl,-,-,-⟩:=h2.src
 obtain ⟨x3,c3,rfl,-,-,-⟩:=h3.src
 have b0:Below w.heap.size w (w.alloc (.cells #[.slice x1 32 c1] 22)):=(Below.refl _ _).alloc (Nat.le_refl _) _
 have hx:Calls Tryz.prog 29 #[.string { data:=#[75,69,77,0,32] },.slice none 0 0,.string { data:=#[101,97,101,95,112,114,107] },.slice (some ⟨w.heap.size,0,none⟩) 1 1] (w.alloc (.cells #[.slice x1 32 c1] 22)) _:=ckem lEae (by decide) (by decide) _ 1 32 dh hdh (by decide) (by decide) _ (hT.keep b0) (texts_one w _ 32 dh h1)
 have he:∀ kv W,Below w.heap.size w W→BytesIn W kv 32 (lxN lKem 0 lZ lEae 32 dh)→Calls Tryz.prog 28 #[.string { data:=#[75,69,77,0,32] },kv,.int .i64 32,.string { data:=#[115,104,97,114,101,100,95,115,101,99,114,101,116] },.slice (some ⟨W.heap.size,0,none⟩) 2 2] (W.alloc (.cells #[.slice x2 32 c2,.slice x3 32 c3] 22)) _:=fun kv W hb hp=>ekem lSs (by decide) (by decide) kv _ 2 64 _ (catL [(32,enc),(32,pub)]) (lxN_lt _ _ _ _ _ _) (catL_lt _ (by
  intro p hp
  simp only [List.mem_cons,List.not_mem_nil,or_false] at hp
  rcases hp with rfl | rfl
  · exact henc
  · exact hpub)) (by decide) (by decide) _ (hT.keep (hb.alloc hb.size _)) (hp.keep ((Below.refl _ _).alloc (Nat.le_refl _) _)) (texts_two W _ _ 32 32 enc pub (h2.keep hb) (h3.keep hb))
 obtain ⟨X,hX⟩:∃ X,X=lxN lKem 0 lZ lEae 32 dh:=⟨_,rfl⟩
 obtain ⟨D,hD⟩:∃ D,D=shN2 dh enc pub:=⟨_,rfl⟩
 have hD2:leN lKem 32 X lSs 64 (catL [(32,enc),(32,pub)]) 32=D:=by rw [hD,hX];rfl
 rw [←hX] at hx he
 rw [hD2] at he
 rw [←hD]
 clear hX hD hD2 h1 h2 h3
 go_enter Tryz.func36,Tryz.ntmps36
 go_wp2_with (first
  | (go_at_call 29;refine hx.mono ?_;clear hx;rintro e w3 ⟨x3,rfl,o3,hb3⟩;(have b3:=below_next b0 hb3);(have e3:=he x3 w3 b3 o3);clear he)
  | (go_at_call 28;refine e3.mono ?_;clear e3;rintro e w4 ⟨s4,rfl,o4,hb4⟩))
 go_ret
 exact ⟨s4,rfl,NewR.bytes (by decide) o4,below_next (b3.alloc b3.size _) hb4⟩
theorem csh_arg (v u:Value) (n m:Nat) (k x:Nat→Nat) (hk:∀ j,k j<256) (h:¬(n=32∧m=32)) (w:World) (hv:BytesIn w v n k) (hu:BytesIn w u m x) :
 Calls Tryz.prog 35 #[v,u] w fun e w'=>e = .returned (.tuple #[.slice none 0 0,.int .i64 1])∧Below w.heap.size w w':=by
 by_cases h1:n=32
 · subst h1
   exact shared_arg v u w (lmul_point v u m k x hk w hv hu (by omega))
 · exact shared_arg v u w (lmul_key v u n k w hv h1)
theorem csh_none (v u:Value) (k x:Nat→Nat) (hk:∀ j,k j<256) (hx:∀ j,x j<256) (h0:sdN k x=0) (w:World) (hv:BytesIn w v 32 k) (hu:BytesIn w u 32 x) :
 Calls Tryz.prog 35 #[v,u] w fun e w'=>e = .returned (.tuple #[.slice none 0 0,.int .i64 30])∧Below w.heap.size w w' :=
 shared_none v u (sdN k x) h0 w (lmul_good v u k x hk hx w hv hu)
theorem csh_some (v u:Value) (k x:Nat→Nat) (hk:∀ j,k j<256) (hx:∀ j,x j<256) (h0:sdN k x≠0) (w:World) (hv:BytesIn w v 32 k) (hu:BytesIn w u 32 x) :
 Calls Tryz.prog 35 #[v,u] w fun e w'=>∃ s,e = .returned (.tuple #[s,.int .i64 0])∧NewB w w' s 32 (byt (sdN k x))∧Below w.heap.size w w' :=
 shared_some v u (sdN k x) h0 (sdN_lt k x) w (lmul_good v u k x hk hx w hv hu)
theorem cDecap_stop (v u:Value) (E:Int) (hE:¬E=0) (w:World) (hs:Calls Tryz.prog 35 #[v,u] w fun e w'=>e = .returned (.tuple #[.slice none 0 0,.int .i64 E])∧Below w.heap.size w w') :
 Calls Tryz.prog 13 #[v,u] w fun e w'=>e = .returned (.tuple #[.slice none 0 0,.int .i64 E])∧Below w.heap.size w w':=by
 go_enter Tryz.func13,Tryz.ntmps13
 go_wp2_with (go_at_call 35;refine hs.mono ?_;clear hs;rintro e w1 ⟨rfl,b1⟩)
 go_ret2
 exact ⟨rfl,b1⟩
set_option maxRecDepth 20000 in
set_option maxHeartbeats 2000000 in
theorem cDecap_some (v u:Value) (k x:Nat→Nat) (hk:∀ j,k j<256) (hx:∀ j,x j<256) (h0:sdN k x≠0) (w:World) (hT:HTab w cubeK squareK) (hv:BytesIn w v 32 k) (hu:BytesIn w u 32 x) :
 Calls Tryz.prog 13 #[v,u] w fun e w'=>∃ s,e = .returned (.tuple #[s,.int .i64 0])∧BytesIn w' s 32 (shN2 (byt (sdN k x)) x (puN k))∧Below w.heap.size w w':=by
 have hs:=csh_some v u k x hk hx h0 w hv hu
 have hp:=fun W hb=>public_good v k hk W (hv.keep hb)
 have hm:=fun d p W hd hb hp=>cmutual_any d u p (byt (sdN k x)) x (puN k) (byt_lt _) hx (puN_lt _) W (hT.keep hb) hd (hu.keep hb) hp
 obtain ⟨T,hT'⟩:∃ T,T=shN2 (byt (sdN k x)) x (puN k):=⟨_,rfl⟩
 obtain ⟨D,hD⟩:∃ D,D=byt (sdN k x):=⟨_,rfl⟩
 obtain ⟨P,hP⟩:∃ P,P=puN k:=⟨_,rfl⟩
 have hP2:byt (mulL (clB k) 9)=P:=hP.symm
 rw [←hT'] at hm ⊢
 rw [←hD] at hs hm
 rw [hP2] at hp
 rw [←hP] at hm
 obtain ⟨x1,c1,rfl,-,-,-⟩:=hv.src
 obtain ⟨x2,c2,rfl,-,-,-⟩:=hu.src
 clear hv hu hT' hD hP hP2 hT
 go_enter Tryz.func13,Tryz.ntmps13
 go_wp2_with (first
  | (go_at_call 35;refine hs.mono ?_;clear hs;rintro e w1 ⟨s1,rfl,o1,b1⟩;(replace o1:=NewR.bytes (by decide) o1);(have p1:=hp w1 b1);clear hp)
  | (go_at_call 30;refine p1.mono ?_;clear p1;rintro e w2 ⟨s2,rfl,o2,hb2⟩;(have b2:=below_next b1 hb2);(have m2:=hm s1 s2 w2 (o1.keep hb2) b2 (NewR.bytes (by decide) o2));clear hm)
  | (go_at_call 36;refine m2.mono ?_;clear m2;rintro e w3 ⟨s3,rfl,o3,hb3⟩))
 go_ret2
 exact ⟨s3,rfl,o3,below_next b2 hb3⟩
set_option maxRecDepth 20000 in
set_option maxHeartbeats 2000000 in
theorem cEncap_stop (u v:Value) (m:Nat) (ikm:Nat→Nat) (hikm:∀ j,ikm j<256) (hm:m+300<140737488355000) (E:Int) (hE:¬E=0) (w:World) (hT:HTab w cubeK squareK) (hv:BytesIn w v m ikm)
 (hs:∀ s W,Below w.heap.size w W→BytesIn W s 32 (dsN m ikm)→Calls Tryz.prog 35 #[s,u] W fun e w'=>e = .returned (.tuple #[.slice none 0 0,.int .i64 E])∧Below W.heap.size W w') :
 Calls Tryz.prog 11 #[u,v] w fun e w'=>e = .returned (.tuple #[.slice none 0 0,.slice none 0 0,.int .i64 E])∧Below w.heap.size w w':=by
 have hd:=cDerive_any v m ikm hikm hm w hT hv
 generalize dsN m ikm=D at hd hs
 generalize puN D=P at hd
 clear hv hT
 go_enter Tryz.func11,Tryz.ntmps11
 go_wp2_with (first
  | (go_at_call 9;refine hd.mono ?_;clear hd;rintro e w1 ⟨s1,p1,rfl,o1,q1,b1⟩;(have s2:=hs s1 w1 b1 o1);clear hs)
  | (go_at_call 35;refine s2.mono ?_;clear s2;rintro e w2 ⟨rfl,hb2⟩))
 go_ret3
 exact ⟨rfl,below_next b1 hb2⟩
set_option maxRecDepth 20000 in
set_option maxHeartbeats 2000000 in
theorem cEncap_some (u v:Value) (m:Nat) (x ikm:Nat→Nat) (hx:∀ j,x j<256) (hikm:∀ j,ikm j<256) (hm:m+300<140737488355000) (h0:sdN (dsN m ikm) x≠0) (w:World) (hT:HTab w cubeK squareK) (hu:BytesIn w u 32 x) (hv:BytesIn w v m ikm) :
 Calls Tryz.prog 11 #[u,v] w fun e w'=>∃ s p,e = .returned (.tuple #[s,p,.int .i64 0])∧BytesIn w' s 32 (shN2 (byt (sdN (dsN m ikm) x)) (puN (dsN m ikm)) x)∧BytesIn w' p 32 (puN (dsN m ikm))∧Below w.heap.size w w':=by
 have hd:=cDerive_any v m ikm hikm hm w hT hv
 have hs:=fun s W hb hs=>csh_some s u (dsN m ikm) x (dsN_lt _ _) hx h0 W hs (hu.keep hb)
 have hmu:=fun d p W hd hp hb=>cmutual_any d p u (byt (sdN (dsN m ikm) x)) (puN (dsN m ikm)) x (byt_lt _) (puN_lt _) hx W (hT.keep hb) hd hp (hu.keep hb)
 obtain ⟨T,hT'⟩:∃ T,T=shN2 (byt (sdN (dsN m ikm) x)) (puN (dsN m ikm)) x:=⟨_,rfl⟩
 rw [←hT'] at hmu ⊢
 obtain ⟨Z,hZ⟩:∃ Z,Z=byt (sdN (dsN m ikm) x):=⟨_,rfl⟩
 rw [←hZ] at hmu hs
 obtain ⟨D,hD⟩:∃ D,D=dsN m ikm:=⟨_,rfl⟩
 rw [←hD] at hd hs hmu ⊢
 obtain ⟨P,hP⟩:∃ P,P=puN D:=⟨_,rfl⟩
 rw [←hP] at hd hmu ⊢
 obtain ⟨x1,c1,rfl,-,-,-⟩:=hu.src
 obtain ⟨x2,c2,rfl,-,-,-⟩:=hv.src
 clear hv hu h0 hD hP hT' hZ hT
 go_enter Tryz.func11,Tryz.ntmps11
 go_wp2_with (first
  | (go_at_call 9;refine hd.mono ?_;clear hd;rintro e w1 ⟨s1,p1,rfl,o1,q1,b1⟩;(have s2:=hs s1 w1 b1 o1);clear hs)
  | (go_at_call 35;refine s2.mono ?_;clear s2;rintro e w2 ⟨d2,rfl,o2,hb2⟩;(have b2:=below_next b1 hb2);(replace q1:=q1.keep hb2);(have m3:=hmu d2 p1 w2 (NewR.bytes (by decide) o2) q1 b2);clear hmu)
  | (go_at_call 36;refine m3.mono ?_;clear m3;rintro e w3 ⟨s3,rfl,o3,hb3⟩))
 go_ret3
 exact ⟨s3,p1,rfl,o3,q1.keep hb3,below_next b2 hb3⟩
end Go.Proofs.YtcgkajlehdgpoaaGreatDoor
