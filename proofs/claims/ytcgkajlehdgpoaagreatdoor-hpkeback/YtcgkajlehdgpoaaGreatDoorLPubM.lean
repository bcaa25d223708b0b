/- What the proof stands on: LPub, LShare, LClamps, RRow, RStep, RAny, LIgnores, QRD, QRC, QCK, QRN, A8Math, A8Blk, A8Tab, A8Mix. -/
import Derived.Test.YtcgkajlehdgpoaaGreatDoorBaseM
import Derived.Test.YtcgkajlehdgpoaaGreatDoorIRowM
import Derived.Test.YtcgkajlehdgpoaaGreatDoorLProdM
import Derived.Test.YtcgkajlehdgpoaaGreatDoorQRXM
namespace Go.Proofs.YtcgkajlehdgpoaaGreatDoor
open Go.RowKit
set_option maxRecDepth 20000 in
set_option maxHeartbeats 2000000 in
theorem public_good (v:Value) (bs:Nat→Nat) (hbs:∀ j,bs j<256) (w:World) (hv:BytesIn w v 32 bs):Calls Tryz.prog 30 #[v] w fun e w'=>∃ s,e = .returned (.tuple #[s,.int .i64 0])∧NewB w w' s 32 (byt (mulL (clB bs) 9))∧Below w.heap.size w w':=by
 have hS:=fun W=>fsmall_pos 9 (by decide) W
 have hB:=fun W=>bytes_any 9 W
 have hM:∀ u W,BytesIn W u 32 (byt 9)→Below w.heap.size w W→Calls Tryz.prog 53 #[v,u] W fun e w'=>∃ s,e = .returned (.tuple #[s,.int .i64 0])∧NewB W w' s 32 (byt (mulL (clB bs) 9))∧Below W.heap.size W w':=fun u W h hb=>by
  have:=lmul_good v u bs (byt 9) hbs (byt_all 9) W (hv.still hb) h
  rwa [nine_of] at this
 go_enter Tryz.func30,Tryz.ntmps30
 go_wp2_with (first
  | (go_at_call 54;refine (hS _).mono ?_;clear hS;rintro e w1 ⟨rfl,hb1⟩)
  | (go_at_call 55;refine (hB _).mono ?_;clear hB;rintro e w2 ⟨g,rfl,hg,hr,hb2⟩)
  | (go_at_call 53;refine (hM _ _ (.inr ⟨g,0,32,rfl,block_lt_of_cell (hr 0 (by decide)).1,Nat.le_refl _,fun j hj=>(hr j hj).1⟩) (below_next hb1 hb2)).mono ?_;clear hM;rintro e w3 ⟨s,rfl,hs,hb3⟩))
 obtain ⟨g3,rfl,hg3,hr3⟩:=hs
 have s1:=hb1.size
 have s2:=hb2.size
 exact bodyPost_ret (results_tmp2 rfl _ _ _) rfl ⟨_,rfl,⟨g3,rfl,by omega,hr3⟩,below_next (below_next hb1 hb2) hb3⟩
set_option maxRecDepth 20000 in
set_option maxHeartbeats 2000000 in
theorem allZero_no (g:Nat) (w:World) (X:Nat→Nat) (hX:∃ j,j<32∧X j≠0) (hr:RowAt .u8 w g 0 32 X):Calls Tryz.prog 60 #[.slice (some ⟨g,0,none⟩) 32 32] w fun e w'=>e = .returned (.bool false)∧w'=w:=by
 go_enter Tryz.func60,Tryz.ntmps60
 go_wp2
 go_loopw [4,7] (fun _ i wr=>wr=w∧∃ k:Nat,k≤32∧i = .int .i64 (k:Int)∧∃ j,k≤j∧j<32∧X j≠0) (fun _ i _=>32 - (intOf i).toNat)
 case atStart =>
  obtain ⟨j,h1,h2⟩:=hX
  exact ⟨rfl,0,by decide,by go_num,j,Nat.zero_le _,h1,h2⟩
 case round =>
  obtain ⟨hw,k,hk,rfl,j,hkj,hj,hne⟩:=hrel
  rw [hw]
  clear hw
  have hk2:k<32:=by omega
  have hc:=(hr k hk2).1
  rw [Nat.zero_add] at hc
  have h1:(k:Int)<32:=by omega
  by_cases h0:X k=0
  · rw [h0] at hc
    have hkj2:k+1≤j:=by
     rcases Nat.eq_or_lt_of_le hkj with h | h
     · exact absurd (h ▸ h0) hne
     · exact h
    go_wp2
    go_roundw
    case rel=>exact ⟨trivial,k+1,by omega,by go_num,j,hkj2,hj,hne⟩
    case measure=>simp [intOf];omega
  · have h2:¬((X k:Int)=0):=by omega
    go_wp2
    go_ret
    exact ⟨rfl,rfl⟩
end Go.Proofs.YtcgkajlehdgpoaaGreatDoor
namespace Go.Proofs.YtcgkajlehdgpoaaGreatDoor
open Go.RowKit
theorem byt_some {N:Nat} (h:N<115792089237316195423570985008687907853269984665640564039457584007913129639936) (h0:N≠0):∃ j,j<32∧byt N j≠0:=by
 refine Classical.byContradiction fun hn=>h0 ?_
 have hz:∀ j,j<32→byt N j=(fun _=>0:Nat→Nat) j:=fun j hj=>Classical.byContradiction fun hb=>hn ⟨j,hj,hb⟩
 have e:=ofB_byt32 N h
 rw [ofB_congr 32 hz] at e
 exact e.symm.trans (by kernel_rfl)
theorem shared_some (v u:Value) (N:Nat) (hN:N≠0) (hl:N<pF) (w:World) (hM:Calls Tryz.prog 53 #[v,u] w fun e w'=>∃ s,e = .returned (.tuple #[s,.int .i64 0])∧NewB w w' s 32 (byt N)∧Below w.heap.size w w'):Calls Tryz.prog 35 #[v,u] w fun e w'=>∃ s,e = .returned (.tuple #[s,.int .i64 0])∧NewB w w' s 32 (byt N)∧Below w.heap.size w w':=by
 have hA:=fun g W=>allZero_no g W (byt N) (byt_some (Nat.lt_trans hl (by decide)) hN)
 go_enter Tryz.func35,Tryz.ntmps35
 go_wp2_with (first
  | (go_at_call 53;refine hM.mono ?_;clear hM;rintro e w1 ⟨s,rfl,⟨g,rfl,hg,hr⟩,hb1⟩)
  | (go_at_call 60;refine (hA g _ hr).mono ?_;clear hA;rintro e w2 ⟨rfl,rfl⟩))
 exact bodyPost_ret (results_tmp2 rfl _ _ _) rfl ⟨_,rfl,⟨g,rfl,hg,hr⟩,hb1⟩
end Go.Proofs.YtcgkajlehdgpoaaGreatDoor
namespace Go.Proofs.YtcgkajlehdgpoaaGreatDoor
open Go.RowKit
def NewC (w w':World) (v:Value) (n:Nat) (X:Nat→Nat):Prop:=∃ g cap,v = .slice (some ⟨g,0,none⟩) n cap∧n≤cap∧w.heap.size≤g∧RowAt .u8 w' g 0 n X
theorem NewC.bytes {w w':World} {v:Value} {n:Nat} {X:Nat→Nat} (h:NewC w w' v n X) (h0:0<n):BytesIn w' v n X:=by
 obtain ⟨g,cap,rfl,hc,-,hr⟩:=h
 exact .inr ⟨g,0,cap,rfl,block_lt_of_cell (hr 0 h0).1,hc,fun j hj=>(hr j hj).1⟩
end Go.Proofs.YtcgkajlehdgpoaaGreatDoor
namespace Go.Proofs.YtcgkajlehdgpoaaGreatDoor
open Go.RowKit
structure Rw (L:Nat→Int) (x:Nat):Prop where
 dig:Dig 65725 L
 val:valR L 16%(pF:Int)=((x%pF:Nat):Int)
theorem Rep.wide {L:Nat→Int} {x:Nat} (h:Rep L x):Rw L x:=⟨h.dig.mono (by decide),h.val⟩
theorem Rw.bd {L:Nat→Int} {x:Nat} (h:Rw L x):∀ j,j<16→-131072≤L j∧L j≤131072:=fun j hj=>by have:=h.dig.all (by decide) j hj;omega
def i16 (L:Nat→Int):List Value:=intsI 16 L
def rV (L:Nat→Int):Value := .agg (i16 L).toArray
end Go.Proofs.YtcgkajlehdgpoaaGreatDoor
namespace Go.Proofs.YtcgkajlehdgpoaaGreatDoor
open Go.RowKit
theorem But.of_below {bad:Nat→Prop} {w w':World} (h:Below w.heap.size w w'):But bad w w':=⟨h.os,h.tape,h.output,h.size,fun k hk _=>h.block k hk⟩
end Go.Proofs.YtcgkajlehdgpoaaGreatDoor
namespace Go.Proofs.YtcgkajlehdgpoaaGreatDoor
open Go.RowKit
structure R4 where
 xl:Nat→Int
 zl:Nat→Int
 xh:Nat→Int
 zh:Nat→Int
structure R4.Rep (r:R4) (s:L4):Prop where
 xl:Go.Proofs.YtcgkajlehdgpoaaGreatDoor.Rep r.xl s.xl
 zl:Go.Proofs.YtcgkajlehdgpoaaGreatDoor.Rep r.zl s.zl
 xh:Go.Proofs.YtcgkajlehdgpoaaGreatDoor.Rep r.xh s.xh
 zh:Go.Proofs.YtcgkajlehdgpoaaGreatDoor.Rep r.zh s.zh
def R4.flip (r:R4):R4:=⟨r.xh,r.zh,r.xl,r.zl⟩
theorem R4.Rep.flip {r:R4} {s:L4} (h:r.Rep s):r.flip.Rep s.flip:=⟨h.xh,h.zh,h.xl,h.zl⟩
theorem Rep.far {L:Nat→Int} {x:Nat} (h:Rep L x):∀ j,j<16→-1073741824≤L j∧L j≤1073741824:=fun j hj=>by have:=h.bd j hj;omega
end Go.Proofs.YtcgkajlehdgpoaaGreatDoor
namespace Go.Proofs.YtcgkajlehdgpoaaGreatDoor
open Go.RowKit
theorem bitN_congr {a b:Nat→Nat} (h:∀ j,j<32→a j=b j) {i:Nat} (hi:i≤254):bitN a i=bitN b i:=by
 unfold bitN;rw [h (i / 8) (by omega)]
theorem climbL_congr {a b:Nat→Nat} (h:∀ j,j<32→a j=b j) (u:Nat):∀ j,climbL u a j=climbL u b j
 | 0=>rfl
 | j+1=>by unfold climbL;rw [climbL_congr h u j,bitN_congr h (by omega)]
theorem mulL_congr {a b:Nat→Nat} (h:∀ j,j<32→a j=b j) (u:Nat):mulL a u=mulL b u:=by
 unfold mulL;rw [climbL_congr h u 255]
theorem loB_byt {N:Nat} (h:N<pF):ofB (loB (byt N)) 32%pF=N:=by
 have e:∀ j,j<32→loB (byt N) j=byt N j:=fun j _=>by
  unfold loB
  by_cases h31:j=31
  · rw [if_pos h31,h31]
    refine Nat.mod_eq_of_lt ?_
    unfold byt
    have:N / 256 ^ 31<128:=Nat.div_lt_of_lt_mul (Nat.lt_of_lt_of_le h (by decide))
    exact Nat.lt_of_le_of_lt (Nat.mod_le _ _) this
  · rw [if_neg h31]
 rw [ofB_congr 32 e,ofB_byt32 N (Nat.lt_trans h (by decide)),Nat.mod_eq_of_lt h]
theorem NewB.src {w w':World} {g:Nat} {X:Nat→Nat} (hr:RowAt .u8 w' g 0 32 X) (_h:w=w):BytesIn w' (.slice (some ⟨g,0,none⟩) 32 32) 32 X := .inr ⟨g,0,32,rfl,block_lt_of_cell (hr 0 (by decide)).1,Nat.le_refl _,fun j hj=>(hr j hj).1⟩
end Go.Proofs.YtcgkajlehdgpoaaGreatDoor
namespace Go.Proofs.YtcgkajlehdgpoaaGreatDoor
open Go.RowKit
theorem lxN_lt (suite:List Nat) (sn:Nat) (salt:Nat→Nat) (label:List Nat) (m:Nat) (ikm:Nat→Nat) (j:Nat):lxN suite sn salt label m ikm j<256:=tagH_lt _ _ _ _
theorem leN_lt (suite:List Nat) (pn:Nat) (prk:Nat→Nat) (label:List Nat) (m:Nat) (info:Nat→Nat) (N j:Nat):leN suite pn prk label m info N j<256:=by
 unfold leN outF
 split
 · exact tE_lt _ _ _ _ _
 · decide
theorem lKem_lt:∀ x,x∈lKem→x<256:=by decide
theorem lAll_lt:∀ x,x∈lAll→x<256:=by decide
theorem BytesIn.nil0 (w:World) (X:Nat→Nat):BytesIn w (.slice none 0 0) 0 X := .inl ⟨none,rfl,rfl⟩
theorem lZ_lt:∀ j,lZ j<256:=fun _=>(by decide:0<256)
def puN (s:Nat→Nat):Nat→Nat:=byt (mulL (clB s) 9)
end Go.Proofs.YtcgkajlehdgpoaaGreatDoor
namespace Go.Proofs.YtcgkajlehdgpoaaGreatDoor
open Go.RowKit
def sdN (k u:Nat→Nat):Nat:=mulL (clB k) (ofB (loB u) 32%pF)
theorem sdN_lt (k u:Nat→Nat):sdN k u<pF:=fmul_lt _ _
theorem shN2_lt (dh enc pub:Nat→Nat) (j:Nat):shN2 dh enc pub j<256:=leN_lt _ _ _ _ _ _ _ _
theorem dsN_lt (m:Nat) (ikm:Nat→Nat) (j:Nat):dsN m ikm j<256:=leN_lt _ _ _ _ _ _ _ _
theorem puN_lt (s:Nat→Nat) (j:Nat):puN s j<256:=byt_lt _ _
end Go.Proofs.YtcgkajlehdgpoaaGreatDoor
namespace Go.Proofs.YtcgkajlehdgpoaaGreatDoor
open Go.RowKit
abbrev NewR (w w':World) (s:Value) (n:Nat) (X:Nat→Nat):Prop:=∃ g,s = .slice (some ⟨g,0,none⟩) n n∧w.heap.size≤g∧RowAt .u8 w' g 0 n X
theorem NewR.bytes {w w':World} {s:Value} {n:Nat} {X:Nat→Nat} (h0:0<n) (h:NewR w w' s n X):BytesIn w' s n X:=by
 obtain ⟨g,rfl,-,hr⟩:=h
 exact row_bytes h0 hr
theorem ckem (label:List Nat) (hl:∀ x,x∈label→x<256) (hz:label.length≤50) (tv:Value) (cnt m:Nat) (t:Nat→Nat) (ht:∀ j,t j<256) (hc:cnt<1000000) (hm:m+300<140737488355000) (w:World) (hT:HTab w cubeK squareK) (h2:Texts w tv cnt m t) :
 Calls Tryz.prog 29 #[.string { data:=#[75,69,77,0,32] },.slice none 0 0,.string (strL label),tv] w fun e w'=>∃ s,e = .returned s∧BytesIn w' s 32 (lxN lKem 0 lZ label m t)∧Below w.heap.size w w' :=
 cextract_any lKem label lKem_lt hl (by show 5+label.length≤100;omega) (.slice none 0 0) tv 0 cnt m lZ t lZ_lt ht (by decide) hc hm w hT (BytesIn.nil0 _ _) h2
theorem ekem (label:List Nat) (hl:∀ x,x∈label→x<256) (hz:label.length≤50) (pv tv:Value) (cnt m:Nat) (prk t:Nat→Nat) (hp:∀ j,prk j<256) (ht:∀ j,t j<256) (hc:cnt<1000000) (hm:m+300<140737488355000) (w:World) (hT:HTab w cubeK squareK) (h1:BytesIn w pv 32 prk) (h2:Texts w tv cnt m t) :
 Calls Tryz.prog 28 #[.string { data:=#[75,69,77,0,32] },pv,.int .i64 32,.string (strL label),tv] w fun e w'=>∃ s,e = .returned s∧NewR w w' s 32 (leN lKem 32 prk label m t 32)∧Below w.heap.size w w' :=
 cexpand_any lKem label lKem_lt hl (by show 5+label.length≤100;omega) pv tv 32 cnt m 32 prk t (by decide) hp ht (by decide) hc hm w hT h1 h2
set_option maxRecDepth 20000 in
set_option maxHeartbeats 2000000 in
theorem cDerive_any (v:Value) (m:Nat) (ikm:Nat→Nat) (hikm:∀ j,ikm j<256) (hm:m+300<140737488355000) (w:World) (hT:HTab w cubeK squareK) (hv:BytesIn w v m ikm) :
 Calls Tryz.prog 9 #[v] w fun e w'=>∃ s p,e = .returned (.tuple #[s,p])∧BytesIn w' s 32 (dsN m ikm)∧BytesIn w' p 32 (puN (dsN m ikm))∧Below w.heap.size w w':=by
 obtain ⟨xv,cv,rfl,-,-,-⟩:=hv.src
 have b0:Below w.heap.size w (w.alloc (.cells #[.slice xv m cv] 22)):=(Below.refl _ _).alloc (Nat.le_refl _) _
 have hx:Calls Tryz.prog 29 #[.string { data:=#[75,69,77,0,32] },.slice none 0 0,.string { data:=#[100,107,112,95,112,114,107] },.slice (some ⟨w.heap.size,0,none⟩) 1 1] (w.alloc (.cells #[.slice xv m cv] 22)) _:=ckem lDkp (by decide) (by decide) _ 1 m ikm hikm (by decide) hm _ (hT.keep b0) (texts_one w _ m ikm hv)
 have he:∀ pv W,Below w.heap.size w W→BytesIn W pv 32 (lxN lKem 0 lZ lDkp m ikm)→Calls Tryz.prog 28 #[.string { data:=#[75,69,77,0,32] },pv,.int .i64 32,.string { data:=#[115,107] },.slice none 0 0] W _:=fun pv W hb hp=>ekem lSk (by decide) (by decide) pv (.slice none 0 0) 0 0 _ lZ (lxN_lt _ _ _ _ _ _) lZ_lt (by decide) (by decide) W (hT.keep hb) hp (texts_none W lZ)
 have hp:=fun s W (hs:BytesIn W s 32 (dsN m ikm))=>public_good s (dsN m ikm) (leN_lt _ _ _ _ _ _ _) W hs
 obtain ⟨X,hX⟩:∃ X,X=lxN lKem 0 lZ lDkp m ikm:=⟨_,rfl⟩
 obtain ⟨D,hD⟩:∃ D,D=dsN m ikm:=⟨_,rfl⟩
 have hD2:leN lKem 32 X lSk 0 lZ 32=D:=by rw [hD,hX];rfl
 rw [←hX] at hx he
 rw [hD2] at he
 rw [←hD] at hp ⊢
 obtain ⟨P,hP⟩:∃ P,P=puN D:=⟨_,rfl⟩
 have hP2:byt (mulL (clB D) 9)=P:=hP.symm
 rw [hP2] at hp
 rw [←hP]
 clear hX hD hD2 hP hP2 hv
 go_enter Tryz.func9,Tryz.ntmps9
 go_wp2_with (first
  | (go_at_call 29;refine hx.mono ?_;clear hx;rintro e w3 ⟨x3,rfl,o3,hb3⟩;(have b3:=below_next b0 hb3);(have e3:=he x3 w3 b3 o3);clear he)
  | (go_at_call 28;refine e3.mono ?_;clear e3;rintro e w4 ⟨s4,rfl,o4,hb4⟩;(have b4:=below_next b3 hb4);(replace o4:=NewR.bytes (by decide) o4);(have p4:=hp s4 w4 o4);clear hp)
  | (go_at_call 30;refine p4.mono ?_;clear p4;rintro e w5 ⟨s5,rfl,o5,hb5⟩;(have b5:=below_next b4 hb5)))
 go_ret2
 exact ⟨s4,s5,rfl,o4.keep hb5,NewR.bytes (by decide) o5,b5⟩
set_option maxRecDepth 20000 in
set_option maxHeartbeats 2000000 in
theorem cmutual_any (dv ev pv:Value) (dh enc pub:Nat→Nat) (hdh:∀ j,dh j<256) (henc:∀ j,enc j<256) (hpub:∀ j,pub j<256) (w:World) (hT:HTab w cubeK squareK) (h1:BytesIn w dv 32 dh) (h2:BytesIn w ev 32 enc) (h3:BytesIn w pv 32 pub) :
 Calls Tryz.prog 36 #[dv,ev,pv] w fun e w'=>∃ s,e = .returned s∧BytesIn w' s 32 (shN2 dh enc pub)∧Below w.heap.size w w':=by
 obtain ⟨x1,c1,rfl,-,-,-⟩:=h1.src
 obtain ⟨x2,c2,rfl,-,-,-⟩:=h2.src
 obtain ⟨x3,c3,rfl,-,-,-⟩:=h3.src
 have b0:Below w.heap.size w (w.alloc (.cells #[.slice x1 32 c1] 22)):=(Below.refl _ _).alloc (Nat.le_refl _) _
 have hx:Calls Tryz.prog 29 #[.string { data:=#[75,69,77,0,32] },.slice none 0 0,.string { data:=#[101,97,101,95,112,114,107] },.slice (some ⟨w.heap.size,0,none⟩) 1 1] (w.alloc (.cells #[.slice x1 32 c1] 22)) _:=ckem lEae (by decide) (by decide) _ 1 32 dh hdh (by decide) (by decide) _ (hT.keep b0) (texts_one w _ 32 dh h1)
 have he:∀ kv W,Below w.heap.size w W→BytesIn W kv 32 (lxN lKem 0 lZ lEae 32 dh)→Calls Tryz.prog 28 #[.string { data:=#[75,69,77,0,32] },kv,.int .i64 32,.string { data:=#[115,104,97,114,101,100,95,115,101,99,114,101,116] },.slice (some ⟨W.heap.size,0,none⟩) 2 2] (W.alloc (.cells #[.slice x2 32 c2,.slice x3 32 c3] 22)) _:=fun kv W hb hp=>ekem lSs (by decide) (by decide) kv _ 2 64 _ (catL [(32,enc),(32,pub)]) (lxN_lt _ _ _ _ _ _) (catL_lt _ (by
  intro p hp
  simp only [List.mem_cons,List.not_mem_nil,or_false] at hp
  rcases hp with rfl | rfl
  · exact henc
  · exact hpub)) (by decide) (by decide) _ (hT.keep (hb.alloc hb.size _)) (hp.keep ((Below.refl _ _).alloc (Nat.le_refl _) _)) (texts_two W _ _ 32 32 enc pub (h2.keep hb) (h3.keep hb))
 obtain ⟨X,hX⟩:∃ X,X=lxN lKem 0 lZ lEae 32 dh:=⟨_,rfl⟩
 obtain ⟨D,hD⟩:∃ D,D=shN2 dh enc pub:=⟨_,rfl⟩
 have hD2:leN lKem 32 X lSs 64 (catL [(32,enc),(32,pub)]) 32=D:=by rw [hD,hX];rfl
 rw [←hX] at hx he
 rw [hD2] at he
 rw [←hD]
 clear hX hD hD2 h1 h2 h3
 go_enter Tryz.func36,Tryz.ntmps36
 go_wp2_with (first
  | (go_at_call 29;refine hx.mono ?_;clear hx;rintro e w3 ⟨x3,rfl,o3,hb3⟩;(have b3:=below_next b0 hb3);(have e3:=he x3 w3 b3 o3);clear he)
  | (go_at_call 28;refine e3.mono ?_;clear e3;rintro e w4 ⟨s4,rfl,o4,hb4⟩))
 go_ret
 exact ⟨s4,rfl,NewR.bytes (by decide) o4,below_next (b3.alloc b3.size _) hb4⟩
theorem csh_some (v u:Value) (k x:Nat→Nat) (hk:∀ j,k j<256) (hx:∀ j,x j<256) (h0:sdN k x≠0) (w:World) (hv:BytesIn w v 32 k) (hu:BytesIn w u 32 x) :
 Calls Tryz.prog 35 #[v,u] w fun e w'=>∃ s,e = .returned (.tuple #[s,.int .i64 0])∧NewB w w' s 32 (byt (sdN k x))∧Below w.heap.size w w' :=
 shared_some v u (sdN k x) h0 (sdN_lt k x) w (lmul_good v u k x hk hx w hv hu)
set_option maxRecDepth 20000 in
set_option maxHeartbeats 2000000 in
theorem cDecap_some (v u:Value) (k x:Nat→Nat) (hk:∀ j,k j<256) (hx:∀ j,x j<256) (h0:sdN k x≠0) (w:World) (hT:HTab w cubeK squareK) (hv:BytesIn w v 32 k) (hu:BytesIn w u 32 x) :
 Calls Tryz.prog 13 #[v,u] w fun e w'=>∃ s,e = .returned (.tuple #[s,.int .i64 0])∧BytesIn w' s 32 (shN2 (byt (sdN k x)) x (puN k))∧Below w.heap.size w w':=by
 have hs:=csh_some v u k x hk hx h0 w hv hu
 have hp:=fun W hb=>public_good v k hk W (hv.keep hb)
 have hm:=fun d p W hd hb hp=>cmutual_any d u p (byt (sdN k x)) x (puN k) (byt_lt _) hx (puN_lt _) W (hT.keep hb) hd (hu.keep hb) hp
 obtain ⟨T,hT'⟩:∃ T,T=shN2 (byt (sdN k x)) x (puN k):=⟨_,rfl⟩
 obtain ⟨D,hD⟩:∃ D,D=byt (sdN k x):=⟨_,rfl⟩
 obtain ⟨P,hP⟩:∃ P,P=puN k:=⟨_,rfl⟩
 have hP2:byt (mulL (clB k) 9)=P:=hP.symm
 rw [←hT'] at hm ⊢
 rw [←hD] at hs hm
 rw [hP2] at hp
 rw [←hP] at hm
 obtain ⟨x1,c1,rfl,-,-,-⟩:=hv.src
 obtain ⟨x2,c2,rfl,-,-,-⟩:=hu.src
 clear hv hu hT' hD hP hP2 hT
 go_enter Tryz.func13,Tryz.ntmps13
 go_wp2_with (first
  | (go_at_call 35;refine hs.mono ?_;clear hs;rintro e w1 ⟨s1,rfl,o1,b1⟩;(replace o1:=NewR.bytes (by decide) o1);(have p1:=hp w1 b1);clear hp)
  | (go_at_call 30;refine p1.mono ?_;clear p1;rintro e w2 ⟨s2,rfl,o2,hb2⟩;(have b2:=below_next b1 hb2);(have m2:=hm s1 s2 w2 (o1.keep hb2) b2 (NewR.bytes (by decide) o2));clear hm)
  | (go_at_call 36;refine m2.mono ?_;clear m2;rintro e w3 ⟨s3,rfl,o3,hb3⟩))
 go_ret2
 exact ⟨s3,rfl,o3,below_next b2 hb3⟩
set_option maxRecDepth 20000 in
set_option maxHeartbeats 2000000 in
theorem cEncap_some (u v:Value) (m:Nat) (x ikm:Nat→Nat) (hx:∀ j,x j<256) (hikm:∀ j,ikm j<256) (hm:m+300<140737488355000) (h0:sdN (dsN m ikm) x≠0) (w:World) (hT:HTab w cubeK squareK) (hu:BytesIn w u 32 x) (hv:BytesIn w v m ikm) :
 Calls Tryz.prog 11 #[u,v] w fun e w'=>∃ s p,e = .returned (.tuple #[s,p,.int .i64 0])∧BytesIn w' s 32 (shN2 (byt (sdN (dsN m ikm) x)) (puN (dsN m ikm)) x)∧BytesIn w' p 32 (puN (dsN m ikm))∧Below w.heap.size w w':=by
 have hd:=cDerive_any v m ikm hikm hm w hT hv
 have hs:=fun s W hb hs=>csh_some s u (dsN m ikm) x (dsN_lt _ _) hx h0 W hs (hu.keep hb)
 have hmu:=fun d p W hd hp hb=>cmutual_any d p u (byt (sdN (dsN m ikm) x)) (puN (dsN m ikm)) x (byt_lt _) (puN_lt _) hx W (hT.keep hb) hd hp (hu.keep hb)
 obtain ⟨T,hT'⟩:∃ T,T=shN2 (byt (sdN (dsN m ikm) x)) (puN (dsN m ikm)) x:=⟨_,rfl⟩
 rw [←hT'] at hmu ⊢
 obtain ⟨Z,hZ⟩:∃ Z,Z=byt (sdN (dsN m ikm) x):=⟨_,rfl⟩
 rw [←hZ] at hmu hs
 obtain ⟨D,hD⟩:∃ D,D=dsN m ikm:=⟨_,rfl⟩
 rw [←hD] at hd hs hmu ⊢
 obtain ⟨P,hP⟩:∃ P,P=puN D:=⟨_,rfl⟩
 rw [←hP] at hd hmu ⊢
 obtain ⟨x1,c1,rfl,-,-,-⟩:=hu.src
 obtain ⟨x2,c2,rfl,-,-,-⟩:=hv.src
 clear hv hu h0 hD hP hT' hZ hT
 go_enter Tryz.func11,Tryz.ntmps11
 go_wp2_with (first
  | (go_at_call 9;refine hd.mono ?_;clear hd;rintro e w1 ⟨s1,p1,rfl,o1,q1,b1⟩;(have s2:=hs s1 w1 b1 o1);clear hs)
  | (go_at_call 35;refine s2.mono ?_;clear s2;rintro e w2 ⟨d2,rfl,o2,hb2⟩;(have b2:=below_next b1 hb2);(replace q1:=q1.keep hb2);(have m3:=hmu d2 p1 w2 (NewR.bytes (by decide) o2) q1 b2);clear hmu)
  | (go_at_call 36;refine m3.mono ?_;clear m3;rintro e w3 ⟨s3,rfl,o3,hb3⟩))
 go_ret3
 exact ⟨s3,p1,rfl,o3,q1.keep hb3,below_next b2 hb3⟩
end Go.Proofs.YtcgkajlehdgpoaaGreatDoor
namespace Go.Proofs.YtcgkajlehdgpoaaGreatDoor
open Go.RowKit
def RCtx (w:World) (g:Nat) (K N X:Nat→Nat) (n:Nat):Prop:=∃ k u x,RW w g 0 [k,u,x,.int .i64 (n:Int)]∧BytesIn w k 16 K∧BytesIn w u 12 N∧BytesIn w x 32 X
theorem RCtx.keep {w w':World} {g:Nat} {K N X:Nat→Nat} {n:Nat} (h:RCtx w g K N X n) (hb:Below w.heap.size w w'):RCtx w' g K N X n:=by
 obtain ⟨k,u,x,r,h1,h2,h3⟩:=h
 exact ⟨k,u,x,r.still hb,h1.keep hb,h2.keep hb,h3.keep hb⟩
end Go.Proofs.YtcgkajlehdgpoaaGreatDoor
namespace Go.Proofs.YtcgkajlehdgpoaaGreatDoor
def xt (x:Nat):Nat:=if 255<x*2 then (x*2) ^^^ 283 else x*2
def gmP (b:Nat):Nat→Nat→Nat × Nat
 | 0,a=>(0,a)
 | i+1,a=>(if b / 2 ^ i%2=1 then (gmP b i a).1 ^^^ (gmP b i a).2 else (gmP b i a).1,xt (gmP b i a).2)
def gm (a b:Nat):Nat:=(gmP b 8 a).1
theorem gmP_snd (b c:Nat):∀ i a,(gmP b i a).2=(gmP c i a).2
 | 0,_=>rfl
 | i+1,a=>by show xt (gmP b i a).2=xt (gmP c i a).2;rw [gmP_snd b c i a]
theorem bit_xor (x y i:Nat):(x ^^^ y) / 2 ^ i%2=(x / 2 ^ i%2+y / 2 ^ i%2)%2:=by
 have h:=Nat.testBit_xor x y i
 simp only [Nat.testBit_eq_decide_div_mod_eq] at h
 have a:=Nat.mod_two_eq_zero_or_one ((x ^^^ y) / 2 ^ i)
 have b:=Nat.mod_two_eq_zero_or_one (x / 2 ^ i)
 have c:=Nat.mod_two_eq_zero_or_one (y / 2 ^ i)
 rcases a with a | a <;> rcases b with b | b <;> rcases c with c | c <;> rw [a,b,c] at h ⊢ <;> first | rfl | (exact absurd h (by decide))
theorem xor_swap (a b c d:Nat):(a ^^^ b) ^^^ (c ^^^ d)=(a ^^^ c) ^^^ (b ^^^ d):=by
 rw [Nat.xor_assoc,←Nat.xor_assoc b c d,Nat.xor_comm b c,Nat.xor_assoc c b d,←Nat.xor_assoc]
theorem gmP_xor (x y a:Nat):∀ i,(gmP (x ^^^ y) i a).1=(gmP x i a).1 ^^^ (gmP y i a).1
 | 0=>(Nat.xor_self 0).symm
 | i+1=>by
  have ih:=gmP_xor x y a i
  have e1:=gmP_snd (x ^^^ y) x i a
  have e2:=gmP_snd y x i a
  have hb:=bit_xor x y i
  simp only [gmP]
  rw [ih,e1,e2,hb]
  have b:=Nat.mod_two_eq_zero_or_one (x / 2 ^ i)
  have c:=Nat.mod_two_eq_zero_or_one (y / 2 ^ i)
  generalize (gmP x i a).1=X
  generalize (gmP y i a).1=Y
  generalize (gmP x i a).2=D
  rcases b with b | b <;> rcases c with c | c <;> rw [b,c]
  · rfl
  · show (X ^^^ Y) ^^^ D=X ^^^ (Y ^^^ D)
    rw [Nat.xor_assoc]
  · show (X ^^^ Y) ^^^ D=(X ^^^ D) ^^^ Y
    rw [Nat.xor_assoc,Nat.xor_comm Y D,←Nat.xor_assoc]
  · show X ^^^ Y=(X ^^^ D) ^^^ (Y ^^^ D)
    rw [xor_swap,Nat.xor_self,Nat.xor_zero]
theorem gm_xor (a x y:Nat):gm a (x ^^^ y)=gm a x ^^^ gm a y:=gmP_xor x y a 8
def boxL:List Nat:=[99,124,119,123,242,107,111,197,48,1,103,43,254,215,171,118,202,130,201,125,250,89,71,240,173,212,162,175,156,164,114,192,183,253,147,38,54,63,247,204,52,165,229,241,113,216,49,21,4,199,35,195,24,150,5,154,7,18,128,226,235,39,178,117,9,131,44,26,27,110,90,160,82,59,214,179,41,227,47,132,83,209,0,237,32,252,177,91,106,203,190,57,74,76,88,207,208,239,170,251,67,77,51,133,69,249,2,127,80,60,159,168,81,163,64,143,146,157,56,245,188,182,218,33,16,255,243,210,205,12,19,236,95,151,68,23,196,167,126,61,100,93,25,115,96,129,79,220,34,42,144,136,70,238,184,20,222,94,11,219,224,50,58,10,73,6,36,92,194,211,172,98,145,149,228,121,231,200,55,109,141,213,78,169,108,86,244,234,101,122,174,8,186,120,37,46,28,166,180,198,232,221,116,31,75,189,139,138,112,62,181,102,72,3,246,14,97,53,87,185,134,193,29,158,225,248,152,17,105,217,142,148,155,30,135,233,206,85,40,223,140,161,137,13,191,230,66,104,65,153,45,15,176,84,187,22]
def unL:List Nat:=[82,9,106,213,48,54,165,56,191,64,163,158,129,243,215,251,124,227,57,130,155,47,255,135,52,142,67,68,196,222,233,203,84,123,148,50,166,194,35,61,238,76,149,11,66,250,195,78,8,46,161,102,40,217,36,178,118,91,162,73,109,139,209,37,114,248,246,100,134,104,152,22,212,164,92,204,93,101,182,146,108,112,72,80,253,237,185,218,94,21,70,87,167,141,157,132,144,216,171,0,140,188,211,10,247,228,88,5,184,179,69,6,208,44,30,143,202,63,15,2,193,175,189,3,1,19,138,107,58,145,17,65,79,103,220,234,151,242,207,206,240,180,230,115,150,172,116,34,231,173,53,133,226,249,55,232,28,117,223,110,71,241,26,113,29,41,197,137,111,183,98,14,170,24,190,27,252,86,62,75,198,210,121,32,154,219,192,254,120,205,90,244,31,221,168,51,136,7,199,49,177,18,16,89,39,128,236,95,96,81,127,169,25,181,74,13,45,229,122,159,147,201,156,239,160,224,59,77,174,42,245,176,200,235,187,60,131,83,153,97,23,43,4,126,186,119,214,38,225,105,20,99,85,33,12,125]
def boxN (x:Nat):Nat:=boxL.getD x 0
def unN (x:Nat):Nat:=unL.getD x 0
theorem all256 {p:Nat→Bool} (h:(List.range 256).all p=true) (x:Nat) (hx:x<256):p x=true:=List.all_eq_true.1 h x (List.mem_range.2 hx)
set_option maxRecDepth 100000 in
theorem box_ok:((List.range 256).all fun x=>unN (boxN x) == x && boxN (unN x) == x && decide (boxN x<256) && decide (unN x<256) && !(boxN x == x))=true:=by kernel_rfl
theorem box_all (x:Nat) (hx:x<256):unN (boxN x)=x∧boxN (unN x)=x∧boxN x<256∧unN x<256∧boxN x≠x:=by
 have h:=all256 box_ok x hx
 simp only [Bool.and_eq_true,beq_iff_eq,decide_eq_true_eq,Bool.not_eq_true',beq_eq_false_iff_ne] at h
 exact ⟨h.1.1.1.1,h.1.1.1.2,h.1.1.2,h.1.2,h.2⟩
def mT (k:Nat):Nat:=[2,3,1,1].getD k 0
def mB (k:Nat):Nat:=[14,11,13,9].getD k 0
def col1 (m:Nat→Nat) (b0 b1 b2 b3:Nat) (r:Nat):Nat:=gm (m ((0+4 - r)%4)) b0 ^^^ gm (m ((1+4 - r)%4)) b1 ^^^ gm (m ((2+4 - r)%4)) b2 ^^^ gm (m ((3+4 - r)%4)) b3
def colN (m:Nat→Nat) (b:Nat→Nat) (j:Nat):Nat:=col1 m (b (j / 4*4)) (b (j / 4*4+1)) (b (j / 4*4+2)) (b (j / 4*4+3)) (j%4)
def way (m n:Nat→Nat) (i k x:Nat):Nat:=gm (n ((0+4 - k)%4)) (gm (m ((i+4 - 0)%4)) x) ^^^ gm (n ((1+4 - k)%4)) (gm (m ((i+4 - 1)%4)) x) ^^^ gm (n ((2+4 - k)%4)) (gm (m ((i+4 - 2)%4)) x) ^^^ gm (n ((3+4 - k)%4)) (gm (m ((i+4 - 3)%4)) x)
end Go.Proofs.YtcgkajlehdgpoaaGreatDoor
namespace Go.Proofs.YtcgkajlehdgpoaaGreatDoor
def S16 (a b:Nat→Nat):Prop:=∀ j,j<16→a j=b j
def B16 (a:Nat→Nat):Prop:=∀ j,j<16→a j<256
theorem S16.symm {a b:Nat→Nat} (h:S16 a b):S16 b a:=fun j hj=>(h j hj).symm
theorem S16.trans {a b c:Nat→Nat} (h:S16 a b) (k:S16 b c):S16 a c:=fun j hj=>(h j hj).trans (k j hj)
theorem B16.of {a b:Nat→Nat} (h:B16 a) (e:S16 a b):B16 b:=fun j hj=>by rw [←e j hj];exact h j hj
def addN (w:Nat→Nat) (r:Nat) (b:Nat→Nat) (j:Nat):Nat:=b j ^^^ w (16*r+j)
def rowN (by_:Nat) (b:Nat→Nat) (j:Nat):Nat:=b (4*((j / 4+j%4*by_)%4)+j%4)
def thrN (s:Nat→Nat) (b:Nat→Nat) (j:Nat):Nat:=s (b j)
theorem addN_S {a b:Nat→Nat} (h:S16 a b) (w:Nat→Nat) (r:Nat):S16 (addN w r a) (addN w r b):=fun j hj=>by unfold addN;rw [h j hj]
theorem rowN_S {a b:Nat→Nat} (h:S16 a b) (y:Nat):S16 (rowN y a) (rowN y b):=fun j hj=>h _ (by omega)
theorem thrN_S {a b:Nat→Nat} (h:S16 a b) (s:Nat→Nat):S16 (thrN s a) (thrN s b):=fun j hj=>by unfold thrN;rw [h j hj]
theorem colN_S {a b:Nat→Nat} (h:S16 a b) (m:Nat→Nat):S16 (colN m a) (colN m b):=fun j hj=>by
 unfold colN
 rw [h (j / 4*4) (by omega),h (j / 4*4+1) (by omega),h (j / 4*4+2) (by omega),h (j / 4*4+3) (by omega)]
theorem xor_byte {a b:Nat} (ha:a<256) (hb:b<256):a ^^^ b<256:=Nat.xor_lt_two_pow (n:=8) ha hb
set_option maxRecDepth 100000 in
theorem gm_ok:((List.range 256).all fun x=>(List.range 4).all fun k=>decide (gm (mT k) x<256) && decide (gm (mB k) x<256))=true:=by kernel_rfl
theorem gm_byte (x k:Nat) (hx:x<256) (hk:k<4):gm (mT k) x<256∧gm (mB k) x<256:=by
 have h:=List.all_eq_true.1 (all256 gm_ok x hx) k (List.mem_range.2 hk)
 simp only [Bool.and_eq_true,decide_eq_true_eq] at h
 exact h
theorem addN_B {a w:Nat→Nat} (h:B16 a) (hw:∀ j,w j<256) (r:Nat):B16 (addN w r a):=fun j hj=>xor_byte (h j hj) (hw _)
theorem rowN_B {a:Nat→Nat} (h:B16 a) (y:Nat):B16 (rowN y a):=fun j hj=>h _ (by omega)
theorem box_B {a:Nat→Nat} (h:B16 a):B16 (thrN boxN a):=fun j hj=>(box_all _ (h j hj)).2.2.1
theorem colT_B {a:Nat→Nat} (h:B16 a):B16 (colN mT a):=fun j hj=>by
 unfold colN col1
 exact xor_byte (xor_byte (xor_byte (gm_byte _ _ (h _ (by omega)) (by omega)).1 (gm_byte _ _ (h _ (by omega)) (by omega)).1) (gm_byte _ _ (h _ (by omega)) (by omega)).1) (gm_byte _ _ (h _ (by omega)) (by omega)).1
theorem row_row (b:Nat→Nat):S16 (rowN 3 (rowN 1 b)) b∧S16 (rowN 1 (rowN 3 b)) b:=by
 constructor
 · intro j hj
   unfold rowN
   congr 1
   omega
 · intro j hj
   unfold rowN
   congr 1
   omega
theorem un_box {b:Nat→Nat} (h:B16 b):S16 (thrN unN (thrN boxN b)) b∧S16 (thrN boxN (thrN unN b)) b:=⟨fun j hj=>(box_all _ (h j hj)).1,fun j hj=>(box_all _ (h j hj)).2.1⟩
def blkS (w:Nat→Nat) (b:Nat→Nat):Nat→Nat→Nat
 | 0=>addN w 0 b
 | r+1=>addN w (r+1) (colN mT (rowN 1 (thrN boxN (blkS w b r))))
def blkN (w b:Nat→Nat):Nat→Nat:=addN w 10 (rowN 1 (thrN boxN (blkS w b 9)))
theorem blkS_B {w b:Nat→Nat} (hb:B16 b) (hw:∀ j,w j<256):∀ r,B16 (blkS w b r)
 | 0=>addN_B hb hw 0
 | r+1=>addN_B (colT_B (rowN_B (box_B (blkS_B hb hw r)) 1)) hw _
theorem blkN_B {w b:Nat→Nat} (hb:B16 b) (hw:∀ j,w j<256):B16 (blkN w b):=addN_B (rowN_B (box_B (blkS_B hb hw 9)) 1) hw 10
theorem undo {x:Nat→Nat} (h:B16 x):S16 (thrN unN (rowN 3 (rowN 1 (thrN boxN x)))) x:=(thrN_S (row_row _).1 unN).trans (un_box h).1
end Go.Proofs.YtcgkajlehdgpoaaGreatDoor
namespace Go.Proofs.YtcgkajlehdgpoaaGreatDoor
theorem all_below {p:Nat→Bool} {n:Nat} (h:(List.range n).all p=true) (x:Nat) (hx:x<n):p x=true:=List.all_eq_true.1 h x (List.mem_range.2 hx)
def rcN:Nat→Nat
 | 0=>1
 | n+1=>gm (rcN n) 2
def kyT (w:Nat→Nat) (n k:Nat):Nat:=w (4*n - 16+k) ^^^ (if n%4=0 then (if k=0 then boxN (w (4*n - 4+1)) ^^^ rcN (n / 4 - 1) else boxN (w (4*n - 4+(k+1)%4))) else w (4*n - 4+k))
def kyS (key:Nat→Nat):Nat→Nat→Nat
 | 0=>key
 | n+1=>cat (4*(n+4)) (kyS key n) (kyT (kyS key n) (n+4))
def kyN (key:Nat→Nat):Nat→Nat:=kyS key 40
theorem rc_ok:((List.range 10).all fun n=>decide (rcN n<256))=true:=by kernel_rfl
theorem rc_lt (n:Nat) (hn:n<10):rcN n<256:=by
 have h:=all_below rc_ok n hn
 simpa using h
theorem kyS_lt {key:Nat→Nat} (hk:∀ j,key j<256):∀ n,n≤40→∀ j,kyS key n j<256
 | 0,_,j=>hk j
 | n+1,hn,j=>by
  have ih:=kyS_lt hk n (by omega)
  show cat (4*(n+4)) (kyS key n) (kyT (kyS key n) (n+4)) j<256
  refine cat_lt ih (fun k => ?_) j
  unfold kyT
  refine xor_byte (ih _) ?_
  split
  · split
    · exact xor_byte (box_all _ (ih _)).2.2.1 (rc_lt _ (by omega))
    · exact (box_all _ (ih _)).2.2.1
  · exact ih _
theorem kyN_lt {key:Nat→Nat} (hk:∀ j,key j<256):∀ j,kyN key j<256:=kyS_lt hk 40 (Nat.le_refl _)
end Go.Proofs.YtcgkajlehdgpoaaGreatDoor
namespace Go.Proofs.YtcgkajlehdgpoaaGreatDoor
def dbN (x:Nat):Nat:=(x*2%256) ^^^ (x / 128*27)
theorem db_ok:((List.range 256).all fun x=>dbN x == gm 2 x && dbN x == gm x 2 && (dbN x ^^^ x) == gm 3 x && gm 1 x == x && decide (dbN x<256) && gm 0 x == 0)=true:=by kernel_rfl
theorem db_all (x:Nat) (hx:x<256):dbN x=gm 2 x∧dbN x=gm x 2∧dbN x ^^^ x=gm 3 x∧gm 1 x=x∧dbN x<256∧gm 0 x=0:=by
 have h:=all256 db_ok x hx
 simp only [Bool.and_eq_true,beq_iff_eq,decide_eq_true_eq] at h
 exact ⟨h.1.1.1.1.1,h.1.1.1.1.2,h.1.1.1.2,h.1.1.2,h.1.2,h.2⟩
theorem db_xor (x y:Nat) (hx:x<256) (hy:y<256):dbN (x ^^^ y)=dbN x ^^^ dbN y:=by
 rw [(db_all _ (xor_byte hx hy)).1,(db_all _ hx).1,(db_all _ hy).1,gm_xor]
def mx1 (x0 x1 x2 x3 x y:Nat):Nat:=x ^^^ (x0 ^^^ x1 ^^^ x2 ^^^ x3) ^^^ dbN (x ^^^ y)
def mxN (b:Nat→Nat) (j:Nat):Nat:=mx1 (b (j - j%4)) (b (j - j%4+1)) (b (j - j%4+2)) (b (j - j%4+3)) (b j) (b (j - j%4+(j+1)%4))
theorem xor_can (a b:Nat):a ^^^ (a ^^^ b)=b:=by rw [←Nat.xor_assoc,Nat.xor_self,Nat.zero_xor]
theorem mx_col (b:Nat→Nat) (hb:B16 b):S16 (mxN b) (colN mT b):=fun j hj=>by
 unfold mxN colN
 rw [show j - j%4=j / 4*4 by omega]
 obtain ⟨q,r,hq,hr,rfl⟩:∃ q r,q<4∧r<4∧j=q*4+r:=⟨j / 4,j%4,by omega,by omega,by omega⟩
 rw [show (q*4+r) / 4=q by omega,show (q*4+r)%4=r by omega]
 have h0:b (q*4)<256:=hb _ (by omega)
 have h1:b (q*4+1)<256:=hb _ (by omega)
 have h2:b (q*4+2)<256:=hb _ (by omega)
 have h3:b (q*4+3)<256:=hb _ (by omega)
 have e:∀ a c:Nat,a<256→c<256→∀ d e,mx1 a c d e a c=gm 2 a ^^^ gm 3 c ^^^ d ^^^ e:=fun a c ha hc d e=>by
  unfold mx1
  rw [db_xor a c ha hc,←(db_all a ha).1,←(db_all c hc).2.2.1,Nat.xor_assoc a c d,Nat.xor_assoc a (c ^^^ d) e,xor_can]
  ac_rfl
 rcases (show r=0∨r=1∨r=2∨r=3 by omega) with rfl | rfl | rfl | rfl
 · rw [show (q*4+0+1)%4=1 by omega,Nat.add_zero]
   show _=gm 2 _ ^^^ gm 3 _ ^^^ gm 1 _ ^^^ gm 1 _
   rw [(db_all _ h2).2.2.2.1,(db_all _ h3).2.2.2.1]
   exact e _ _ h0 h1 _ _
 · rw [show (q*4+1+1)%4=2 by omega]
   show _=gm 1 _ ^^^ gm 2 _ ^^^ gm 3 _ ^^^ gm 1 _
   rw [(db_all _ h0).2.2.2.1,(db_all _ h3).2.2.2.1]
   have:=e _ _ h1 h2 (b (q*4)) (b (q*4+3))
   unfold mx1 at this ⊢
   refine Eq.trans ?_ (this.trans ?_) <;> ac_rfl
 · rw [show (q*4+2+1)%4=3 by omega]
   show _=gm 1 _ ^^^ gm 1 _ ^^^ gm 2 _ ^^^ gm 3 _
   rw [(db_all _ h0).2.2.2.1,(db_all _ h1).2.2.2.1]
   have:=e _ _ h2 h3 (b (q*4)) (b (q*4+1))
   unfold mx1 at this ⊢
   refine Eq.trans ?_ (this.trans ?_) <;> ac_rfl
 · rw [show (q*4+3+1)%4=0 by omega,Nat.add_zero]
   show _=gm 3 _ ^^^ gm 1 _ ^^^ gm 1 _ ^^^ gm 2 _
   rw [(db_all _ h1).2.2.2.1,(db_all _ h2).2.2.2.1]
   have:=e _ _ h3 h0 (b (q*4+1)) (b (q*4+2))
   unfold mx1 at this ⊢
   refine Eq.trans ?_ (this.trans ?_) <;> ac_rfl
theorem mxN_B {b:Nat→Nat} (h:B16 b):B16 (mxN b):=(colT_B h).of (mx_col b h).symm
theorem mxN_S {a b:Nat→Nat} (h:S16 a b):S16 (mxN a) (mxN b):=fun j hj=>by
 unfold mxN
 rw [h (j - j%4) (by omega),h (j - j%4+1) (by omega),h (j - j%4+2) (by omega),h (j - j%4+3) (by omega),h j hj,h (j - j%4+(j+1)%4) (by omega)]
def tuN (b:Nat→Nat) (j:Nat):Nat:=b ((j+4*(j%4))%16)
theorem tu_row (b:Nat→Nat):S16 (tuN b) (rowN 1 b):=fun j hj=>by
 unfold tuN rowN
 congr 1
 omega
theorem tuN_B {b:Nat→Nat} (h:B16 b):B16 (tuN b):=fun j hj=>h _ (by omega)
def wd0 (X:Nat→Nat) (p k:Nat):Nat:=if k=0 then boxN (X 13) ^^^ p else if k=3 then boxN (X 12) else boxN (X (13+k))
def nxN (X:Nat→Nat) (p:Nat) (j:Nat):Nat:=if j<4 then wd0 X p j ^^^ X j else nxN X p (j - 4) ^^^ X j
termination_by j
theorem nxN_lo (X:Nat→Nat) (p j:Nat) (h:j<4):nxN X p j=wd0 X p j ^^^ X j:=by rw [nxN,if_pos h]
theorem nxN_hi (X:Nat→Nat) (p j:Nat) (h:4≤j):nxN X p j=nxN X p (j - 4) ^^^ X j:=by rw [nxN,if_neg (by omega)]
theorem kyS_keep (key:Nat→Nat) (n:Nat):∀ d j,j<4*(n+4)→kyS key (n+d) j=kyS key n j
 | 0,_,_=>rfl
 | d+1,j,h=>by
  rw [show n+(d+1)=(n+d)+1 by omega]
  show cat (4*(n+d+4)) (kyS key (n+d)) _ j=_
  rw [cat_left (by omega)]
  exact kyS_keep key n d j h
theorem kyN_at (key:Nat→Nat) (n j:Nat) (hn:n≤40) (h:j<4*(n+4)):kyN key j=kyS key n j:=by
 have:=kyS_keep key n (40 - n) j h
 rwa [show n+(40 - n)=40 by omega] at this
theorem kyN_lo (key:Nat→Nat) (j:Nat) (h:j<16):kyN key j=key j:=kyN_at key 0 j (by decide) (by omega)
theorem kyN_word (key:Nat→Nat) (i k:Nat) (h4:4≤i) (h44:i<44) (hk:k<4):kyN key (4*i+k)=kyT (kyN key) i k:=by
 obtain ⟨n,rfl⟩:∃ n,i=n+4:=⟨i - 4,by omega⟩
 rw [kyN_at key (n+1) _ (by omega) (by omega)]
 show cat (4*(n+4)) (kyS key n) (kyT (kyS key n) (n+4)) (4*(n+4)+k)=_
 rw [cat_right]
 unfold kyT
 have e:∀ j,j<4*(n+4)→kyS key n j=kyN key j:=fun j h=>(kyN_at key n j (by omega) h).symm
 rw [e _ (by omega),e (4*(n+4) - 4+1) (by omega),e (4*(n+4) - 4+(k+1)%4) (by omega),e (4*(n+4) - 4+k) (by omega)]
theorem ky_next (key:Nat→Nat) (r:Nat) (hr:r<10):∀ j,j<16→nxN (fun i=>kyN key (16*r+i)) (rcN r) j=kyN key (16*(r+1)+j):=by
 intro j
 induction j using Nat.strongRecOn with
 | ind j ih =>
  intro hj
  have hw:=kyN_word key (4*(r+1)+j / 4) (j%4) (by omega) (by omega) (by omega)
  rw [show 4*(4*(r+1)+j / 4)+j%4=16*(r+1)+j by omega] at hw
  rw [hw]
  unfold kyT
  rw [show 4*(4*(r+1)+j / 4) - 16+j%4=16*r+j by omega]
  by_cases h4:j<4
  · rw [nxN_lo _ _ _ h4,if_pos (by omega),Nat.xor_comm]
    congr 1
    unfold wd0
    rw [show j%4=j by omega,show (4*(r+1)+j / 4) / 4 - 1=r by omega]
    by_cases h0:j=0
    · rw [if_pos h0,if_pos h0,show 4*(4*(r+1)+j / 4) - 4+1=16*r+13 by omega]
    · rw [if_neg h0,if_neg h0]
      by_cases h3:j=3
      · rw [if_pos h3,show 4*(4*(r+1)+j / 4) - 4+(j+1)%4=16*r+12 by omega]
      · rw [if_neg h3,show 4*(4*(r+1)+j / 4) - 4+(j+1)%4=16*r+(13+j) by omega]
  · rw [nxN_hi _ _ _ (by omega),ih (j - 4) (by omega) (by omega),if_neg (by omega),Nat.xor_comm]
    rw [show 4*(4*(r+1)+j / 4) - 4+j%4=16*(r+1)+(j - 4) by omega]
end Go.Proofs.YtcgkajlehdgpoaaGreatDoor
