/- What the proof stands on: QCN, QRT, EqN, QCT, QRO. -/
import Derived.Test.YtcgkajlehdgpoaaGreatDoorA8MathM
import Derived.Test.YtcgkajlehdgpoaaGreatDoorBase
import Derived.Test.YtcgkajlehdgpoaaGreatDoorG9MM
import Derived.Test.YtcgkajlehdgpoaaGreatDoorQCXM
import Derived.Test.YtcgkajlehdgpoaaGreatDoorZFM
import Derived.Laws.Cover3
namespace Go.Proofs.YtcgkajlehdgpoaaGreatDoor
open Go.RowKit
def CCtx (w:World) (g:Nat) (K N X:Nat→Nat) (n:Nat):Prop:=∃ gk gu gx,RW w g 0 [.slice (some ⟨gk,0,none⟩) 16 16,.slice (some ⟨gu,0,none⟩) 12 12,.slice (some ⟨gx,0,none⟩) 32 32,.int .u64 (n:Int)]∧RowAt .u8 w gk 0 16 K∧RowAt .u8 w gu 0 12 N∧RowAt .u8 w gx 0 32 X
theorem RowAt.stay {w w':World} {g o n:Nat} {X:Nat→Nat} (h0:0<n) (h:RowAt .u8 w g o n X) (hb:Below w.heap.size w w'):RowAt .u8 w' g o n X:=h.below hb (block_lt_of_cell (h 0 h0).1)
theorem CCtx.keep {w w':World} {g:Nat} {K N X:Nat→Nat} {n:Nat} (h:CCtx w g K N X n) (hb:Below w.heap.size w w'):CCtx w' g K N X n:=by
 obtain ⟨k,u,x,r,h1,h2,h3⟩:=h
 exact ⟨k,u,x,r.still hb,h1.stay (by decide) hb,h2.stay (by decide) hb,h3.stay (by decide) hb⟩
theorem zeroKs (w:World):Sem.run Tryz.prog (zeroValue 52) w = .ok (.agg #[.slice none 0 0,.slice none 0 0,.slice none 0 0]) w:=by kernel_rfl
theorem infoKs (a b c:Value):(Tryz.prog.info? 52).map (·.size)=some (#[a,b,c]:Array Value).size:=by kernel_rfl
theorem infoKl (a b c:Value):(Tryz.prog.info? 52).map (·.size)=some [a,b,c].length:=by kernel_rfl
theorem oneKs (x y z:Option Addr) (a b c d e f:Nat):(#[.slice x a b,.slice y c d,.slice z e f]:Array Value).all (·.oneCell')=true:=by simp [Value.oneCell']
theorem results_keys (tmps:Array Value) (w:World) (g:Nat) (a b c:Value) (hp:tmps.getD 4 undef = .pointer (some ⟨g,0,none⟩)) (h:RW w g 0 [a,b,c]):(results Tryz.f39 tmps).run Tryz.prog w = .ok (.agg #[a,b,c]) w :=
 results_cell_mid rfl tmps w g 0 [a,b,c] _ hp h.range Tryz.underlying52 rfl (infoKl a b c)
theorem call_any (label:List Nat) (hl:∀ x,x∈label→x<256) (hz:label.length≤50) (sv tv:Value) (sn cnt m:Nat) (salt t:Nat→Nat) (hs:∀ j,salt j<256) (ht:∀ j,t j<256) (hsn:sn≤32) (hc:cnt<1000000) (hm:m+300<140737488355000) (w:World) (hT:HTab w cubeK squareK) (h1:BytesIn w sv sn salt) (h2:Texts w tv cnt m t) :
 Calls Tryz.prog 29 #[.string { data:=#[72,80,75,69,0,32,0,1,0,1] },sv,.string (strL label),tv] w fun e w'=>∃ s,e = .returned s∧BytesIn w' s 32 (lxN lAll sn salt label m t)∧Below w.heap.size w w' :=
 cextract_any lAll label lAll_lt hl (by show 10+label.length≤100;omega) sv tv sn cnt m salt t hs ht (by omega) hc hm w hT h1 h2
theorem eall (label:List Nat) (hl:∀ x,x∈label→x<256) (hz:label.length≤50) (pv tv:Value) (cnt m N:Nat) (prk t:Nat→Nat) (hN:N≤8160) (hp:∀ j,prk j<256) (ht:∀ j,t j<256) (hc:cnt<1000000) (hm:m+300<140737488355000) (w:World) (hT:HTab w cubeK squareK) (h1:BytesIn w pv 32 prk) (h2:Texts w tv cnt m t) :
 Calls Tryz.prog 28 #[.string { data:=#[72,80,75,69,0,32,0,1,0,1] },pv,.int .i64 N,.string (strL label),tv] w fun e w'=>∃ s,e = .returned s∧NewR w w' s N (leN lAll 32 prk label m t N)∧Below w.heap.size w w' :=
 cexpand_any lAll label lAll_lt hl (by show 10+label.length≤100;omega) pv tv 32 cnt m N prk t hN hp ht (by decide) hc hm w hT h1 h2
set_option maxRecDepth 20000 in
set_option maxHeartbeats 8000000 in
theorem keysOf_any (v u:Value) (m:Nat) (s info:Nat→Nat) (hs:∀ j,s j<256) (hi:∀ j,info j<256) (hm:m≤65536) (w:World) (hT:HTab w cubeK squareK) (hv:BytesIn w v 32 s) (hu:BytesIn w u m info) :
 Calls Tryz.prog 39 #[v,u] w fun e w'=>∃ gk gu gx,e = .returned (.agg #[.slice (some ⟨gk,0,none⟩) 16 16,.slice (some ⟨gu,0,none⟩) 12 12,.slice (some ⟨gx,0,none⟩) 32 32])∧RowAt .u8 w' gk 0 16 (ckN lKey 16 s m info)∧RowAt .u8 w' gu 0 12 (ckN lBn 12 s m info)∧RowAt .u8 w' gx 0 32 (ckN lExp 32 s m info)∧Below w.heap.size w w':=by
 obtain ⟨x1,c1,rfl,-,-,-⟩:=hv.src
 obtain ⟨x2,c2,rfl,-,-,-⟩:=hu.src
 have zk:=zeroKs
 obtain ⟨W0,hW0⟩:∃ W,W=(w.alloc (.cells #[.slice none 0 0,.slice none 0 0,.slice none 0 0] 52)).alloc (.cells #[.int .u8 0] 5):=⟨_,rfl⟩
 have bz:Below w.heap.size w (w.alloc (.cells #[.slice none 0 0,.slice none 0 0,.slice none 0 0] 52)):=(Below.refl _ _).alloc (Nat.le_refl _) _
 have b0:Below w.heap.size w W0:=by rw [hW0];exact bz.alloc bz.size _
 have r0:RW W0 w.heap.size 0 [.slice none 0 0,.slice none 0 0,.slice none 0 0]:=by rw [hW0];exact (RW.fresh w _ _).still ((Below.refl _ _).alloc (Nat.le_refl _) _)
 have q0:BytesIn W0 (.slice (some ⟨w.heap.size+1,0,none⟩) 1 1) 1 lZ:=by
  have h:=litB_B (w.alloc (.cells #[.slice none 0 0,.slice none 0 0,.slice none 0 0] 52)) [0] (0,0)
  rw [World.size_alloc] at h
  rw [hW0]
  exact h.cong fun j hj=>by
   have:j=0:=by
    have:j<1:=hj
    omega
   subst this
   rfl
 have xp:Calls Tryz.prog 29 #[.string { data:=#[72,80,75,69,0,32,0,1,0,1] },.slice none 0 0,.string { data:=#[112,115,107,95,105,100,95,104,97,115,104] },.slice none 0 0] W0 _:=call_any lPsk (by decide) (by decide) (.slice none 0 0) (.slice none 0 0) 0 0 0 lZ lZ lZ_lt lZ_lt (by decide) (by decide) (by decide) W0 (hT.keep b0) (BytesIn.nil0 _ _) (texts_none _ _)
 have xi:∀ W,Below w.heap.size w W→Calls Tryz.prog 29 #[.string { data:=#[72,80,75,69,0,32,0,1,0,1] },.slice none 0 0,.string { data:=#[105,110,102,111,95,104,97,115,104] },.slice (some ⟨W.heap.size,0,none⟩) 1 1] (W.alloc (.cells #[.slice x2 m c2] 22)) _:=fun W hb=>call_any lInf (by decide) (by decide) (.slice none 0 0) _ 0 1 m lZ info lZ_lt hi (by decide) (by decide) (by omega) _ (hT.keep (hb.alloc hb.size _)) (BytesIn.nil0 _ _) (texts_one W _ m info (hu.keep hb))
 have xs:∀ W,Below w.heap.size w W→Calls Tryz.prog 29 #[.string { data:=#[72,80,75,69,0,32,0,1,0,1] },.slice x1 32 c1,.string { data:=#[115,101,99,114,101,116] },.slice none 0 0] W fun e w'=>∃ y,e = .returned y∧BytesIn w' y 32 (lxN lAll 32 s lSecr 0 lZ)∧Below W.heap.size W w':=fun W hb=>call_any lSecr (by decide) (by decide) (.slice x1 32 c1) (.slice none 0 0) 32 0 0 s lZ hs lZ_lt (by decide) (by decide) (by decide) W (hT.keep hb) (hv.keep hb) (texts_none _ _)
 have hj:∀ W v0 v1 v2,BytesIn W v0 1 lZ→BytesIn W v1 32 (lxN lAll 0 lZ lPsk 0 lZ)→BytesIn W v2 32 (lxN lAll 0 lZ lInf m info)→Calls Tryz.prog 61 #[.slice (some ⟨W.heap.size,0,none⟩) 3 3] (W.alloc (.cells #[v0,v1,v2] 22)) fun e w'=>∃ s,e = .returned s∧BytesIn w' s 65 (cxN m info)∧Below W.heap.size W w':=fun W v0 v1 v2 h0 h1 h2=>by
  have hP:=parts_list W [(v0,1,lZ),(v1,32,lxN lAll 0 lZ lPsk 0 lZ),(v2,32,lxN lAll 0 lZ lInf m info)] 22 (by
   intro p hp
   simp only [List.mem_cons,List.not_mem_nil,or_false] at hp
   rcases hp with rfl | rfl | rfl
   · exact h0
   · exact h1
   · exact h2)
  exact (concat_parts W.heap.size 3 65 (cxN m info) _ hP (by decide) (by decide) (by decide)).mono fun _ _ ⟨s,he,ho,hb'⟩=>⟨s,he,ho.bytesIn,below_next ((Below.refl _ _).alloc (Nat.le_refl _) _) hb'⟩
 have hcl:∀ j,cxN m info j<256:=catL_lt _ (by
  intro p hp
  simp only [List.mem_cons,List.not_mem_nil,or_false] at hp
  rcases hp with rfl | rfl | rfl
  · exact lZ_lt
  · exact lxN_lt _ _ _ _ _ _
  · exact lxN_lt _ _ _ _ _ _)
 have hcs:∀ j,csN s j<256:=fun j=>lxN_lt lAll 32 s lSecr 0 lZ j
 have ee:∀ label,(∀ x,x∈label→x<256)→label.length≤50→∀ N:Nat,N≤8160→∀ pv iv W,Below w.heap.size w W→BytesIn W pv 32 (csN s)→BytesIn W iv 65 (cxN m info)→Calls Tryz.prog 28 #[.string { data:=#[72,80,75,69,0,32,0,1,0,1] },pv,.int .i64 N,.string (strL label),.slice (some ⟨W.heap.size,0,none⟩) 1 1] (W.alloc (.cells #[iv] 22)) fun e w'=>∃ y,e = .returned y∧NewR W w' y N (ckN label N s m info)∧Below W.heap.size W w':=fun label hl hz N hN pv iv W hb hp hi=>by
  rw [show ckN label N s m info=leN lAll 32 (csN s) label 65 (cxN m info) N from rfl]
  have h:=eall label hl hz pv (.slice (some ⟨W.heap.size,0,none⟩) 1 1) 1 65 N (csN s) (cxN m info) hN hcs hcl (by decide) (by decide) (W.alloc (.cells #[iv] 22)) (hT.keep (hb.alloc hb.size _)) (hp.keep ((Below.refl _ _).alloc (Nat.le_refl _) _)) (texts_one W iv 65 (cxN m info) hi)
  generalize leN lAll 32 (csN s) label 65 (cxN m info) N=Y at h ⊢
  exact h.mono fun _ _ ⟨y,he,⟨g,hy,hg,hr⟩,hb'⟩=>⟨y,he,⟨g,hy,Nat.le_trans (by rw [World.size_alloc];omega) hg,hr⟩,below_next ((Below.refl _ _).alloc (Nat.le_refl _) _) hb'⟩
 have ek:∀ pv iv W,Below w.heap.size w W→BytesIn W pv 32 (csN s)→BytesIn W iv 65 (cxN m info)→Calls Tryz.prog 28 #[.string { data:=#[72,80,75,69,0,32,0,1,0,1] },pv,.int .i64 16,.string { data:=#[107,101,121] },.slice (some ⟨W.heap.size,0,none⟩) 1 1] (W.alloc (.cells #[iv] 22)) _:=ee lKey (by decide) (by decide) 16 (by decide)
 have en:∀ pv iv W,Below w.heap.size w W→BytesIn W pv 32 (csN s)→BytesIn W iv 65 (cxN m info)→Calls Tryz.prog 28 #[.string { data:=#[72,80,75,69,0,32,0,1,0,1] },pv,.int .i64 12,.string { data:=#[98,97,115,101,95,110,111,110,99,101] },.slice (some ⟨W.heap.size,0,none⟩) 1 1] (W.alloc (.cells #[iv] 22)) _:=ee lBn (by decide) (by decide) 12 (by decide)
 have ex:∀ pv iv W,Below w.heap.size w W→BytesIn W pv 32 (csN s)→BytesIn W iv 65 (cxN m info)→Calls Tryz.prog 28 #[.string { data:=#[72,80,75,69,0,32,0,1,0,1] },pv,.int .i64 32,.string { data:=#[101,120,112] },.slice (some ⟨W.heap.size,0,none⟩) 1 1] (W.alloc (.cells #[iv] 22)) _:=ee lExp (by decide) (by decide) 32 (by decide)
 clear ee
 rw [hW0] at xp
 generalize lxN lAll 0 lZ lPsk 0 lZ=P1 at xp hj
 generalize lxN lAll 0 lZ lInf m info=P2 at xi hj
 have hS:lxN lAll 32 s lSecr 0 lZ=csN s:=rfl
 rw [hS] at xs
 clear hS
 generalize csN s=S at xs ek en ex
 generalize cxN m info=C at hj ek en ex
 generalize ckN lKey 16 s m info=Y1 at ek ⊢
 generalize ckN lBn 12 s m info=Y2 at en ⊢
 generalize ckN lExp 32 s m info=Y3 at ex ⊢
 have g0:w.heap.size≤w.heap.size:=Nat.le_refl _
 rw [hW0] at b0 r0 q0
 clear hcl hcs hv hu hT hW0
 go_enter Tryz.func39,Tryz.ntmps39
 go_upto_region 2 with (first
  | (go_at_call 29;refine xp.mono ?_;clear xp;rintro e w1 ⟨k1,rfl,q1,h1⟩;(have b1:=below_next b0 h1);(replace q0:=q0.keep h1);(replace r0:=r0.still h1);(have y1:=xi w1 b1);(have d1:Below w1.heap.size w1 (w1.alloc (.cells #[.slice x2 m c2] 22)):=(Below.refl _ _).alloc (Nat.le_refl _) _);clear xi h1 b0)
  | (go_at_call 29;refine y1.mono ?_;clear y1;rintro e w2 ⟨k2,rfl,q2,h2⟩;(replace h2:=below_next d1 h2);(have b2:=below_next b1 h2);(replace q0:=q0.keep h2);(replace q1:=q1.keep h2);(replace r0:=r0.still h2);(have j2:=hj w2 _ _ _ q0 q1 q2);(obtain ⟨z1,d1,e1,-,-,-⟩:=q1.src);(obtain ⟨z2,d2,e2,-,-,-⟩:=q2.src);subst e1;subst e2;clear hj q0 q1 q2 h2 b1)
  | (go_at_call 61;refine j2.mono ?_;clear j2;rintro e w3 ⟨k3,rfl,c3,h3⟩;(have b3:=below_next b2 h3);(replace r0:=r0.still h3);(have y3:=xs w3 b3);clear xs h3 b2))
 go_upto_region 3 with (go_at_call 29;refine y3.mono ?_;clear y3;rintro e w4 ⟨k4,rfl,s4,h4⟩;(have b4:=below_next b3 h4);(replace r0:=r0.still h4);(replace c3:=c3.keep h4);(have y4:=ek k4 k3 w4 b4 s4 c3);(obtain ⟨z3,d3,e3,-,-,-⟩:=c3.src);subst e3;clear ek h4 b3)
 go_wp2_with (first
  | (go_at_call 28;refine y4.mono ?_;clear y4;rintro e w5 ⟨k5,rfl,⟨g5,rfl,hg,t5⟩,h5⟩;(have l5:g5≠w.heap.size:=Nat.ne_of_gt (Nat.lt_of_lt_of_le r0.lt hg));clear hg;(have b5:=below_next b4 h5);(replace r0:=r0.still h5);(replace c3:=c3.keep h5);(replace s4:=s4.keep h5);(have y5:=en k4 _ w5 b5 s4 c3);clear en h5 b4)
  | (go_at_call 28;refine y5.mono ?_;clear y5;rintro e w6 ⟨k6,rfl,⟨g6,rfl,hg,t6⟩,h6⟩;(have l6:g6≠w.heap.size:=Nat.ne_of_gt (Nat.lt_of_lt_of_le r0.lt hg));clear hg;(have b6:=below_next b5 h6);(replace r0:=r0.still h6);(replace c3:=c3.keep h6);(replace s4:=s4.keep h6);(replace t5:=t5.stay (by decide) h6);(have y6:=ex k4 _ w6 b6 s4 c3);clear ex h6 b5)
  | (go_at_call 28;refine y6.mono ?_;clear y6;rintro e w7 ⟨k7,rfl,⟨g7,rfl,hg,t7⟩,h7⟩;(have l7:g7≠w.heap.size:=Nat.ne_of_gt (Nat.lt_of_lt_of_le r0.lt hg));clear hg;(have b7:=below_next b6 h7);(replace r0:=r0.still h7);(replace t5:=t5.stay (by decide) h7);(replace t6:=t6.stay (by decide) h7);(have th:w7.there w.heap.size 0 (#[.slice (some ⟨g5,0,none⟩) 16 16,.slice (some ⟨g6,0,none⟩) 12 12,.slice (some ⟨g7,0,none⟩) 32 32]:Array Value).size:=r0.there);clear h7 b6 c3 s4)
  | (with_reducible (refine id (?_:wpList _ _ _ _ _ _));refine wpList_store_mid rfl 52 _ _ rfl w.heap.size 0 #[.slice (some ⟨g5,0,none⟩) 16 16,.slice (some ⟨g6,0,none⟩) 12 12,.slice (some ⟨g7,0,none⟩) 32 32] rfl rfl th (infoKs _ _ _) (oneKs _ _ _ _ _ _ _ _ _) ?_))
 (try simp only [Exit.inBlock,Exit.then])
 exact bodyPost_ret (results_keys _ _ w.heap.size _ _ _ rfl (r0.stored [.slice (some ⟨g5,0,none⟩) 16 16,.slice (some ⟨g6,0,none⟩) 12 12,.slice (some ⟨g7,0,none⟩) 32 32] rfl)) rfl ⟨g5,g6,g7,rfl,t5.farCells l5 0 _,t6.farCells l6 0 _,t7.farCells l7 0 _,below_setCells (Nat.le_refl _) _ _ _ b7⟩
end Go.Proofs.YtcgkajlehdgpoaaGreatDoor
namespace Go.Proofs.YtcgkajlehdgpoaaGreatDoor
open Go.RowKit
def ncA (nn:Nat→Nat) (n k:Nat):Nat→Nat:=fun j=>if 12 - k≤j then ncN nn n j else nn j
theorem ncA_next (nn:Nat→Nat) (n k:Nat) (hk:k<8) (j:Nat) (hj:j<12):upd (ncA nn n k) (11 - k) (nn (11 - k) ^^^ (n / 2 ^ (8*k)%256)) j=ncA nn n (k+1) j:=by
 unfold upd ncA
 by_cases e:j=11 - k
 · rw [if_pos e,if_pos (by omega)]
   unfold ncN
   rw [if_neg (by omega),e,show 11 - (11 - k)=k by omega]
 · rw [if_neg e]
   by_cases h:12 - k≤j
   · rw [if_pos h,if_pos (by omega)]
   · rw [if_neg h,if_neg (by omega)]
theorem ncA_full (nn:Nat→Nat) (n j:Nat) (hj:j<12):ncA nn n 8 j=ncN nn n j:=by
 unfold ncA
 by_cases h:12 - 8≤j
 · rw [if_pos h]
 · rw [if_neg h];unfold ncN;rw [if_pos (by omega)]
theorem ncN_lt {nn:Nat→Nat} (h:∀ j,nn j<256) (n j:Nat):ncN nn n j<256:=by
 unfold ncN
 split
 · exact h j
 · exact xor_byte (h j) (Nat.mod_lt _ (by decide))
set_option maxRecDepth 20000 in
set_option maxHeartbeats 2000000 in
theorem rnonce_any (gc n:Nat) (K N X:Nat→Nat) (hN:∀ j,N j<256) (w:World) (h:RCtx w gc K N X n) :
 Calls Tryz.prog 63 #[.pointer (some ⟨gc,0,none⟩)] w fun e w'=>∃ s,e = .returned s∧BytesIn w' s 12 (ncN N n)∧Below w.heap.size w w':=by
 obtain ⟨vk,vu,vx,r,-,hu,-⟩:=h
 obtain ⟨xu,cu,rfl,hxn,-,hsrc⟩:=hu.src
 have hsu:=hsrc _ ((Below.refl w.heap.size w).alloc (Nat.le_refl _) (.cells #[] 5))
 have f1:w.cell? ⟨gc,1,none⟩=some (.slice xu 12 cu):=r.range 1 _ rfl
 have f1':(w.alloc (.cells #[] 5)).cell? ⟨gc,1,none⟩=some (.slice xu 12 cu):=Lib.cell?_alloc_marked _ f1
 clear hu hsrc
 go_enter Tryz.func63,Tryz.ntmps63
 go_wp2_with (at_builtin;refine wpList_append_empty rfl (.tmp 5) (.tmp 9) rfl w.heap.size N w.heap.size rfl rfl xu 12 cu rfl hsu hxn (by decide) (Nat.le_refl _) ?_;intro v3 w3 own3 hb3;(obtain ⟨g3,c3,hv3,hg3,hgl3,hc3,hr3⟩:=own3.form.resolve_left (fun h=>by omega));subst hv3)
 replace hr3:RowAt .u8 w3 g3 0 12 (ncA N n 0):=hr3.congr fun j hj=>by unfold ncA;rw [if_neg (by omega)]
 have hcur:c3=c3:=rfl
 go_loopw [4] (fun i wr=>∃ k:Nat,k≤8∧i = .int .i64 k∧RowAt .u8 wr g3 0 12 (ncA N n k)∧Below w.heap.size w wr) (fun i _=>8 - (intOf i).toNat)
 case atStart=>exact ⟨0,Nat.zero_le _,rfl,hr3,hb3⟩
 case round =>
  clear hr3 hb3 own3
  obtain ⟨k,hk,rfl,hr,hb⟩:=hrel
  by_cases hlt:k<8
  · obtain ⟨q1,z1⟩:=hr (11 - k) (by omega)
    have hs:=hr.set (i:=11 - k) (by omega) (v:=((N (11 - k) ^^^ (n / 2 ^ (8*k)%256):Nat):Int)) rfl
    rw [Nat.zero_add] at q1 z1 hs
    replace hs:=hs.congr fun j hj=>ncA_next N n k hlt j hj
    have hq1:ncA N n k (11 - k)=N (11 - k):=by unfold ncA;rw [if_neg (by omega)]
    rw [hq1] at q1
    have x1:=u8_xor_nat (N (11 - k)) (n / 2 ^ (8*k)%256) (hN _) (Nat.mod_lt _ (by decide))
    have e1:IntKind.u8.wrap ((n:Int) / 2 ^ (8*k))=((n / 2 ^ (8*k)%256:Nat):Int):=by
     show (n:Int) / 2 ^ (8*k)%256=_
     simp
    have cn:wr.cell? ⟨gc,3,none⟩=some (.int .i64 (n:Int)):=(r.still hb).range 3 _ rfl
    obtain ⟨y,hy⟩:∃ y,y=n / 2 ^ (8*k)%256:=⟨_,rfl⟩
    obtain ⟨z,hz⟩:∃ z,z=N (11 - k) ^^^ (n / 2 ^ (8*k)%256):=⟨_,rfl⟩
    rw [←hz] at hs x1
    rw [←hy] at x1 e1
    obtain ⟨u,hu⟩:∃ u,u=N (11 - k):=⟨_,rfl⟩
    rw [←hu] at q1 x1
    obtain ⟨q,hq⟩:∃ q,q=11 - k:=⟨_,rfl⟩
    rw [←hq] at q1 z1 hs
    obtain ⟨sh,hsh⟩:∃ sh,sh=8*k:=⟨_,rfl⟩
    rw [←hsh] at e1
    have e2:(11:Int) - (k:Int)=(q:Int):=by omega
    have e2':IntKind.i64.wrap ((11:Int) - (k:Int))=(q:Int):=by simp only [IntKind.wrap_i64];omega
    have e3:8*(k:Int)=(sh:Int):=by omega
    have e3':IntKind.i64.wrap (8*(k:Int))=(sh:Int):=by simp only [IntKind.wrap_i64];omega
    have e4:IntKind.u64.wrap (sh:Int)=(sh:Int):=by show (sh:Int)%18446744073709551616=_;omega
    have t1:(0:Int)≤(q:Int)∧(q:Int)<12:=by omega
    have t2:(0:Int)≤(sh:Int)∧(sh:Int)<64:=by omega
    have hlt':(k:Int)<8:=by omega
    have t3:q<12:=by omega
    clear hy hz hu hq hsh hq1 hr
    go_wp2
    go_region
    go_wp2
    go_roundw
    case rel=>exact ⟨k+1,hlt,by go_num,hs.drew,(hb.setCell hg3 _).drew⟩
    case measure=>simp [intOf];omega
  · obtain rfl:k=8:=by omega
    go_wp2
    go_ret
    exact ⟨_,rfl,.inr ⟨g3,0,c3,rfl,block_lt_of_cell (hr 0 (by decide)).1,hc3,fun j hj=>by rw [(hr j hj).1,ncA_full N n j hj]⟩,hb⟩
end Go.Proofs.YtcgkajlehdgpoaaGreatDoor
namespace Go.Proofs.YtcgkajlehdgpoaaGreatDoor
open Go.RowKit
theorem run_eql_slice_nil {P:Program} (w:World) (t e:TypeId) (a:Option Addr) (l c:Nat) (h:P.underlying t=some (.slice e)):(binOp .eql t (.slice a l c) (.slice none 0 0)).run P w = .ok (.bool a.isNone) w:=by
 simp only [binOp]
 simp [run_equal_slice_nil w t e a l c h]
theorem wpList_eqnil {ops:Array Oper} {rest:List Oper} {op:Oper} {a:Act} {w:World} {Q:Exit→Act→World→Prop} (hgd:op.guard=none) (x y:Operand) (t2:TypeId) (ho:op.op = .binOp .eql 22 x y t2) (ad:Addr) (l c:Nat)
 (hx:a.eval x = .slice (some ad) l c) (hy:a.eval y = .slice none 0 0) (h:wpList Tryz.prog ops Q rest (a.put op.dst (.bool false)) w):wpList Tryz.prog ops Q (op :: rest) a w :=
 wpList_plain hgd fun K hK=>by
  unfold Oper.wp execOp
  simp only [ho,hx,hy]
  have e:(eqGuard .eql 22 x y (.slice (some ad) l c) (.slice none 0 0)).run Tryz.prog w = .ok () w:=by
   simp [eqGuard]
  rw [Sem.run_bind,Sem.run_bind,e]
  simp only [Result.andThen_ok]
  rw [run_eql_slice_nil w 22 5 (some ad) l c Tryz.underlying22]
  exact hK _ _ h
end Go.Proofs.YtcgkajlehdgpoaaGreatDoor
namespace Go.Proofs.YtcgkajlehdgpoaaGreatDoor
open Go.RowKit
set_option maxRecDepth 20000 in
set_option maxHeartbeats 4000000 in
theorem sclone_any (g o n c:Nat) (hn:0<n) (hn2:n≤1000000) (X:Nat→Nat) (w:World) (hv:BytesIn w (.slice (some ⟨g,o,none⟩) n c) n X) :
 Calls Tryz.prog 89 #[.slice (some ⟨g,o,none⟩) n c] w fun e w'=>∃ gn cap,e = .returned (.slice (some ⟨gn,0,none⟩) n cap)∧w.heap.size≤gn∧n≤cap∧RowAt .u8 w' gn 0 n X∧Below w.heap.size w w':=by
 obtain ⟨xs,cs,e,-,-,hsrc⟩:=hv.src
 cases e
 have hsu:=hsrc _ ((Below.refl w.heap.size w).alloc (Nat.le_refl _) (.cells #[] 5))
 clear hv hsrc
 go_enter Tryz.func89,Tryz.ntmps89
 go_wp2_with (first
  | (refine wpList_eqnil rfl _ _ _ rfl _ _ _ rfl rfl ?_)
  | (at_builtin;refine wpList_append_empty rfl (.tmp 5) (.tmp 6) rfl w.heap.size X w.heap.size rfl rfl (some ⟨g,o,none⟩) n c rfl hsu (fun h=>by cases h) (by omega) (Nat.le_refl _) ?_;intro v3 w3 own3 hb3;(obtain ⟨g3,c3,hv3,hg3,hgl3,hc3,hr3⟩:=own3.form.resolve_left (fun h=>by omega));subst hv3))
 go_ret
 exact ⟨g3,c3,rfl,hg3,hc3,hr3,hb3⟩
set_option maxRecDepth 20000 in
set_option maxHeartbeats 4000000 in
theorem cnonce_any (gk gu gx n:Nat) (N:Nat→Nat) (hN:∀ j,N j<256) (w:World) (h:RowAt .u8 w gu 0 12 N) :
 Calls Tryz.prog 65 #[.agg #[.slice (some ⟨gk,0,none⟩) 16 16,.slice (some ⟨gu,0,none⟩) 12 12,.slice (some ⟨gx,0,none⟩) 32 32],.int .u64 (n:Int)] w fun e w'=>∃ s,e = .returned s∧BytesIn w' s 12 (ncN N n)∧Below w.heap.size w w':=by
 have b0:Below w.heap.size w (w.alloc (.cells #[.slice (some ⟨gk,0,none⟩) 16 16,.slice (some ⟨gu,0,none⟩) 12 12,.slice (some ⟨gx,0,none⟩) 32 32] 52)):=(Below.refl _ _).alloc (Nat.le_refl _) _
 have cc:=sclone_any gu 0 12 12 (by decide) (by decide) N _ ((row_bytes (by decide) h).keep b0)
 clear h
 go_enter Tryz.func65,Tryz.ntmps65
 go_wp2_with (go_at_call 89;refine cc.mono ?_;clear cc;rintro e w3 ⟨g3,c3,rfl,hg3,hc3,hr3,hb3⟩;(replace hb3:=below_next b0 hb3);(replace hg3:w.heap.size≤g3:=Nat.le_trans b0.size hg3))
 replace hr3:RowAt .u8 w3 g3 0 12 (ncA N n 0):=hr3.congr fun j hj=>by unfold ncA;rw [if_neg (by omega)]
 have hcur:c3=c3:=rfl
 go_loopw [10] (fun i wr=>∃ k:Nat,k≤8∧i = .int .i64 k∧RowAt .u8 wr g3 0 12 (ncA N n k)∧Below w.heap.size w wr) (fun i _=>8 - (intOf i).toNat)
 case atStart=>exact ⟨0,Nat.zero_le _,rfl,hr3,hb3⟩
 case round =>
  clear hr3 hb3
  obtain ⟨k,hk,rfl,hr,hb⟩:=hrel
  by_cases hlt:k<8
  · obtain ⟨q1,z1⟩:=hr (11 - k) (by omega)
    have hs:=hr.set (i:=11 - k) (by omega) (v:=((N (11 - k) ^^^ (n / 2 ^ (8*k)%256):Nat):Int)) rfl
    rw [Nat.zero_add] at q1 z1 hs
    replace hs:=hs.congr fun j hj=>ncA_next N n k hlt j hj
    have hq1:ncA N n k (11 - k)=N (11 - k):=by unfold ncA;rw [if_neg (by omega)]
    rw [hq1] at q1
    have x1:=u8_xor_nat (N (11 - k)) (n / 2 ^ (8*k)%256) (hN _) (Nat.mod_lt _ (by decide))
    have e1:IntKind.u8.wrap ((n:Int) / 2 ^ (8*k))=((n / 2 ^ (8*k)%256:Nat):Int):=by
     show (n:Int) / 2 ^ (8*k)%256=_
     simp
    obtain ⟨y,hy⟩:∃ y,y=n / 2 ^ (8*k)%256:=⟨_,rfl⟩
    obtain ⟨z,hz⟩:∃ z,z=N (11 - k) ^^^ (n / 2 ^ (8*k)%256):=⟨_,rfl⟩
    rw [←hz] at hs x1
    rw [←hy] at x1 e1
    obtain ⟨u,hu⟩:∃ u,u=N (11 - k):=⟨_,rfl⟩
    rw [←hu] at q1 x1
    obtain ⟨q,hq⟩:∃ q,q=11 - k:=⟨_,rfl⟩
    rw [←hq] at q1 z1 hs
    obtain ⟨sh,hsh⟩:∃ sh,sh=8*k:=⟨_,rfl⟩
    rw [←hsh] at e1
    have e2:(11:Int) - (k:Int)=(q:Int):=by omega
    have e2':IntKind.i64.wrap ((11:Int) - (k:Int))=(q:Int):=by simp only [IntKind.wrap_i64];omega
    have e3:8*(k:Int)=(sh:Int):=by omega
    have e3':IntKind.i64.wrap (8*(k:Int))=(sh:Int):=by simp only [IntKind.wrap_i64];omega
    have t1:(0:Int)≤(q:Int)∧(q:Int)<12:=by omega
    have t2:(0:Int)≤(sh:Int)∧(sh:Int)<64:=by omega
    have hlt':(k:Int)<8:=by omega
    have t3:q<12:=by omega
    clear hy hz hu hq hsh hq1 hr
    go_wp2
    go_region
    go_wp2
    go_roundw
    case rel=>exact ⟨k+1,hlt,by go_num,hs.drew,(hb.setCell hg3 _).drew⟩
    case measure=>simp [intOf];omega
  · obtain rfl:k=8:=by omega
    go_wp2
    go_ret
    exact ⟨_,rfl,.inr ⟨g3,0,c3,rfl,block_lt_of_cell (hr 0 (by decide)).1,hc3,fun j hj=>by rw [(hr j hj).1,ncA_full N n j hj]⟩,hb⟩
end Go.Proofs.YtcgkajlehdgpoaaGreatDoor
namespace Go.Proofs.YtcgkajlehdgpoaaGreatDoor
open Go.RowKit
theorem BytesIn.set_i64 {w:World} {v:Value} {n g o:Nat} {X:Nat→Nat} {z:Int} (h:BytesIn w v n X) (hc:w.cell? ⟨g,o,none⟩=some (.int .i64 z)) (u:Value):BytesIn (w.setCell ⟨g,o,none⟩ u) v n X:=by
 rcases h with h | ⟨bb,ob,cap,rfl,h1,h2,h3⟩
 · exact .inl h
 · refine .inr ⟨bb,ob,cap,rfl,by rw [World.size_setCell];exact h1,h2,fun j hj => ?_⟩
   have hne:(⟨g,o,none⟩:Addr)≠⟨bb,ob+j,none⟩:=fun e=>by
    rw [e,h3 j hj] at hc
    cases hc
   rw [World.cell?_setCell_other _ _ _ _ hne]
   exact h3 j hj
theorem RW.set3 {w:World} {g:Nat} {a b c d:Value} (r:RW w g 0 [a,b,c,d]) (y:Value):RW (w.setCell ⟨g,3,none⟩ y) g 0 [a,b,c,y]:=by
 have h:=fun j (hj:j<4)=>r.there j (by simpa using hj)
 refine ⟨fun j v hv => ?_,fun j hj => ?_,by rw [World.size_setCell];exact r.lt⟩
 · by_cases e:j=3
   · subst e
     simp only [List.getElem?_cons_succ,List.getElem?_cons_zero,Option.some.injEq] at hv
     subst hv
     exact World.cell?_setCell_same _ _ _ (r.range 3 d rfl)
   · have hne:(⟨g,3,none⟩:Addr)≠⟨g,0+j,none⟩:=fun e'=>by injection e';omega
     rw [World.cell?_setCell_other _ _ _ _ hne]
     refine r.range j v ?_
     rw [←hv]
     match j,e with
     | 0,_=>rfl
     | 1,_=>rfl
     | 2,_=>rfl
     | j+4,_=>rfl
 · rw [World.frozen?_setCell]
   refine ⟨?_,(r.there j (by simpa using hj)).2⟩
   by_cases e:j=3
   · subst e
     rw [World.cell?_setCell_same _ _ _ (r.range 3 d rfl)];rfl
   · have hne:(⟨g,3,none⟩:Addr)≠⟨g,0+j,none⟩:=fun e'=>by injection e';omega
     rw [World.cell?_setCell_other _ _ _ _ hne]
     exact (r.there j (by simpa using hj)).1
set_option maxRecDepth 20000 in
set_option maxHeartbeats 2000000 in
theorem rctxSeal (gc n:Nat) (K N X:Nat→Nat) (hN:∀ j,N j<256) (mv tv:Value) (L:Nat) (Z:Nat→Nat) (E:Int) (hn:n+1<9223372036854775808) (w:World) (h:RCtx w gc K N X n) (ha:∀ kv nv W,Below w.heap.size w W→BytesIn W kv 16 K→BytesIn W nv 12 (ncN N n)→AnsC 62 #[kv,nv,mv,tv] W L Z E) :
 Calls Tryz.prog 42 #[.pointer (some ⟨gc,0,none⟩),mv,tv] w fun e w'=>∃ s,e = .returned (.tuple #[s,.int .i64 E])∧BytesIn w' s L Z∧RCtx w' gc K N X (if E=0 then n+1 else n)∧Out gc 3 1 w w':=by
 have bd:Below w.heap.size w w.drew:=(Below.refl _ _).drew
 have hc:=h.keep bd
 have cn:=rnonce_any gc n K N X hN w.drew hc
 obtain ⟨kv,uv,xv,r,hk,hu,hx⟩:=hc
 have f0:w.drew.cell? ⟨gc,0,none⟩=some kv:=r.range 0 _ rfl
 have gl:gc<w.heap.size:=r.lt
 go_enter Tryz.func42,Tryz.ntmps42
 go_upto_region 1 with (fail)
 refine wp_region_held_drew (S:=fun u=>Below w.drew.heap.size w.drew u) (by kernel_rfl) (Below.refl _ _) (fun hS => ?_)
 refine tg 0 hS ?_
 (try simp only [pS])
 refine tg 1 hS ?_
 (try simp only [pS])
 refine tg 2 hS ?_
 (try simp only [pS])
 refine tc 3 hS (fun u hu=>(hu.cell (p:=⟨gc,0,none⟩) gl).trans f0) ?_
 (try simp only [pS])
 refine tg 4 hS ?_
 (try simp only [pS])
 refine tg 6 hS ?_
 (try simp only [pS])
 refine tg 7 hS ?_
 (try simp only [pS])
 refine cl 5 cn ?_
 rintro e w1 ⟨s1,rfl,o1,b1⟩
 refine ⟨_,rfl,b1,?_⟩
 (try simp only [pS])
 refine cl 8 (ha kv s1 w1 (below_next bd b1) (hk.keep b1) o1) ?_
 rintro e w2 ⟨s2,rfl,o2,hb2⟩
 have b2:=below_next b1 hb2
 refine ⟨_,rfl,b2,?_⟩
 (try simp only [pS])
 refine tg 9 b2 ?_
 (try simp only [pS])
 refine tg 10 b2 ?_
 (try simp only [pS])
 refine tg 11 b2 ?_
 (try simp only [pS])
 refine tg 12 b2 ?_
 (try simp only [pS])
 refine tg 13 b2 ?_
 (try simp only [pS])
 refine wpAnyH_done (by kernel_rfl) ?_ _
 replace r:=r.still b2
 have hk2:=hk.keep b2
 have hu2:=hu.keep b2
 have hx2:=hx.keep b2
 have bw:=below_next bd b2
 have f3:w2.cell? ⟨gc,3,none⟩=some (.int .i64 (n:Int)):=r.range 3 _ rfl
 have z3:w2.frozen? ⟨gc,3,none⟩=false:=(r.there 3 (by show 3<4;decide)).2
 clear ha hk hu hx h b1 b2 hS o1 hb2 cn
 by_cases h0:E=0
 · subst h0
   have hw:(n:Int)+1=((n+1:Nat):Int):=by omega
   have hw':wrap64 ((n:Int)+1)=((n+1:Nat):Int):=by unfold wrap64;omega
   obtain ⟨n1,hn1⟩:∃ n1,n1=n+1:=⟨_,rfl⟩
   rw [←hn1] at hw hw'
   have HN:=Hid.mk' hn1
   clear hn1
   go_wp2
   go_ret2
   refine ⟨_,rfl,o2.set_i64 f3 _,?_,(Out.of_below bw gl).trans (Out.setCell w2 _ (Nat.le_refl _) (by decide))⟩
   rw [←HN.out]
   exact ⟨_,_,_,r.set3 _,hk2.set_i64 f3 _,hu2.set_i64 f3 _,hx2.set_i64 f3 _⟩
 · go_wp2
   go_ret2
   exact ⟨_,rfl,o2,⟨_,_,_,r,hk2,hu2,hx2⟩,Out.of_below bw gl⟩
set_option maxRecDepth 20000 in
set_option maxHeartbeats 2000000 in
theorem rctxOpen (gc n:Nat) (K N X:Nat→Nat) (hN:∀ j,N j<256) (mv tv:Value) (L:Nat) (Z:Nat→Nat) (E:Int) (hn:n+1<9223372036854775808) (w:World) (h:RCtx w gc K N X n) (ha:∀ kv nv W,Below w.heap.size w W→BytesIn W kv 16 K→BytesIn W nv 12 (ncN N n)→AnsC 64 #[kv,nv,mv,tv] W L Z E) :
 Calls Tryz.prog 43 #[.pointer (some ⟨gc,0,none⟩),mv,tv] w fun e w'=>∃ s,e = .returned (.tuple #[s,.int .i64 E])∧BytesIn w' s L Z∧RCtx w' gc K N X (if E=0 then n+1 else n)∧Out gc 3 1 w w':=by
 have bd:Below w.heap.size w w.drew:=(Below.refl _ _).drew
 have hc:=h.keep bd
 have cn:=rnonce_any gc n K N X hN w.drew hc
 obtain ⟨kv,uv,xv,r,hk,hu,hx⟩:=hc
 have f0:w.drew.cell? ⟨gc,0,none⟩=some kv:=r.range 0 _ rfl
 have gl:gc<w.heap.size:=r.lt
 go_enter Tryz.func43,Tryz.ntmps43
 go_upto_region 1 with (fail)
 refine wp_region_held_drew (S:=fun u=>Below w.drew.heap.size w.drew u) (by kernel_rfl) (Below.refl _ _) (fun hS => ?_)
 refine tg 0 hS ?_
 (try simp only [pS])
 refine tg 1 hS ?_
 (try simp only [pS])
 refine tg 2 hS ?_
 (try simp only [pS])
 refine tc 3 hS (fun u hu=>(hu.cell (p:=⟨gc,0,none⟩) gl).trans f0) ?_
 (try simp only [pS])
 refine tg 4 hS ?_
 (try simp only [pS])
 refine tg 6 hS ?_
 (try simp only [pS])
 refine tg 7 hS ?_
 (try simp only [pS])
 refine cl 5 cn ?_
 rintro e w1 ⟨s1,rfl,o1,b1⟩
 refine ⟨_,rfl,b1,?_⟩
 (try simp only [pS])
 refine cl 8 (ha kv s1 w1 (below_next bd b1) (hk.keep b1) o1) ?_
 rintro e w2 ⟨s2,rfl,o2,hb2⟩
 have b2:=below_next b1 hb2
 refine ⟨_,rfl,b2,?_⟩
 (try simp only [pS])
 refine tg 9 b2 ?_
 (try simp only [pS])
 refine tg 10 b2 ?_
 (try simp only [pS])
 refine tg 11 b2 ?_
 (try simp only [pS])
 refine tg 12 b2 ?_
 (try simp only [pS])
 refine tg 13 b2 ?_
 (try simp only [pS])
 refine wpAnyH_done (by kernel_rfl) ?_ _
 replace r:=r.still b2
 have hk2:=hk.keep b2
 have hu2:=hu.keep b2
 have hx2:=hx.keep b2
 have bw:=below_next bd b2
 have f3:w2.cell? ⟨gc,3,none⟩=some (.int .i64 (n:Int)):=r.range 3 _ rfl
 have z3:w2.frozen? ⟨gc,3,none⟩=false:=(r.there 3 (by show 3<4;decide)).2
 clear ha hk hu hx h b1 b2 hS o1 hb2 cn
 by_cases h0:E=0
 · subst h0
   have hw:(n:Int)+1=((n+1:Nat):Int):=by omega
   have hw':wrap64 ((n:Int)+1)=((n+1:Nat):Int):=by unfold wrap64;omega
   obtain ⟨n1,hn1⟩:∃ n1,n1=n+1:=⟨_,rfl⟩
   rw [←hn1] at hw hw'
   have HN:=Hid.mk' hn1
   clear hn1
   go_wp2
   go_ret2
   refine ⟨_,rfl,o2.set_i64 f3 _,?_,(Out.of_below bw gl).trans (Out.setCell w2 _ (Nat.le_refl _) (by decide))⟩
   rw [←HN.out]
   exact ⟨_,_,_,r.set3 _,hk2.set_i64 f3 _,hu2.set_i64 f3 _,hx2.set_i64 f3 _⟩
 · go_wp2
   go_ret2
   exact ⟨_,rfl,o2,⟨_,_,_,r,hk2,hu2,hx2⟩,Out.of_below bw gl⟩
end Go.Proofs.YtcgkajlehdgpoaaGreatDoor
