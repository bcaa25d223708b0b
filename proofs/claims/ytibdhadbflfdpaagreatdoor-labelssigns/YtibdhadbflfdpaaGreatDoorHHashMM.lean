/- What the proof stands on: HHashM, HHmac, HRefPad. -/
import Derived.Test.YtibdhadbflfdpaaGreatDoorHMixM
import Derived.Test.YtibdhadbflfdpaaGreatDoorHPadM
import Derived.Test.YtibdhadbflfdpaaGreatDoorHRefSmallM
import Derived.Test.YtibdhadbflfdpaaGreatDoorHStartM
import Derived.Deep.Upon
namespace Go.Proofs.YtibdhadbflfdpaaGreatDoor
open Nat renaming le_refl → JW
open Go renaming wpAnyH_ready → J1
open Go renaming block_lt_of_cell → J5
open Go.AllReadyH renaming nil → J6
open Go.AllReadyH renaming cons → J7
open Go.RowKit
theorem mR.below {w w':World} {b:Nat} {v:Value} {n:Nat} {bs:Nat→Nat} (h:mR w b v n bs) (hb:Below w.heap.size w w'):mR w' b v n bs:=by
 rcases h with h | ⟨bb,ob,cap,rfl,h1,h2,h3⟩
 · exact .inl h
 · refine .inr ⟨bb,ob,cap,rfl,h1,h2,fun j hj => ?_⟩
   have:=h3 j hj;exact (hb.cell (p:=⟨bb,ob+j,none⟩) (J5 this)).trans this
theorem aT.pre {b o n:Nat} {u v w:World} (h:Below u.heap.size u v) (hb:b<u.heap.size) (k:aT b o n v w):aT b o n u w:=(aT.of_below h hb).trans k
structure bY (w:World) (g:Nat) (n:Nat) (bs:Nat→Nat):Prop where
 bits:w.cell? ⟨g,0,none⟩=some (.int .i64 256)
 eng:∃ s R,az .u32 w g 1 s R n∧eX rn aS (aL rn aC) n bs s R∧s.lt 4294967296∧∀ j,R j<256
theorem bY.lt {w:World} {g n:Nat} {bs:Nat→Nat} (h:bY w g n bs):g<w.heap.size:=J5 h.bits
theorem bY.below {w w':World} {g n:Nat} {bs:Nat→Nat} (h:bY w g n bs) (hb:Below w.heap.size w w'):bY w' g n bs:=by
 obtain ⟨s,R,h1,h2,h3,h4⟩:=h.eng;exact ⟨(hb.cell (p:=⟨g,0,none⟩) h.lt).trans h.bits,s,R,h1.below hb,h2,h3,h4⟩
theorem bY.congr {w:World} {g n:Nat} {bs cs:Nat→Nat} (h:bY w g n bs) (e:∀ j,j<n→bs j=cs j):bY w g n cs:=by
 obtain ⟨s,R,h1,h2,h3,h4⟩:=h.eng;exact ⟨h.bits,s,R,h1,h2.congr e,h3,h4⟩
theorem bY.out {b o m:Nat} {w w':World} {g n:Nat} {bs:Nat→Nat} (h:bY w g n bs) (hb:aT b o m w w') (hne:g≠b):bY w' g n bs:=by
 obtain ⟨s,R,h1,h2,h3,h4⟩:=h.eng;exact ⟨(hb.cell' h.lt hne).trans h.bits,s,R,⟨hb.row h1.st hne,hb.row h1.rest hne,(hb.cell' h.lt hne).trans h1.cnt,(hb.frozen' h.lt hne).trans h1.cntf⟩,h2,h3,h4⟩
theorem xj (w:World) (hT:ep w aS aC) (bs:Nat→Nat):Calls Tryz.prog 87 #[.int .i64 256] w fun e w'=>∃ g,e = .returned (.pointer (some ⟨g,0,none⟩))∧w.heap.size≤g∧bY w' g 0 bs∧Below w.heap.size w w':=by
 refine (wi aC hT.qlt w hT.squares hT.narrow).mono ?_;rintro e w' ⟨g,rfl,hg,h1,h2,hb⟩;exact ⟨g,rfl,hg,⟨h1,_,_,h2,eX.none _ _ _ _ _,gP rn aC (by decide) hT.qlt,fun _=>Nat.zero_lt_succ _⟩,hb⟩
set_option maxRecDepth 20000 in
set_option maxHeartbeats 1000000 in
theorem jB (g c n:Nat) (v:Value) (bs b2:Nat→Nat) (hb2:∀ j,b2 j<256) (w:World) (hM:bY w g c bs) (hT:ep w aS aC) (h3:4<g) (hv:mR w g v n b2) (hcn:c+n<4611686018427387904) :
 Calls Tryz.prog 88 #[.pointer (some ⟨g,0,none⟩),v] w fun e w'=>e = .returned (.int .i64 0)∧bY w' g (c+n) (bu c bs b2)∧aT g 1 137 w w':=by
 obtain ⟨hbits,s,R,hE,hH,hs,hR⟩:=hM;have hgl:g<w.heap.size:=J5 hbits;have hd:Below w.heap.size w w.drew:=(Below.refl _ _).drew;have hTd:=hT.below hd hT.size;have hw:=iJ aS hT.Klt s hs R hR g 1 c n v b2 hb2 w.drew (hE.below hd) hTd.cubes (by omega) (hv.below hd) hcn;have hX:=fG (r:=rn) (K:=aS) (c:=c) (n:=n) hs hR hb2;have hHw:=hH.write (by decide) n b2
 obtain ⟨X,hXe⟩:∃ X,X=a6 rn aS s R c n b2:=⟨_,rfl⟩
 rw [←hXe] at hw hX hHw;have hm:=lv g 256 (by decide) w hbits;obtain ⟨p0,p1,p2,p3,p4,p5,p6,p7,p8,p9,p10,p11,p12,p13⟩:=hT.narrow;clear hT hTd hv hE hH hXe;go_enter Tryz.func88,Tryz.ntmps88;go_wp2_with (go_at_call 154;refine hm.mono ?_;rintro e w' ⟨rfl,hw'⟩;subst hw');go_region_with (go_at_call 132;refine hw.mono ?_;rintro e w5 ⟨rfl,hE5,hO5⟩)
 all_goals
  go_wp2;go_ret;have hO:aT g 1 137 _ w5:=aT.pre hd hgl hO5;exact ⟨rfl,⟨(hO.cell 0 (by omega)).trans hbits,X.1,X.2,hE5,hHw,hX.1,hX.2⟩,hO⟩
set_option maxRecDepth 20000 in
set_option maxHeartbeats 1000000 in
theorem tL (g c:Nat) (bs:Nat→Nat) (w:World) (hM:bY w g c bs) (hT:ep w aS aC) (hc:c<2305843009213693952) :
 Calls Tryz.prog 90 #[.pointer (some ⟨g,0,none⟩)] w fun e w'=>∃ ga,e = .returned (.slice (some ⟨ga,0,none⟩) 32 32)∧w.heap.size≤ga∧ah .u8 w' ga 0 32 (eD 32 (du rn aS aC c bs))∧Below w.heap.size w w':=by
 obtain ⟨hbits,s,R,hE,hH,hs,hR⟩:=hM;have hgl:g<w.heap.size:=J5 hbits;have hd:Below w.heap.size w w.drew:=(Below.refl _ _).drew;have hTd:=hT.below hd hT.size;have hsum:=qs aS hT.Klt s hs R hR c hc w.drew hTd.cubes;rw [hH.end (by decide)] at hsum;have hm:=lv g 256 (by decide) w hbits;obtain ⟨p0,p1,p2,p3,p4,p5,p6,p7,p8,p9,p10,p11,p12,p13⟩:=hT.narrow
 have hr:∀ w':World,Below w.heap.size w w'→w'.rangeAt g 1 (aH .u32 s R c):=fun w' h=>(hE.below h).range
 have hS:∀ w':World,Below w.heap.size w w'→∀ b o,b<w.heap.size→w'.cell? ⟨b,o,none⟩=w.cell? ⟨b,o,none⟩:=fun w' h b o hb=>h.cell (p:=⟨b,o,none⟩) hb
 have h0:0<w.heap.size:=by have:=hT.size;omega
 have hi':(Tryz.prog.info? 154).map (·.size)=some (aH .u32 s R c).length:=by rw [aV];kernel_rfl
 obtain ⟨Y,hY⟩:∃ Y,Y=du rn aS aC c bs:=⟨_,rfl⟩
 rw [←hY] at hsum ⊢;clear hT hTd hE hH hY;go_enter Tryz.func90,Tryz.ntmps90;go_wp2_with (go_at_call 154;refine hm.mono ?_;rintro e w' ⟨rfl,hw'⟩;subst hw');refine wp_region_held_drew (S:=fun w2=>Below w'.heap.size w' w2) (by kernel_rfl) hd (fun hHeld => ?_);refine wpAnyH_take (i:=0) (v := .pointer (some ⟨g,0,none⟩)) rfl (by kernel_rfl) (by kernel_rfl) (by kernel_rfl) (fun _ _ _ h=>h) (Or.inl ⟨by rfl,fun w2 _=>by go_simp⟩) hHeld ?_;refine wpAnyH_take (i:=1) (v := .pointer (some ⟨g,0,none⟩)) rfl (by kernel_rfl) (by kernel_rfl) (by kernel_rfl) (fun _ _ _ h=>h) (Or.inl ⟨by rfl,fun w2 _=>by go_simp⟩) hHeld ?_;refine wpAnyH_take (i:=2) (v := .pointer (some ⟨g,1,none⟩)) rfl (by kernel_rfl) (by kernel_rfl) (by kernel_rfl) (fun _ _ _ h=>h) (Or.inl ⟨by rfl,fun w2 _=>by go_simp⟩) hHeld ?_;refine wpAnyH_take (i:=3) (v := .agg (aH .u32 s R c).toArray) rfl (by kernel_rfl) (by kernel_rfl) (by kernel_rfl) (fun _ _ _ h=>h) (yieldsIf_load_mid (by rfl) 154 _ rfl g 1 rfl _ _ hr Tryz.underlying154 rfl hi') hHeld ?_;refine wpAnyH_take (i:=4) (v:=(.agg #[.int .i64 32,.int .i64 64,.int .u64 7,.int .u64 18,.int .u64 3,.int .u64 17,.int .u64 19,.int .u64 10,.int .u64 2,.int .u64 13,.int .u64 22,.int .u64 6,.int .u64 11,.int .u64 25])) rfl (by kernel_rfl) (by kernel_rfl) (by kernel_rfl) (fun _ _ _ h=>h) (Or.inl ⟨by rfl,fun w2 hSw=>by go_simp⟩) hHeld ?_;refine J1 (rs:=[5]) (by kernel_rfl) (by simp) ?_;refine J7 rfl (fun K hK => ?_) J6;go_simp;go_at_call 133;refine hsum.mono ?_;rintro e w5 ⟨ga,rfl,hga,hrow,hb5⟩;have hbn:=aa hd hb5;go_simp;refine hK.out _ _ hbn (fun hHeld2 => ?_);refine wpAnyH_take (i:=6) (v := .slice (some ⟨ga,0,none⟩) 32 32) rfl (by kernel_rfl) (by kernel_rfl) (by kernel_rfl) (fun _ _ _ h=>h) (Or.inl ⟨by rfl,fun w2 _=>by go_simp⟩) hHeld2 ?_;refine wpAnyH_done (by kernel_rfl) ?_ _;go_simp;go_wp2;go_ret;exact ⟨ga,rfl,hga,hrow,hbn⟩
structure cH (w:World) (g:Nat) (n:Nat) (bs:Nat→Nat):Prop where
 bits:w.cell? ⟨g,0,none⟩=some (.int .i64 512)
 eng:∃ s R,az .u64 w g 138 s R n∧eX aA aS (aL aA aC) n bs s R∧s.lt 18446744073709551616∧∀ j,R j<256
theorem cH.lt {w:World} {g n:Nat} {bs:Nat→Nat} (h:cH w g n bs):g<w.heap.size:=J5 h.bits
theorem cH.below {w w':World} {g n:Nat} {bs:Nat→Nat} (h:cH w g n bs) (hb:Below w.heap.size w w'):cH w' g n bs:=by
 obtain ⟨s,R,h1,h2,h3,h4⟩:=h.eng;exact ⟨(hb.cell (p:=⟨g,0,none⟩) h.lt).trans h.bits,s,R,h1.below hb,h2,h3,h4⟩
theorem cH.congr {w:World} {g n:Nat} {bs cs:Nat→Nat} (h:cH w g n bs) (e:∀ j,j<n→bs j=cs j):cH w g n cs:=by
 obtain ⟨s,R,h1,h2,h3,h4⟩:=h.eng;exact ⟨h.bits,s,R,h1,h2.congr e,h3,h4⟩
theorem cH.out {b o m:Nat} {w w':World} {g n:Nat} {bs:Nat→Nat} (h:cH w g n bs) (hb:aT b o m w w') (hne:g≠b):cH w' g n bs:=by
 obtain ⟨s,R,h1,h2,h3,h4⟩:=h.eng;exact ⟨(hb.cell' h.lt hne).trans h.bits,s,R,⟨hb.row h1.st hne,hb.row h1.rest hne,(hb.cell' h.lt hne).trans h1.cnt,(hb.frozen' h.lt hne).trans h1.cntf⟩,h2,h3,h4⟩
theorem wQ (w:World) (hT:ep w aS aC) (bs:Nat→Nat):Calls Tryz.prog 87 #[.int .i64 512] w fun e w'=>∃ g,e = .returned (.pointer (some ⟨g,0,none⟩))∧w.heap.size≤g∧cH w' g 0 bs∧Below w.heap.size w w':=by
 refine (wJ aC hT.qlt w hT.squares hT.wide).mono ?_;rintro e w' ⟨g,rfl,hg,h1,h2,hb⟩;exact ⟨g,rfl,hg,⟨h1,_,_,h2,eX.none _ _ _ _ _,gP aA aC (by decide) hT.qlt,fun _=>Nat.zero_lt_succ _⟩,hb⟩
set_option maxRecDepth 20000 in
set_option maxHeartbeats 1000000 in
theorem pq (g c n:Nat) (v:Value) (bs b2:Nat→Nat) (hb2:∀ j,b2 j<256) (w:World) (hM:cH w g c bs) (hT:ep w aS aC) (h3:4<g) (hv:mR w g v n b2) (hcn:c+n<4611686018427387904) :
 Calls Tryz.prog 88 #[.pointer (some ⟨g,0,none⟩),v] w fun e w'=>e = .returned (.int .i64 0)∧cH w' g (c+n) (bu c bs b2)∧aT g 138 137 w w':=by
 obtain ⟨hbits,s,R,hE,hH,hs,hR⟩:=hM;have hgl:g<w.heap.size:=J5 hbits;have hd:Below w.heap.size w w.drew:=(Below.refl _ _).drew;have hTd:=hT.below hd hT.size;have hw:=i8 aS hT.Klt s hs R hR g 138 c n v b2 hb2 w.drew (hE.below hd) hTd.cubes (by omega) (hv.below hd) hcn;have hX:=fG (r:=aA) (K:=aS) (c:=c) (n:=n) hs hR hb2;have hHw:=hH.write (by decide) n b2
 obtain ⟨X,hXe⟩:∃ X,X=a6 aA aS s R c n b2:=⟨_,rfl⟩
 rw [←hXe] at hw hX hHw;have hm:=lv g 512 (by decide) w hbits;obtain ⟨p0,p1,p2,p3,p4,p5,p6,p7,p8,p9,p10,p11,p12,p13⟩:=hT.wide;clear hT hTd hv hE hH hXe;go_enter Tryz.func88,Tryz.ntmps88;go_wp2_with (go_at_call 154;refine hm.mono ?_;rintro e w' ⟨rfl,hw'⟩;subst hw');go_region_with (go_at_call 151;refine hw.mono ?_;rintro e w5 ⟨rfl,hE5,hO5⟩)
 all_goals
  go_wp2;go_ret;have hO:aT g 138 137 _ w5:=aT.pre hd hgl hO5;exact ⟨rfl,⟨(hO.cell 0 (by omega)).trans hbits,X.1,X.2,hE5,hHw,hX.1,hX.2⟩,hO⟩
set_option maxRecDepth 20000 in
set_option maxHeartbeats 1000000 in
theorem ux (g c:Nat) (bs:Nat→Nat) (w:World) (hM:cH w g c bs) (hT:ep w aS aC) (hc:c<2305843009213693952) :
 Calls Tryz.prog 90 #[.pointer (some ⟨g,0,none⟩)] w fun e w'=>∃ ga,e = .returned (.slice (some ⟨ga,0,none⟩) 64 64)∧w.heap.size≤ga∧ah .u8 w' ga 0 64 (eD 64 (du aA aS aC c bs))∧Below w.heap.size w w':=by
 obtain ⟨hbits,s,R,hE,hH,hs,hR⟩:=hM;have hgl:g<w.heap.size:=J5 hbits;have hd:Below w.heap.size w w.drew:=(Below.refl _ _).drew;have hTd:=hT.below hd hT.size;have hsum:=qJ aS hT.Klt s hs R hR c hc w.drew hTd.cubes;rw [hH.end (by decide)] at hsum;have hm:=lv g 512 (by decide) w hbits;obtain ⟨p0,p1,p2,p3,p4,p5,p6,p7,p8,p9,p10,p11,p12,p13⟩:=hT.wide
 have hr:∀ w':World,Below w.heap.size w w'→w'.rangeAt g 138 (aH .u64 s R c):=fun w' h=>(hE.below h).range
 have hS:∀ w':World,Below w.heap.size w w'→∀ b o,b<w.heap.size→w'.cell? ⟨b,o,none⟩=w.cell? ⟨b,o,none⟩:=fun w' h b o hb=>h.cell (p:=⟨b,o,none⟩) hb
 have h0:1<w.heap.size:=by have:=hT.size;omega
 have hi':(Tryz.prog.info? 174).map (·.size)=some (aH .u64 s R c).length:=by rw [aV];kernel_rfl
 obtain ⟨Y,hY⟩:∃ Y,Y=du aA aS aC c bs:=⟨_,rfl⟩
 rw [←hY] at hsum ⊢;clear hT hTd hE hH hY;go_enter Tryz.func90,Tryz.ntmps90;go_wp2_with (go_at_call 154;refine hm.mono ?_;rintro e w' ⟨rfl,hw'⟩;subst hw');refine wp_region_held_drew (S:=fun w2=>Below w'.heap.size w' w2) (by kernel_rfl) hd (fun hHeld => ?_);refine wpAnyH_take (i:=0) (v := .pointer (some ⟨g,0,none⟩)) rfl (by kernel_rfl) (by kernel_rfl) (by kernel_rfl) (fun _ _ _ h=>h) (Or.inl ⟨by rfl,fun w2 _=>by go_simp⟩) hHeld ?_;refine wpAnyH_take (i:=1) (v := .pointer (some ⟨g,0,none⟩)) rfl (by kernel_rfl) (by kernel_rfl) (by kernel_rfl) (fun _ _ _ h=>h) (Or.inl ⟨by rfl,fun w2 _=>by go_simp⟩) hHeld ?_;refine wpAnyH_take (i:=2) (v := .pointer (some ⟨g,138,none⟩)) rfl (by kernel_rfl) (by kernel_rfl) (by kernel_rfl) (fun _ _ _ h=>h) (Or.inl ⟨by rfl,fun w2 _=>by go_simp⟩) hHeld ?_;refine wpAnyH_take (i:=3) (v := .agg (aH .u64 s R c).toArray) rfl (by kernel_rfl) (by kernel_rfl) (by kernel_rfl) (fun _ _ _ h=>h) (yieldsIf_load_mid (by rfl) 174 _ rfl g 138 rfl _ _ hr Tryz.underlying174 rfl hi') hHeld ?_;refine wpAnyH_take (i:=4) (v:=(.agg #[.int .i64 64,.int .i64 80,.int .u64 1,.int .u64 8,.int .u64 7,.int .u64 19,.int .u64 61,.int .u64 6,.int .u64 28,.int .u64 34,.int .u64 39,.int .u64 14,.int .u64 18,.int .u64 41])) rfl (by kernel_rfl) (by kernel_rfl) (by kernel_rfl) (fun _ _ _ h=>h) (Or.inl ⟨by rfl,fun w2 hSw=>by go_simp⟩) hHeld ?_;refine J1 (rs:=[5]) (by kernel_rfl) (by simp) ?_;refine J7 rfl (fun K hK => ?_) J6;go_simp;go_at_call 152;refine hsum.mono ?_;rintro e w5 ⟨ga,rfl,hga,hrow,hb5⟩;have hbn:=aa hd hb5;go_simp;refine hK.out _ _ hbn (fun hHeld2 => ?_);refine wpAnyH_take (i:=6) (v := .slice (some ⟨ga,0,none⟩) 64 64) rfl (by kernel_rfl) (by kernel_rfl) (by kernel_rfl) (fun _ _ _ h=>h) (Or.inl ⟨by rfl,fun w2 _=>by go_simp⟩) hHeld2 ?_;refine wpAnyH_done (by kernel_rfl) ?_ _;go_simp;go_wp2;go_ret;exact ⟨ga,rfl,hga,hrow,hbn⟩
def fe (w:World) (gp cnt m:Nat) (t:Nat→Nat):Prop:=∃ (pvs:Nat→Value) (L:Nat→Nat),L 0=0∧L cnt=m∧∀ i,i<cnt→w.cell? ⟨gp,i,none⟩=some (pvs i)∧L i≤L (i+1)∧L (i+1)≤m∧ae w (pvs i) (L (i+1) - L i) (fun j=>t (L i+j))
theorem fe.below {w w':World} {gp cnt m:Nat} {t:Nat→Nat} (h:fe w gp cnt m t) (hb:Below w.heap.size w w'):fe w' gp cnt m t:=by
 obtain ⟨pvs,L,h0,h1,h2⟩:=h;exact ⟨pvs,L,h0,h1,fun i hi=>⟨(hb.cell (p:=⟨gp,i,none⟩) (J5 (h2 i hi).1)).trans (h2 i hi).1,(h2 i hi).2.1,(h2 i hi).2.2.1,(h2 i hi).2.2.2.still hb⟩⟩
theorem Aj (w:World) (v:Value) (n:Nat) (bs:Nat→Nat) (ty:TypeId) (h:ae w v n bs):fe (w.alloc (.cells #[v] ty)) w.heap.size 1 n bs:=by
 refine ⟨fun _=>v,fun i=>if i=0 then 0 else n,rfl,rfl,fun i hi => ?_⟩
 have:i=0:=by omega
 subst this;refine ⟨by simp,Nat.zero_le _,JW _,?_⟩;have:=h.still ((Below.refl _ _).alloc (JW _) (.cells #[v] ty))
 simpa using this
def uL (kv:Nat→Nat) (p k:Nat):Nat→Nat:=fun j=>if j<k then kv j ^^^ p else kv j
theorem zo (kv:Nat→Nat) (p k j:Nat):bK (uL kv p k) k (kv k ^^^ p) j=uL kv p (k+1) j:=by
 unfold bK uL
 by_cases e:j=k
 · subst e;rw [if_pos rfl,if_pos (by omega)]
 · rw [if_neg e]
   by_cases e2:j<k
   · rw [if_pos e2,if_pos (by omega)]
   · rw [if_neg e2,if_neg (by omega)]
def iy (kv:Nat→Nat) (p m:Nat) (t:Nat→Nat):Nat→Nat:=eD 32 (du rn aS aC (64+m) (bu 64 (fun j=>kv j ^^^ p) t))
set_option maxRecDepth 20000 in
set_option maxHeartbeats 2000000 in
theorem mY (kv:Nat→Nat) (hkv:∀ j,kv j<256) (p:Nat) (hp:p<256) (gp cnt cap m:Nat) (t:Nat→Nat) (ht:∀ j,t j<256) (hm:m<2305843009213693000) (w:World) (hT:ep w aS aC) (hP:fe w gp cnt m t) (hcnt:cnt<1000000) :
 Calls Tryz.prog 222 #[.agg (au .u8 64 kv).toArray,.int .u8 p,.slice (some ⟨gp,0,none⟩) cnt cap] w
  fun e w'=>∃ g,e = .returned (.slice (some ⟨g,0,none⟩) 32 32)∧w.heap.size≤g∧ah .u8 w' g 0 32 (iy kv p m t)∧Below w.heap.size w w':=by
 have h3:=hT.size
 have hnew:=fun W (h:Below w.heap.size w W)=>xj W (hT.below h h3) (bu 64 (fun j=>kv j ^^^ p) t)
 have hrow0:=qe .u8 w 64 kv 204;obtain ⟨pvs,L,hL0,hLm,hcell⟩:=hP;go_enter Tryz.func222,Tryz.ntmps222;go_wp2;go_loopw [11] (fun i wr=>∃ k:Nat,k≤64∧i = .int .i64 k∧ah .u8 wr w.heap.size 0 64 (uL kv p k)∧Below w.heap.size w wr) (fun i _=>64 - (intOf i).toNat)
 case atStart=>exact ⟨0,Nat.zero_le _,rfl,hrow0.congr (fun j _=>by simp [uL]),(Below.refl _ _).alloc (JW _) _⟩
 case round =>
  clear hrow0;obtain ⟨k,hk,rfl,hrow,hb⟩:=hrel
  by_cases hlt:k<64
  · obtain ⟨rk,rf⟩:=hrow k hlt
    rw [Nat.zero_add] at rk rf
    have ek:uL kv p k k=kv k:=by simp [uL]
    rw [ek] at rk;clear hnew hcell;go_wp2;go_roundw
    case rel =>
     have h1:=hrow.set (i:=k) hlt (v:=bits .xor .u8 (kv k:Int) (p:Int)) (u:=kv k ^^^ p) (u8_xor_nat _ _ (hkv k) hp);rw [Nat.zero_add] at h1;exact ⟨k+1,by omega,by go_num,h1.congr (fun j _=>zo kv p k j),hb.setCell (JW _) _⟩
    case measure=>simp [intOf];omega
  · have hke:k=64:=by omega
    rw [hke] at hrow;clear hke;have hn:=hnew wr hb;have hwl:w.heap.size<wr.heap.size:=J5 (hrow 0 (by decide)).1;clear hnew
    go_wp2_with (first
     | (go_at_call 87;refine hn.mono ?_;clear hn;rintro e w1 ⟨g,rfl,hg,hM,hb1⟩;(have hbw1:Below w.heap.size w w1:=hb.trans (hb1.mono hb.size));have hs1:=hb1.size;have hw1:=jB g 0 64 (.slice (some ⟨w.heap.size,0,none⟩) 64 64) _ (fun j=>kv j ^^^ p) (fun j=>Nat.xor_lt_two_pow (n:=8) (hkv j) hp) w1 hM (hT.below hbw1 h3) (by omega) (.inr ⟨w.heap.size,0,64,rfl,by omega,JW _,fun j hj=>by have h:=((hrow.below hb1 hwl) j hj).1;rw [h];simp [uL,hj]⟩) (by decide))
     | (go_at_call 88;refine hw1.mono ?_;clear hw1;rintro e w2 ⟨rfl,hM2,hO2⟩))
    have hbw2:Below w.heap.size w w2:=hbw1.trans (hO2.below (by omega) (by omega))
    obtain ⟨B,hB⟩:∃ B,B=bu 64 (fun j=>kv j ^^^ p) t:=⟨_,rfl⟩
    have hM3:bY w2 g (64+L 0) B:=by
     rw [hL0,hB]
     exact hM2.congr (fun j hj=>by
      rw [show bu 0 (bu 64 (fun j=>kv j ^^^ p) t) (fun j=>kv j ^^^ p) j=kv j ^^^ p by unfold bu;simp]
      rw [d7 (by omega)])
    have HB:Hid (iy kv p m t=eD 32 (du rn aS aC (64+m) B)):=(by rw [hB];rfl:iy kv p m t=eD 32 (du rn aS aC (64+m) B))
    have hBr:∀ j,B (64+j)=t j:=fun j=>by rw [hB];exact fJ j
    have hd:decide ((k:Int)<64)=false:=decide_eq_false (by omega);rw [hd];clear hd hM2 hM hO2 hbw1 hb1 hrow hb hlt hk hB;go_loopw [27] (fun i wq=>∃ q:Nat,q≤cnt∧i = .int .i64 q∧bY wq g (64+L q) B∧Below w.heap.size w wq) (fun i _=>cnt - (intOf i).toNat)
    case atStart=>exact ⟨0,Nat.zero_le _,rfl,hM3,hbw2⟩
    case round =>
     clear hM3 hbw2;obtain ⟨q,hq,rfl,hMq,hbq⟩:=hrel;have hsq:=hbq.size
     by_cases hlt:q<cnt
     · obtain ⟨c1,c2,c3,c4⟩:=hcell q hlt
       have rq:wr.cell? ⟨gp,q,none⟩=some (pvs q):=(hbq.cell (p:=⟨gp,q,none⟩) (J5 c1)).trans c1;have hw:=jB g (64+L q) (L (q+1) - L q) (pvs q) B (fun j=>t (L q+j)) (fun j=>ht _) wr hMq (hT.below hbq h3) (by omega) (c4.away hbq (by omega)) (by omega);have hgl:=hMq.lt
       obtain ⟨pv,hpv⟩:∃ pv,pv=pvs q:=⟨_,rfl⟩
       rw [←hpv] at rq hw
       have hqi:(0:Int)≤(q:Int)∧(q:Int)<cnt:=by omega
       clear hpv hcell;go_wp2_with (go_at_call 88;refine hw.mono ?_;rintro e w3 ⟨rfl,hM3,hO3⟩);go_roundw
       case rel =>
        have hM4:bY w3 g (64+L (q+1)) B:=by
         rw [show 64+L (q+1)=64+L q+(L (q+1) - L q) by omega]
         exact hM3.congr (fun j hj=>by
          by_cases e:j<64+L q
          · rw [d7 e]
          · unfold bu
            rw [if_neg e];show t (L q+(j - (64+L q)))=B j;rw [←hBr]
            congr 1;omega)
        exact ⟨q+1,by omega,by go_num,hM4,hbq.trans (hO3.below (by omega) (by omega))⟩
       case measure=>simp [intOf];omega
     · have hqe:q=cnt:=by omega
       rw [hqe,hLm] at hMq;clear hqe;have hsum:=tL g (64+m) B wr hMq (hT.below hbq h3) (by omega);go_wp2_with (go_at_call 90;refine hsum.mono ?_;rintro e w4 ⟨ga,rfl,hga,hrow,hb4⟩);go_ret;rw [HB.out];exact ⟨ga,rfl,by omega,hrow,hbq.trans (hb4.mono hbq.size)⟩
theorem yh (kv:Nat→Nat) (p m:Nat) (t:Nat→Nat) (j:Nat):iy kv p m t j<256:=Nat.mod_lt _ (by decide)
theorem jW:(Tryz.prog.info? 204).map (·.size)=some 64:=by kernel_rfl
def wV (kv:Nat→Nat) (m:Nat) (t:Nat→Nat):Nat→Nat:=iy kv 92 32 (iy kv 54 m t)
theorem Ev (kv:Nat→Nat) (m:Nat) (t:Nat→Nat) (j:Nat):wV kv m t j<256:=yh _ _ _ _ _
set_option maxRecDepth 20000 in
set_option maxHeartbeats 2000000 in
theorem Ep (kv:Nat→Nat) (hkv:∀ j,kv j<256) (gp cnt cap m:Nat) (t:Nat→Nat) (ht:∀ j,t j<256) (hm:m<2305843009213693000) (w:World) (hT:ep w aS aC) (hP:fe w gp cnt m t) (hcnt:cnt<1000000) :
 Calls Tryz.prog 183 #[.agg (au .u8 64 kv).toArray,.slice (some ⟨gp,0,none⟩) cnt cap] w
  fun e w'=>∃ g,e = .returned (.slice (some ⟨g,0,none⟩) 32 32)∧w.heap.size≤g∧ah .u8 w' g 0 32 (wV kv m t)∧Below w.heap.size w w':=by
 have h3:=hT.size;have hrow0:=qe .u8 w 64 kv 204;have hbw:Below w.heap.size w (w.alloc (.cells (au .u8 64 kv).toArray 204)):=(Below.refl _ _).alloc (JW _) _
 obtain ⟨W,hW⟩:∃ W,W=w.alloc (.cells (au .u8 64 kv).toArray 204):=⟨_,rfl⟩
 have HW:Hid (W=w.alloc (.cells (au .u8 64 kv).toArray 204)):=hW
 have hWs:w.heap.size<W.heap.size:=by rw [hW];simp
 rw [←hW] at hrow0 hbw;have hd:Below W.heap.size W W.drew:=(Below.refl _ _).drew;have hbd:Below w.heap.size w W.drew:=hbw.trans (hd.mono (by omega))
 have hr:∀ w':World,Below W.heap.size W w'→w'.rangeAt w.heap.size 0 (au .u8 64 kv):=fun w' h=>(hrow0.below h hWs).range
 have hi':(Tryz.prog.info? 204).map (·.size)=some (au .u8 64 kv).length:=by rw [ak];exact jW
 have c1:=mY kv hkv 54 (by decide) gp cnt cap m t ht hm W.drew (hT.below hbd h3) (hP.below hbd) hcnt
 have c2:∀ (W5:World) (ga:Nat),Below W.heap.size W W5→ah .u8 W5 ga 0 32 (iy kv 54 m t)→Calls Tryz.prog 222 #[.agg (au .u8 64 kv).toArray,.int .u8 92,.slice (some ⟨W5.heap.size,0,none⟩) 1 1] (W5.alloc (.cells #[.slice (some ⟨ga,0,none⟩) 32 32] 22)) fun e w'=>∃ g,e = .returned (.slice (some ⟨g,0,none⟩) 32 32)∧(W5.alloc (.cells #[.slice (some ⟨ga,0,none⟩) 32 32] 22)).heap.size≤g∧ah .u8 w' g 0 32 (wV kv m t)∧Below (W5.alloc (.cells #[.slice (some ⟨ga,0,none⟩) 32 32] 22)).heap.size (W5.alloc (.cells #[.slice (some ⟨ga,0,none⟩) 32 32] 22)) w':=fun W5 ga hb hrow=>by
  have hb2:Below w.heap.size w (W5.alloc (.cells #[.slice (some ⟨ga,0,none⟩) 32 32] 22)):=(hbw.trans (hb.mono (by omega))).alloc (by have:=hb.size;omega) _;exact mY kv hkv 92 (by decide) W5.heap.size 1 1 32 _ (yh _ _ _ _) (by decide) _ (hT.below hb2 h3) (Aj W5 _ 32 _ _ (.inr ⟨ga,0,32,rfl,J5 (hrow 0 (by decide)).1,JW _,fun j hj=>(hrow j hj).1⟩)) (by decide)
 obtain ⟨X,hX⟩:∃ X,X=iy kv 54 m t:=⟨_,rfl⟩
 rw [←hX] at c1 c2;clear hW hX hT hP;go_enter Tryz.func183,Tryz.ntmps183;go_wp2;rw [←HW.out];refine wp_region_held_drew (S:=fun w2=>Below W.heap.size W w2) (by kernel_rfl) hd (fun hHeld => ?_);refine wpAnyH_take (i:=0) (v := .agg (au .u8 64 kv).toArray) rfl (by kernel_rfl) (by kernel_rfl) (by kernel_rfl) (fun _ _ _ h=>h) (yieldsIf_load_mid (by rfl) 204 _ rfl w.heap.size 0 rfl _ _ hr Tryz.underlying204 rfl hi') hHeld ?_;refine wpAnyH_take (i:=1) (v := .agg (au .u8 64 kv).toArray) rfl (by kernel_rfl) (by kernel_rfl) (by kernel_rfl) (fun _ _ _ h=>h) (yieldsIf_load_mid (by rfl) 204 _ rfl w.heap.size 0 rfl _ _ hr Tryz.underlying204 rfl hi') hHeld ?_;refine wpAnyH_take (i:=2) (v := .slice (some ⟨gp,0,none⟩) cnt cap) rfl (by kernel_rfl) (by kernel_rfl) (by kernel_rfl) (fun _ _ _ h=>h) (Or.inl ⟨by rfl,fun w2 _=>by go_simp⟩) hHeld ?_;refine J1 (rs:=[3]) (by kernel_rfl) (by simp) ?_;refine J7 rfl (fun K hK => ?_) J6;go_simp;go_at_call 222;refine c1.mono ?_;rintro e w5 ⟨ga,rfl,hga,hrow,hb5⟩;have hbn:=aa hd hb5;go_simp;refine hK.out _ _ hbn (fun hHeld2 => ?_);clear hK K;refine J1 (rs:=[4]) (by kernel_rfl) (by simp) ?_;refine J7 rfl (fun K hK => ?_) J6;go_simp;refine hK.out _ _ (hbn.alloc hbn.size _) (fun hHeld3 => ?_);clear hK K;refine J1 (rs:=[5]) (by kernel_rfl) (by simp) ?_;refine J7 rfl (fun K hK => ?_) J6;go_simp;go_at_call 222;refine (c2 w5 ga hbn hrow).mono ?_;rintro e w6 ⟨gb,rfl,hgb,hrowb,hb6⟩;have hbm:=aa (hbn.alloc hbn.size _) hb6;go_simp;refine hK.out _ _ hbm (fun hHeld4 => ?_);clear hK K;refine wpAnyH_take (i:=6) (v := .slice (some ⟨gb,0,none⟩) 32 32) rfl (by kernel_rfl) (by kernel_rfl) (by kernel_rfl) (fun _ _ _ h=>h) (Or.inl ⟨by rfl,fun w2 _=>by go_simp⟩) hHeld4 ?_;refine wpAnyH_done (by kernel_rfl) ?_ _;go_simp;go_wp2;go_ret;have hz:=hbn.size;simp only [World.size_alloc] at hgb;exact ⟨gb,rfl,by omega,hrowb,hbw.trans (hbm.mono (by omega))⟩
theorem xS (w:World):Sem.run Tryz.prog (zeroValue 204) w = .ok (.agg (zb 64)) w:=by kernel_rfl
def dL (n:Nat) (bs:Nat→Nat):Nat→Nat:=fun j=>if n≤64 then (if j<n then bs j else 0) else (if j<32 then eD 32 (du rn aS aC n bs) j else 0)
theorem DR {n:Nat} {bs:Nat→Nat} (h:∀ j,bs j<256):∀ j,dL n bs j<256:=fun j=>by
 unfold dL
 split
 · split
   · exact h j
   · decide
 · split
   · exact Nat.mod_lt _ (by decide)
   · decide
theorem C1 (W0:World) (n:Nat) (bs:Nat→Nat) (hn:n≤64) :
 ah .u8 ((W0.alloc (.cells (zb 64) 204)).setCells W0.heap.size 0 (au .u8 n bs)) W0.heap.size 0 64 (fun j=>if j<n then bs j else 0):=by
 have h0:ah .u8 (W0.alloc (.cells (zb 64) 204)) W0.heap.size 0 64 (fun _=>0):=ah.fresh (fun j hj=>fO 64 j hj);have h1:=h0.splice 0 n bs (by omega);rw [Nat.add_zero] at h1;refine h1.congr (fun j hj => ?_);unfold over
 by_cases e:j<n
 · rw [if_pos ⟨Nat.zero_le _,by omega⟩,if_pos e,Nat.sub_zero]
 · rw [if_neg (by omega),if_neg e]
theorem lk (W0:World):(W0.alloc (.cells (zb 64) 204)).there W0.heap.size 0 64:=fun j hj=>by
 have h0:ah .u8 (W0.alloc (.cells (zb 64) 204)) W0.heap.size 0 64 (fun _=>0):=ah.fresh (fun j hj=>fO 64 j hj);exact ⟨by rw [(h0 j hj).1];rfl,(h0 j hj).2⟩
theorem nt (N c:Nat):∀ i j,i≤8→9≤N→j<N→lV N c i j=if N - i≤j then c*8 / 2 ^ (8*(N - 1 - j))%256 else if j=0 then 128 else 0
 | 0,j,_,_,hj=>by
  rw [if_neg (by omega)];unfold lV bK;rfl
 | i+1,j,hi,hN,hj=>by
  unfold lV bK
  by_cases e:j=N - 1 - i
  · rw [if_pos e,if_pos (by omega),show N - 1 - j=i by omega]
  · rw [if_neg e,nt N c i j (by omega) hN hj]
    by_cases e2:N - i≤j
    · rw [if_pos e2,if_pos (by omega)]
    · rw [if_neg e2,if_neg (show ¬(N - (i+1)≤j) by omega)]
theorem qH (c:Nat):9≤br aA c:=by
 show 9≤1+(4*64 - 1 - 64 / 4 - c%(2*64))%(2*64)+64 / 4;omega
theorem sa (c:Nat):dk aA c 0=128:=by
 have h:=qH c;unfold dk;rw [nt _ c 8 0 (JW _) (by omega) (by omega),if_neg (by omega),if_pos rfl]
theorem nL (c t:Nat) (h0:0<t) (ht:t+8<br aA c):dk aA c t=0:=by
 unfold dk;rw [nt _ c 8 t (JW _) (by omega) (by omega),if_neg (by omega),if_neg (by omega)]
theorem vJ (c i t:Nat) (hi:i<8) (ht:t+1+i=br aA c):dk aA c t=c*8 / 2 ^ (8*i)%256:=by
 have h:=qH c;unfold dk;rw [nt _ c 8 t (JW _) (by omega) (by omega),if_pos (by omega),show br aA c - 1 - t=i by omega]
set_option maxRecDepth 20000 in
set_option maxHeartbeats 2000000 in
theorem sW (g0 g1 g2 g3:Nat) (v:Value) (n:Nat) (bs:Nat→Nat) (w:World) (hv:ae w v n bs) (hn:n<140737488355000) :
 Calls Tryz.prog 215 #[(.agg #[.int .i64 64,.int .i64 128,.int .i64 80,.slice (some ⟨g0,0,none⟩) 3 3,.slice (some ⟨g1,0,none⟩) 3 3,.slice (some ⟨g2,0,none⟩) 3 3,.slice (some ⟨g3,0,none⟩) 3 3]),v] w fun e w'=>∃ v',e = .returned v'∧bx w.heap.size w' v' (n+br aA n) (bu n bs (dk aA n))∧Below w.heap.size w w':=by
 obtain ⟨xo,cx,rfl,hxn,-,hsrc⟩:=hv.src;clear hv
 obtain ⟨F,hF⟩:∃ F,F=bu n bs (dk aA n):=⟨_,rfl⟩
 have HF:Hid (F=bu n bs (dk aA n)):=hF
 obtain ⟨Z,hZ⟩:∃ Z,Z=(4*64 - 1 - 16 - n%128)%128:=⟨_,rfl⟩
 have hN:br aA n=1+Z+16:=by rw [hZ];rfl
 have F0:∀ j,j<n→F j=bs j:=fun j hj=>by rw [hF,d7 hj]
 have F1:F n=128:=by rw [hF];unfold bu;rw [if_neg (by omega),Nat.sub_self];exact sa n
 have F2:∀ k,k<Z→F (n+1+k)=0:=fun k hk=>by rw [hF,Nat.add_assoc,fJ];exact nL n _ (by omega) (by omega)
 have F3:∀ k,k+8<16→F (n+1+Z+k)=0:=fun k hk=>by rw [hF,Nat.add_assoc,Nat.add_assoc,fJ];exact nL n _ (by omega) (by omega)
 have F4:∀ k i,i<8→k+1+i=16→F (n+1+Z+k)=n*8 / 2 ^ (8*i)%256:=fun k i hi hk=>by rw [hF,Nat.add_assoc,Nat.add_assoc,fJ];exact vJ n i _ hi (by omega)
 rw [hN,←hF];have hbZ:Below w.heap.size w (w.alloc (.cells #[.int .i64 64,.int .i64 128,.int .i64 80,.slice (some ⟨g0,0,none⟩) 3 3,.slice (some ⟨g1,0,none⟩) 3 3,.slice (some ⟨g2,0,none⟩) 3 3,.slice (some ⟨g3,0,none⟩) 3 3] 191)):=(Below.refl _ _).alloc (JW _) _;have hzb:=lU w g0 g1 g2 g3
 obtain ⟨W,hW⟩:∃ W,W=w.alloc (.cells #[.int .i64 64,.int .i64 128,.int .i64 80,.slice (some ⟨g0,0,none⟩) 3 3,.slice (some ⟨g1,0,none⟩) 3 3,.slice (some ⟨g2,0,none⟩) 3 3,.slice (some ⟨g3,0,none⟩) 3 3] 191):=⟨_,rfl⟩
 have HW:Hid (W=w.alloc (.cells #[.int .i64 64,.int .i64 128,.int .i64 80,.slice (some ⟨g0,0,none⟩) 3 3,.slice (some ⟨g1,0,none⟩) 3 3,.slice (some ⟨g2,0,none⟩) 3 3,.slice (some ⟨g3,0,none⟩) 3 3] 191)):=hW
 have hWs:W.heap.size=w.heap.size+1:=by rw [hW];simp
 rw [←hW] at hbZ hzb
 have hW0:w.heap.size+1≤W.heap.size:=by omega
 have src0:nK (W.alloc (.cells #[] 5)) xo n F:=by
  rcases hsrc _ (hbZ.alloc (by omega) (.cells #[] 5)) with h | ⟨bb,ob,h1,h2⟩
  · exact .inl h
  · exact .inr ⟨bb,ob,h1,fun j hj=>by rw [F0 j hj];exact h2 j hj⟩
 clear hF hW hsrc F0;go_enter Tryz.func215,Tryz.ntmps215
 go_wp2_with (first
  | (at_builtin;rw [←HW.out];go_loud (refine bn rfl (.tmp 8) (.tmp 9) rfl (w.heap.size+1) F (w.heap.size+1) hWs rfl xo n cx rfl src0 hxn (by omega) hW0 ?_);intro v1 w1 own1 hb1;have hs1:=hb1.size;clear src0)
  | (at_builtin;refine bq rfl (.tmp 10) (.tmp 11) rfl (w.heap.size+1) v1 n F _ rfl own1 rfl (by rw [F1];rfl) (by omega) (by omega) ?_;intro v2 w2 own2 hb2;replace hb2:=hb1.trans hb2;clear own1 hb1 hs1))
 have hzw:∀ wr,Below (w.heap.size+1) W wr→wr.cell? ⟨w.heap.size,1,none⟩=some (.int .i64 128):=fun wr h=>(h.cell (p:=⟨w.heap.size,1,none⟩) (Nat.lt_succ_self _)).trans hzb.2.1
 go_loopw [5] (fun v wr=>∃ k:Nat,k≤Z∧bx (w.heap.size+1) wr v (n+1+k) F∧Below (w.heap.size+1) W wr) (fun v _=>n+1+Z - gV v)
 case atStart=>exact ⟨0,Nat.zero_le _,own2,hb2⟩
 case round =>
  clear own2 hb2;obtain ⟨k,hk,own,hb⟩:=hrel
  obtain ⟨L,hL⟩:∃ L,L=n+1+k:=⟨_,rfl⟩
  have HL:Hid (L=n+1+k):=hL;rw [←hL] at own
  rcases own.form with ⟨-,h0⟩ | ⟨g,cap,rfl,-,-,-,-⟩
  · omega
  have hs:=hb.size;have hz1:=hzw _ hb
  have hLb:L<140737488355300:=by omega
  by_cases hlt:k<Z
  · have hc:((L:Int)+16)%128≠0:=by omega
    have hFL:Hid ((0:Int)=(F L:Int)):=(by rw [hL,F2 k hlt];rfl:(0:Int)=(F L:Int))
    clear hL hZ hN;go_wp2_with (at_builtin;go_loud (refine bq rfl (.tmp 23) (.tmp 24) rfl (w.heap.size+1) _ L F _ rfl own rfl hFL.out (by omega) (by omega) ?_);intro v3 w3 own3 hb3)
    rcases own3.form with ⟨-,h0⟩ | ⟨g3,cap3,rfl,-,-,-,-⟩
    · omega
    go_roundw
    case rel=>exact ⟨k+1,by omega,own3.start (by have:=HL.out;omega),hb.trans hb3⟩
    case measure=>have:=HL.out;simp [gV];omega
  · have hc:((L:Int)+16)%128=0:=by omega
    have hkZ:k=Z:=by omega
    rw [hkZ] at hL;have HLZ:Hid (L=n+1+Z):=hL;clear hL hkZ hZ;go_wp2;clear hz1 hc;go_loopw [5,7] (fun v i wq=>∃ k:Nat,k≤16∧i = .int .i64 (16 - 1 - (k:Int))∧bx (w.heap.size+1) wq v (L+k) F∧Below (w.heap.size+1) W wq) (fun v _ _=>L+16 - gV v)
    case atStart=>exact ⟨0,Nat.zero_le _,by go_num,own,hb⟩
    case round =>
     clear own hb hs hlt hk;obtain ⟨q,hq,rfl,own,hb⟩:=hrel;have hs:=hb.size
     rcases own.form with ⟨-,h0⟩ | ⟨g,cap,rfl,-,-,-,-⟩
     · have:=HLZ.out;omega
     by_cases hlt:q<16
     · obtain ⟨i,hi⟩:∃ i:Nat,i=16 - 1 - q:=⟨_,rfl⟩
       have hii:(16 - 1 - (q:Int))=(i:Int):=by omega
       have hi8:i<16:=by omega
       rw [hii]
       have hF8:8≤i→(0:Int)=(F (L+q):Int):=fun h=>by rw [HLZ.out,F3 q (by omega)];rfl
       have hF7:i<8→(((n*8 / 2 ^ (8*i)%256:Nat)):Int)=(F (L+q):Int):=fun h=>by rw [HLZ.out,F4 q i h (by omega)]
       have HI:Hid (i=16 - 1 - q):=hi;clear hi hii
       by_cases h8:8≤i
       · have hF:Hid ((0:Int)=(F (L+q):Int)):=hF8 h8
         clear hF7 hF8;go_wp2_with (at_builtin;refine bq rfl (.tmp 40) (.tmp 41) rfl (w.heap.size+1) _ (L+q) F _ rfl own rfl hF.out (by omega) (by omega) ?_;intro v3 w3 own3 hb3)
         rcases own3.form with ⟨-,h0⟩ | ⟨g3,cap3,rfl,-,-,-,-⟩
         · omega
         go_roundw
         case rel=>exact ⟨q+1,by omega,by have:=HI.out;go_num,own3.start (by omega),hb.trans hb3⟩
         case measure=>simp [gV];omega
       · have hF:Hid ((((n*8 / 2 ^ (8*i)%256:Nat)):Int)=(F (L+q):Int)):=hF7 (by omega)
         clear hF7 hF8;go_wp2_with (at_builtin;go_loud (refine bq rfl (.tmp 43) (.tmp 50) rfl (w.heap.size+1) _ (L+q) F _ rfl own rfl (by rw [←hF.out];simp) (by omega) (by omega) ?_);intro v3 w3 own3 hb3)
         rcases own3.form with ⟨-,h0⟩ | ⟨g3,cap3,rfl,-,-,-,-⟩
         · omega
         go_roundw
         case rel=>exact ⟨q+1,by omega,by have:=HI.out;go_num,own3.start (by omega),hb.trans hb3⟩
         case measure=>simp [gV];omega
     · have hqe:q=16:=by omega
       go_wp2;go_ret;refine ⟨_,rfl,?_,?_⟩
       · exact iO (own.start (by have:=HLZ.out;omega)) (by omega)
       · exact hbZ.trans (hb.mono (by omega))
end Go.Proofs.YtibdhadbflfdpaaGreatDoor
