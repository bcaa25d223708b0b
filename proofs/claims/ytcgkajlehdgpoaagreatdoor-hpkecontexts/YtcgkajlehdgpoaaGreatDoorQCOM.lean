/- What the proof stands on: QCO, QRQ, QCQ, QNum, QAes. -/
import Derived.Test.YtcgkajlehdgpoaaGreatDoorQCNM
import Derived.Test.YtcgkajlehdgpoaaGreatDoorQCXM
namespace Go.Proofs.YtcgkajlehdgpoaaGreatDoor
open Go.RowKit
theorem made_len (gc:Nat) (x:Option Addr) (l c:Nat) (w:World) (h:w.cell? ⟨gc,0,none⟩=some (.slice x l c)):Calls Tryz.prog 48 #[.pointer (some ⟨gc,0,none⟩)] w fun e w'=>e = .returned (.bool ((l:Int) != 0))∧w'=w:=by
 go_enter Tryz.func48,Tryz.ntmps48
 go_wp2
 go_ret
 exact ⟨rfl,rfl⟩
theorem RowAt.set_u64 {w:World} {g o n b q:Nat} {X:Nat→Nat} {z:Int} (h:RowAt .u8 w g o n X) (hc:w.cell? ⟨b,q,none⟩=some (.int .u64 z)) (u:Value):RowAt .u8 (w.setCell ⟨b,q,none⟩ u) g o n X:=fun j hj=>by
 have hne:(⟨b,q,none⟩:Addr)≠⟨g,o+j,none⟩:=fun e=>by
  rw [e,(h j hj).1] at hc
  cases hc
 rw [World.cell?_setCell_other _ _ _ _ hne,World.frozen?_setCell]
 exact h j hj
theorem BytesIn.set_u64 {w:World} {v:Value} {n g o:Nat} {X:Nat→Nat} {z:Int} (h:BytesIn w v n X) (hc:w.cell? ⟨g,o,none⟩=some (.int .u64 z)) (u:Value):BytesIn (w.setCell ⟨g,o,none⟩ u) v n X:=by
 rcases h with h | ⟨bb,ob,cap,rfl,h1,h2,h3⟩
 · exact .inl h
 · refine .inr ⟨bb,ob,cap,rfl,by rw [World.size_setCell];exact h1,h2,fun j hj => ?_⟩
   have hne:(⟨g,o,none⟩:Addr)≠⟨bb,ob+j,none⟩:=fun e=>by
    rw [e,h3 j hj] at hc
    cases hc
   rw [World.cell?_setCell_other _ _ _ _ hne]
   exact h3 j hj
theorem CCtx.lt {w:World} {g:Nat} {K N X:Nat→Nat} {n:Nat} (h:CCtx w g K N X n):g<w.heap.size:=by
 obtain ⟨_,_,_,r,_⟩:=h
 exact r.lt
theorem CCtx.num {w:World} {g:Nat} {K N X:Nat→Nat} {n:Nat} (h:CCtx w g K N X n):w.cell? ⟨g,3,none⟩=some (.int .u64 (n:Int)):=by
 obtain ⟨_,_,_,r,_⟩:=h
 exact r.range 3 _ rfl
theorem cmade {w:World} {g:Nat} {K N X:Nat→Nat} {n:Nat} (h:CCtx w g K N X n):Calls Tryz.prog 48 #[.pointer (some ⟨g,0,none⟩)] w fun e w'=>e = .returned (.bool true)∧w'=w:=by
 obtain ⟨_,_,_,r,_⟩:=h
 exact made_len g _ 16 16 w (r.range 0 _ rfl)
theorem CCtx.next {w:World} {g:Nat} {K N X:Nat→Nat} {n:Nat} (h:CCtx w g K N X n) (m:Nat):CCtx (w.setCell ⟨g,3,none⟩ (.int .u64 (m:Int))) g K N X m:=by
 have hc:=h.num
 obtain ⟨gk,gu,gx,r,h1,h2,h3⟩:=h
 exact ⟨gk,gu,gx,r.set3 _,h1.set_u64 hc _,h2.set_u64 hc _,h3.set_u64 hc _⟩
set_option maxRecDepth 20000 in
set_option maxHeartbeats 4000000 in
theorem cnextSeal (gc n:Nat) (K N X:Nat→Nat) (hN:∀ j,N j<256) (mv tv:Value) (L:Nat) (Z:Nat→Nat) (E:Int) (hE:E=0∨L=0) (hn:n+1<9223372036854775808) (w:World) (h:CCtx w gc K N X n) (ha:∀ kv nv W,Below w.heap.size w W→BytesIn W kv 16 K→BytesIn W nv 12 (ncN N n)→AnsC 46 #[kv,nv,mv,tv] W L Z E) :
 Calls Tryz.prog 45 #[.pointer (some ⟨gc,0,none⟩),.func (.func 46) #[] #[],mv,tv] w fun e w'=>∃ s,e = .returned (.tuple #[s,.int .i64 E])∧BytesIn w' s L Z∧CCtx w' gc K N X (if E=0 then n+1 else n)∧Out gc 3 1 w w':=by
 have bd:Below w.heap.size w w.drew:=(Below.refl _ _).drew
 have cm:=cmade h
 have hc:=h.keep bd
 have hc':=hc
 obtain ⟨gk,gu,gx,r,hk,hu,hx⟩:=hc
 have cn:=cnonce_any gk gu gx n N hN w.drew hu
 have f0:w.drew.cell? ⟨gc,0,none⟩=some (.slice (some ⟨gk,0,none⟩) 16 16):=r.range 0 _ rfl
 have f3:w.drew.cell? ⟨gc,3,none⟩=some (.int .u64 (n:Int)):=r.range 3 _ rfl
 have r3:RW w.drew gc 0 [.slice (some ⟨gk,0,none⟩) 16 16,.slice (some ⟨gu,0,none⟩) 12 12,.slice (some ⟨gx,0,none⟩) 32 32]:=RW.left (ds:=[.int .u64 (n:Int)]) r
 have gl:gc<w.heap.size:=r.lt
 replace hk:=row_bytes (by decide) hk
 clear hu hx r
 go_enter Tryz.func45,Tryz.ntmps45
 go_upto_region 3 with (go_at_call 48;refine cm.mono ?_;clear cm;rintro e w0 ⟨rfl,hw0⟩;obtain rfl:=hw0.symm)
 refine wp_region_held_drew (S:=fun u=>Below w.drew.heap.size w.drew u) (by kernel_rfl) (Below.refl _ _) (fun hS => ?_)
 refine tg 0 hS ?_
 (try simp only [pS])
 refine tg 1 hS ?_
 (try simp only [pS])
 refine tg 2 hS ?_
 (try simp only [pS])
 refine tg 3 hS ?_
 (try simp only [pS])
 refine tg 4 hS ?_
 (try simp only [pS])
 refine tc 5 hS (fun u hu=>(hu.cell (p:=⟨gc,0,none⟩) gl).trans f0) ?_
 (try simp only [pS])
 refine tg 6 hS ?_
 (try simp only [pS])
 refine tg 7 hS ?_
 (try simp only [pS])
 refine tg 8 hS ?_
 (try simp only [pS])
 refine tl 9 r3 hS 52 Tryz.underlying52 (infoKl _ _ _) ?_
 (try simp only [pS])
 refine tg 10 hS ?_
 (try simp only [pS])
 refine tg 11 hS ?_
 (try simp only [pS])
 refine tg 12 hS ?_
 (try simp only [pS])
 refine tc 13 hS (fun u hu=>(hu.cell (p:=⟨gc,3,none⟩) gl).trans f3) ?_
 (try simp only [pS])
 refine tg 15 hS ?_
 (try simp only [pS])
 refine tg 16 hS ?_
 (try simp only [pS])
 refine cl 14 cn ?_
 rintro e w1 ⟨s1,rfl,o1,b1⟩
 refine ⟨_,rfl,b1,?_⟩
 (try simp only [pS])
 refine cl 17 (ha _ s1 w1 (below_next bd b1) (hk.keep b1) o1) ?_
 rintro e w2 ⟨s2,rfl,o2,hb2⟩
 have b2:=below_next b1 hb2
 refine ⟨_,rfl,b2,?_⟩
 (try simp only [pS])
 refine tg 18 b2 ?_
 (try simp only [pS])
 refine tg 19 b2 ?_
 (try simp only [pS])
 refine tg 20 b2 ?_
 (try simp only [pS])
 refine tg 21 b2 ?_
 (try simp only [pS])
 refine tg 22 b2 ?_
 (try simp only [pS])
 refine wpAnyH_done (by kernel_rfl) ?_ _
 replace hc':=hc'.keep b2
 have bw:=below_next bd b2
 have f3:=hc'.num
 have z3:w2.frozen? ⟨gc,3,none⟩=false:=by
  obtain ⟨_,_,_,r,_⟩:=hc'
  exact (r.there 3 (by show 3<4;decide)).2
 clear ha hk h b1 b2 hS o1 hb2 cn r3 f0
 by_cases h0:E=0
 · subst h0
   have hw:(n:Int)+1=((n+1:Nat):Int):=by omega
   have hw':IntKind.u64.wrap ((n:Int)+1)=((n+1:Nat):Int):=by show ((n:Int)+1)%18446744073709551616=_;omega
   have hx:=hc'.next (n+1)
   obtain ⟨n1,hn1⟩:∃ n1,n1=n+1:=⟨_,rfl⟩
   rw [←hn1] at hw hw' hx
   have HN:=Hid.mk' hn1
   clear hn1 hE
   go_wp2
   go_ret2
   refine ⟨_,rfl,o2.set_u64 f3 _,?_,(Out.of_below bw gl).trans (Out.setCell w2 _ (Nat.le_refl _) (by decide))⟩
   rw [←HN.out]
   exact hx
 · have hL:=hE.resolve_left h0
   subst hL
   clear hE
   go_wp2
   go_ret2
   exact ⟨_,rfl,.inl ⟨none,rfl,rfl⟩,hc',Out.of_below bw gl⟩
set_option maxRecDepth 20000 in
set_option maxHeartbeats 2000000 in
theorem cSeal (gc n:Nat) (K N X:Nat→Nat) (hN:∀ j,N j<256) (mv tv:Value) (L:Nat) (Z:Nat→Nat) (E:Int) (hE:E=0∨L=0) (hn:n+1<9223372036854775808) (w:World) (h:CCtx w gc K N X n) (ha:∀ kv nv W,Below w.heap.size w W→BytesIn W kv 16 K→BytesIn W nv 12 (ncN N n)→AnsC 46 #[kv,nv,mv,tv] W L Z E) :
 Calls Tryz.prog 21 #[.pointer (some ⟨gc,0,none⟩),mv,tv] w fun e w'=>∃ s,e = .returned (.tuple #[s,.int .i64 E])∧BytesIn w' s L Z∧CCtx w' gc K N X (if E=0 then n+1 else n)∧Out gc 3 1 w w':=by
 have cx:=cnextSeal gc n K N X hN mv tv L Z E hE hn w h ha
 generalize (if E=0 then n+1 else n)=q at cx ⊢
 clear h ha
 go_enter Tryz.func21,Tryz.ntmps21
 go_wp2_with (go_at_call 45;refine cx.mono ?_;clear cx;rintro e w1 ⟨s1,rfl,o1,c1,u1⟩)
 go_ret2
 exact ⟨_,rfl,o1,c1,u1⟩
set_option maxRecDepth 20000 in
set_option maxHeartbeats 4000000 in
theorem cnextOpen (gc n:Nat) (K N X:Nat→Nat) (hN:∀ j,N j<256) (mv tv:Value) (L:Nat) (Z:Nat→Nat) (E:Int) (hE:E=0∨L=0) (hn:n+1<9223372036854775808) (w:World) (h:CCtx w gc K N X n) (ha:∀ kv nv W,Below w.heap.size w W→BytesIn W kv 16 K→BytesIn W nv 12 (ncN N n)→AnsC 47 #[kv,nv,mv,tv] W L Z E) :
 Calls Tryz.prog 45 #[.pointer (some ⟨gc,0,none⟩),.func (.func 47) #[] #[],mv,tv] w fun e w'=>∃ s,e = .returned (.tuple #[s,.int .i64 E])∧BytesIn w' s L Z∧CCtx w' gc K N X (if E=0 then n+1 else n)∧Out gc 3 1 w w':=by
 have bd:Below w.heap.size w w.drew:=(Below.refl _ _).drew
 have cm:=cmade h
 have hc:=h.keep bd
 have hc':=hc
 obtain ⟨gk,gu,gx,r,hk,hu,hx⟩:=hc
 have cn:=cnonce_any gk gu gx n N hN w.drew hu
 have f0:w.drew.cell? ⟨gc,0,none⟩=some (.slice (some ⟨gk,0,none⟩) 16 16):=r.range 0 _ rfl
 have f3:w.drew.cell? ⟨gc,3,none⟩=some (.int .u64 (n:Int)):=r.range 3 _ rfl
 have r3:RW w.drew gc 0 [.slice (some ⟨gk,0,none⟩) 16 16,.slice (some ⟨gu,0,none⟩) 12 12,.slice (some ⟨gx,0,none⟩) 32 32]:=RW.left (ds:=[.int .u64 (n:Int)]) r
 have gl:gc<w.heap.size:=r.lt
 replace hk:=row_bytes (by decide) hk
 clear hu hx r
 go_enter Tryz.func45,Tryz.ntmps45
 go_upto_region 3 with (go_at_call 48;refine cm.mono ?_;clear cm;rintro e w0 ⟨rfl,hw0⟩;obtain rfl:=hw0.symm)
 refine wp_region_held_drew (S:=fun u=>Below w.drew.heap.size w.drew u) (by kernel_rfl) (Below.refl _ _) (fun hS => ?_)
 refine tg 0 hS ?_
 (try simp only [pS])
 refine tg 1 hS ?_
 (try simp only [pS])
 refine tg 2 hS ?_
 (try simp only [pS])
 refine tg 3 hS ?_
 (try simp only [pS])
 refine tg 4 hS ?_
 (try simp only [pS])
 refine tc 5 hS (fun u hu=>(hu.cell (p:=⟨gc,0,none⟩) gl).trans f0) ?_
 (try simp only [pS])
 refine tg 6 hS ?_
 (try simp only [pS])
 refine tg 7 hS ?_
 (try simp only [pS])
 refine tg 8 hS ?_
 (try simp only [pS])
 refine tl 9 r3 hS 52 Tryz.underlying52 (infoKl _ _ _) ?_
 (try simp only [pS])
 refine tg 10 hS ?_
 (try simp only [pS])
 refine tg 11 hS ?_
 (try simp only [pS])
 refine tg 12 hS ?_
 (try simp only [pS])
 refine tc 13 hS (fun u hu=>(hu.cell (p:=⟨gc,3,none⟩) gl).trans f3) ?_
 (try simp only [pS])
 refine tg 15 hS ?_
 (try simp only [pS])
 refine tg 16 hS ?_
 (try simp only [pS])
 refine cl 14 cn ?_
 rintro e w1 ⟨s1,rfl,o1,b1⟩
 refine ⟨_,rfl,b1,?_⟩
 (try simp only [pS])
 refine cl 17 (ha _ s1 w1 (below_next bd b1) (hk.keep b1) o1) ?_
 rintro e w2 ⟨s2,rfl,o2,hb2⟩
 have b2:=below_next b1 hb2
 refine ⟨_,rfl,b2,?_⟩
 (try simp only [pS])
 refine tg 18 b2 ?_
 (try simp only [pS])
 refine tg 19 b2 ?_
 (try simp only [pS])
 refine tg 20 b2 ?_
 (try simp only [pS])
 refine tg 21 b2 ?_
 (try simp only [pS])
 refine tg 22 b2 ?_
 (try simp only [pS])
 refine wpAnyH_done (by kernel_rfl) ?_ _
 replace hc':=hc'.keep b2
 have bw:=below_next bd b2
 have f3:=hc'.num
 have z3:w2.frozen? ⟨gc,3,none⟩=false:=by
  obtain ⟨_,_,_,r,_⟩:=hc'
  exact (r.there 3 (by show 3<4;decide)).2
 clear ha hk h b1 b2 hS o1 hb2 cn r3 f0
 by_cases h0:E=0
 · subst h0
   have hw:(n:Int)+1=((n+1:Nat):Int):=by omega
   have hw':IntKind.u64.wrap ((n:Int)+1)=((n+1:Nat):Int):=by show ((n:Int)+1)%18446744073709551616=_;omega
   have hx:=hc'.next (n+1)
   obtain ⟨n1,hn1⟩:∃ n1,n1=n+1:=⟨_,rfl⟩
   rw [←hn1] at hw hw' hx
   have HN:=Hid.mk' hn1
   clear hn1 hE
   go_wp2
   go_ret2
   refine ⟨_,rfl,o2.set_u64 f3 _,?_,(Out.of_below bw gl).trans (Out.setCell w2 _ (Nat.le_refl _) (by decide))⟩
   rw [←HN.out]
   exact hx
 · have hL:=hE.resolve_left h0
   subst hL
   clear hE
   go_wp2
   go_ret2
   exact ⟨_,rfl,.inl ⟨none,rfl,rfl⟩,hc',Out.of_below bw gl⟩
set_option maxRecDepth 20000 in
set_option maxHeartbeats 2000000 in
theorem cOpen (gc n:Nat) (K N X:Nat→Nat) (hN:∀ j,N j<256) (mv tv:Value) (L:Nat) (Z:Nat→Nat) (E:Int) (hE:E=0∨L=0) (hn:n+1<9223372036854775808) (w:World) (h:CCtx w gc K N X n) (ha:∀ kv nv W,Below w.heap.size w W→BytesIn W kv 16 K→BytesIn W nv 12 (ncN N n)→AnsC 47 #[kv,nv,mv,tv] W L Z E) :
 Calls Tryz.prog 22 #[.pointer (some ⟨gc,0,none⟩),mv,tv] w fun e w'=>∃ s,e = .returned (.tuple #[s,.int .i64 E])∧BytesIn w' s L Z∧CCtx w' gc K N X (if E=0 then n+1 else n)∧Out gc 3 1 w w':=by
 have cx:=cnextOpen gc n K N X hN mv tv L Z E hE hn w h ha
 generalize (if E=0 then n+1 else n)=q at cx ⊢
 clear h ha
 go_enter Tryz.func22,Tryz.ntmps22
 go_wp2_with (go_at_call 45;refine cx.mono ?_;clear cx;rintro e w1 ⟨s1,rfl,o1,c1,u1⟩)
 go_ret2
 exact ⟨_,rfl,o1,c1,u1⟩
theorem cExport_size (pv mv:Value) (m:Nat) (M:Nat→Nat) (z:Int) (h:z<0∨8160<z∨65536<m) (w:World) (hm:BytesIn w mv m M) (cm:Calls Tryz.prog 48 #[pv] w fun e w'=>e = .returned (.bool true)∧w'=w) :
 Calls Tryz.prog 23 #[pv,mv,.int .i64 z] w fun e w'=>e = .returned (.tuple #[.slice none 0 0,.int .i64 6])∧Below w.heap.size w w':=by
 obtain ⟨x1,c1,rfl,-,-,-⟩:=hm.src
 clear hm
 rcases (show z<0∨(¬z<0∧8160<z)∨(¬z<0∧¬8160<z∧(65536:Int)<(m:Int)) by omega) with h1 | ⟨h1,h2⟩ | ⟨h1,h2,h3⟩
 · clear h
   go_enter Tryz.func23,Tryz.ntmps23
   go_wp2_with (go_at_call 48;refine cm.mono ?_;clear cm;rintro e w0 ⟨rfl,hw0⟩;obtain rfl:=hw0.symm)
   go_ret2
   exact ⟨rfl,Below.refl _ _⟩
 · clear h
   go_enter Tryz.func23,Tryz.ntmps23
   go_wp2_with (go_at_call 48;refine cm.mono ?_;clear cm;rintro e w0 ⟨rfl,hw0⟩;obtain rfl:=hw0.symm)
   go_ret2
   exact ⟨rfl,Below.refl _ _⟩
 · clear h
   go_enter Tryz.func23,Tryz.ntmps23
   go_wp2_with (go_at_call 48;refine cm.mono ?_;clear cm;rintro e w0 ⟨rfl,hw0⟩;obtain rfl:=hw0.symm)
   go_ret2
   exact ⟨rfl,Below.refl _ _⟩
set_option maxRecDepth 20000 in
set_option maxHeartbeats 2000000 in
theorem cExport_good (gc n:Nat) (K N X:Nat→Nat) (hX:∀ j,X j<256) (mv:Value) (m k:Nat) (M:Nat→Nat) (hM:∀ j,M j<256) (hm:m≤65536) (hk:k≤8160) (w:World) (hT:HTab w cubeK squareK) (h:CCtx w gc K N X n) (hmv:BytesIn w mv m M) :
 Calls Tryz.prog 23 #[.pointer (some ⟨gc,0,none⟩),mv,.int .i64 k] w fun e w'=>∃ s,e = .returned (.tuple #[s,.int .i64 0])∧NewR w w' s k (leN lAll 32 X lSec m M k)∧Below w.heap.size w w':=by
 have cm:=cmade h
 obtain ⟨gk,gu,gx,r,-,-,hx⟩:=h
 have f2:w.cell? ⟨gc,2,none⟩=some (.slice (some ⟨gx,0,none⟩) 32 32):=r.range 2 _ rfl
 obtain ⟨x1,c1,rfl,-,-,-⟩:=hmv.src
 have b0:Below w.heap.size w (w.alloc (.cells #[.slice x1 m c1] 22)):=(Below.refl _ _).alloc (Nat.le_refl _) _
 have he:Calls Tryz.prog 28 #[.string { data:=#[72,80,75,69,0,32,0,1,0,1] },.slice (some ⟨gx,0,none⟩) 32 32,.int .i64 k,.string { data:=#[115,101,99] },.slice (some ⟨w.heap.size,0,none⟩) 1 1] (w.alloc (.cells #[.slice x1 m c1] 22)) _:=eall lSec (by decide) (by decide) _ _ 1 m k X M hk hX hM (by decide) (by omega) _ (hT.keep b0) ((row_bytes (by decide) hx).keep b0) (texts_one w _ m M hmv)
 have t1:¬(k:Int)<0:=by omega
 have t2:¬(8160:Int)<(k:Int):=by omega
 have t3:¬(65536:Int)<(m:Int):=by omega
 generalize leN lAll 32 X lSec m M k=T at he ⊢
 clear hmv hx hT r
 go_enter Tryz.func23,Tryz.ntmps23
 go_wp2_with (first
  | (go_at_call 48;refine cm.mono ?_;clear cm;rintro e w0 ⟨rfl,hw0⟩;obtain rfl:=hw0.symm)
  | (go_at_call 28;refine he.mono ?_;clear he;rintro e w1 ⟨s1,rfl,⟨g1,rfl,hg1,r1⟩,hb1⟩))
 go_ret2
 exact ⟨_,rfl,⟨g1,rfl,Nat.le_trans b0.size hg1,r1⟩,below_next b0 hb1⟩
end Go.Proofs.YtcgkajlehdgpoaaGreatDoor
namespace Go.Proofs.YtcgkajlehdgpoaaGreatDoor
open Go.RowKit
theorem ckN_lt (l:List Nat) (N:Nat) (sh:Nat→Nat) (m:Nat) (info:Nat→Nat) (j:Nat):ckN l N sh m info j<256:=leN_lt _ _ _ _ _ _ _ _
theorem BytesIn.out {w w':World} {v:Value} {n g:Nat} {X:Nat→Nat} {z:Int} (h:BytesIn w v n X) (hc:w.cell? ⟨g,3,none⟩=some (.int .i64 z)) (u:Out g 3 1 w w'):BytesIn w' v n X:=by
 rcases h with h | ⟨bb,ob,cap,rfl,h1,h2,h3⟩
 · exact .inl h
 · refine .inr ⟨bb,ob,cap,rfl,Nat.lt_of_lt_of_le h1 u.size,h2,fun j hj => ?_⟩
   by_cases e:bb=g
   · subst e
     by_cases e3:ob+j=3
     · have:=h3 j hj
       rw [e3,hc] at this
       cases this
     · rw [u.cell (ob+j) (by omega)];exact h3 j hj
   · rw [u.cell' h1 e];exact h3 j hj
end Go.Proofs.YtcgkajlehdgpoaaGreatDoor
namespace Go.Proofs.YtcgkajlehdgpoaaGreatDoor
open Go.RowKit
theorem cNew_arg (v u:Value) (n:Nat) (s:Nat→Nat) (h:¬(n=32)) (w:World) (hv:BytesIn w v n s) :
 Calls Tryz.prog 18 #[v,u] w fun e w'=>e = .returned (.tuple #[.pointer none,.int .i64 1])∧Below w.heap.size w w':=by
 obtain ⟨x1,c1,rfl,-,-,-⟩:=hv.src
 have h2:¬((n:Int)=32):=by omega
 go_enter Tryz.func18,Tryz.ntmps18
 go_wp2
 go_ret2
 exact ⟨rfl,Below.refl _ _⟩
theorem cNew_size (v u:Value) (m:Nat) (s info:Nat→Nat) (h:65536<m) (w:World) (hv:BytesIn w v 32 s) (hu:BytesIn w u m info) :
 Calls Tryz.prog 18 #[v,u] w fun e w'=>e = .returned (.tuple #[.pointer none,.int .i64 6])∧Below w.heap.size w w':=by
 obtain ⟨x1,c1,rfl,-,-,-⟩:=hv.src
 obtain ⟨x2,c2,rfl,-,-,-⟩:=hu.src
 have h2:(65536:Int)<(m:Int):=by omega
 go_enter Tryz.func18,Tryz.ntmps18
 go_wp2
 go_ret2
 exact ⟨rfl,Below.refl _ _⟩
set_option maxRecDepth 20000 in
set_option maxHeartbeats 4000000 in
theorem cNew_good (v u:Value) (m:Nat) (s info:Nat→Nat) (hs:∀ j,s j<256) (hi:∀ j,info j<256) (hm:m≤65536) (w:World) (hT:HTab w cubeK squareK) (hv:BytesIn w v 32 s) (hu:BytesIn w u m info) :
 Calls Tryz.prog 18 #[v,u] w fun e w'=>∃ g,e = .returned (.tuple #[.pointer (some ⟨g,0,none⟩),.int .i64 0])∧w.heap.size≤g∧CCtx w' g (ckN lKey 16 s m info) (ckN lBn 12 s m info) (ckN lExp 32 s m info) 0∧Below w.heap.size w w':=by
 have ck:=keysOf_any v u m s info hs hi hm w hT hv hu
 obtain ⟨x1,c1,rfl,-,-,-⟩:=hv.src
 obtain ⟨x2,c2,rfl,-,-,-⟩:=hu.src
 have n2:¬((65536:Int)<(m:Int)):=by omega
 generalize ckN lKey 16 s m info=Y1 at ck ⊢
 generalize ckN lBn 12 s m info=Y2 at ck ⊢
 generalize ckN lExp 32 s m info=Y3 at ck ⊢
 clear hv hu hT
 go_enter Tryz.func18,Tryz.ntmps18
 go_wp2_with (go_at_call 39;refine ck.mono ?_;clear ck;rintro e w1 ⟨gk,gu,gx,rfl,r1,r2,r3,b1⟩)
 go_ret2
 have hb:=(Below.refl w1.heap.size w1).alloc (Nat.le_refl _) (.cells #[.slice (some ⟨gk,0,none⟩) 16 16,.slice (some ⟨gu,0,none⟩) 12 12,.slice (some ⟨gx,0,none⟩) 32 32,.int .u64 0] 55)
 exact ⟨w1.heap.size,rfl,b1.size,⟨gk,gu,gx,RW.fresh w1 [_,_,_,_] _,r1.stay (by decide) hb,r2.stay (by decide) hb,r3.stay (by decide) hb⟩,below_next b1 hb⟩
theorem BytesIn.outU {w w':World} {v:Value} {n g:Nat} {X:Nat→Nat} {z:Int} (h:BytesIn w v n X) (hc:w.cell? ⟨g,3,none⟩=some (.int .u64 z)) (u:Out g 3 1 w w'):BytesIn w' v n X:=by
 rcases h with h | ⟨bb,ob,cap,rfl,h1,h2,h3⟩
 · exact .inl h
 · refine .inr ⟨bb,ob,cap,rfl,Nat.lt_of_lt_of_le h1 u.size,h2,fun j hj => ?_⟩
   by_cases e:bb=g
   · subst e
     by_cases e3:ob+j=3
     · have:=h3 j hj
       rw [e3,hc] at this
       cases this
     · rw [u.cell (ob+j) (by omega)];exact h3 j hj
   · rw [u.cell' h1 e];exact h3 j hj
end Go.Proofs.YtcgkajlehdgpoaaGreatDoor
namespace Go.Proofs.YtcgkajlehdgpoaaGreatDoor
open Go.RowKit
theorem padH_like {kv kv' t t':Nat→Nat} {p m:Nat} (hk:∀ j,kv j=kv' j) (ht:∀ j,j<m→t j=t' j):padH kv p m t=padH kv' p m t':=by
 unfold padH
 rw [specS_congr (cs:=cat 64 (fun j=>kv' j ^^^ p) t') fun j hj => ?_]
 unfold cat
 by_cases h:j<64
 · rw [if_pos h,if_pos h]
   show kv j ^^^ p=kv' j ^^^ p
   rw [hk]
 · rw [if_neg h,if_neg h,ht (j - 64) (by omega)]
theorem keyB_like {n:Nat} {bs cs:Nat→Nat} (hn:n≤64) (h:∀ j,j<n→bs j=cs j) (j:Nat):keyB n bs j=keyB n cs j:=by
 unfold keyB
 rw [if_pos hn,if_pos hn]
 by_cases e:j<n
 · rw [if_pos e,if_pos e,h j e]
 · rw [if_neg e,if_neg e]
theorem all_at {f g:Nat→Nat} {n:Nat} (h:((List.range n).all fun j=>f j == g j)=true) (j:Nat) (hj:j<n):f j=g j:=by
 have:=List.all_eq_true.1 h j (List.mem_range.2 hj)
 simpa using this
theorem tag_lit {kv kv' t t':Nat→Nat} {m:Nat} {I O:Nat→Nat} (hk:∀ j,kv j=kv' j) (ht:∀ j,j<m→t j=t' j) (h1:((List.range 32).all fun j=>padH kv' 54 m t' j == I j)=true) (h2:((List.range 32).all fun j=>padH kv' 92 32 I j == O j)=true) (j:Nat) (hj:j<32):tagH kv m t j=O j:=by
 unfold tagH
 rw [padH_like hk (fun q hq=>(by rw [padH_like hk ht];exact all_at h1 q hq:padH kv 54 m t q=I q))]
 exact all_at h2 j hj
theorem catL_like:∀ (ps qs:List (Nat × (Nat→Nat))),ps.length=qs.length→(∀ (i:Nat) (p q:Nat × (Nat→Nat)),ps[i]? = some p→qs[i]? = some q→p.1=q.1∧∀ j,j<p.1→p.2 j=q.2 j)→∀ j,catL ps j=catL qs j
 | [],[],_,_,_=>rfl
 | p :: r,q :: s,hl,h,j=>by
  obtain ⟨h1,h2⟩:=h 0 p q rfl rfl
  have hr:=catL_like r s (by simpa using hl) (fun i a b ha hb=>h (i+1) a b (by simpa using ha) (by simpa using hb))
  show cat p.1 p.2 (catL r) j=cat q.1 q.2 (catL s) j
  unfold cat
  rw [←h1]
  by_cases e:j<p.1
  · rw [if_pos e,if_pos e,h2 j e]
  · rw [if_neg e,if_neg e,hr]
theorem one_lit {ikm:Nat→Nat} {c:Nat} (h:ikm 0=c) (j:Nat) (hj:j<1):ikm j=litB [c] j:=by
 obtain rfl:j=0:=by omega
 exact h
theorem lx_lit (suite label:List Nat) (sn m:Nat) {salt salt' ikm ikm' I O:Nat→Nat} (hs:sn≤64) (h1:∀ j,j<sn→salt j=salt' j) (h2:∀ j,j<m→ikm j=ikm' j)
 (k1:((List.range 32).all fun j=>padH (keyB sn salt') 54 (lenL (lxT suite label m ikm')) (catL (lxT suite label m ikm')) j == I j)=true) (k2:((List.range 32).all fun j=>padH (keyB sn salt') 92 32 I j == O j)=true) (j:Nat) (hj:j<32):lxN suite sn salt label m ikm j=O j:=by
 unfold lxN
 refine tag_lit (keyB_like hs h1) (fun q _ => ?_) k1 k2 j hj
 unfold lxT
 refine catL_like _ _ (by rfl) (fun i a b ha hb => ?_) q
 match i,ha,hb with
 | 0,ha,hb=>cases ha;cases hb;exact ⟨rfl,fun _ _=>rfl⟩
 | 1,ha,hb=>cases ha;cases hb;exact ⟨rfl,fun _ _=>rfl⟩
 | 2,ha,hb=>cases ha;cases hb;exact ⟨rfl,fun _ _=>rfl⟩
 | 3,ha,hb=>cases ha;cases hb;exact ⟨rfl,h2⟩
 | i+4,ha,hb=>simp at ha
theorem le_lit (suite label:List Nat) (pn m N:Nat) {prk prk' info info' I O:Nat→Nat} (hs:pn≤64) (hN:N≤32) (h1:∀ j,j<pn→prk j=prk' j) (h2:∀ j,j<m→info j=info' j)
 (k1:((List.range 32).all fun j=>padH (keyB pn prk') 54 (0+lenL (leT suite label m info' N)+1) (cat 0 (fun _=>0) (cat (lenL (leT suite label m info' N)) (catL (leT suite label m info' N)) (fun _=>1))) j == I j)=true) (k2:((List.range 32).all fun j=>padH (keyB pn prk') 92 32 I j == O j)=true) (j:Nat) (hj:j<N):leN suite pn prk label m info N j=O j:=by
 unfold leN outF
 rw [if_pos hj,Nat.div_eq_of_lt (by omega:j<32),Nat.mod_eq_of_lt (by omega:j<32)]
 have e:∀ q,catL (leT suite label m info N) q=catL (leT suite label m info' N) q:=fun q=>by
  unfold leT lxT
  refine catL_like _ _ (by rfl) (fun i a b ha hb => ?_) q
  match i,ha,hb with
  | 0,ha,hb=>cases ha;cases hb;exact ⟨rfl,fun _ _=>rfl⟩
  | 1,ha,hb=>cases ha;cases hb;exact ⟨rfl,fun _ _=>rfl⟩
  | 2,ha,hb=>cases ha;cases hb;exact ⟨rfl,fun _ _=>rfl⟩
  | 3,ha,hb=>cases ha;cases hb;exact ⟨rfl,fun _ _=>rfl⟩
  | 4,ha,hb=>cases ha;cases hb;exact ⟨rfl,h2⟩
  | i+5,ha,hb=>simp at ha
 exact tag_lit (keyB_like hs h1) (fun q _=>by
  show cat 0 _ (cat (lenL (leT suite label m info' N)) (catL (leT suite label m info N)) (fun _=>0+1)) q=_
  rw [funext e]
  rfl) k1 k2 j (by omega)
def iEx:List Nat:=[85,242,183,113,202,27,112,246,247,253,157,163,187,193,16,224,126,240,68,113,29,201,192,254,215,143,72,156,251,138,160,27]
def nEx:List Nat:=[210,247,76,15,223,124,104,157,218,105,204,42,146,215,237,4,126,214,74,248,102,48,36,240,227,100,50,113,168,27,139,163]
set_option maxRecDepth 100000 in
theorem aEx:((List.range 32).all fun j=>padH (keyB 0 lZ) 54 (lenL (lxT lKem lDkp 1 (litB [120]))) (catL (lxT lKem lDkp 1 (litB [120]))) j == litB iEx j)=true:=by kernel_rfl
set_option maxRecDepth 100000 in
theorem bEx:((List.range 32).all fun j=>padH (keyB 0 lZ) 92 32 (litB iEx) j == litB nEx j)=true:=by kernel_rfl
def iDx:List Nat:=[119,95,37,19,149,246,160,139,135,57,93,142,30,142,174,116,56,12,212,246,35,108,10,73,126,70,206,136,204,231,119,17]
def nDx:List Nat:=[6,157,90,94,107,97,20,217,238,7,70,89,64,147,39,129,172,211,223,201,172,49,77,147,63,31,102,11,99,196,98,15]
set_option maxRecDepth 100000 in
theorem aDx:((List.range 32).all fun j=>padH (keyB 32 (litB nEx)) 54 (0+lenL (leT lKem lSk 0 lZ 32)+1) (cat 0 (fun _=>0) (cat (lenL (leT lKem lSk 0 lZ 32)) (catL (leT lKem lSk 0 lZ 32)) (fun _=>1))) j == litB iDx j)=true:=by kernel_rfl
set_option maxRecDepth 100000 in
theorem bDx:((List.range 32).all fun j=>padH (keyB 32 (litB nEx)) 92 32 (litB iDx) j == litB nDx j)=true:=by kernel_rfl
theorem ds_x (ikm:Nat→Nat) (h:ikm 0=120) (j:Nat) (hj:j<32):dsN 1 ikm j=litB nDx j :=
 le_lit lKem lSk 32 0 32 (by decide) (by decide) (lx_lit lKem lDkp 0 1 (by decide) (fun j hj=>by omega) (one_lit h) aEx bEx) (fun j hj=>by omega) aDx bDx j hj
def iEy:List Nat:=[127,159,160,238,98,99,167,203,125,175,120,82,127,138,240,175,82,33,227,102,38,35,18,11,100,254,206,25,12,61,56,12]
def nEy:List Nat:=[240,152,73,142,210,131,153,120,3,28,244,10,90,114,196,113,156,119,15,114,252,153,162,127,26,30,149,96,84,133,152,233]
set_option maxRecDepth 100000 in
theorem aEy:((List.range 32).all fun j=>padH (keyB 0 lZ) 54 (lenL (lxT lKem lDkp 1 (litB [121]))) (catL (lxT lKem lDkp 1 (litB [121]))) j == litB iEy j)=true:=by kernel_rfl
set_option maxRecDepth 100000 in
theorem bEy:((List.range 32).all fun j=>padH (keyB 0 lZ) 92 32 (litB iEy) j == litB nEy j)=true:=by kernel_rfl
def iDy:List Nat:=[58,93,220,180,177,12,28,243,96,121,113,81,108,26,145,162,44,75,135,146,174,162,21,106,238,65,253,207,134,34,128,219]
def nDy:List Nat:=[36,228,103,216,237,235,109,179,50,22,154,188,155,42,248,178,150,199,230,17,251,104,43,147,117,185,39,142,136,28,233,170]
set_option maxRecDepth 100000 in
theorem aDy:((List.range 32).all fun j=>padH (keyB 32 (litB nEy)) 54 (0+lenL (leT lKem lSk 0 lZ 32)+1) (cat 0 (fun _=>0) (cat (lenL (leT lKem lSk 0 lZ 32)) (catL (leT lKem lSk 0 lZ 32)) (fun _=>1))) j == litB iDy j)=true:=by kernel_rfl
set_option maxRecDepth 100000 in
theorem bDy:((List.range 32).all fun j=>padH (keyB 32 (litB nEy)) 92 32 (litB iDy) j == litB nDy j)=true:=by kernel_rfl
theorem ds_y (ikm:Nat→Nat) (h:ikm 0=121) (j:Nat) (hj:j<32):dsN 1 ikm j=litB nDy j :=
 le_lit lKem lSk 32 0 32 (by decide) (by decide) (lx_lit lKem lDkp 0 1 (by decide) (fun j hj=>by omega) (one_lit h) aEy bEy) (fun j hj=>by omega) aDy bDy j hj
theorem clB_like {s t:Nat→Nat} (h:∀ j,j<32→s j=t j) (j:Nat) (hj:j<32):clB s j=clB t j:=by unfold clB;rw [h j hj,h 0 (by decide),h 31 (by decide)]
def px:Nat:=43366608476099930956769318608978268198203409999857882993783226267459177348134
set_option maxRecDepth 100000 in
theorem up_x:(let s:=climbL 9 (clB (litB nDx)) 255;s.zl != 0 && decide (s.zl<pF) && (px*s.zl%pF == s.xl))=true:=by kernel_rfl
theorem mul_x:mulL (clB (litB nDx)) 9=px:=by
 have h:=up_x
 simp only [Bool.and_eq_true,bne_iff_ne,decide_eq_true_eq,beq_iff_eq] at h
 exact quot_of (by decide) h.1.1 h.1.2 h.2
theorem pu_x (ikm:Nat→Nat) (h:ikm 0=120):puN (dsN 1 ikm)=byt px:=by
 unfold puN
 rw [mulL_congr (clB_like (ds_x ikm h)) 9,mul_x]
def py:Nat:=13979613507518318578300256471120989229922844313776856819278657164220742382587
set_option maxRecDepth 100000 in
theorem up_y:(let s:=climbL 9 (clB (litB nDy)) 255;s.zl != 0 && decide (s.zl<pF) && (py*s.zl%pF == s.xl))=true:=by kernel_rfl
theorem mul_y:mulL (clB (litB nDy)) 9=py:=by
 have h:=up_y
 simp only [Bool.and_eq_true,bne_iff_ne,decide_eq_true_eq,beq_iff_eq] at h
 exact quot_of (by decide) h.1.1 h.1.2 h.2
theorem pu_y (ikm:Nat→Nat) (h:ikm 0=121):puN (dsN 1 ikm)=byt py:=by
 unfold puN
 rw [mulL_congr (clB_like (ds_y ikm h)) 9,mul_y]
def ssN:Nat:=50397941658369444083649142919742308952667810776468248375716387249801536046274
set_option maxRecDepth 100000 in
theorem up_s1:(let s:=climbL px (clB (litB nDy)) 255;s.zl != 0 && decide (s.zl<pF) && (ssN*s.zl%pF == s.xl))=true:=by kernel_rfl
theorem mul_s1:mulL (clB (litB nDy)) px=ssN:=by
 have h:=up_s1
 simp only [Bool.and_eq_true,bne_iff_ne,decide_eq_true_eq,beq_iff_eq] at h
 exact quot_of (by decide) h.1.1 h.1.2 h.2
theorem sd_s1 (ikm:Nat→Nat) (h:ikm 0=121):sdN (dsN 1 ikm) (byt px)=ssN:=by
 unfold sdN
 rw [loB_byt (by decide),mulL_congr (clB_like (ds_y ikm h)),mul_s1]
set_option maxRecDepth 100000 in
theorem up_s2:(let s:=climbL py (clB (litB nDx)) 255;s.zl != 0 && decide (s.zl<pF) && (ssN*s.zl%pF == s.xl))=true:=by kernel_rfl
theorem mul_s2:mulL (clB (litB nDx)) py=ssN:=by
 have h:=up_s2
 simp only [Bool.and_eq_true,bne_iff_ne,decide_eq_true_eq,beq_iff_eq] at h
 exact quot_of (by decide) h.1.1 h.1.2 h.2
theorem sd_s2 (ikm:Nat→Nat) (h:ikm 0=120):sdN (dsN 1 ikm) (byt py)=ssN:=by
 unfold sdN
 rw [loB_byt (by decide),mulL_congr (clB_like (ds_x ikm h)),mul_s2]
def iEa:List Nat:=[66,183,217,203,182,204,93,66,84,52,76,176,176,11,128,41,151,225,46,125,184,69,209,203,235,208,33,57,196,191,105,219]
def nEa:List Nat:=[248,61,151,233,213,65,164,89,247,118,52,119,176,249,153,211,241,148,32,162,116,45,35,190,197,204,235,103,32,233,76,201]
set_option maxRecDepth 100000 in
theorem aEa:((List.range 32).all fun j=>padH (keyB 0 lZ) 54 (lenL (lxT lKem lEae 32 (byt ssN))) (catL (lxT lKem lEae 32 (byt ssN))) j == litB iEa j)=true:=by kernel_rfl
set_option maxRecDepth 100000 in
theorem bEa:((List.range 32).all fun j=>padH (keyB 0 lZ) 92 32 (litB iEa) j == litB nEa j)=true:=by kernel_rfl
def iSh:List Nat:=[40,135,76,83,2,208,191,235,226,75,31,26,117,65,35,237,145,196,82,142,195,220,228,107,149,79,252,210,169,133,105,206]
def nSh:List Nat:=[205,33,103,106,135,80,92,11,192,227,48,190,117,131,99,57,144,181,131,215,56,247,204,125,190,158,176,216,183,47,231,167]
set_option maxRecDepth 100000 in
theorem aSh:((List.range 32).all fun j=>padH (keyB 32 (litB nEa)) 54 (0+lenL (leT lKem lSs 64 (catL [(32,byt py),(32,byt px)]) 32)+1) (cat 0 (fun _=>0) (cat (lenL (leT lKem lSs 64 (catL [(32,byt py),(32,byt px)]) 32)) (catL (leT lKem lSs 64 (catL [(32,byt py),(32,byt px)]) 32)) (fun _=>1))) j == litB iSh j)=true:=by kernel_rfl
set_option maxRecDepth 100000 in
theorem bSh:((List.range 32).all fun j=>padH (keyB 32 (litB nEa)) 92 32 (litB iSh) j == litB nSh j)=true:=by kernel_rfl
theorem sh_lit (j:Nat) (hj:j<32):shN2 (byt ssN) (byt py) (byt px) j=litB nSh j :=
 le_lit lKem lSs 32 64 32 (by decide) (by decide) (lx_lit lKem lEae 0 32 (by decide) (fun j hj=>by omega) (fun _ _=>rfl) aEa bEa) (fun _ _=>rfl) aSh bSh j hj
def iPk:List Nat:=[37,138,14,8,217,244,140,48,20,114,225,16,0,98,88,229,252,1,72,108,203,226,28,17,125,251,228,116,131,168,144,92]
def nPk:List Nat:=[114,86,17,201,217,140,7,192,63,96,9,92,211,45,64,13,131,71,212,94,214,112,151,187,173,80,252,86,218,116,45,7]
set_option maxRecDepth 100000 in
theorem aPk:((List.range 32).all fun j=>padH (keyB 0 lZ) 54 (lenL (lxT lAll lPsk 0 lZ)) (catL (lxT lAll lPsk 0 lZ)) j == litB iPk j)=true:=by kernel_rfl
set_option maxRecDepth 100000 in
theorem bPk:((List.range 32).all fun j=>padH (keyB 0 lZ) 92 32 (litB iPk) j == litB nPk j)=true:=by kernel_rfl
def iIh:List Nat:=[6,89,33,211,135,142,37,119,77,19,154,83,91,208,211,42,6,190,237,200,203,233,183,12,204,189,241,99,210,230,172,119]
def nIh:List Nat:=[83,178,196,70,238,97,43,50,134,17,209,31,49,45,210,27,2,5,227,110,51,110,215,237,177,197,78,170,37,108,195,100]
set_option maxRecDepth 100000 in
theorem aIh:((List.range 32).all fun j=>padH (keyB 0 lZ) 54 (lenL (lxT lAll lInf 0 lZ)) (catL (lxT lAll lInf 0 lZ)) j == litB iIh j)=true:=by kernel_rfl
set_option maxRecDepth 100000 in
theorem bIh:((List.range 32).all fun j=>padH (keyB 0 lZ) 92 32 (litB iIh) j == litB nIh j)=true:=by kernel_rfl
def iSe:List Nat:=[84,18,145,4,118,162,238,138,168,129,163,57,164,213,148,55,129,63,144,188,63,65,92,138,148,11,234,131,28,56,120,121]
def nSe:List Nat:=[60,247,250,111,75,250,131,179,25,15,204,54,177,116,192,123,185,120,72,215,226,135,240,41,229,163,131,134,210,254,235,44]
set_option maxRecDepth 100000 in
theorem aSe:((List.range 32).all fun j=>padH (keyB 32 (litB nSh)) 54 (lenL (lxT lAll lSecr 0 lZ)) (catL (lxT lAll lSecr 0 lZ)) j == litB iSe j)=true:=by kernel_rfl
set_option maxRecDepth 100000 in
theorem bSe:((List.range 32).all fun j=>padH (keyB 32 (litB nSh)) 92 32 (litB iSe) j == litB nSe j)=true:=by kernel_rfl
def iKe:List Nat:=[211,218,100,144,207,175,25,106,66,114,9,221,199,222,232,177,233,32,228,194,217,234,0,182,23,33,90,11,178,217,99,84]
def nKe:List Nat:=[64,130,75,144,161,247,146,159,206,246,21,132,253,58,241,31,181,28,118,89,5,174,218,117,206,221,118,160,139,35,99,217]
set_option maxRecDepth 100000 in
theorem aKe:((List.range 32).all fun j=>padH (keyB 32 (litB nSe)) 54 (0+lenL (leT lAll lKey 65 (catL [(1,lZ),(32,litB nPk),(32,litB nIh)]) 16)+1) (cat 0 (fun _=>0) (cat (lenL (leT lAll lKey 65 (catL [(1,lZ),(32,litB nPk),(32,litB nIh)]) 16)) (catL (leT lAll lKey 65 (catL [(1,lZ),(32,litB nPk),(32,litB nIh)]) 16)) (fun _=>1))) j == litB iKe j)=true:=by kernel_rfl
set_option maxRecDepth 100000 in
theorem bKe:((List.range 32).all fun j=>padH (keyB 32 (litB nSe)) 92 32 (litB iKe) j == litB nKe j)=true:=by kernel_rfl
def iNo:List Nat:=[73,219,122,215,199,66,207,200,245,190,32,246,186,240,63,81,106,131,212,94,239,202,61,46,21,214,194,55,252,67,36,33]
def nNo:List Nat:=[35,184,0,58,143,159,158,243,36,250,87,216,151,25,118,143,238,247,185,235,246,189,124,67,88,154,62,2,147,243,0,88]
set_option maxRecDepth 100000 in
theorem aNo:((List.range 32).all fun j=>padH (keyB 32 (litB nSe)) 54 (0+lenL (leT lAll lBn 65 (catL [(1,lZ),(32,litB nPk),(32,litB nIh)]) 12)+1) (cat 0 (fun _=>0) (cat (lenL (leT lAll lBn 65 (catL [(1,lZ),(32,litB nPk),(32,litB nIh)]) 12)) (catL (leT lAll lBn 65 (catL [(1,lZ),(32,litB nPk),(32,litB nIh)]) 12)) (fun _=>1))) j == litB iNo j)=true:=by kernel_rfl
set_option maxRecDepth 100000 in
theorem bNo:((List.range 32).all fun j=>padH (keyB 32 (litB nSe)) 92 32 (litB iNo) j == litB nNo j)=true:=by kernel_rfl
theorem cx_lit (info:Nat→Nat) (j:Nat):cxN 0 info j=catL [(1,lZ),(32,litB nPk),(32,litB nIh)] j:=by
 unfold cxN
 refine catL_like _ _ (by rfl) (fun i a b ha hb => ?_) j
 match i,ha,hb with
 | 0,ha,hb=>cases ha;cases hb;exact ⟨rfl,fun _ _=>rfl⟩
 | 1,ha,hb=>cases ha;cases hb;exact ⟨rfl,lx_lit lAll lPsk 0 0 (by decide) (fun j hj=>by omega) (fun j hj=>by omega) aPk bPk⟩
 | 2,ha,hb=>cases ha;cases hb;exact ⟨rfl,lx_lit lAll lInf 0 0 (by decide) (fun j hj=>by omega) (fun j hj=>by omega) aIh bIh⟩
 | i+3,ha,hb=>simp at ha
theorem ck_Ke (sh info:Nat→Nat) (h:∀ j,j<32→sh j=litB nSh j) (j:Nat) (hj:j<16):ckN lKey 16 sh 0 info j=litB nKe j :=
 le_lit lAll lKey 32 65 16 (by decide) (by decide) (lx_lit lAll lSecr 32 0 (by decide) h (fun j hj=>by omega) aSe bSe) (fun j _=>cx_lit info j) aKe bKe j hj
theorem ck_No (sh info:Nat→Nat) (h:∀ j,j<32→sh j=litB nSh j) (j:Nat) (hj:j<12):ckN lBn 12 sh 0 info j=litB nNo j :=
 le_lit lAll lBn 32 65 12 (by decide) (by decide) (lx_lit lAll lSecr 32 0 (by decide) h (fun j hj=>by omega) aSe bSe) (fun j _=>cx_lit info j) aNo bNo j hj
end Go.Proofs.YtcgkajlehdgpoaaGreatDoor
namespace Go.Proofs.YtcgkajlehdgpoaaGreatDoor
open Go.RowKit
theorem kyS_lit {ks:Nat→Nat} {l:List Nat} (h0:∀ j,j<16→ks j=litB l j) (hk:((List.range 40).all fun n=>(List.range 4).all fun i=>kyT (litB l) (n+4) i == litB l (4*(n+4)+i))=true):∀ n,n≤40→∀ j,j<4*(n+4)→kyS ks n j=litB l j
 | 0,_,j,hj=>h0 j (by omega)
 | n+1,hn,j,hj=>by
  have ih:=kyS_lit h0 hk n (by omega)
  show cat (4*(n+4)) (kyS ks n) (kyT (kyS ks n) (n+4)) j=litB l j
  unfold cat
  by_cases h:j<4*(n+4)
  · rw [if_pos h];exact ih j h
  · rw [if_neg h]
    have hc:=all_below (all_below hk n (by omega)) (j - 4*(n+4)) (by omega)
    simp only [beq_iff_eq] at hc
    rw [show 4*(n+4)+(j - 4*(n+4))=j by omega] at hc
    rw [←hc]
    generalize hi:j - 4*(n+4)=i at *
    unfold kyT
    rw [ih _ (by omega),ih _ (by omega),ih _ (by omega),ih (4*(n+4) - 4+i) (by omega)]
theorem blkS_lit {ks c:Nat→Nat} {l s:List Nat} (hk:∀ j,j<176→kyN ks j=litB l j) (h0:∀ j,j<16→c j ^^^ litB l j=litB s j) (hs:((List.range 9).all fun r=>(List.range 16).all fun j=>addN (litB l) (r+1) (colN mT (rowN 1 (thrN boxN (fun j=>litB s (16*r+j))))) j == litB s (16*(r+1)+j))=true):∀ r,r≤9→S16 (blkS (kyN ks) c r) (fun j=>litB s (16*r+j))
 | 0,_=>fun j hj=>by
  show c j ^^^ kyN ks (16*0+j)=litB s (16*0+j)
  rw [hk _ (by omega),Nat.mul_zero,Nat.zero_add]
  exact h0 j hj
 | r+1,hr=>fun j hj=>by
  have ih:=blkS_lit hk h0 hs r (by omega)
  have h:=all_below (all_below hs r (by omega)) j hj
  simp only [beq_iff_eq] at h
  show colN mT (rowN 1 (thrN boxN (blkS (kyN ks) c r))) j ^^^ kyN ks (16*(r+1)+j)=litB s (16*(r+1)+j)
  rw [hk _ (by omega),←h]
  show _=colN mT (rowN 1 (thrN boxN (fun j=>litB s (16*r+j)))) j ^^^ litB l (16*(r+1)+j)
  rw [colN_S (rowN_S (thrN_S ih boxN) 1) mT j hj]
theorem blk_lit {ks c:Nat→Nat} {l s:List Nat} (hk:∀ j,j<176→kyN ks j=litB l j) (h0:∀ j,j<16→c j ^^^ litB l j=litB s j) (hs:((List.range 9).all fun r=>(List.range 16).all fun j=>addN (litB l) (r+1) (colN mT (rowN 1 (thrN boxN (fun j=>litB s (16*r+j))))) j == litB s (16*(r+1)+j))=true) :
 blkN (kyN ks) c 0=rowN 1 (thrN boxN (fun j=>litB s (16*9+j))) 0 ^^^ litB l 160:=by
 show rowN 1 (thrN boxN (blkS (kyN ks) c 9)) 0 ^^^ kyN ks (16*10+0)=_
 rw [hk _ (by decide),rowN_S (thrN_S (blkS_lit hk h0 hs 9 (Nat.le_refl _)) boxN) 1 0 (by decide)]
def aKey:List Nat:=[64,130,75,144,161,247,146,159,206,246,21,132,253,58,241,31,193,35,139,196,96,212,25,91,174,34,12,223,83,24,253,192,110,119,49,41,14,163,40,114,160,129,36,173,243,153,217,109,132,66,13,36,138,225,37,86,42,96,1,251,217,249,216,150,21,35,157,17,159,194,184,71,181,162,185,188,108,91,97,42,60,204,120,65,163,14,192,6,22,172,121,186,122,247,24,144,116,97,24,155,215,111,216,157,193,195,161,39,187,52,185,183,44,55,177,113,251,88,105,236,58,155,200,203,129,175,113,124,213,148,161,125,46,204,200,145,20,87,0,90,149,248,113,38,143,55,86,87,161,251,158,198,181,172,158,156,32,84,239,186,153,232,162,224,56,19,60,38,141,191,162,186,173,235,77,0]
def aS0:List Nat:=[99,58,75,170,46,104,12,108,234,12,66,92,253,58,241,29,107,130,154,232,22,86,96,20,195,32,134,222,212,4,16,214,234,75,118,170,19,79,225,235,179,121,134,122,155,129,30,76,107,51,253,36,111,209,229,86,53,180,48,177,29,89,225,78,130,3,165,244,150,78,44,189,33,244,132,251,112,218,236,76,29,73,129,86,51,13,178,185,114,143,81,3,43,204,193,119,97,237,214,155,22,115,80,177,198,87,72,12,67,145,144,69,95,69,199,90,236,29,137,54,239,255,73,240,231,20,129,179,241,40,11,114,33,132,209,165,103,51,189,22,63,206,81,75,254,21,146,247,143,179,217,72,15,95,204,164,239,76,27,161]
def aS1:List Nat:=[99,58,75,170,46,104,12,108,234,12,66,93,253,58,241,29,107,130,154,232,22,86,96,20,195,32,134,222,210,2,26,218,75,234,142,243,123,247,49,131,39,104,3,255,122,124,227,80,105,255,213,95,27,116,116,123,108,75,192,126,53,114,42,143,152,67,12,207,62,235,63,126,247,86,204,77,0,191,208,242,82,23,193,32,238,223,166,5,211,62,240,9,4,220,181,135,86,222,188,167,40,235,49,247,143,81,12,165,106,80,240,108,219,6,254,14,43,6,107,85,36,137,154,184,99,195,241,172,36,177,180,67,47,59,33,210,77,23,106,118,218,48,175,248,157,153,69,111,227,132,167,68,92,126,188,90,8,172,217,6]
set_option maxRecDepth 100000 in
theorem aKey_ok:((List.range 16).all fun j=>litB nKe j == litB aKey j)=true∧((List.range 40).all fun n=>(List.range 4).all fun i=>kyT (litB aKey) (n+4) i == litB aKey (4*(n+4)+i))=true:=⟨by kernel_rfl,by kernel_rfl⟩
set_option maxRecDepth 100000 in
theorem aS0_ok:((List.range 16).all fun j=>(ctN (ncN (litB nNo) 0) 2 j ^^^ litB aKey j) == litB aS0 j)=true∧((List.range 9).all fun r=>(List.range 16).all fun j=>addN (litB aKey) (r+1) (colN mT (rowN 1 (thrN boxN (fun j=>litB aS0 (16*r+j))))) j == litB aS0 (16*(r+1)+j))=true∧rowN 1 (thrN boxN (fun j=>litB aS0 (16*9+j))) 0 ^^^ litB aKey 160=34:=⟨by kernel_rfl,by kernel_rfl,by kernel_rfl⟩
set_option maxRecDepth 100000 in
theorem aS1_ok:((List.range 16).all fun j=>(ctN (ncN (litB nNo) 1) 2 j ^^^ litB aKey j) == litB aS1 j)=true∧((List.range 9).all fun r=>(List.range 16).all fun j=>addN (litB aKey) (r+1) (colN mT (rowN 1 (thrN boxN (fun j=>litB aS1 (16*r+j))))) j == litB aS1 (16*(r+1)+j))=true∧rowN 1 (thrN boxN (fun j=>litB aS1 (16*9+j))) 0 ^^^ litB aKey 160=199:=⟨by kernel_rfl,by kernel_rfl,by kernel_rfl⟩
theorem ct_lit {ks nn:Nat→Nat} (hk:∀ j,j<16→ks j=litB nKe j) (hn:∀ j,j<12→nn j=litB nNo j):ctB ks (ncN nn 0) 2 0=34∧ctB ks (ncN nn 1) 2 0=199:=by
 have hky:∀ j,j<176→kyN ks j=litB aKey j:=kyS_lit (fun j hj=>(hk j hj).trans (all_at aKey_ok.1 j hj)) aKey_ok.2 40 (Nat.le_refl _)
 have hc:∀ k j,j<16→ctN (ncN nn k) 2 j=ctN (ncN (litB nNo) k) 2 j:=fun k j hj=>by
  unfold ctN
  by_cases h:j<12
  · rw [if_pos h,if_pos h];unfold ncN;rw [hn j h]
  · rw [if_neg h,if_neg h]
 refine ⟨?_,?_⟩
 · show blkN (kyN ks) _ 0=_
   rw [blk_lit hky (fun j hj=>by rw [hc 0 j hj];exact all_at aS0_ok.1 j hj) aS0_ok.2.1]
   exact aS0_ok.2.2
 · show blkN (kyN ks) _ 0=_
   rw [blk_lit hky (fun j hj=>by rw [hc 1 j hj];exact all_at aS1_ok.1 j hj) aS1_ok.2.1]
   exact aS1_ok.2.2
end Go.Proofs.YtcgkajlehdgpoaaGreatDoor
