/- What the proof stands on: QRO, QCO, QRQ, QCQ, QBp. -/
import Derived.Test.YtibdhadbflfdpaaGreatDoorG9MM
import Derived.Test.YtibdhadbflfdpaaGreatDoorQBoM
namespace Go.Proofs.YtibdhadbflfdpaaGreatDoor
open Go.RowKit
theorem BytesIn.set_i64 {w:World} {v:Value} {n g o:Nat} {X:Nat→Nat} {z:Int} (h:BytesIn w v n X) (hc:w.cell? ⟨g,o,none⟩=some (.int .i64 z)) (u:Value):BytesIn (w.setCell ⟨g,o,none⟩ u) v n X:=by
 rcases h with h | ⟨bb,ob,cap,rfl,h1,h2,h3⟩
 · exact .inl h
 · refine .inr ⟨bb,ob,cap,rfl,by rw [World.size_setCell];exact h1,h2,fun j hj => ?_⟩
   have hne:(⟨g,o,none⟩:Addr)≠⟨bb,ob+j,none⟩:=fun e=>by
    rw [e,h3 j hj] at hc
    cases hc
   rw [World.cell?_setCell_other _ _ _ _ hne]
   exact h3 j hj
theorem RW.set3 {w:World} {g:Nat} {a b c d:Value} (r:RW w g 0 [a,b,c,d]) (y:Value):RW (w.setCell ⟨g,3,none⟩ y) g 0 [a,b,c,y]:=by
 have h:=fun j (hj:j<4)=>r.there j (by simpa using hj)
 refine ⟨fun j v hv => ?_,fun j hj => ?_,by rw [World.size_setCell];exact r.lt⟩
 · by_cases e:j=3
   · subst e
     simp only [List.getElem?_cons_succ,List.getElem?_cons_zero,Option.some.injEq] at hv
     subst hv
     exact World.cell?_setCell_same _ _ _ (r.range 3 d rfl)
   · have hne:(⟨g,3,none⟩:Addr)≠⟨g,0+j,none⟩:=fun e'=>by injection e';omega
     rw [World.cell?_setCell_other _ _ _ _ hne]
     refine r.range j v ?_
     rw [←hv]
     match j,e with
     | 0,_=>rfl
     | 1,_=>rfl
     | 2,_=>rfl
     | j+4,_=>rfl
 · rw [World.frozen?_setCell]
   refine ⟨?_,(r.there j (by simpa using hj)).2⟩
   by_cases e:j=3
   · subst e
     rw [World.cell?_setCell_same _ _ _ (r.range 3 d rfl)];rfl
   · have hne:(⟨g,3,none⟩:Addr)≠⟨g,0+j,none⟩:=fun e'=>by injection e';omega
     rw [World.cell?_setCell_other _ _ _ _ hne]
     exact (r.there j (by simpa using hj)).1
set_option maxRecDepth 20000 in
set_option maxHeartbeats 2000000 in
theorem rctxSeal (gc n:Nat) (K N X:Nat→Nat) (hN:∀ j,N j<256) (mv tv:Value) (L:Nat) (Z:Nat→Nat) (E:Int) (hn:n+1<9223372036854775808) (w:World) (h:RCtx w gc K N X n) (ha:∀ kv nv W,Below w.heap.size w W→BytesIn W kv 16 K→BytesIn W nv 12 (ncN N n)→AnsC 145 #[kv,nv,mv,tv] W L Z E) :
 Calls Tryz.prog 78 #[.pointer (some ⟨gc,0,none⟩),mv,tv] w fun e w'=>∃ s,e = .returned (.tuple #[s,.int .i64 E])∧BytesIn w' s L Z∧RCtx w' gc K N X (if E=0 then n+1 else n)∧Out gc 3 1 w w':=by
 have bd:Below w.heap.size w w.drew:=(Below.refl _ _).drew
 have hc:=h.keep bd
 have cn:=rnonce_any gc n K N X hN w.drew hc
 obtain ⟨kv,uv,xv,r,hk,hu,hx⟩:=hc
 have f0:w.drew.cell? ⟨gc,0,none⟩=some kv:=r.range 0 _ rfl
 have gl:gc<w.heap.size:=r.lt
 go_enter Tryz.func78,Tryz.ntmps78
 go_upto_region 1 with (fail)
 refine wp_region_held_drew (S:=fun u=>Below w.drew.heap.size w.drew u) (by kernel_rfl) (Below.refl _ _) (fun hS => ?_)
 refine tg 0 hS ?_
 (try simp only [pS])
 refine tg 1 hS ?_
 (try simp only [pS])
 refine tg 2 hS ?_
 (try simp only [pS])
 refine tc 3 hS (fun u hu=>(hu.cell (p:=⟨gc,0,none⟩) gl).trans f0) ?_
 (try simp only [pS])
 refine tg 4 hS ?_
 (try simp only [pS])
 refine tg 6 hS ?_
 (try simp only [pS])
 refine tg 7 hS ?_
 (try simp only [pS])
 refine cl 5 cn ?_
 rintro e w1 ⟨s1,rfl,o1,b1⟩
 refine ⟨_,rfl,b1,?_⟩
 (try simp only [pS])
 refine cl 8 (ha kv s1 w1 (below_next bd b1) (hk.keep b1) o1) ?_
 rintro e w2 ⟨s2,rfl,o2,hb2⟩
 have b2:=below_next b1 hb2
 refine ⟨_,rfl,b2,?_⟩
 (try simp only [pS])
 refine tg 9 b2 ?_
 (try simp only [pS])
 refine tg 10 b2 ?_
 (try simp only [pS])
 refine tg 11 b2 ?_
 (try simp only [pS])
 refine tg 12 b2 ?_
 (try simp only [pS])
 refine tg 13 b2 ?_
 (try simp only [pS])
 refine wpAnyH_done (by kernel_rfl) ?_ _
 replace r:=r.still b2
 have hk2:=hk.keep b2
 have hu2:=hu.keep b2
 have hx2:=hx.keep b2
 have bw:=below_next bd b2
 have f3:w2.cell? ⟨gc,3,none⟩=some (.int .i64 (n:Int)):=r.range 3 _ rfl
 have z3:w2.frozen? ⟨gc,3,none⟩=false:=(r.there 3 (by show 3<4;decide)).2
 clear ha hk hu hx h b1 b2 hS o1 hb2 cn
 by_cases h0:E=0
 · subst h0
   have hw:(n:Int)+1=((n+1:Nat):Int):=by omega
   have hw':wrap64 ((n:Int)+1)=((n+1:Nat):Int):=by unfold wrap64;omega
   obtain ⟨n1,hn1⟩:∃ n1,n1=n+1:=⟨_,rfl⟩
   rw [←hn1] at hw hw'
   have HN:=Hid.mk' hn1
   clear hn1
   go_wp2
   go_ret2
   refine ⟨_,rfl,o2.set_i64 f3 _,?_,(Out.of_below bw gl).trans (Out.setCell w2 _ (Nat.le_refl _) (by decide))⟩
   rw [←HN.out]
   exact ⟨_,_,_,r.set3 _,hk2.set_i64 f3 _,hu2.set_i64 f3 _,hx2.set_i64 f3 _⟩
 · go_wp2
   go_ret2
   exact ⟨_,rfl,o2,⟨_,_,_,r,hk2,hu2,hx2⟩,Out.of_below bw gl⟩
set_option maxRecDepth 20000 in
set_option maxHeartbeats 2000000 in
theorem rctxOpen (gc n:Nat) (K N X:Nat→Nat) (hN:∀ j,N j<256) (mv tv:Value) (L:Nat) (Z:Nat→Nat) (E:Int) (hn:n+1<9223372036854775808) (w:World) (h:RCtx w gc K N X n) (ha:∀ kv nv W,Below w.heap.size w W→BytesIn W kv 16 K→BytesIn W nv 12 (ncN N n)→AnsC 149 #[kv,nv,mv,tv] W L Z E) :
 Calls Tryz.prog 82 #[.pointer (some ⟨gc,0,none⟩),mv,tv] w fun e w'=>∃ s,e = .returned (.tuple #[s,.int .i64 E])∧BytesIn w' s L Z∧RCtx w' gc K N X (if E=0 then n+1 else n)∧Out gc 3 1 w w':=by
 have bd:Below w.heap.size w w.drew:=(Below.refl _ _).drew
 have hc:=h.keep bd
 have cn:=rnonce_any gc n K N X hN w.drew hc
 obtain ⟨kv,uv,xv,r,hk,hu,hx⟩:=hc
 have f0:w.drew.cell? ⟨gc,0,none⟩=some kv:=r.range 0 _ rfl
 have gl:gc<w.heap.size:=r.lt
 go_enter Tryz.func82,Tryz.ntmps82
 go_upto_region 1 with (fail)
 refine wp_region_held_drew (S:=fun u=>Below w.drew.heap.size w.drew u) (by kernel_rfl) (Below.refl _ _) (fun hS => ?_)
 refine tg 0 hS ?_
 (try simp only [pS])
 refine tg 1 hS ?_
 (try simp only [pS])
 refine tg 2 hS ?_
 (try simp only [pS])
 refine tc 3 hS (fun u hu=>(hu.cell (p:=⟨gc,0,none⟩) gl).trans f0) ?_
 (try simp only [pS])
 refine tg 4 hS ?_
 (try simp only [pS])
 refine tg 6 hS ?_
 (try simp only [pS])
 refine tg 7 hS ?_
 (try simp only [pS])
 refine cl 5 cn ?_
 rintro e w1 ⟨s1,rfl,o1,b1⟩
 refine ⟨_,rfl,b1,?_⟩
 (try simp only [pS])
 refine cl 8 (ha kv s1 w1 (below_next bd b1) (hk.keep b1) o1) ?_
 rintro e w2 ⟨s2,rfl,o2,hb2⟩
 have b2:=below_next b1 hb2
 refine ⟨_,rfl,b2,?_⟩
 (try simp only [pS])
 refine tg 9 b2 ?_
 (try simp only [pS])
 refine tg 10 b2 ?_
 (try simp only [pS])
 refine tg 11 b2 ?_
 (try simp only [pS])
 refine tg 12 b2 ?_
 (try simp only [pS])
 refine tg 13 b2 ?_
 (try simp only [pS])
 refine wpAnyH_done (by kernel_rfl) ?_ _
 replace r:=r.still b2
 have hk2:=hk.keep b2
 have hu2:=hu.keep b2
 have hx2:=hx.keep b2
 have bw:=below_next bd b2
 have f3:w2.cell? ⟨gc,3,none⟩=some (.int .i64 (n:Int)):=r.range 3 _ rfl
 have z3:w2.frozen? ⟨gc,3,none⟩=false:=(r.there 3 (by show 3<4;decide)).2
 clear ha hk hu hx h b1 b2 hS o1 hb2 cn
 by_cases h0:E=0
 · subst h0
   have hw:(n:Int)+1=((n+1:Nat):Int):=by omega
   have hw':wrap64 ((n:Int)+1)=((n+1:Nat):Int):=by unfold wrap64;omega
   obtain ⟨n1,hn1⟩:∃ n1,n1=n+1:=⟨_,rfl⟩
   rw [←hn1] at hw hw'
   have HN:=Hid.mk' hn1
   clear hn1
   go_wp2
   go_ret2
   refine ⟨_,rfl,o2.set_i64 f3 _,?_,(Out.of_below bw gl).trans (Out.setCell w2 _ (Nat.le_refl _) (by decide))⟩
   rw [←HN.out]
   exact ⟨_,_,_,r.set3 _,hk2.set_i64 f3 _,hu2.set_i64 f3 _,hx2.set_i64 f3 _⟩
 · go_wp2
   go_ret2
   exact ⟨_,rfl,o2,⟨_,_,_,r,hk2,hu2,hx2⟩,Out.of_below bw gl⟩
end Go.Proofs.YtibdhadbflfdpaaGreatDoor
namespace Go.Proofs.YtibdhadbflfdpaaGreatDoor
open Go.RowKit
theorem made_len (gc:Nat) (x:Option Addr) (l c:Nat) (w:World) (h:w.cell? ⟨gc,0,none⟩=some (.slice x l c)):Calls Tryz.prog 195 #[.pointer (some ⟨gc,0,none⟩)] w fun e w'=>e = .returned (.bool ((l:Int) != 0))∧w'=w:=by
 go_enter Tryz.func195,Tryz.ntmps195
 go_wp2
 go_ret
 exact ⟨rfl,rfl⟩
theorem RowAt.set_u64 {w:World} {g o n b q:Nat} {X:Nat→Nat} {z:Int} (h:RowAt .u8 w g o n X) (hc:w.cell? ⟨b,q,none⟩=some (.int .u64 z)) (u:Value):RowAt .u8 (w.setCell ⟨b,q,none⟩ u) g o n X:=fun j hj=>by
 have hne:(⟨b,q,none⟩:Addr)≠⟨g,o+j,none⟩:=fun e=>by
  rw [e,(h j hj).1] at hc
  cases hc
 rw [World.cell?_setCell_other _ _ _ _ hne,World.frozen?_setCell]
 exact h j hj
theorem BytesIn.set_u64 {w:World} {v:Value} {n g o:Nat} {X:Nat→Nat} {z:Int} (h:BytesIn w v n X) (hc:w.cell? ⟨g,o,none⟩=some (.int .u64 z)) (u:Value):BytesIn (w.setCell ⟨g,o,none⟩ u) v n X:=by
 rcases h with h | ⟨bb,ob,cap,rfl,h1,h2,h3⟩
 · exact .inl h
 · refine .inr ⟨bb,ob,cap,rfl,by rw [World.size_setCell];exact h1,h2,fun j hj => ?_⟩
   have hne:(⟨g,o,none⟩:Addr)≠⟨bb,ob+j,none⟩:=fun e=>by
    rw [e,h3 j hj] at hc
    cases hc
   rw [World.cell?_setCell_other _ _ _ _ hne]
   exact h3 j hj
theorem CCtx.lt {w:World} {g:Nat} {K N X:Nat→Nat} {n:Nat} (h:CCtx w g K N X n):g<w.heap.size:=by
 obtain ⟨_,_,_,r,_⟩:=h
 exact r.lt
theorem CCtx.num {w:World} {g:Nat} {K N X:Nat→Nat} {n:Nat} (h:CCtx w g K N X n):w.cell? ⟨g,3,none⟩=some (.int .u64 (n:Int)):=by
 obtain ⟨_,_,_,r,_⟩:=h
 exact r.range 3 _ rfl
theorem cmade {w:World} {g:Nat} {K N X:Nat→Nat} {n:Nat} (h:CCtx w g K N X n):Calls Tryz.prog 195 #[.pointer (some ⟨g,0,none⟩)] w fun e w'=>e = .returned (.bool true)∧w'=w:=by
 obtain ⟨_,_,_,r,_⟩:=h
 exact made_len g _ 16 16 w (r.range 0 _ rfl)
theorem CCtx.next {w:World} {g:Nat} {K N X:Nat→Nat} {n:Nat} (h:CCtx w g K N X n) (m:Nat):CCtx (w.setCell ⟨g,3,none⟩ (.int .u64 (m:Int))) g K N X m:=by
 have hc:=h.num
 obtain ⟨gk,gu,gx,r,h1,h2,h3⟩:=h
 exact ⟨gk,gu,gx,r.set3 _,h1.set_u64 hc _,h2.set_u64 hc _,h3.set_u64 hc _⟩
set_option maxRecDepth 20000 in
set_option maxHeartbeats 4000000 in
theorem cnextSeal (gc n:Nat) (K N X:Nat→Nat) (hN:∀ j,N j<256) (mv tv:Value) (L:Nat) (Z:Nat→Nat) (E:Int) (hE:E=0∨L=0) (hn:n+1<9223372036854775808) (w:World) (h:CCtx w gc K N X n) (ha:∀ kv nv W,Below w.heap.size w W→BytesIn W kv 16 K→BytesIn W nv 12 (ncN N n)→AnsC 141 #[kv,nv,mv,tv] W L Z E) :
 Calls Tryz.prog 140 #[.pointer (some ⟨gc,0,none⟩),.func (.func 141) #[] #[],mv,tv] w fun e w'=>∃ s,e = .returned (.tuple #[s,.int .i64 E])∧BytesIn w' s L Z∧CCtx w' gc K N X (if E=0 then n+1 else n)∧Out gc 3 1 w w':=by
 have bd:Below w.heap.size w w.drew:=(Below.refl _ _).drew
 have cm:=cmade h
 have hc:=h.keep bd
 have hc':=hc
 obtain ⟨gk,gu,gx,r,hk,hu,hx⟩:=hc
 have cn:=cnonce_any gk gu gx n N hN w.drew hu
 have f0:w.drew.cell? ⟨gc,0,none⟩=some (.slice (some ⟨gk,0,none⟩) 16 16):=r.range 0 _ rfl
 have f3:w.drew.cell? ⟨gc,3,none⟩=some (.int .u64 (n:Int)):=r.range 3 _ rfl
 have r3:RW w.drew gc 0 [.slice (some ⟨gk,0,none⟩) 16 16,.slice (some ⟨gu,0,none⟩) 12 12,.slice (some ⟨gx,0,none⟩) 32 32]:=RW.left (ds:=[.int .u64 (n:Int)]) r
 have gl:gc<w.heap.size:=r.lt
 replace hk:=row_bytes (by decide) hk
 clear hu hx r
 go_enter Tryz.func140,Tryz.ntmps140
 go_upto_region 3 with (go_at_call 195;refine cm.mono ?_;clear cm;rintro e w0 ⟨rfl,hw0⟩;obtain rfl:=hw0.symm)
 refine wp_region_held_drew (S:=fun u=>Below w.drew.heap.size w.drew u) (by kernel_rfl) (Below.refl _ _) (fun hS => ?_)
 refine tg 0 hS ?_
 (try simp only [pS])
 refine tg 1 hS ?_
 (try simp only [pS])
 refine tg 2 hS ?_
 (try simp only [pS])
 refine tg 3 hS ?_
 (try simp only [pS])
 refine tg 4 hS ?_
 (try simp only [pS])
 refine tc 5 hS (fun u hu=>(hu.cell (p:=⟨gc,0,none⟩) gl).trans f0) ?_
 (try simp only [pS])
 refine tg 6 hS ?_
 (try simp only [pS])
 refine tg 7 hS ?_
 (try simp only [pS])
 refine tg 8 hS ?_
 (try simp only [pS])
 refine tl 9 r3 hS 217 Tryz.underlying217 (infoKl _ _ _) ?_
 (try simp only [pS])
 refine tg 10 hS ?_
 (try simp only [pS])
 refine tg 11 hS ?_
 (try simp only [pS])
 refine tg 12 hS ?_
 (try simp only [pS])
 refine tc 13 hS (fun u hu=>(hu.cell (p:=⟨gc,3,none⟩) gl).trans f3) ?_
 (try simp only [pS])
 refine tg 15 hS ?_
 (try simp only [pS])
 refine tg 16 hS ?_
 (try simp only [pS])
 refine cl 14 cn ?_
 rintro e w1 ⟨s1,rfl,o1,b1⟩
 refine ⟨_,rfl,b1,?_⟩
 (try simp only [pS])
 refine cl 17 (ha _ s1 w1 (below_next bd b1) (hk.keep b1) o1) ?_
 rintro e w2 ⟨s2,rfl,o2,hb2⟩
 have b2:=below_next b1 hb2
 refine ⟨_,rfl,b2,?_⟩
 (try simp only [pS])
 refine tg 18 b2 ?_
 (try simp only [pS])
 refine tg 19 b2 ?_
 (try simp only [pS])
 refine tg 20 b2 ?_
 (try simp only [pS])
 refine tg 21 b2 ?_
 (try simp only [pS])
 refine tg 22 b2 ?_
 (try simp only [pS])
 refine wpAnyH_done (by kernel_rfl) ?_ _
 replace hc':=hc'.keep b2
 have bw:=below_next bd b2
 have f3:=hc'.num
 have z3:w2.frozen? ⟨gc,3,none⟩=false:=by
  obtain ⟨_,_,_,r,_⟩:=hc'
  exact (r.there 3 (by show 3<4;decide)).2
 clear ha hk h b1 b2 hS o1 hb2 cn r3 f0
 by_cases h0:E=0
 · subst h0
   have hw:(n:Int)+1=((n+1:Nat):Int):=by omega
   have hw':IntKind.u64.wrap ((n:Int)+1)=((n+1:Nat):Int):=by show ((n:Int)+1)%18446744073709551616=_;omega
   have hx:=hc'.next (n+1)
   obtain ⟨n1,hn1⟩:∃ n1,n1=n+1:=⟨_,rfl⟩
   rw [←hn1] at hw hw' hx
   have HN:=Hid.mk' hn1
   clear hn1 hE
   go_wp2
   go_ret2
   refine ⟨_,rfl,o2.set_u64 f3 _,?_,(Out.of_below bw gl).trans (Out.setCell w2 _ (Nat.le_refl _) (by decide))⟩
   rw [←HN.out]
   exact hx
 · have hL:=hE.resolve_left h0
   subst hL
   clear hE
   go_wp2
   go_ret2
   exact ⟨_,rfl,.inl ⟨none,rfl,rfl⟩,hc',Out.of_below bw gl⟩
set_option maxRecDepth 20000 in
set_option maxHeartbeats 2000000 in
theorem cSeal (gc n:Nat) (K N X:Nat→Nat) (hN:∀ j,N j<256) (mv tv:Value) (L:Nat) (Z:Nat→Nat) (E:Int) (hE:E=0∨L=0) (hn:n+1<9223372036854775808) (w:World) (h:CCtx w gc K N X n) (ha:∀ kv nv W,Below w.heap.size w W→BytesIn W kv 16 K→BytesIn W nv 12 (ncN N n)→AnsC 141 #[kv,nv,mv,tv] W L Z E) :
 Calls Tryz.prog 75 #[.pointer (some ⟨gc,0,none⟩),mv,tv] w fun e w'=>∃ s,e = .returned (.tuple #[s,.int .i64 E])∧BytesIn w' s L Z∧CCtx w' gc K N X (if E=0 then n+1 else n)∧Out gc 3 1 w w':=by
 have cx:=cnextSeal gc n K N X hN mv tv L Z E hE hn w h ha
 generalize (if E=0 then n+1 else n)=q at cx ⊢
 clear h ha
 go_enter Tryz.func75,Tryz.ntmps75
 go_wp2_with (go_at_call 140;refine cx.mono ?_;clear cx;rintro e w1 ⟨s1,rfl,o1,c1,u1⟩)
 go_ret2
 exact ⟨_,rfl,o1,c1,u1⟩
set_option maxRecDepth 20000 in
set_option maxHeartbeats 4000000 in
theorem cnextOpen (gc n:Nat) (K N X:Nat→Nat) (hN:∀ j,N j<256) (mv tv:Value) (L:Nat) (Z:Nat→Nat) (E:Int) (hE:E=0∨L=0) (hn:n+1<9223372036854775808) (w:World) (h:CCtx w gc K N X n) (ha:∀ kv nv W,Below w.heap.size w W→BytesIn W kv 16 K→BytesIn W nv 12 (ncN N n)→AnsC 148 #[kv,nv,mv,tv] W L Z E) :
 Calls Tryz.prog 140 #[.pointer (some ⟨gc,0,none⟩),.func (.func 148) #[] #[],mv,tv] w fun e w'=>∃ s,e = .returned (.tuple #[s,.int .i64 E])∧BytesIn w' s L Z∧CCtx w' gc K N X (if E=0 then n+1 else n)∧Out gc 3 1 w w':=by
 have bd:Below w.heap.size w w.drew:=(Below.refl _ _).drew
 have cm:=cmade h
 have hc:=h.keep bd
 have hc':=hc
 obtain ⟨gk,gu,gx,r,hk,hu,hx⟩:=hc
 have cn:=cnonce_any gk gu gx n N hN w.drew hu
 have f0:w.drew.cell? ⟨gc,0,none⟩=some (.slice (some ⟨gk,0,none⟩) 16 16):=r.range 0 _ rfl
 have f3:w.drew.cell? ⟨gc,3,none⟩=some (.int .u64 (n:Int)):=r.range 3 _ rfl
 have r3:RW w.drew gc 0 [.slice (some ⟨gk,0,none⟩) 16 16,.slice (some ⟨gu,0,none⟩) 12 12,.slice (some ⟨gx,0,none⟩) 32 32]:=RW.left (ds:=[.int .u64 (n:Int)]) r
 have gl:gc<w.heap.size:=r.lt
 replace hk:=row_bytes (by decide) hk
 clear hu hx r
 go_enter Tryz.func140,Tryz.ntmps140
 go_upto_region 3 with (go_at_call 195;refine cm.mono ?_;clear cm;rintro e w0 ⟨rfl,hw0⟩;obtain rfl:=hw0.symm)
 refine wp_region_held_drew (S:=fun u=>Below w.drew.heap.size w.drew u) (by kernel_rfl) (Below.refl _ _) (fun hS => ?_)
 refine tg 0 hS ?_
 (try simp only [pS])
 refine tg 1 hS ?_
 (try simp only [pS])
 refine tg 2 hS ?_
 (try simp only [pS])
 refine tg 3 hS ?_
 (try simp only [pS])
 refine tg 4 hS ?_
 (try simp only [pS])
 refine tc 5 hS (fun u hu=>(hu.cell (p:=⟨gc,0,none⟩) gl).trans f0) ?_
 (try simp only [pS])
 refine tg 6 hS ?_
 (try simp only [pS])
 refine tg 7 hS ?_
 (try simp only [pS])
 refine tg 8 hS ?_
 (try simp only [pS])
 refine tl 9 r3 hS 217 Tryz.underlying217 (infoKl _ _ _) ?_
 (try simp only [pS])
 refine tg 10 hS ?_
 (try simp only [pS])
 refine tg 11 hS ?_
 (try simp only [pS])
 refine tg 12 hS ?_
 (try simp only [pS])
 refine tc 13 hS (fun u hu=>(hu.cell (p:=⟨gc,3,none⟩) gl).trans f3) ?_
 (try simp only [pS])
 refine tg 15 hS ?_
 (try simp only [pS])
 refine tg 16 hS ?_
 (try simp only [pS])
 refine cl 14 cn ?_
 rintro e w1 ⟨s1,rfl,o1,b1⟩
 refine ⟨_,rfl,b1,?_⟩
 (try simp only [pS])
 refine cl 17 (ha _ s1 w1 (below_next bd b1) (hk.keep b1) o1) ?_
 rintro e w2 ⟨s2,rfl,o2,hb2⟩
 have b2:=below_next b1 hb2
 refine ⟨_,rfl,b2,?_⟩
 (try simp only [pS])
 refine tg 18 b2 ?_
 (try simp only [pS])
 refine tg 19 b2 ?_
 (try simp only [pS])
 refine tg 20 b2 ?_
 (try simp only [pS])
 refine tg 21 b2 ?_
 (try simp only [pS])
 refine tg 22 b2 ?_
 (try simp only [pS])
 refine wpAnyH_done (by kernel_rfl) ?_ _
 replace hc':=hc'.keep b2
 have bw:=below_next bd b2
 have f3:=hc'.num
 have z3:w2.frozen? ⟨gc,3,none⟩=false:=by
  obtain ⟨_,_,_,r,_⟩:=hc'
  exact (r.there 3 (by show 3<4;decide)).2
 clear ha hk h b1 b2 hS o1 hb2 cn r3 f0
 by_cases h0:E=0
 · subst h0
   have hw:(n:Int)+1=((n+1:Nat):Int):=by omega
   have hw':IntKind.u64.wrap ((n:Int)+1)=((n+1:Nat):Int):=by show ((n:Int)+1)%18446744073709551616=_;omega
   have hx:=hc'.next (n+1)
   obtain ⟨n1,hn1⟩:∃ n1,n1=n+1:=⟨_,rfl⟩
   rw [←hn1] at hw hw' hx
   have HN:=Hid.mk' hn1
   clear hn1 hE
   go_wp2
   go_ret2
   refine ⟨_,rfl,o2.set_u64 f3 _,?_,(Out.of_below bw gl).trans (Out.setCell w2 _ (Nat.le_refl _) (by decide))⟩
   rw [←HN.out]
   exact hx
 · have hL:=hE.resolve_left h0
   subst hL
   clear hE
   go_wp2
   go_ret2
   exact ⟨_,rfl,.inl ⟨none,rfl,rfl⟩,hc',Out.of_below bw gl⟩
set_option maxRecDepth 20000 in
set_option maxHeartbeats 2000000 in
theorem cOpen (gc n:Nat) (K N X:Nat→Nat) (hN:∀ j,N j<256) (mv tv:Value) (L:Nat) (Z:Nat→Nat) (E:Int) (hE:E=0∨L=0) (hn:n+1<9223372036854775808) (w:World) (h:CCtx w gc K N X n) (ha:∀ kv nv W,Below w.heap.size w W→BytesIn W kv 16 K→BytesIn W nv 12 (ncN N n)→AnsC 148 #[kv,nv,mv,tv] W L Z E) :
 Calls Tryz.prog 80 #[.pointer (some ⟨gc,0,none⟩),mv,tv] w fun e w'=>∃ s,e = .returned (.tuple #[s,.int .i64 E])∧BytesIn w' s L Z∧CCtx w' gc K N X (if E=0 then n+1 else n)∧Out gc 3 1 w w':=by
 have cx:=cnextOpen gc n K N X hN mv tv L Z E hE hn w h ha
 generalize (if E=0 then n+1 else n)=q at cx ⊢
 clear h ha
 go_enter Tryz.func80,Tryz.ntmps80
 go_wp2_with (go_at_call 140;refine cx.mono ?_;clear cx;rintro e w1 ⟨s1,rfl,o1,c1,u1⟩)
 go_ret2
 exact ⟨_,rfl,o1,c1,u1⟩
end Go.Proofs.YtibdhadbflfdpaaGreatDoor
namespace Go.Proofs.YtibdhadbflfdpaaGreatDoor
open Go.RowKit
theorem ckN_lt (l:List Nat) (N:Nat) (sh:Nat→Nat) (m:Nat) (info:Nat→Nat) (j:Nat):ckN l N sh m info j<256:=leN_lt _ _ _ _ _ _ _ _
theorem BytesIn.out {w w':World} {v:Value} {n g:Nat} {X:Nat→Nat} {z:Int} (h:BytesIn w v n X) (hc:w.cell? ⟨g,3,none⟩=some (.int .i64 z)) (u:Out g 3 1 w w'):BytesIn w' v n X:=by
 rcases h with h | ⟨bb,ob,cap,rfl,h1,h2,h3⟩
 · exact .inl h
 · refine .inr ⟨bb,ob,cap,rfl,Nat.lt_of_lt_of_le h1 u.size,h2,fun j hj => ?_⟩
   by_cases e:bb=g
   · subst e
     by_cases e3:ob+j=3
     · have:=h3 j hj
       rw [e3,hc] at this
       cases this
     · rw [u.cell (ob+j) (by omega)];exact h3 j hj
   · rw [u.cell' h1 e];exact h3 j hj
theorem rSealTo_stop (u v iv mv tv:Value) (E:Int) (hE:¬E=0) (w:World) (c:Calls Tryz.prog 76 #[u,v] w fun e w'=>∃ s p,e = .returned (.tuple #[s,p,.int .i64 E])∧Below w.heap.size w w') :
 Calls Tryz.prog 36 #[u,v,iv,mv,tv] w fun e w'=>e = .returned (.tuple #[.slice none 0 0,.slice none 0 0,.int .i64 E])∧Below w.heap.size w w':=by
 go_enter Tryz.func36,Tryz.ntmps36
 go_wp2_with (go_at_call 76;refine c.mono ?_;clear c;rintro e w1 ⟨s1,p1,rfl,b1⟩)
 go_ret3
 exact ⟨rfl,b1⟩
theorem rSealTo_size (u v iv mv tv:Value) (m:Nat) (S P info:Nat→Nat) (hm:65536<m) (w:World) (hi:BytesIn w iv m info) (c:Calls Tryz.prog 76 #[u,v] w fun e w'=>∃ s p,e = .returned (.tuple #[s,p,.int .i64 0])∧BytesIn w' s 32 S∧BytesIn w' p 32 P∧Below w.heap.size w w') :
 Calls Tryz.prog 36 #[u,v,iv,mv,tv] w fun e w'=>e = .returned (.tuple #[.slice none 0 0,.slice none 0 0,.int .i64 6])∧Below w.heap.size w w':=by
 have hn:=fun s W hs hb=>rNew_size s iv m S info hm W hs (hi.keep hb)
 clear hi
 go_enter Tryz.func36,Tryz.ntmps36
 go_wp2_with (first
  | (go_at_call 76;refine c.mono ?_;clear c;rintro e w1 ⟨s1,p1,rfl,o1,q1,b1⟩;(have n1:=hn s1 w1 o1 b1);clear hn)
  | (go_at_call 77;refine n1.mono ?_;clear n1;rintro e w2 ⟨rfl,b2⟩))
 go_ret3
 exact ⟨rfl,below_next b1 b2⟩
set_option maxRecDepth 20000 in
set_option maxHeartbeats 2000000 in
theorem rSealTo_on (u v iv mv tv:Value) (m:Nat) (S P info:Nat→Nat) (hS:∀ j,S j<256) (hi:∀ j,info j<256) (hm:m≤65536) (L:Nat) (Z:Nat→Nat) (E:Int) (w:World) (hiv:BytesIn w iv m info) (c:Calls Tryz.prog 76 #[u,v] w fun e w'=>∃ s p,e = .returned (.tuple #[s,p,.int .i64 0])∧BytesIn w' s 32 S∧BytesIn w' p 32 P∧Below w.heap.size w w')
 (ha:∀ kv nv W,Below w.heap.size w W→BytesIn W kv 16 (ckN lKey 16 S m info)→BytesIn W nv 12 (ncN (ckN lBn 12 S m info) 0)→AnsC 145 #[kv,nv,mv,tv] W L Z E) :
 Calls Tryz.prog 36 #[u,v,iv,mv,tv] w fun e w'=>(if E=0 then ∃ p s,e = .returned (.tuple #[p,s,.int .i64 0])∧BytesIn w' p 32 P∧BytesIn w' s L Z else e = .returned (.tuple #[.slice none 0 0,.slice none 0 0,.int .i64 E]))∧Below w.heap.size w w':=by
 have hn:=fun s W hs hb=>rNew_good s iv m S info hS hi hm W hs (hiv.keep hb)
 have hc:=fun g W (hb:Below w.heap.size w W) h=>rctxSeal g 0 (ckN lKey 16 S m info) (ckN lBn 12 S m info) (ckN lExp 32 S m info) (ckN_lt _ _ _ _ _) mv tv L Z E (by decide) W h (fun kv nv W' hb' hk hv=>ha kv nv W' (below_next hb hb') hk hv)
 generalize ckN lKey 16 S m info=K at *
 generalize ckN lBn 12 S m info=N at *
 generalize ckN lExp 32 S m info=X at *
 clear hiv ha
 go_enter Tryz.func36,Tryz.ntmps36
 go_upto_region 8 with (first
  | (go_at_call 76;refine c.mono ?_;clear c;rintro e w1 ⟨s1,p1,rfl,o1,q1,b1⟩;(have n1:=hn s1 w1 o1 b1);clear hn)
  | (go_at_call 77;refine n1.mono ?_;clear n1;rintro e w2 ⟨g2,rfl,hg2,x2,hb2⟩;(have b2:=below_next b1 hb2);(replace q1:=q1.keep hb2);(have c2:=hc g2 w2 b2 x2);(have l2:w.heap.size≤g2:=Nat.le_trans b1.size hg2);clear hc)
  | (go_at_call 78;refine c2.mono ?_;clear c2;rintro e w3 ⟨s3,rfl,o3,-,u3⟩))
 have b3:Below w.heap.size w w3:=b2.trans (u3.below l2 b2.size)
 have f3:w2.cell? ⟨g2,3,none⟩=some (.int .i64 ((0:Nat):Int)):=by
  obtain ⟨_,_,_,r,_⟩:=x2
  exact r.range 3 _ rfl
 have q3:BytesIn w3 p1 32 P:=q1.out f3 u3
 by_cases h0:E=0
 · subst h0
   go_wp2
   go_ret3
   exact ⟨⟨_,_,rfl,q3,o3⟩,b3⟩
 · go_wp2
   go_ret3
   exact ⟨rfl,b3⟩
theorem rOpenBy_stop (u v iv mv tv:Value) (E:Int) (hE:¬E=0) (w:World) (c:Calls Tryz.prog 81 #[u,v] w fun e w'=>∃ s,e = .returned (.tuple #[s,.int .i64 E])∧Below w.heap.size w w') :
 Calls Tryz.prog 38 #[u,v,iv,mv,tv] w fun e w'=>e = .returned (.tuple #[.slice none 0 0,.int .i64 E])∧Below w.heap.size w w':=by
 go_enter Tryz.func38,Tryz.ntmps38
 go_wp2_with (go_at_call 81;refine c.mono ?_;clear c;rintro e w1 ⟨s1,rfl,b1⟩)
 go_ret2
 exact ⟨rfl,b1⟩
theorem rOpenBy_size (u v iv mv tv:Value) (m:Nat) (S info:Nat→Nat) (hm:65536<m) (w:World) (hi:BytesIn w iv m info) (c:Calls Tryz.prog 81 #[u,v] w fun e w'=>∃ s,e = .returned (.tuple #[s,.int .i64 0])∧BytesIn w' s 32 S∧Below w.heap.size w w') :
 Calls Tryz.prog 38 #[u,v,iv,mv,tv] w fun e w'=>e = .returned (.tuple #[.slice none 0 0,.int .i64 6])∧Below w.heap.size w w':=by
 have hn:=fun s W hs hb=>rNew_size s iv m S info hm W hs (hi.keep hb)
 clear hi
 go_enter Tryz.func38,Tryz.ntmps38
 go_wp2_with (first
  | (go_at_call 81;refine c.mono ?_;clear c;rintro e w1 ⟨s1,rfl,o1,b1⟩;(have n1:=hn s1 w1 o1 b1);clear hn)
  | (go_at_call 77;refine n1.mono ?_;clear n1;rintro e w2 ⟨rfl,b2⟩))
 go_ret2
 exact ⟨rfl,below_next b1 b2⟩
set_option maxRecDepth 20000 in
set_option maxHeartbeats 2000000 in
theorem rOpenBy_on (u v iv mv tv:Value) (m:Nat) (S info:Nat→Nat) (hS:∀ j,S j<256) (hi:∀ j,info j<256) (hm:m≤65536) (L:Nat) (Z:Nat→Nat) (E:Int) (w:World) (hiv:BytesIn w iv m info) (c:Calls Tryz.prog 81 #[u,v] w fun e w'=>∃ s,e = .returned (.tuple #[s,.int .i64 0])∧BytesIn w' s 32 S∧Below w.heap.size w w')
 (ha:∀ kv nv W,Below w.heap.size w W→BytesIn W kv 16 (ckN lKey 16 S m info)→BytesIn W nv 12 (ncN (ckN lBn 12 S m info) 0)→AnsC 149 #[kv,nv,mv,tv] W L Z E) :
 Calls Tryz.prog 38 #[u,v,iv,mv,tv] w fun e w'=>∃ s,e = .returned (.tuple #[s,.int .i64 E])∧BytesIn w' s L Z∧Below w.heap.size w w':=by
 have hn:=fun s W hs hb=>rNew_good s iv m S info hS hi hm W hs (hiv.keep hb)
 have hc:=fun g W (hb:Below w.heap.size w W) h=>rctxOpen g 0 (ckN lKey 16 S m info) (ckN lBn 12 S m info) (ckN lExp 32 S m info) (ckN_lt _ _ _ _ _) mv tv L Z E (by decide) W h (fun kv nv W' hb' hk hv=>ha kv nv W' (below_next hb hb') hk hv)
 generalize ckN lKey 16 S m info=K at *
 generalize ckN lBn 12 S m info=N at *
 generalize ckN lExp 32 S m info=X at *
 clear hiv ha
 go_enter Tryz.func38,Tryz.ntmps38
 go_wp2_with (first
  | (go_at_call 81;refine c.mono ?_;clear c;rintro e w1 ⟨s1,rfl,o1,b1⟩;(have n1:=hn s1 w1 o1 b1);clear hn)
  | (go_at_call 77;refine n1.mono ?_;clear n1;rintro e w2 ⟨g2,rfl,hg2,x2,hb2⟩;(have b2:=below_next b1 hb2);(have c2:=hc g2 w2 b2 x2);(have l2:w.heap.size≤g2:=Nat.le_trans b1.size hg2);clear hc)
  | (go_at_call 82;refine c2.mono ?_;clear c2;rintro e w3 ⟨s3,rfl,o3,-,u3⟩))
 go_ret2
 exact ⟨_,rfl,o3,b2.trans (u3.below l2 b2.size)⟩
end Go.Proofs.YtibdhadbflfdpaaGreatDoor
namespace Go.Proofs.YtibdhadbflfdpaaGreatDoor
open Go.RowKit
theorem cNew_size (v u:Value) (m:Nat) (s info:Nat→Nat) (h:65536<m) (w:World) (hv:BytesIn w v 32 s) (hu:BytesIn w u m info) :
 Calls Tryz.prog 139 #[v,u] w fun e w'=>e = .returned (.tuple #[.pointer none,.int .i64 6])∧Below w.heap.size w w':=by
 obtain ⟨x1,c1,rfl,-,-,-⟩:=hv.src
 obtain ⟨x2,c2,rfl,-,-,-⟩:=hu.src
 have h2:(65536:Int)<(m:Int):=by omega
 go_enter Tryz.func139,Tryz.ntmps139
 go_wp2
 go_ret2
 exact ⟨rfl,Below.refl _ _⟩
set_option maxRecDepth 20000 in
set_option maxHeartbeats 4000000 in
theorem cNew_good (v u:Value) (m:Nat) (s info:Nat→Nat) (hs:∀ j,s j<256) (hi:∀ j,info j<256) (hm:m≤65536) (w:World) (hT:HTab w cubeK squareK) (hv:BytesIn w v 32 s) (hu:BytesIn w u m info) :
 Calls Tryz.prog 139 #[v,u] w fun e w'=>∃ g,e = .returned (.tuple #[.pointer (some ⟨g,0,none⟩),.int .i64 0])∧w.heap.size≤g∧CCtx w' g (ckN lKey 16 s m info) (ckN lBn 12 s m info) (ckN lExp 32 s m info) 0∧Below w.heap.size w w':=by
 have ck:=keysOf_any v u m s info hs hi hm w hT hv hu
 obtain ⟨x1,c1,rfl,-,-,-⟩:=hv.src
 obtain ⟨x2,c2,rfl,-,-,-⟩:=hu.src
 have n2:¬((65536:Int)<(m:Int)):=by omega
 generalize ckN lKey 16 s m info=Y1 at ck ⊢
 generalize ckN lBn 12 s m info=Y2 at ck ⊢
 generalize ckN lExp 32 s m info=Y3 at ck ⊢
 clear hv hu hT
 go_enter Tryz.func139,Tryz.ntmps139
 go_wp2_with (go_at_call 194;refine ck.mono ?_;clear ck;rintro e w1 ⟨gk,gu,gx,rfl,r1,r2,r3,b1⟩)
 go_ret2
 have hb:=(Below.refl w1.heap.size w1).alloc (Nat.le_refl _) (.cells #[.slice (some ⟨gk,0,none⟩) 16 16,.slice (some ⟨gu,0,none⟩) 12 12,.slice (some ⟨gx,0,none⟩) 32 32,.int .u64 0] 220)
 exact ⟨w1.heap.size,rfl,b1.size,⟨gk,gu,gx,RW.fresh w1 [_,_,_,_] _,r1.stay (by decide) hb,r2.stay (by decide) hb,r3.stay (by decide) hb⟩,below_next b1 hb⟩
theorem onceSeal_stop (sv iv mv tv:Value) (E:Int) (hE:¬E=0) (w:World) (c:Calls Tryz.prog 139 #[sv,iv] w fun e w'=>e = .returned (.tuple #[.pointer none,.int .i64 E])∧Below w.heap.size w w') :
 Calls Tryz.prog 74 #[.func (.func 75) #[] #[],sv,iv,mv,tv] w fun e w'=>e = .returned (.tuple #[.slice none 0 0,.int .i64 E])∧Below w.heap.size w w':=by
 go_enter Tryz.func74,Tryz.ntmps74
 go_wp2_with (go_at_call 139;refine c.mono ?_;clear c;rintro e w1 ⟨rfl,b1⟩)
 go_ret2
 exact ⟨rfl,b1⟩
set_option maxRecDepth 20000 in
set_option maxHeartbeats 2000000 in
theorem onceSeal_on (sv iv mv tv:Value) (m:Nat) (S info:Nat→Nat) (hS:∀ j,S j<256) (hi:∀ j,info j<256) (hm:m≤65536) (L:Nat) (Z:Nat→Nat) (E:Int) (hE:E=0∨L=0) (w:World) (hT:HTab w cubeK squareK) (hsv:BytesIn w sv 32 S) (hiv:BytesIn w iv m info)
 (ha:∀ kv nv W,Below w.heap.size w W→BytesIn W kv 16 (ckN lKey 16 S m info)→BytesIn W nv 12 (ncN (ckN lBn 12 S m info) 0)→AnsC 141 #[kv,nv,mv,tv] W L Z E) :
 AnsC 74 #[.func (.func 75) #[] #[],sv,iv,mv,tv] w L Z E:=by
 have hn:=cNew_good sv iv m S info hS hi hm w hT hsv hiv
 have hc:=fun g W (hb:Below w.heap.size w W) h=>cSeal g 0 (ckN lKey 16 S m info) (ckN lBn 12 S m info) (ckN lExp 32 S m info) (ckN_lt _ _ _ _ _) mv tv L Z E hE (by decide) W h (fun kv nv W' hb' hk hv=>ha kv nv W' (below_next hb hb') hk hv)
 generalize ckN lKey 16 S m info=K at *
 generalize ckN lBn 12 S m info=N at *
 generalize ckN lExp 32 S m info=X at *
 clear hiv hsv ha hT hE
 go_enter Tryz.func74,Tryz.ntmps74
 go_wp2_with (first
  | (go_at_call 139;refine hn.mono ?_;clear hn;rintro e w2 ⟨g2,rfl,hg2,x2,b2⟩;(have c2:=hc g2 w2 b2 x2);clear hc)
  | (go_at_call 75;refine c2.mono ?_;clear c2;rintro e w3 ⟨s3,rfl,o3,-,u3⟩))
 go_ret2
 exact ⟨_,rfl,o3,b2.trans (u3.below hg2 b2.size)⟩
theorem onceOpen_stop (sv iv mv tv:Value) (E:Int) (hE:¬E=0) (w:World) (c:Calls Tryz.prog 139 #[sv,iv] w fun e w'=>e = .returned (.tuple #[.pointer none,.int .i64 E])∧Below w.heap.size w w') :
 Calls Tryz.prog 74 #[.func (.func 80) #[] #[],sv,iv,mv,tv] w fun e w'=>e = .returned (.tuple #[.slice none 0 0,.int .i64 E])∧Below w.heap.size w w':=by
 go_enter Tryz.func74,Tryz.ntmps74
 go_wp2_with (go_at_call 139;refine c.mono ?_;clear c;rintro e w1 ⟨rfl,b1⟩)
 go_ret2
 exact ⟨rfl,b1⟩
set_option maxRecDepth 20000 in
set_option maxHeartbeats 2000000 in
theorem onceOpen_on (sv iv mv tv:Value) (m:Nat) (S info:Nat→Nat) (hS:∀ j,S j<256) (hi:∀ j,info j<256) (hm:m≤65536) (L:Nat) (Z:Nat→Nat) (E:Int) (hE:E=0∨L=0) (w:World) (hT:HTab w cubeK squareK) (hsv:BytesIn w sv 32 S) (hiv:BytesIn w iv m info)
 (ha:∀ kv nv W,Below w.heap.size w W→BytesIn W kv 16 (ckN lKey 16 S m info)→BytesIn W nv 12 (ncN (ckN lBn 12 S m info) 0)→AnsC 148 #[kv,nv,mv,tv] W L Z E) :
 AnsC 74 #[.func (.func 80) #[] #[],sv,iv,mv,tv] w L Z E:=by
 have hn:=cNew_good sv iv m S info hS hi hm w hT hsv hiv
 have hc:=fun g W (hb:Below w.heap.size w W) h=>cOpen g 0 (ckN lKey 16 S m info) (ckN lBn 12 S m info) (ckN lExp 32 S m info) (ckN_lt _ _ _ _ _) mv tv L Z E hE (by decide) W h (fun kv nv W' hb' hk hv=>ha kv nv W' (below_next hb hb') hk hv)
 generalize ckN lKey 16 S m info=K at *
 generalize ckN lBn 12 S m info=N at *
 generalize ckN lExp 32 S m info=X at *
 clear hiv hsv ha hT hE
 go_enter Tryz.func74,Tryz.ntmps74
 go_wp2_with (first
  | (go_at_call 139;refine hn.mono ?_;clear hn;rintro e w2 ⟨g2,rfl,hg2,x2,b2⟩;(have c2:=hc g2 w2 b2 x2);clear hc)
  | (go_at_call 80;refine c2.mono ?_;clear c2;rintro e w3 ⟨s3,rfl,o3,-,u3⟩))
 go_ret2
 exact ⟨_,rfl,o3,b2.trans (u3.below hg2 b2.size)⟩
theorem cSealTo_stop (u v iv mv tv:Value) (E:Int) (hE:¬E=0) (w:World) (c:Calls Tryz.prog 73 #[u,v] w fun e w'=>∃ s p,e = .returned (.tuple #[s,p,.int .i64 E])∧Below w.heap.size w w') :
 Calls Tryz.prog 35 #[u,v,iv,mv,tv] w fun e w'=>e = .returned (.tuple #[.slice none 0 0,.slice none 0 0,.int .i64 E])∧Below w.heap.size w w':=by
 go_enter Tryz.func35,Tryz.ntmps35
 go_wp2_with (go_at_call 73;refine c.mono ?_;clear c;rintro e w1 ⟨s1,p1,rfl,b1⟩)
 go_ret3
 exact ⟨rfl,b1⟩
set_option maxRecDepth 20000 in
set_option maxHeartbeats 2000000 in
theorem cSealTo_on (u v iv mv tv:Value) (S P:Nat→Nat) (L:Nat) (Z:Nat→Nat) (E:Int) (w:World) (c:Calls Tryz.prog 73 #[u,v] w fun e w'=>∃ s p,e = .returned (.tuple #[s,p,.int .i64 0])∧BytesIn w' s 32 S∧BytesIn w' p 32 P∧Below w.heap.size w w')
 (ha:∀ sv W,Below w.heap.size w W→BytesIn W sv 32 S→AnsC 74 #[.func (.func 75) #[] #[],sv,iv,mv,tv] W L Z E) :
 Calls Tryz.prog 35 #[u,v,iv,mv,tv] w fun e w'=>(if E=0 then ∃ p s,e = .returned (.tuple #[p,s,.int .i64 0])∧BytesIn w' p 32 P∧BytesIn w' s L Z else e = .returned (.tuple #[.slice none 0 0,.slice none 0 0,.int .i64 E]))∧Below w.heap.size w w':=by
 go_enter Tryz.func35,Tryz.ntmps35
 go_upto_region 5 with (first
  | (go_at_call 73;refine c.mono ?_;clear c;rintro e w1 ⟨s1,p1,rfl,o1,q1,b1⟩;(have n1:=ha s1 w1 b1 o1);clear ha)
  | (go_at_call 74;refine n1.mono ?_;clear n1;rintro e w2 ⟨s2,rfl,o2,hb2⟩;(have b2:=below_next b1 hb2);(replace q1:=q1.keep hb2)))
 by_cases h0:E=0
 · subst h0
   go_wp2
   go_ret3
   exact ⟨⟨_,_,rfl,q1,o2⟩,b2⟩
 · go_wp2
   go_ret3
   exact ⟨rfl,b2⟩
theorem cOpenBy_stop (u v iv mv tv:Value) (E:Int) (hE:¬E=0) (w:World) (c:Calls Tryz.prog 79 #[u,v] w fun e w'=>∃ s,e = .returned (.tuple #[s,.int .i64 E])∧Below w.heap.size w w') :
 Calls Tryz.prog 37 #[u,v,iv,mv,tv] w fun e w'=>e = .returned (.tuple #[.slice none 0 0,.int .i64 E])∧Below w.heap.size w w':=by
 go_enter Tryz.func37,Tryz.ntmps37
 go_wp2_with (go_at_call 79;refine c.mono ?_;clear c;rintro e w1 ⟨s1,rfl,b1⟩)
 go_ret2
 exact ⟨rfl,b1⟩
set_option maxRecDepth 20000 in
set_option maxHeartbeats 2000000 in
theorem cOpenBy_on (u v iv mv tv:Value) (S:Nat→Nat) (L:Nat) (Z:Nat→Nat) (E:Int) (w:World) (c:Calls Tryz.prog 79 #[u,v] w fun e w'=>∃ s,e = .returned (.tuple #[s,.int .i64 0])∧BytesIn w' s 32 S∧Below w.heap.size w w')
 (ha:∀ sv W,Below w.heap.size w W→BytesIn W sv 32 S→AnsC 74 #[.func (.func 80) #[] #[],sv,iv,mv,tv] W L Z E) :
 AnsC 37 #[u,v,iv,mv,tv] w L Z E:=by
 go_enter Tryz.func37,Tryz.ntmps37
 go_wp2_with (first
  | (go_at_call 79;refine c.mono ?_;clear c;rintro e w1 ⟨s1,rfl,o1,b1⟩;(have n1:=ha s1 w1 b1 o1);clear ha)
  | (go_at_call 74;refine n1.mono ?_;clear n1;rintro e w2 ⟨s2,rfl,o2,hb2⟩))
 go_ret2
 exact ⟨_,rfl,o2,below_next b1 hb2⟩
end Go.Proofs.YtibdhadbflfdpaaGreatDoor
namespace Go.Proofs.YtibdhadbflfdpaaGreatDoor
open Go.RowKit
theorem if_ansE {f:FuncId} {args:Array Value} {w:World} {P Z:Nat→Nat} {L:Nat} {E:Int} (h0:¬E=0) (c:Calls Tryz.prog f args w fun e w'=>(if E=0 then ∃ p s,e = .returned (.tuple #[p,s,.int .i64 0])∧BytesIn w' p 32 P∧BytesIn w' s L Z else e = .returned (.tuple #[.slice none 0 0,.slice none 0 0,.int .i64 E]))∧Below w.heap.size w w'):AnsE f args w 0 lZ 0 lZ E :=
 ansE_nil (c.mono fun _ _ ⟨h,hb⟩=>⟨by rwa [if_neg h0] at h,hb⟩)
theorem if_ansE0 {f:FuncId} {args:Array Value} {w:World} {P Z:Nat→Nat} {L:Nat} (c:Calls Tryz.prog f args w fun e w'=>(if (0:Int)=0 then ∃ p s,e = .returned (.tuple #[p,s,.int .i64 0])∧BytesIn w' p 32 P∧BytesIn w' s L Z else e = .returned (.tuple #[.slice none 0 0,.slice none 0 0,.int .i64 0]))∧Below w.heap.size w w'):AnsE f args w 32 P L Z 0 :=
 c.mono fun _ _ ⟨h,hb⟩=>by
  rw [if_pos rfl] at h
  obtain ⟨p,s,he,h1,h2⟩:=h
  exact ⟨p,s,he,h1,h2,hb⟩
theorem sealto_both (pn m il ml n:Nat) (x ikm info M T:Nat→Nat) (hx:∀ j,x j<256) (hikm:∀ j,ikm j<256) (hi:∀ j,info j<256) (hM:∀ j,M j<256) (hT:∀ j,T j<256) (hm:m+300<140737488355000) :
 ∃ L A N B E,(∀ j,A j<256)∧(∀ j,B j<256)∧(∀ u v iv mv tv W,HTab W cubeK squareK→BytesIn W u pn x→BytesIn W v m ikm→BytesIn W iv il info→BytesIn W mv ml M→BytesIn W tv n T→AnsE 35 #[u,v,iv,mv,tv] W L A N B E)∧(∀ u v iv mv tv W,BytesIn W u pn x→BytesIn W v m ikm→BytesIn W iv il info→BytesIn W mv ml M→BytesIn W tv n T→AnsE 36 #[u,v,iv,mv,tv] W L A N B E):=by
 obtain ⟨L1,A1,L2,A2,E1,lA1,lA2,ec,er,hc⟩:=encap_both pn m x ikm hx hikm hm
 rcases hc with ⟨hE,rfl,rfl⟩ | ⟨rfl,rfl,rfl⟩
 · exact ⟨0,lZ,0,lZ,E1,lZ_lt,lZ_lt,fun u v iv mv tv W hW hu hv _ _ _=>ansE_nil (cSealTo_stop u v iv mv tv E1 hE W ((ec u v W hW hu hv).mono fun _ _ ⟨s,p,he,_,_,hb⟩=>⟨s,p,he,hb⟩)),fun u v iv mv tv W hu hv _ _ _=>ansE_nil (rSealTo_stop u v iv mv tv E1 hE W ((er u v W hu hv).mono fun _ _ ⟨s,p,he,_,_,hb⟩=>⟨s,p,he,hb⟩))⟩
 · by_cases h6:il≤65536
   · obtain ⟨N,Z,E,lZ',s1,s2,hE⟩:=seal_bothE 16 12 ml n (ckN lKey 16 A1 il info) (ncN (ckN lBn 12 A1 il info) 0) M T (ckN_lt _ _ _ _ _) (ncN_lt (ckN_lt _ _ _ _ _) 0) hM hT
     have c:∀ u v iv mv tv W,HTab W cubeK squareK→BytesIn W u pn x→BytesIn W v m ikm→BytesIn W iv il info→BytesIn W mv ml M→BytesIn W tv n T→_:=fun u v iv mv tv W hW hu hv hiv hmv htv=>cSealTo_on u v iv mv tv A1 A2 N Z E W (ec u v W hW hu hv) (fun sv W' hb hs=>onceSeal_on sv iv mv tv il A1 info lA1 hi h6 N Z E hE W' (hW.keep hb) hs (hiv.keep hb) (fun kv nv W2 hb2 hk hn=>s1 kv nv mv tv W2 hk hn (hmv.keep (below_next hb hb2)) (htv.keep (below_next hb hb2))))
     have r:∀ u v iv mv tv W,BytesIn W u pn x→BytesIn W v m ikm→BytesIn W iv il info→BytesIn W mv ml M→BytesIn W tv n T→_:=fun u v iv mv tv W hu hv hiv hmv htv=>rSealTo_on u v iv mv tv il A1 A2 info lA1 hi h6 N Z E W hiv (er u v W hu hv) (fun kv nv W2 hb2 hk hn=>s2 kv nv mv tv W2 hk hn (hmv.keep hb2) (htv.keep hb2))
     by_cases h0:E=0
     · subst h0
       exact ⟨32,A2,N,Z,0,lA2,lZ',fun u v iv mv tv W hW hu hv hiv hmv htv=>if_ansE0 (c u v iv mv tv W hW hu hv hiv hmv htv),fun u v iv mv tv W hu hv hiv hmv htv=>if_ansE0 (r u v iv mv tv W hu hv hiv hmv htv)⟩
     · exact ⟨0,lZ,0,lZ,E,lZ_lt,lZ_lt,fun u v iv mv tv W hW hu hv hiv hmv htv=>if_ansE h0 (c u v iv mv tv W hW hu hv hiv hmv htv),fun u v iv mv tv W hu hv hiv hmv htv=>if_ansE h0 (r u v iv mv tv W hu hv hiv hmv htv)⟩
   · exact ⟨0,lZ,0,lZ,6,lZ_lt,lZ_lt,fun u v iv mv tv W hW hu hv hiv _ _=>if_ansE (by decide) (cSealTo_on u v iv mv tv A1 A2 0 lZ 6 W (ec u v W hW hu hv) (fun sv W' hb hs=>(onceSeal_stop sv iv mv tv 6 (by decide) W' (cNew_size sv iv il A1 info (by omega) W' hs (hiv.keep hb))).mono fun _ _ ⟨he,hb'⟩=>⟨_,he,BytesIn.nil0 _ _,hb'⟩)),fun u v iv mv tv W hu hv hiv _ _=>ansE_nil (rSealTo_size u v iv mv tv il A1 A2 info (by omega) W hiv (er u v W hu hv))⟩
theorem openby_both (n m il ml tl:Nat) (k x info M T:Nat→Nat) (hk:∀ j,k j<256) (hx:∀ j,x j<256) (hi:∀ j,info j<256) (hM:∀ j,M j<256) (hT:∀ j,T j<256) :
 ∃ L A E,(∀ j,A j<256)∧(∀ u v iv mv tv W,HTab W cubeK squareK→BytesIn W u n k→BytesIn W v m x→BytesIn W iv il info→BytesIn W mv ml M→BytesIn W tv tl T→AnsD 37 #[u,v,iv,mv,tv] W L A E)∧(∀ u v iv mv tv W,BytesIn W u n k→BytesIn W v m x→BytesIn W iv il info→BytesIn W mv ml M→BytesIn W tv tl T→AnsD 38 #[u,v,iv,mv,tv] W L A E):=by
 obtain ⟨L1,A1,E1,lA1,dc,dr,hc⟩:=decap_both n m k x hk hx
 rcases hc with ⟨hE,rfl⟩ | ⟨rfl,rfl⟩
 · exact ⟨0,lZ,E1,lZ_lt,fun u v iv mv tv W hW hu hv _ _ _=>ansD_nil (cOpenBy_stop u v iv mv tv E1 hE W ((dc u v W hW hu hv).mono fun _ _ ⟨s,he,_,hb⟩=>⟨s,he,hb⟩)),fun u v iv mv tv W hu hv _ _ _=>ansD_nil (rOpenBy_stop u v iv mv tv E1 hE W ((dr u v W hu hv).mono fun _ _ ⟨s,he,_,hb⟩=>⟨s,he,hb⟩))⟩
 · by_cases h6:il≤65536
   · obtain ⟨N,Z,E,lZ',s1,s2,hE⟩:=open_bothE 16 12 ml tl (ckN lKey 16 A1 il info) (ncN (ckN lBn 12 A1 il info) 0) M T (ckN_lt _ _ _ _ _) (ncN_lt (ckN_lt _ _ _ _ _) 0) hM hT
     exact ⟨N,Z,E,lZ',fun u v iv mv tv W hW hu hv hiv hmv htv=>cOpenBy_on u v iv mv tv A1 N Z E W (dc u v W hW hu hv) (fun sv W' hb hs=>onceOpen_on sv iv mv tv il A1 info lA1 hi h6 N Z E hE W' (hW.keep hb) hs (hiv.keep hb) (fun kv nv W2 hb2 hk hn=>s1 kv nv mv tv W2 hk hn (hmv.keep (below_next hb hb2)) (htv.keep (below_next hb hb2)))),fun u v iv mv tv W hu hv hiv hmv htv=>rOpenBy_on u v iv mv tv il A1 info lA1 hi h6 N Z E W hiv (dr u v W hu hv) (fun kv nv W2 hb2 hk hn=>s2 kv nv mv tv W2 hk hn (hmv.keep hb2) (htv.keep hb2))⟩
   · exact ⟨0,lZ,6,lZ_lt,fun u v iv mv tv W hW hu hv hiv _ _=>cOpenBy_on u v iv mv tv A1 0 lZ 6 W (dc u v W hW hu hv) (fun sv W' hb hs=>(onceOpen_stop sv iv mv tv 6 (by decide) W' (cNew_size sv iv il A1 info (by omega) W' hs (hiv.keep hb))).mono fun _ _ ⟨he,hb'⟩=>⟨_,he,BytesIn.nil0 _ _,hb'⟩),fun u v iv mv tv W hu hv hiv _ _=>ansD_nil (rOpenBy_size u v iv mv tv il A1 info (by omega) W hiv (dr u v W hu hv))⟩
end Go.Proofs.YtibdhadbflfdpaaGreatDoor
