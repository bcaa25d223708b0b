/- What the proof stands on: V6C, D1RQ, D1RS, D1RT. -/
import Derived.Test.YtibmlmmoifgliaaGreatDoorHExpandM
import Derived.Test.YtibmlmmoifgliaaGreatDoorL5E
import Derived.Test.YtibmlmmoifgliaaGreatDoorRWkM
import Derived.Test.YtibmlmmoifgliaaGreatDoorV6AM
namespace Go.Proofs.YtibmlmmoifgliaaGreatDoor
open Go.RowKit
def xtN (n:Nat) (bs:Nat→Nat) (m:Nat) (t:Nat→Nat):Nat→Nat:=tagH (keyB n bs) m t
theorem xtN_lt (n:Nat) (bs:Nat→Nat) (m:Nat) (t:Nat→Nat) (j:Nat):xtN n bs m t j<256:=tagH_lt _ _ _ j
theorem row32 {w:World} {g:Nat} {X:Nat→Nat} (h:RowAt .u8 w g 0 32 X):BytesIn w (.slice (some ⟨g,0,none⟩) 32 32) 32 X:=row5 h
theorem cXt_any (v tv:Value) (n m:Nat) (bs t:Nat→Nat) (hbs:∀ j,bs j<256) (ht:∀ j,t j<256) (hnb:n<140737488355000) (hm:m<140737488355000) (w:World) (hT:TabAt w) (hv:BytesIn w v n bs) (htv:BytesIn w tv m t) :
 Calls Tryz.prog 49 #[v,tv] w fun e w'=>∃ x c,e = .returned (.slice x 32 c)∧BytesIn w' (.slice x 32 c) 32 (xtN n bs m t)∧Below w.heap.size w w' :=
 (extract_any v tv n m bs t hbs ht (by omega) (by omega) w hT.h hv htv).mono fun _ _ ⟨g,h1,_,h3,h4⟩=>⟨_,_,h1,row32 h3,h4⟩
theorem cHm_any (v tv:Value) (n m:Nat) (bs t:Nat→Nat) (hbs:∀ j,bs j<256) (ht:∀ j,t j<256) (hnb:n<140737488355000) (hm:m<140737488355000) (w:World) (hT:TabAt w) (hv:BytesIn w v n bs) (htv:BytesIn w tv m t) :
 Calls Tryz.prog 62 #[v,tv] w fun e w'=>∃ x c,e = .returned (.slice x 32 c)∧BytesIn w' (.slice x 32 c) 32 (xtN n bs m t)∧Below w.heap.size w w' :=
 (hmac_any v tv n m bs t hbs ht (by omega) (by omega) w hT.h hv htv).mono fun _ _ ⟨g,h1,_,h3,h4⟩=>⟨_,_,h1,row32 h3,h4⟩
theorem cxD_long (d:CxD) (ok:cxOk d=true):cxL d≤65528:=by have:=(cxL_le ok).2;omega
theorem keyFor_good (l:List Nat) (h:∀ x,x∈l→x<256) (hl:l.length≤65528) (sv:Value) (sn:Nat) (ks:Nat→Nat) (hks:∀ j,ks j<256) (hsn:sn<140737488355000) (cs:List Value) (d:CxD) (hB:cxB d) (ok:cxOk d=true) (w:World) (hT:TabAt w) (h1:BytesIn w sv sn ks) (hc:CxIn w cs d) :
 Calls Tryz.prog 48 #[sv,.string (strL l),.agg cs.toArray] w fun e w'=>∃ x c,e = .returned (.tuple #[.slice x 32 c,.int .i64 0])∧BytesIn w' (.slice x 32 c) 32 (exN sn ks l (cxL d) (cxT d) 32)∧Below w.heap.size w w':=by
 have hp:=fun (W:World) (hb:Below w.heap.size w W)=>putCtx_good cs d hB ok W (hc.keep hb)
 have hx:=fun (W:World) (v:Value) (hb:Below w.heap.size w W) (hv:BytesIn W v (cxL d) (cxT d))=>cExpand_good l h hl sv v sn (cxL d) ks (cxT d) hks (cxT_lt hB) hsn (cxD_long d ok) 32 (by decide) W (hT.still hb).h (h1.keep hb) hv
 replace hx:∀ (W:World) (v:Value),Below w.heap.size w W→BytesIn W v (cxL d) (cxT d)→Calls Tryz.prog 57 #[sv,.string (strL l),v,.int .i64 32] W _:=hx
 obtain ⟨S,hS⟩:∃ S,S=strL l:=⟨_,rfl⟩
 obtain ⟨E,hE⟩:∃ E,E=exN sn ks l (cxL d) (cxT d) 32:=⟨_,rfl⟩
 replace hx:∀ (W:World) (v:Value),Below w.heap.size w W→BytesIn W v (cxL d) (cxT d)→Calls Tryz.prog 57 #[sv,.string S,v,.int .i64 32] W fun e w'=>∃ s,e = .returned (.tuple #[s,.int .i64 0])∧BytesIn w' s 32 E∧Below W.heap.size W w':=by rw [hS,hE];exact hx
 obtain ⟨L,hL⟩:∃ L,L=cxL d:=⟨_,rfl⟩
 obtain ⟨F,hF⟩:∃ F,F=cxT d:=⟨_,rfl⟩
 rw [←hL,←hF] at hx hp
 rw [←hS,←hE]
 clear hS hE hL hF hT h1 ok
 obtain ⟨v0,v1,v2,rfl,g0,g1,g2⟩:=hc
 obtain ⟨x0,c0,rfl,-⟩:=g0.src
 obtain ⟨x1,c1,rfl,-⟩:=g1.src
 obtain ⟨x2,c2,rfl,-⟩:=g2.src
 obtain ⟨N,hN⟩:∃ N,N=d.e:=⟨_,rfl⟩
 rw [←hN] at hp ⊢
 obtain ⟨n0,hn0⟩:∃ N,N=d.gn:=⟨_,rfl⟩
 obtain ⟨n1,hn1⟩:∃ N,N=d.tn:=⟨_,rfl⟩
 obtain ⟨n2,hn2⟩:∃ N,N=d.rn:=⟨_,rfl⟩
 rw [←hn0,←hn1,←hn2] at hp ⊢
 clear hN g0 g1 g2 hB hn0 hn1 hn2
 have b1:Below w.heap.size w (w.alloc (.cells #[.slice x0 n0 c0,.int .i64 N,.slice x1 n1 c1,.slice x2 n2 c2] 26)):=(Below.refl _ _).alloc (Nat.le_refl _) _
 replace hp:=hp _ b1
 have B1:=Hid.mk' b1
 clear b1
 go_enter Tryz.func48,Tryz.ntmps48
 go_wp2_with (first
  | (go_at_call 8;refine hp.mono ?_;clear hp;rintro e w2 ⟨s2,rfl,o2,hb2⟩;have b2:=below_next B1.out hb2;have B2:=o2.bytesIn;(obtain ⟨x3,c3,hs2⟩:=o2.slice);subst hs2)
  | (go_at_call 57;refine (hx w2 _ b2 B2).mono ?_;clear hx;rintro e w3 ⟨s3,rfl,B3,hb3⟩;(obtain ⟨x4,c4,hs3,-⟩:=B3.src);subst hs3))
 go_ret2
 exact ⟨_,_,rfl,B3,below_next b2 hb3⟩
def lWel:List Nat:=[119,101,108,99,111,109,101]
theorem welcomeOf_any (sv:Value) (sn:Nat) (ks:Nat→Nat) (hks:∀ j,ks j<256) (hsn:sn<140737488355000) (w:World) (hT:TabAt w) (h1:BytesIn w sv sn ks) :
 Calls Tryz.prog 52 #[sv] w fun e w'=>∃ x c,e = .returned (.slice x 32 c)∧BytesIn w' (.slice x 32 c) 32 (exN sn ks lWel 0 lZ 32)∧Below w.heap.size w w':=by
 have hd:=cDerive_good5 lWel (by decide) (by decide) sv sn ks hks hsn w hT.h h1
 replace hd:Calls Tryz.prog 55 #[sv,.string { data:=#[119,101,108,99,111,109,101] }] w _:=hd
 obtain ⟨E,hE⟩:∃ E,E=exN sn ks lWel 0 lZ 32:=⟨_,rfl⟩
 rw [←hE] at hd ⊢
 clear hE hT h1
 go_enter Tryz.func52,Tryz.ntmps52
 go_wp2_with (go_at_call 55;refine hd.mono ?_;clear hd;rintro e w1 ⟨s1,rfl,B1,b1⟩;(obtain ⟨x1,c1,hs1,-⟩:=B1.src);subst hs1)
 go_ret
 exact ⟨_,_,rfl,B1,b1⟩
end Go.Proofs.YtibmlmmoifgliaaGreatDoor
namespace Go.Proofs.YtibmlmmoifgliaaGreatDoor
open Go.RowKit
theorem BytesIn.put_i64 {w:World} {v:Value} {n g o:Nat} {X:Nat→Nat} {z:Int} (h:BytesIn w v n X) (hc:w.cell? ⟨g,o,none⟩=some (.int .i64 z)) (u:Value):BytesIn (w.setCell ⟨g,o,none⟩ u) v n X:=by
 rcases h with h | ⟨bb,ob,cap,rfl,h1,h2,h3⟩
 · exact .inl h
 · refine .inr ⟨bb,ob,cap,rfl,by rw [World.size_setCell];exact h1,h2,fun j hj => ?_⟩
   have hne:(⟨g,o,none⟩:Addr)≠⟨bb,ob+j,none⟩:=fun e=>by
    rw [e,h3 j hj] at hc
    cases hc
   rw [World.cell?_setCell_other _ _ _ _ hne]
   exact h3 j hj
theorem RW.put {w:World} {g:Nat} {vs:List Value} (r:RW w g 0 vs) (i:Nat) (hi:i<vs.length) (y:Value):RW (w.setCell ⟨g,i,none⟩ y) g 0 (vs.set i y):=by
 have c:w.cell? ⟨g,i,none⟩=some vs[i]:=by
  have:=r.range i vs[i] (List.getElem?_eq_getElem hi)
  rwa [Nat.zero_add] at this
 refine ⟨fun j v hv => ?_,fun j hj => ?_,by rw [World.size_setCell];exact r.lt⟩
 · by_cases e:j=i
   · subst e
     rw [List.getElem?_set_self hi] at hv
     cases hv
     rw [Nat.zero_add]
     exact World.cell?_setCell_same _ _ _ c
   · have hne:(⟨g,i,none⟩:Addr)≠⟨g,0+j,none⟩:=fun e'=>by injection e';omega
     rw [World.cell?_setCell_other _ _ _ _ hne]
     refine r.range j v ?_
     rw [List.getElem?_set_ne (fun e'=>e e'.symm)] at hv
     exact hv
 · rw [List.length_set] at hj
   rw [World.frozen?_setCell]
   refine ⟨?_,(r.there j hj).2⟩
   by_cases e:j=i
   · subst e
     rw [Nat.zero_add,World.cell?_setCell_same _ _ _ c];rfl
   · have hne:(⟨g,i,none⟩:Addr)≠⟨g,0+j,none⟩:=fun e'=>by injection e';omega
     rw [World.cell?_setCell_other _ _ _ _ hne]
     exact (r.there j hj).1
theorem RdR.setAt {w:World} {g L:Nat} {B:Nat→Nat} {r:Rd} (h:RdR w g L B r) (a:Nat) (ha:a≤L):RdR (w.setCell ⟨g,1,none⟩ (.int .i64 (a:Int))) g L B ⟨a,r.e⟩:=by
 obtain ⟨v,rr,hv,-⟩:=h
 exact ⟨v,rr.put 1 (by show 1<3;decide) _,hv.put_i64 (rr.range 1 _ rfl) _,ha⟩
theorem RdR.setE {w:World} {g L:Nat} {B:Nat→Nat} {r:Rd} (h:RdR w g L B r) (e:Int):RdR (w.setCell ⟨g,2,none⟩ (.int .i64 e)) g L B ⟨r.at_,e⟩:=by
 obtain ⟨v,rr,hv,ha⟩:=h
 exact ⟨v,rr.put 2 (by show 2<3;decide) _,hv.put_i64 (rr.range 2 _ rfl) _,ha⟩
theorem RdR.f1 {w:World} {g L:Nat} {B:Nat→Nat} {r:Rd} (h:RdR w g L B r):w.cell? ⟨g,1,none⟩=some (.int .i64 (r.at_:Int))∧w.frozen? ⟨g,1,none⟩=false:=by
 obtain ⟨v,rr,hv,ha⟩:=h
 exact ⟨rr.range 1 _ rfl,(rr.there 1 (by show 1<3;decide)).2⟩
theorem RdR.f2 {w:World} {g L:Nat} {B:Nat→Nat} {r:Rd} (h:RdR w g L B r):w.cell? ⟨g,2,none⟩=some (.int .i64 r.e)∧w.frozen? ⟨g,2,none⟩=false:=by
 obtain ⟨v,rr,hv,ha⟩:=h
 exact ⟨rr.range 2 _ rfl,(rr.there 2 (by show 2<3;decide)).2⟩
theorem RdR.le {w:World} {g L:Nat} {B:Nat→Nat} {r:Rd} (h:RdR w g L B r):r.at_≤L:=by
 obtain ⟨v,rr,hv,ha⟩:=h
 exact ha
set_option maxRecDepth 20000 in
set_option maxHeartbeats 4000000 in
theorem rNumR_err (g L:Nat) (B:Nat→Nat) (r:Rd) (s:Int) (he:r.e≠0) (w:World) (h:RdR w g L B r):Calls Tryz.prog 44 #[.pointer (some ⟨g,0,none⟩),.int .i64 s] w fun e w'=>e = .returned (.int .i64 0)∧Below w.heap.size w w':=by
 have c2:=h.f2.1
 generalize r.e=er at *
 clear h
 go_enter Tryz.func44,Tryz.ntmps44
 go_wp2
 go_ret
 exact ⟨rfl,Below.refl _ _⟩
set_option maxRecDepth 20000 in
set_option maxHeartbeats 4000000 in
theorem rNumR_arg (g L:Nat) (B:Nat→Nat) (r:Rd) (s:Int) (he:r.e=0) (hs:szB s=false) (w:World) (h:RdR w g L B r):Calls Tryz.prog 44 #[.pointer (some ⟨g,0,none⟩),.int .i64 s] w fun e w'=>e = .returned (.int .i64 0)∧RdR w' g L B ⟨r.at_,1⟩∧Out g 1 2 w w':=by
 obtain ⟨c2,z2⟩:=h.f2
 rw [he] at c2
 have c:=rsized_any s w
 rw [hs] at c
 have Hh:=Hid.mk' h
 clear h
 go_enter Tryz.func44,Tryz.ntmps44
 go_wp2_with (go_at_call 78;refine c.mono ?_;clear c;rintro e w0 ⟨rfl,hw0⟩;obtain rfl:=hw0.symm)
 go_ret
 exact ⟨rfl,Hh.out.setE 1,Out.setCell _ _ (by decide) (by decide)⟩
set_option maxRecDepth 20000 in
set_option maxHeartbeats 4000000 in
theorem rNumR_end (g L:Nat) (B:Nat→Nat) (r:Rd) (s:Nat) (he:r.e=0) (hs:szB s=true) (hL:L<140737488355000) (hq:L<r.at_+s) (w:World) (h:RdR w g L B r):Calls Tryz.prog 44 #[.pointer (some ⟨g,0,none⟩),.int .i64 s] w fun e w'=>e = .returned (.int .i64 0)∧RdR w' g L B ⟨r.at_,20⟩∧Out g 1 2 w w':=by
 obtain ⟨c2,z2⟩:=h.f2
 rw [he] at c2
 have c:=rsized_any s w
 rw [hs] at c
 have cl:=rLeft11_any g L B r hL w h
 obtain ⟨x,hx⟩:∃ x:Int,x=(L:Int) - (r.at_:Int):=⟨_,rfl⟩
 rw [←hx] at cl
 have t1:x<(s:Int):=by omega
 have Hh:=Hid.mk' h
 have gl:=h.lt
 clear h hx
 go_enter Tryz.func44,Tryz.ntmps44
 go_wp2_with (first
  | (go_at_call 78;refine c.mono ?_;clear c;rintro e w0 ⟨rfl,hw0⟩;obtain rfl:=hw0.symm)
  | (go_at_call 79;refine cl.mono ?_;clear cl;rintro e w1 ⟨rfl,b1⟩;have Hh1:=Hid.mk' (Hh.out.keep b1);obtain ⟨d2,z2'⟩:=Hh1.out.f2))
 go_ret
 exact ⟨rfl,Hh1.out.setE 20,(Out.of_below b1 gl).trans (Out.setCell _ _ (by decide) (by decide))⟩
set_option maxRecDepth 20000 in
set_option maxHeartbeats 4000000 in
theorem rNumR_range (g L:Nat) (B:Nat→Nat) (r:Rd) (he:r.e=0) (hL:L<140737488355000) (hq:r.at_+8≤L) (hB:64≤B r.at_) (w:World) (h:RdR w g L B r):Calls Tryz.prog 44 #[.pointer (some ⟨g,0,none⟩),.int .i64 8] w fun e w'=>e = .returned (.int .i64 0)∧RdR w' g L B ⟨r.at_,11⟩∧Out g 1 2 w w':=by
 obtain ⟨c2,z2⟩:=h.f2
 rw [he] at c2
 have c:=rsized_any 8 w
 rw [show szB 8=true from rfl] at c
 have cl:=rLeft11_any g L B r hL w h
 obtain ⟨x,hx⟩:∃ x:Int,x=(L:Int) - (r.at_:Int):=⟨_,rfl⟩
 rw [←hx] at cl
 have t1:¬x<8:=by omega
 have Hh:=Hid.mk' h
 have gl:=h.lt
 have t3:(64:Int)≤((B r.at_:Nat):Int):=by omega
 have t4:(0:Int)≤(r.at_:Int)∧(r.at_:Int)<(L:Int):=by omega
 have t5:r.at_<L:=by omega
 clear h hx
 go_enter Tryz.func44,Tryz.ntmps44
 go_wp2_with (first
  | (go_at_call 78;refine c.mono ?_;clear c;rintro e w0 ⟨rfl,hw0⟩;obtain rfl:=hw0.symm)
  | (go_at_call 79;refine cl.mono ?_;clear cl;rintro e w1 ⟨rfl,b1⟩;have Hh1:=Hid.mk' (Hh.out.keep b1);obtain ⟨d2,z2'⟩:=Hh1.out.f2))
 have Hd:=Hid.mk' (Hh1.out.keep (below_next (Below.refl w1.heap.size w1) (Below.refl w1.heap.size w1).drew))
 obtain ⟨v,rr,hv,-⟩:=Hd.out
 rcases hv with ⟨xo,rfl,h0⟩ | ⟨bb,ob,cap,rfl,hbb,hc,hcell⟩
 · omega
 have f0:w1.drew.cell? ⟨g,0,none⟩=some (.slice (some ⟨bb,ob,none⟩) L cap):=rr.range 0 _ rfl
 have f1:w1.drew.cell? ⟨g,1,none⟩=some (.int .i64 (r.at_:Int)):=rr.range 1 _ rfl
 have f3:=hcell r.at_ t5
 obtain ⟨d3,z3⟩:=Hd.out.f2
 clear hcell rr hq hB
 obtain ⟨a,ha⟩:∃ a,a=r.at_:=⟨_,rfl⟩
 have HA:=Hid.mk' ha
 rw [←ha] at f1 f3 t3 t4 t5
 clear ha
 obtain ⟨y,hy⟩:∃ y,y=B a:=⟨_,rfl⟩
 rw [←hy] at f3 t3
 clear hy
 go_region
 go_wp2
 go_ret
 exact ⟨rfl,Hd.out.setE 11,(Out.of_below b1.drew gl).trans (Out.setCell _ _ (by decide) (by decide))⟩
theorem nbN_top {B:Nat→Nat} (h:∀ j,B j<256) (a:Nat) (h0:B a<64):∀ s,nbN B a (s+1)<64*256 ^ s
 | 0=>by show 0*256+B (a+0)<_;rw [Nat.add_zero];omega
 | s+1=>by
  have:=nbN_top h a h0 s
  have:=h (a+(s+1))
  show nbN B a (s+1)*256+B (a+(s+1))<64*(256 ^ s*256)
  omega
theorem nbN_small {B:Nat→Nat} (h:∀ j,B j<256) (a s:Nat) (hs:s=1∨s=2∨s=4∨s=8) (h8:¬(s=8∧64≤B a)):∀ k,k≤s→nbN B a k<9223372036854775808:=fun k hk=>by
 by_cases h7:k≤7
 · have h1:=nbN_lt h a k
   have h2:256 ^ k≤256 ^ 7:=Nat.pow_le_pow_right (by decide) h7
   have h3:256 ^ 7<9223372036854775808:=by decide
   omega
 · obtain rfl:k=8:=by omega
   exact Nat.lt_of_lt_of_le (nbN_top h a (by omega) 7) (by decide)
set_option maxRecDepth 20000 in
set_option maxHeartbeats 1000000 in
theorem rNumR_good8 (g L:Nat) (B:Nat→Nat) (lB:∀ j,B j<256) (r:Rd) (he:r.e=0) (hL:L<140737488355000) (hq:r.at_+8≤L) (hB:B r.at_<64) (w:World) (h:RdR w g L B r):Calls Tryz.prog 44 #[.pointer (some ⟨g,0,none⟩),.int .i64 8] w fun e w'=>e = .returned (.int .i64 ((nbN B r.at_ 8:Nat):Int))∧RdR w' g L B ⟨r.at_+8,0⟩∧Out g 1 2 w w':=by
 obtain ⟨c2,z2⟩:=h.f2
 rw [he] at c2
 have c:=rsized_any 8 w
 rw [show szB 8=true from rfl] at c
 have cl:=rLeft11_any g L B r hL w h
 obtain ⟨N,hN⟩:∃ N,N=nbN B r.at_ 8:=⟨_,rfl⟩
 have cn:∀ w1,Below w.heap.size w w1→Calls Tryz.prog 80 #[.pointer (some ⟨g,0,none⟩),.int .i64 8] w1 fun e w'=>e = .returned (.int .i64 (N:Int))∧Below w1.heap.size w1 w':=fun w1 b1=>by
  rw [hN];exact rnumber_any g L 8 B r lB (by decide) hL hq (nbN_small lB r.at_ 8 (by decide) (by omega)) w1 (h.keep b1)
 obtain ⟨x,hx⟩:∃ x:Int,x=(L:Int) - (r.at_:Int):=⟨_,rfl⟩
 rw [←hx] at cl
 have t1:¬x<8:=by omega
 have Hh:=Hid.mk' h
 have gl:=h.lt
 have t4:(0:Int)≤(r.at_:Int)∧(r.at_:Int)<(L:Int):=by omega
 have t5:r.at_<L:=by omega
 rw [←hN]
 obtain ⟨q,hq'⟩:∃ q,q=r.at_+8:=⟨_,rfl⟩
 have hqL:q≤L:=by omega
 have e1:IntKind.i64.wrap ((r.at_:Int)+8)=(q:Int):=by simp only [IntKind.wrap_i64];omega
 have e2:(r.at_:Int)+8=(q:Int):=by omega
 rw [←hq']
 clear h hx hN hq'
 go_enter Tryz.func44,Tryz.ntmps44
 go_wp2_with (first
  | (go_at_call 78;refine c.mono ?_;clear c;rintro e w0 ⟨rfl,hw0⟩;obtain rfl:=hw0.symm)
  | (go_at_call 79;refine cl.mono ?_;clear cl;rintro e w1 ⟨rfl,b1⟩;have Hh1:=Hid.mk' (Hh.out.keep b1);obtain ⟨d2,z2'⟩:=Hh1.out.f2))
 have bd:Below w1.heap.size w1 w1.drew:=(Below.refl _ _).drew
 have Hd:=Hid.mk' (Hh1.out.keep bd)
 obtain ⟨v,rr,hv,-⟩:=Hd.out
 rcases hv with ⟨xo,rfl,h0⟩ | ⟨bb,ob,cap,rfl,hbb,hc,hcell⟩
 · omega
 have f0:w1.drew.cell? ⟨g,0,none⟩=some (.slice (some ⟨bb,ob,none⟩) L cap):=rr.range 0 _ rfl
 have f1:w1.drew.cell? ⟨g,1,none⟩=some (.int .i64 (r.at_:Int)):=rr.range 1 _ rfl
 have f3:=hcell r.at_ t5
 obtain ⟨y,hy⟩:∃ y,y=B r.at_:=⟨_,rfl⟩
 rw [←hy] at f3 hB
 have t7:¬((64:Int)≤(y:Int)):=by omega
 clear hy
 have bw:=below_next b1 bd
 replace cn:=cn w1.drew bw
 clear hcell rr
 obtain ⟨a,ha⟩:∃ a,a=r.at_:=⟨_,rfl⟩
 have HA:=Hid.mk' ha
 rw [←ha] at f1 t4 t5 e1 e2 f3
 clear ha
 go_region
 go_wp2_with (go_at_call 80;refine cn.mono ?_;clear cn;rintro e w2 ⟨rfl,b2⟩;have Hh2:=Hid.mk' (Hd.out.keep b2);obtain ⟨k1,y1⟩:=Hh2.out.f1;rw [←HA.out] at k1)
 go_ret
 have k:=Hh2.out.setAt q hqL
 rw [he] at k
 exact ⟨rfl,k,(Out.of_below (below_next bw b2) gl).trans (Out.setCell _ _ (by decide) (by decide))⟩
set_option maxRecDepth 20000 in
set_option maxHeartbeats 1000000 in
theorem rNumR_good1 (g L:Nat) (B:Nat→Nat) (lB:∀ j,B j<256) (r:Rd) (he:r.e=0) (hL:L<140737488355000) (hq:r.at_+1≤L) (w:World) (h:RdR w g L B r):Calls Tryz.prog 44 #[.pointer (some ⟨g,0,none⟩),.int .i64 1] w fun e w'=>e = .returned (.int .i64 ((nbN B r.at_ 1:Nat):Int))∧RdR w' g L B ⟨r.at_+1,0⟩∧Out g 1 2 w w':=by
 obtain ⟨c2,z2⟩:=h.f2
 rw [he] at c2
 have c:=rsized_any 1 w
 rw [show szB 1=true from rfl] at c
 have cl:=rLeft11_any g L B r hL w h
 obtain ⟨N,hN⟩:∃ N,N=nbN B r.at_ 1:=⟨_,rfl⟩
 have cn:∀ w1,Below w.heap.size w w1→Calls Tryz.prog 80 #[.pointer (some ⟨g,0,none⟩),.int .i64 1] w1 fun e w'=>e = .returned (.int .i64 (N:Int))∧Below w1.heap.size w1 w':=fun w1 b1=>by
  rw [hN];exact rnumber_any g L 1 B r lB (by decide) hL hq (nbN_small lB r.at_ 1 (by decide) (by omega)) w1 (h.keep b1)
 obtain ⟨x,hx⟩:∃ x:Int,x=(L:Int) - (r.at_:Int):=⟨_,rfl⟩
 rw [←hx] at cl
 have t1:¬x<1:=by omega
 have Hh:=Hid.mk' h
 have gl:=h.lt
 have t4:(0:Int)≤(r.at_:Int)∧(r.at_:Int)<(L:Int):=by omega
 have t5:r.at_<L:=by omega
 rw [←hN]
 obtain ⟨q,hq'⟩:∃ q,q=r.at_+1:=⟨_,rfl⟩
 have hqL:q≤L:=by omega
 have e1:IntKind.i64.wrap ((r.at_:Int)+1)=(q:Int):=by simp only [IntKind.wrap_i64];omega
 have e2:(r.at_:Int)+1=(q:Int):=by omega
 rw [←hq']
 clear h hx hN hq'
 go_enter Tryz.func44,Tryz.ntmps44
 go_wp2_with (first
  | (go_at_call 78;refine c.mono ?_;clear c;rintro e w0 ⟨rfl,hw0⟩;obtain rfl:=hw0.symm)
  | (go_at_call 79;refine cl.mono ?_;clear cl;rintro e w1 ⟨rfl,b1⟩;have Hh1:=Hid.mk' (Hh.out.keep b1);obtain ⟨d2,z2'⟩:=Hh1.out.f2))
 have bd:Below w1.heap.size w1 w1.drew:=(Below.refl _ _).drew
 have Hd:=Hid.mk' (Hh1.out.keep bd)
 obtain ⟨v,rr,hv,-⟩:=Hd.out
 rcases hv with ⟨xo,rfl,h0⟩ | ⟨bb,ob,cap,rfl,hbb,hc,hcell⟩
 · omega
 have f0:w1.drew.cell? ⟨g,0,none⟩=some (.slice (some ⟨bb,ob,none⟩) L cap):=rr.range 0 _ rfl
 have f1:w1.drew.cell? ⟨g,1,none⟩=some (.int .i64 (r.at_:Int)):=rr.range 1 _ rfl
 have bw:=below_next b1 bd
 replace cn:=cn w1.drew bw
 clear hcell rr
 obtain ⟨a,ha⟩:∃ a,a=r.at_:=⟨_,rfl⟩
 have HA:=Hid.mk' ha
 rw [←ha] at f1 t4 t5 e1 e2
 clear ha
 go_region
 go_wp2_with (go_at_call 80;refine cn.mono ?_;clear cn;rintro e w2 ⟨rfl,b2⟩;have Hh2:=Hid.mk' (Hd.out.keep b2);obtain ⟨k1,y1⟩:=Hh2.out.f1;rw [←HA.out] at k1)
 go_ret
 have k:=Hh2.out.setAt q hqL
 rw [he] at k
 exact ⟨rfl,k,(Out.of_below (below_next bw b2) gl).trans (Out.setCell _ _ (by decide) (by decide))⟩
set_option maxRecDepth 20000 in
set_option maxHeartbeats 1000000 in
theorem rNumR_good2 (g L:Nat) (B:Nat→Nat) (lB:∀ j,B j<256) (r:Rd) (he:r.e=0) (hL:L<140737488355000) (hq:r.at_+2≤L) (w:World) (h:RdR w g L B r):Calls Tryz.prog 44 #[.pointer (some ⟨g,0,none⟩),.int .i64 2] w fun e w'=>e = .returned (.int .i64 ((nbN B r.at_ 2:Nat):Int))∧RdR w' g L B ⟨r.at_+2,0⟩∧Out g 1 2 w w':=by
 obtain ⟨c2,z2⟩:=h.f2
 rw [he] at c2
 have c:=rsized_any 2 w
 rw [show szB 2=true from rfl] at c
 have cl:=rLeft11_any g L B r hL w h
 obtain ⟨N,hN⟩:∃ N,N=nbN B r.at_ 2:=⟨_,rfl⟩
 have cn:∀ w1,Below w.heap.size w w1→Calls Tryz.prog 80 #[.pointer (some ⟨g,0,none⟩),.int .i64 2] w1 fun e w'=>e = .returned (.int .i64 (N:Int))∧Below w1.heap.size w1 w':=fun w1 b1=>by
  rw [hN];exact rnumber_any g L 2 B r lB (by decide) hL hq (nbN_small lB r.at_ 2 (by decide) (by omega)) w1 (h.keep b1)
 obtain ⟨x,hx⟩:∃ x:Int,x=(L:Int) - (r.at_:Int):=⟨_,rfl⟩
 rw [←hx] at cl
 have t1:¬x<2:=by omega
 have Hh:=Hid.mk' h
 have gl:=h.lt
 have t4:(0:Int)≤(r.at_:Int)∧(r.at_:Int)<(L:Int):=by omega
 have t5:r.at_<L:=by omega
 rw [←hN]
 obtain ⟨q,hq'⟩:∃ q,q=r.at_+2:=⟨_,rfl⟩
 have hqL:q≤L:=by omega
 have e1:IntKind.i64.wrap ((r.at_:Int)+2)=(q:Int):=by simp only [IntKind.wrap_i64];omega
 have e2:(r.at_:Int)+2=(q:Int):=by omega
 rw [←hq']
 clear h hx hN hq'
 go_enter Tryz.func44,Tryz.ntmps44
 go_wp2_with (first
  | (go_at_call 78;refine c.mono ?_;clear c;rintro e w0 ⟨rfl,hw0⟩;obtain rfl:=hw0.symm)
  | (go_at_call 79;refine cl.mono ?_;clear cl;rintro e w1 ⟨rfl,b1⟩;have Hh1:=Hid.mk' (Hh.out.keep b1);obtain ⟨d2,z2'⟩:=Hh1.out.f2))
 have bd:Below w1.heap.size w1 w1.drew:=(Below.refl _ _).drew
 have Hd:=Hid.mk' (Hh1.out.keep bd)
 obtain ⟨v,rr,hv,-⟩:=Hd.out
 rcases hv with ⟨xo,rfl,h0⟩ | ⟨bb,ob,cap,rfl,hbb,hc,hcell⟩
 · omega
 have f0:w1.drew.cell? ⟨g,0,none⟩=some (.slice (some ⟨bb,ob,none⟩) L cap):=rr.range 0 _ rfl
 have f1:w1.drew.cell? ⟨g,1,none⟩=some (.int .i64 (r.at_:Int)):=rr.range 1 _ rfl
 have bw:=below_next b1 bd
 replace cn:=cn w1.drew bw
 clear hcell rr
 obtain ⟨a,ha⟩:∃ a,a=r.at_:=⟨_,rfl⟩
 have HA:=Hid.mk' ha
 rw [←ha] at f1 t4 t5 e1 e2
 clear ha
 go_region
 go_wp2_with (go_at_call 80;refine cn.mono ?_;clear cn;rintro e w2 ⟨rfl,b2⟩;have Hh2:=Hid.mk' (Hd.out.keep b2);obtain ⟨k1,y1⟩:=Hh2.out.f1;rw [←HA.out] at k1)
 go_ret
 have k:=Hh2.out.setAt q hqL
 rw [he] at k
 exact ⟨rfl,k,(Out.of_below (below_next bw b2) gl).trans (Out.setCell _ _ (by decide) (by decide))⟩
set_option maxRecDepth 20000 in
set_option maxHeartbeats 1000000 in
theorem rNumR_good4 (g L:Nat) (B:Nat→Nat) (lB:∀ j,B j<256) (r:Rd) (he:r.e=0) (hL:L<140737488355000) (hq:r.at_+4≤L) (w:World) (h:RdR w g L B r):Calls Tryz.prog 44 #[.pointer (some ⟨g,0,none⟩),.int .i64 4] w fun e w'=>e = .returned (.int .i64 ((nbN B r.at_ 4:Nat):Int))∧RdR w' g L B ⟨r.at_+4,0⟩∧Out g 1 2 w w':=by
 obtain ⟨c2,z2⟩:=h.f2
 rw [he] at c2
 have c:=rsized_any 4 w
 rw [show szB 4=true from rfl] at c
 have cl:=rLeft11_any g L B r hL w h
 obtain ⟨N,hN⟩:∃ N,N=nbN B r.at_ 4:=⟨_,rfl⟩
 have cn:∀ w1,Below w.heap.size w w1→Calls Tryz.prog 80 #[.pointer (some ⟨g,0,none⟩),.int .i64 4] w1 fun e w'=>e = .returned (.int .i64 (N:Int))∧Below w1.heap.size w1 w':=fun w1 b1=>by
  rw [hN];exact rnumber_any g L 4 B r lB (by decide) hL hq (nbN_small lB r.at_ 4 (by decide) (by omega)) w1 (h.keep b1)
 obtain ⟨x,hx⟩:∃ x:Int,x=(L:Int) - (r.at_:Int):=⟨_,rfl⟩
 rw [←hx] at cl
 have t1:¬x<4:=by omega
 have Hh:=Hid.mk' h
 have gl:=h.lt
 have t4:(0:Int)≤(r.at_:Int)∧(r.at_:Int)<(L:Int):=by omega
 have t5:r.at_<L:=by omega
 rw [←hN]
 obtain ⟨q,hq'⟩:∃ q,q=r.at_+4:=⟨_,rfl⟩
 have hqL:q≤L:=by omega
 have e1:IntKind.i64.wrap ((r.at_:Int)+4)=(q:Int):=by simp only [IntKind.wrap_i64];omega
 have e2:(r.at_:Int)+4=(q:Int):=by omega
 rw [←hq']
 clear h hx hN hq'
 go_enter Tryz.func44,Tryz.ntmps44
 go_wp2_with (first
  | (go_at_call 78;refine c.mono ?_;clear c;rintro e w0 ⟨rfl,hw0⟩;obtain rfl:=hw0.symm)
  | (go_at_call 79;refine cl.mono ?_;clear cl;rintro e w1 ⟨rfl,b1⟩;have Hh1:=Hid.mk' (Hh.out.keep b1);obtain ⟨d2,z2'⟩:=Hh1.out.f2))
 have bd:Below w1.heap.size w1 w1.drew:=(Below.refl _ _).drew
 have Hd:=Hid.mk' (Hh1.out.keep bd)
 obtain ⟨v,rr,hv,-⟩:=Hd.out
 rcases hv with ⟨xo,rfl,h0⟩ | ⟨bb,ob,cap,rfl,hbb,hc,hcell⟩
 · omega
 have f0:w1.drew.cell? ⟨g,0,none⟩=some (.slice (some ⟨bb,ob,none⟩) L cap):=rr.range 0 _ rfl
 have f1:w1.drew.cell? ⟨g,1,none⟩=some (.int .i64 (r.at_:Int)):=rr.range 1 _ rfl
 have bw:=below_next b1 bd
 replace cn:=cn w1.drew bw
 clear hcell rr
 obtain ⟨a,ha⟩:∃ a,a=r.at_:=⟨_,rfl⟩
 have HA:=Hid.mk' ha
 rw [←ha] at f1 t4 t5 e1 e2
 clear ha
 go_region
 go_wp2_with (go_at_call 80;refine cn.mono ?_;clear cn;rintro e w2 ⟨rfl,b2⟩;have Hh2:=Hid.mk' (Hd.out.keep b2);obtain ⟨k1,y1⟩:=Hh2.out.f1;rw [←HA.out] at k1)
 go_ret
 have k:=Hh2.out.setAt q hqL
 rw [he] at k
 exact ⟨rfl,k,(Out.of_below (below_next bw b2) gl).trans (Out.setCell _ _ (by decide) (by decide))⟩
end Go.Proofs.YtibmlmmoifgliaaGreatDoor
namespace Go.Proofs.YtibmlmmoifgliaaGreatDoor
open Go.RowKit
theorem rNumR_any (g L:Nat) (B:Nat→Nat) (lB:∀ j,B j<256) (r:Rd) (s:Int) (hL:L<140737488355000) (w:World) (h:RdR w g L B r):Calls Tryz.prog 44 #[.pointer (some ⟨g,0,none⟩),.int .i64 s] w fun e w'=>e = .returned (.int .i64 (((numD L B s r).1:Nat):Int))∧RdR w' g L B (numD L B s r).2∧Out g 1 2 w w':=by
 have ha:=h.le
 have gl:=h.lt
 unfold numD
 by_cases he:r.e≠0
 · rw [if_pos he]
   exact (rNumR_err g L B r s he w h).mono fun e w' ⟨h1,h2⟩=>⟨h1,h.keep h2,Out.of_below h2 gl⟩
 replace he:r.e=0:=Decidable.not_not.mp he
 rw [if_neg (fun e=>e he)]
 by_cases hs:szB s=false
 · rw [if_pos hs]
   exact rNumR_arg g L B r s he hs w h
 rw [if_neg hs]
 replace hs:szB s=true:=by simpa using hs
 have hs':=szB_cases hs
 obtain ⟨k,rfl⟩:∃ k:Nat,s=(k:Int):=⟨s.toNat,by omega⟩
 rw [Int.toNat_natCast]
 by_cases h1:(L:Int) - (r.at_:Int)<(k:Int)
 · rw [if_pos h1]
   exact rNumR_end g L B r k he hs hL (by omega) w h
 rw [if_neg h1]
 have hk:k=1∨k=2∨k=4∨k=8:=by omega
 by_cases h2:(k:Int)=8∧64≤B r.at_
 · rw [if_pos h2]
   obtain rfl:k=8:=by omega
   exact rNumR_range g L B r he hL (by omega) h2.2 w h
 rw [if_neg h2]
 rcases hk with rfl | rfl | rfl | rfl
 · exact rNumR_good1 g L B lB r he hL (by omega) w h
 · exact rNumR_good2 g L B lB r he hL (by omega) w h
 · exact rNumR_good4 g L B lB r he hL (by omega) w h
 · exact rNumR_good8 g L B lB r he hL (by omega) (by omega) w h
end Go.Proofs.YtibmlmmoifgliaaGreatDoor
namespace Go.Proofs.YtibmlmmoifgliaaGreatDoor
open Go.RowKit
set_option maxRecDepth 20000 in
set_option maxHeartbeats 2000000 in
theorem rEndR_any (g L:Nat) (B:Nat→Nat) (r:Rd) (hL:L<140737488355000) (w:World) (h:RdR w g L B r):Calls Tryz.prog 46 #[.pointer (some ⟨g,0,none⟩)] w fun e w'=>e = .returned (.int .i64 (endD L r))∧Below w.heap.size w w':=by
 obtain ⟨c2,z2⟩:=h.f2
 have ha:=h.le
 have cl:=rLeft11_any g L B r hL w h
 obtain ⟨x,hx⟩:∃ x:Int,x=(L:Int) - (r.at_:Int):=⟨_,rfl⟩
 rw [←hx] at cl
 have Hh:=Hid.mk' h
 clear h
 unfold endD
 by_cases he:r.e=0
 · rw [he] at c2
   by_cases hl:r.at_<L
   · rw [if_pos ⟨he,hl⟩]
     have t1:(0:Int)<x:=by omega
     clear hx
     go_enter Tryz.func46,Tryz.ntmps46
     go_wp2_with (go_at_call 79;refine cl.mono ?_;clear cl;rintro e w1 ⟨rfl,b1⟩)
     go_ret
     exact ⟨rfl,b1⟩
   · rw [if_neg (fun e=>hl e.2)]
     have t1:¬((0:Int)<x):=by omega
     clear hx
     go_enter Tryz.func46,Tryz.ntmps46
     go_wp2_with (go_at_call 79;refine cl.mono ?_;clear cl;rintro e w1 ⟨rfl,b1⟩;have c3:=(Hh.out.keep b1).f2.1)
     go_ret
     exact ⟨by rw [he];rfl,b1⟩
 · rw [if_neg (fun e=>he e.1)]
   clear hx cl
   generalize r.e=er at *
   go_enter Tryz.func46,Tryz.ntmps46
   go_wp2
   go_ret
   exact ⟨rfl,Below.refl _ _⟩
set_option maxRecDepth 20000 in
set_option maxHeartbeats 2000000 in
theorem rTakR_err (g L:Nat) (B:Nat→Nat) (r:Rd) (n:Int) (he:r.e≠0) (w:World) (h:RdR w g L B r):Calls Tryz.prog 82 #[.pointer (some ⟨g,0,none⟩),.int .i64 n] w fun e w'=>e = .returned (.slice none 0 0)∧Below w.heap.size w w':=by
 have c2:=h.f2.1
 generalize r.e=er at *
 clear h
 go_enter Tryz.func82,Tryz.ntmps82
 go_wp2
 go_ret
 exact ⟨rfl,Below.refl _ _⟩
set_option maxRecDepth 20000 in
set_option maxHeartbeats 2000000 in
theorem rTakR_arg (g L:Nat) (B:Nat→Nat) (r:Rd) (n:Int) (he:r.e=0) (hn:n<0) (w:World) (h:RdR w g L B r):Calls Tryz.prog 82 #[.pointer (some ⟨g,0,none⟩),.int .i64 n] w fun e w'=>e = .returned (.slice none 0 0)∧RdR w' g L B ⟨r.at_,1⟩∧Out g 1 2 w w':=by
 obtain ⟨c2,z2⟩:=h.f2
 rw [he] at c2
 have Hh:=Hid.mk' h
 clear h
 go_enter Tryz.func82,Tryz.ntmps82
 go_wp2
 go_ret
 exact ⟨rfl,Hh.out.setE 1,Out.setCell _ _ (by decide) (by decide)⟩
set_option maxRecDepth 20000 in
set_option maxHeartbeats 2000000 in
theorem rTakR_end (g L:Nat) (B:Nat→Nat) (r:Rd) (n:Int) (he:r.e=0) (hn:¬n<0) (hL:L<140737488355000) (hq:(L:Int) - (r.at_:Int)<n) (w:World) (h:RdR w g L B r):Calls Tryz.prog 82 #[.pointer (some ⟨g,0,none⟩),.int .i64 n] w fun e w'=>e = .returned (.slice none 0 0)∧RdR w' g L B ⟨r.at_,20⟩∧Out g 1 2 w w':=by
 obtain ⟨c2,z2⟩:=h.f2
 rw [he] at c2
 have cl:=rLeft11_any g L B r hL w h
 obtain ⟨x,hx⟩:∃ x:Int,x=(L:Int) - (r.at_:Int):=⟨_,rfl⟩
 rw [←hx] at cl hq
 have Hh:=Hid.mk' h
 have gl:=h.lt
 clear h hx
 go_enter Tryz.func82,Tryz.ntmps82
 go_wp2_with (go_at_call 79;refine cl.mono ?_;clear cl;rintro e w1 ⟨rfl,b1⟩;have Hh1:=Hid.mk' (Hh.out.keep b1);obtain ⟨d2,z2'⟩:=Hh1.out.f2)
 go_ret
 exact ⟨rfl,Hh1.out.setE 20,(Out.of_below b1 gl).trans (Out.setCell _ _ (by decide) (by decide))⟩
theorem Src.mid {w:World} {v:Value} {L:Nat} {B:Nat→Nat} (hv:BytesIn w v L B) (a q n:Nat) (h1:a+n=q) (h2:q≤L):∃ xo cx x' c',v = .slice xo L cx∧(∀ W:World,(Instr.sliceAt 22 (.slice xo L cx) (some (.int .i64 a)) (some (.int .i64 q)) none).run Tryz.prog W = .ok (.slice x' n c') W)∧(x'=none→c'=0)∧∀ w',Below w.heap.size w w'→Src w' x' n (fun j=>B (a+j)):=by
 have u1:Tryz.prog.underlying 22=some (.slice (Tryz.prog.elem 22)):=by kernel_rfl
 have u2:Tryz.prog.elem 22=5:=by kernel_rfl
 have u3:∀ W,((sizeOf 5).run Tryz.prog W) = .ok 1 W:=fun W=>by kernel_rfl
 have e1:q - a=n:=by omega
 rcases hv with ⟨xo,rfl,rfl⟩ | ⟨bb,ob,cap,rfl,hb,hc,hcell⟩
 · obtain rfl:a=0:=by omega
   obtain rfl:n=0:=by omega
   obtain rfl:q=0:=by omega
   refine ⟨xo,0,xo,0,rfl,fun W => ?_,fun _=>rfl,fun _ _ => .inl rfl⟩
   rw [run_sliceAt_slice W 22 _ _ _ _ u1,run_slice_lh W 22 _ 0 0 u1 .i64 .i64 _ _ (by omega) (by omega) (by omega),u2,u3]
   cases xo <;> simp [sliced]
 · by_cases ha:cap=a
   · refine ⟨some ⟨bb,ob,none⟩,cap,some ⟨bb,ob,none⟩,cap - a,rfl,fun W => ?_,(fun e=>by cases e),fun _ _ => .inl (by omega)⟩
     rw [run_sliceAt_slice W 22 _ _ _ _ u1,run_slice_lh W 22 _ L cap u1 .i64 .i64 _ _ (by omega) (by omega) (by omega),u2,u3]
     simp [sliced,ha,e1]
   · refine ⟨some ⟨bb,ob,none⟩,cap,some ⟨bb,ob+a,none⟩,cap - a,rfl,fun W => ?_,(fun e=>by cases e),fun w' h => .inr ⟨bb,ob+a,rfl,fun j hj => ?_⟩⟩
     · rw [run_sliceAt_slice W 22 _ _ _ _ u1,run_slice_lh W 22 _ L cap u1 .i64 .i64 _ _ (by omega) (by omega) (by omega),u2,u3]
       simp [sliced,Addr.add_mid,ha,e1]
     · rw [Nat.add_assoc]
       exact (h.cell (p:=⟨bb,ob+(a+j),none⟩) hb).trans (hcell (a+j) (by omega))
theorem onlyV {P:Program} {md:Region.Mode} {ops:Array Oper} {Q:Exit→Act→World→Prop} {S:World→Prop} {fuel:Nat} {listed:Array Bool} {a:Act} {w:World} (i:Nat) {oi:Oper} {v:Value} {w':World} (hrun:(execOp a.eval oi).run P w = .ok (.value v) w') (hS:S w') (h:wpAnyH P md ops Q S fuel (listed.setIfInBounds i true) (a.put oi.dst v) w')
 (hi:ops.toList[i]? = some oi:=by rfl) (hr:Region.ready md ops listed=[i]:=by kernel_rfl) (hw:Region.wanted oi (yielded ops a.tmps)=true:=by rfl):wpAnyH P md ops Q S (fuel+1) listed a w:=by
 refine wpAnyH_ready hr (by simp) (AllReadyH.cons (at_list hi) (fun K hK => ?_) AllReadyH.nil)
 rw [if_pos hw]
 unfold Oper.wp
 rw [hrun,Oper.upon_value]
 exact hK.out _ _ hS (fun _=>h)
theorem exec_append {o:Oper} {a:Act} {w w':World} {v':Value} (s x:Operand) (ho:o.op = .call { callee := .builtin .append,args:=#[s,x],argTypes:=#[22,22] }) (hty:o.type=22) {sv xv:Value} (hs:a.eval s=sv) (hx:a.eval x=xv) (hrun:(Builtin.append_ #[22,22] 22 #[sv,xv]).run Tryz.prog w = .ok v' w'):(execOp a.eval o).run Tryz.prog w = .ok (.value v') w':=by
 simp [execOp,ho,hty,resolve,invoke,builtin,hs,hx,hrun,Result.andThen]
theorem exec_slice {o:Oper} {a:Act} {w w':World} {v':Value} (x lo hi:Operand) (ho:o.op = .slice 22 x (some lo) (some hi) none) {xv lv hv:Value} (hx:a.eval x=xv) (hl:a.eval lo=lv) (hh:a.eval hi=hv) (hrun:(Instr.sliceAt 22 xv (some lv) (some hv) none).run Tryz.prog w = .ok v' w'):(execOp a.eval o).run Tryz.prog w = .ok (.value v') w':=by
 simp [execOp,ho,hx,hl,hh,hrun,Result.andThen]
set_option maxRecDepth 20000 in
set_option maxHeartbeats 2000000 in
theorem rTakR_good (g L:Nat) (B:Nat→Nat) (r:Rd) (n:Nat) (he:r.e=0) (hL:L<140737488355000) (hq:r.at_+n≤L) (w:World) (h:RdR w g L B r):Calls Tryz.prog 82 #[.pointer (some ⟨g,0,none⟩),.int .i64 (n:Int)] w fun e w'=>∃ v,e = .returned v∧Own w.heap.size w' v n (fun j=>B (r.at_+j))∧RdR w' g L B ⟨r.at_+n,0⟩∧Out g 1 2 w w':=by
 obtain ⟨c2,z2⟩:=h.f2
 rw [he] at c2
 have cl:=rLeft11_any g L B r hL w h
 obtain ⟨x,hx⟩:∃ x:Int,x=(L:Int) - (r.at_:Int):=⟨_,rfl⟩
 rw [←hx] at cl
 have t0:¬(n:Int)<0:=by omega
 have t1:¬x<(n:Int):=by omega
 have Hh:=Hid.mk' h
 have gl:=h.lt
 obtain ⟨q,hq'⟩:∃ q,q=r.at_+n:=⟨_,rfl⟩
 have hqL:q≤L:=by omega
 have e1:IntKind.i64.wrap ((r.at_:Int)+(n:Int))=(q:Int):=by simp only [IntKind.wrap_i64];omega
 have e2:(r.at_:Int)+(n:Int)=(q:Int):=by omega
 have e3:IntKind.i64.wrap ((q:Int) - (n:Int))=(r.at_:Int):=by simp only [IntKind.wrap_i64];omega
 have e4:(q:Int) - (n:Int)=(r.at_:Int):=by omega
 rw [←hq']
 obtain ⟨a,ha⟩:∃ a,a=r.at_:=⟨_,rfl⟩
 have HA:=Hid.mk' ha
 rw [←ha] at e1 e2 e3 e4 ⊢
 clear h hx hq' ha
 go_enter Tryz.func82,Tryz.ntmps82
 go_wp2_with (go_at_call 79;refine cl.mono ?_;clear cl;rintro e w1 ⟨rfl,b1⟩;have Hh1:=Hid.mk' (Hh.out.keep b1);obtain ⟨d2,z2'⟩:=Hh1.out.f2;obtain ⟨k1,y1⟩:=Hh1.out.f1;rw [←HA.out] at k1)
 have Hh2:=Hid.mk' (Hh1.out.setAt q hqL)
 obtain ⟨W,hW⟩:∃ W,W=w1.setCell ⟨g,1,none⟩ (.int .i64 (q:Int)):=⟨_,rfl⟩
 rw [←hW] at Hh2 ⊢
 have o1:Out g 1 2 w W:=by rw [hW];exact (Out.of_below b1 gl).trans (Out.setCell _ _ (by decide) (by decide))
 clear hW k1 y1 d2 z2' Hh1
 have bd:Below W.heap.size W W.drew:=(Below.refl _ _).drew
 have Hd:=Hid.mk' (Hh2.out.keep bd)
 obtain ⟨v,rr,hv,-⟩:=Hd.out
 have haq:a+n=q:=by omega
 obtain ⟨xo,cx,x',c',rfl,hsl,hxn,hsrc⟩:=Src.mid hv a q n haq hqL
 have f0:W.drew.cell? ⟨g,0,none⟩=some (.slice xo L cx):=rr.range 0 _ rfl
 have f1:W.drew.cell? ⟨g,1,none⟩=some (.int .i64 (q:Int)):=rr.range 1 _ rfl
 have gd:=rr.lt
 have hsu:=hsrc _ ((Below.refl W.drew.heap.size W.drew).alloc (Nat.le_refl _) (.cells #[] 5))
 obtain ⟨v5,w5,hrun5,own5,hb5⟩:=run_append_empty W.drew W.drew.heap.size (fun j=>B (a+j)) x' n c' hsu hxn (by omega) (Nat.le_refl _)
 have e6:IntKind.i64.wrap (a:Int)=(a:Int):=by simp only [IntKind.wrap_i64];omega
 clear hsrc rr hv hsu
 go_upto_region 10 with (fail)
 refine wp_region_held_drew (S:=fun u=>Below W.drew.heap.size W.drew u) (by kernel_rfl) (Below.refl _ _) (fun hS => ?_)
 refine tg 1 hS ?_
 (try simp only [pS])
 refine tg 2 hS ?_
 (try simp only [pS])
 refine tg 3 hS ?_
 (try simp only [pS])
 refine tc 4 hS (fun u hu=>(hu.cell (p:=⟨g,0,none⟩) gd).trans f0) ?_
 (try simp only [pS])
 refine tg 5 hS ?_
 (try simp only [pS])
 refine tg 6 hS ?_
 (try simp only [pS])
 refine tg 7 hS ?_
 (try simp only [pS])
 refine tc 8 hS (fun u hu=>(hu.cell (p:=⟨g,1,none⟩) gd).trans f1) ?_
 (try simp only [pS])
 refine tg 9 hS ?_
 (try simp only [pS])
 refine tg 10 hS (v := .int .i64 (a:Int)) ?_
 (try simp only [pS])
 refine tg 11 hS ?_
 (try simp only [pS])
 refine tg 12 hS ?_
 (try simp only [pS])
 refine tg 13 hS ?_
 (try simp only [pS])
 refine tc 14 hS (fun u hu=>(hu.cell (p:=⟨g,1,none⟩) gd).trans f1) ?_
 (try simp only [pS])
 refine tg 15 hS (v := .slice x' n c') ?_ (hy := ?_)
 rotate_left
 · exact fun u _=>exec_slice (.tmp 38) (.tmp 44) (.tmp 48) rfl rfl rfl rfl (hsl u)
 (try simp only [pS])
 refine onlyV 0 (v := .slice (some ⟨W.drew.heap.size,0,none⟩) 0 0) (w':=W.drew.alloc (.cells #[] 5)) ?_ ((Below.refl _ _).alloc (Nat.le_refl _) _) ?_
 · kernel_rfl
 (try simp only [pS])
 refine onlyV 16 (v:=v5) ?_ hb5 ?_
 · exact exec_append (.tmp 34) (.tmp 49) rfl rfl rfl rfl hrun5
 (try simp only [pS])
 refine tg 17 hb5 ?_
 (try simp only [pS])
 refine wpAnyH_done (by kernel_rfl) ?_ _
 go_wp2
 go_ret
 have k:=Hd.out.keep hb5
 rw [he] at k
 have h1:w.heap.size≤W.drew.heap.size:=o1.size
 exact ⟨_,rfl,World.ownsRow.mono own5 h1,k,o1.trans (Out.of_below (below_next bd hb5) (Nat.lt_of_lt_of_le gl o1.size))⟩
theorem rTakR_any (g L:Nat) (B:Nat→Nat) (r:Rd) (n:Int) (hL:L<140737488355000) (w:World) (h:RdR w g L B r):Calls Tryz.prog 82 #[.pointer (some ⟨g,0,none⟩),.int .i64 n] w fun e w'=>∃ v,e = .returned v∧Own w.heap.size w' v (takD L n r).1 (fun j=>B (r.at_+j))∧RdR w' g L B (takD L n r).2∧Out g 1 2 w w':=by
 have ha:=h.le
 have gl:=h.lt
 unfold takD
 by_cases he:r.e≠0
 · rw [if_pos he]
   exact (rTakR_err g L B r n he w h).mono fun e w' ⟨h1,h2⟩=>⟨_,h1,Own.nil _ _ _,h.keep h2,Out.of_below h2 gl⟩
 replace he:r.e=0:=Decidable.not_not.mp he
 rw [if_neg (fun e=>e he)]
 by_cases hn:n<0
 · rw [if_pos hn]
   exact (rTakR_arg g L B r n he hn w h).mono fun e w' ⟨h1,h2,h3⟩=>⟨_,h1,Own.nil _ _ _,h2,h3⟩
 rw [if_neg hn]
 by_cases h1:(L:Int) - (r.at_:Int)<n
 · rw [if_pos h1]
   exact (rTakR_end g L B r n he hn hL h1 w h).mono fun e w' ⟨h1,h2,h3⟩=>⟨_,h1,Own.nil _ _ _,h2,h3⟩
 rw [if_neg h1]
 obtain ⟨k,rfl⟩:∃ k:Nat,n=(k:Int):=⟨n.toNat,by omega⟩
 rw [Int.toNat_natCast]
 exact rTakR_good g L B r k he hL (by omega) w h
end Go.Proofs.YtibmlmmoifgliaaGreatDoor
