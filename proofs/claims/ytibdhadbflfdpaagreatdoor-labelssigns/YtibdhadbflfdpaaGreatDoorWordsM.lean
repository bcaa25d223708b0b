/- What the proof stands on: Words, Limbs, Number, FSmall. -/
import Derived.Test.YtibdhadbflfdpaaGreatDoorLentM
namespace Go.Proofs.YtibdhadbflfdpaaGreatDoor
open Nat renaming le_refl → JW
open Nat renaming zero_add → J0
open Go.RowKit Go.Lib
def pF:Nat:=57896044618658097711785492504343953926634992332820282019728792003956564819949
set_option maxHeartbeats 1000000 in
theorem bM (t x y c:Nat) (ht:t<18446744073709551616) (hx:x<18446744073709551616) (hy:y<18446744073709551616) (hc:c<18446744073709551616) :
 ∃ l h:Nat,l<18446744073709551616∧h<18446744073709551616∧l+18446744073709551616*h=t+x*y+c∧∀ w,Calls Tryz.prog 210 #[.int .u64 t,.int .u64 x,.int .u64 y,.int .u64 c] w fun e w'=>e = .returned (.tuple #[.int .u64 l,.int .u64 h])∧w'=w:=by
 obtain ⟨h0,l0,hh0,hl0,e0,r0⟩:=nM x y hx hy;obtain ⟨l1,k1,hl1,hk1,e1,r1⟩:=eI l0 t hl0 ht;obtain ⟨l2,k2,hl2,hk2,e2,r2⟩:=eI l1 c hl1 hc;have hxy:x*y≤18446744073709551615*18446744073709551615:=Nat.mul_le_mul (by omega) (by omega)
 obtain ⟨P,hP⟩:∃ P,P=x*y:=⟨_,rfl⟩
 rw [←hP] at e0 hxy ⊢;clear hP;refine ⟨l2,h0+k1+k2,hl2,by omega,by omega,fun w => ?_⟩;have r0':=r0 w
 have b1:h0+k1<18446744073709551616:=by omega
 have b2:h0+k1+k2<18446744073709551616:=by omega
 clear e0 e1 e2 r0 hxy;go_enter Tryz.func210,Tryz.ntmps210
 go_wp2_with (first
  | (go_at_call 162;refine r0'.mono ?_;rintro e w' ⟨rfl,rfl⟩)
  | rw [r1] | rw [r2])
 go_ret2;exact ⟨rfl,rfl⟩
set_option maxHeartbeats 1000000 in
theorem lC (a b c d x:Nat) (ha:a<18446744073709551616) (hb:b<18446744073709551616) (hc:c<18446744073709551616) (hd:d<18446744073709551615) (hx:x<18446744073709551616) :
 ∃ s0 s1 s2 s3:Nat,s0<18446744073709551616∧s1<18446744073709551616∧s2<18446744073709551616∧s3<18446744073709551616∧bN s0 s1 s2 s3=bN a b c d+x∧∀ w,Calls Tryz.prog 247 #[.int .u64 a,.int .u64 b,.int .u64 c,.int .u64 d,.int .u64 x] w fun e w'=>e = .returned (.tuple #[.int .u64 s0,.int .u64 s1,.int .u64 s2,.int .u64 s3])∧w'=w:=by
 obtain ⟨s0,k0,hs0,hk0,e0,r0⟩:=eI a x ha hx;obtain ⟨s1,k1,hs1,hk1,e1,r1⟩:=qh b k0 hb hk0;obtain ⟨s2,k2,hs2,hk2,e2,r2⟩:=qh c k1 hc hk1
 have b3:d+k2<18446744073709551616:=by omega
 refine ⟨s0,s1,s2,d+k2,hs0,hs1,hs2,b3,by unfold bN;omega,fun w => ?_⟩;clear e0 e1 e2;go_enter Tryz.func247,Tryz.ntmps247;go_wp2_with (first | rw [r0] | rw [r1] | rw [r2]);(try simp only [Exit.inBlock,Exit.then]);refine bodyPost_ret (rE rfl _ _ _) rfl ?_;exact ⟨rfl,rfl⟩
theorem zD (top d:Nat) (ht:top≤38) (hd:d<18446744073709551616):bits .or .u64 ((top:Int)*2) ((d:Int) / 9223372036854775808)=((top*2+d / 9223372036854775808:Nat):Int):=by
 have e1:(top:Int)*2=((top*2:Nat):Int):=by omega
 have e2:(d:Int) / 9223372036854775808=((d / 9223372036854775808:Nat):Int):=by omega
 rw [e1,e2,bits_or_u64_nat _ _ (by omega) (by omega)]
 have h1:d / 9223372036854775808=0∨d / 9223372036854775808=1:=by omega
 congr 1
 rcases h1 with h | h <;> rw [h]
 · simp
 · have key:∀ k,k<39→k*2 ||| 1=k*2+1:=by decide
   exact key top (by omega)
theorem wv (V V' S M T o:Nat) (hV:V=V'+57896044618658097711785492504343953926634992332820282019728792003956564819968*o) (hS:S=V'+(T*2+o)*19) (hV':V'<57896044618658097711785492504343953926634992332820282019728792003956564819968) (hT:T≤38) (ho:o≤1) (hM:M=S+19) :
 (M<57896044618658097711785492504343953926634992332820282019728792003956564819968→(V+115792089237316195423570985008687907853269984665640564039457584007913129639936*T)%pF=S)∧(57896044618658097711785492504343953926634992332820282019728792003956564819968≤M→(V+115792089237316195423570985008687907853269984665640564039457584007913129639936*T)%pF=M - 57896044618658097711785492504343953926634992332820282019728792003956564819968):=by
 have key:V+115792089237316195423570985008687907853269984665640564039457584007913129639936*T=S+pF*(T*2+o):=by unfold pF;omega
 rw [key,Nat.add_mul_mod_self_left];unfold pF
 constructor <;> intro h <;> omega
theorem I9 {f:FuncId} {a b c d:Value} {Q:Ending→World→Prop} {w:World} (h:Calls Tryz.prog f #[a,b,c,d,.int .u64 ((19:Nat):Int)] w Q):Calls Tryz.prog f #[a,b,c,d,.int .u64 19] w Q:=h
set_option maxRecDepth 20000 in
set_option maxHeartbeats 1000000 in
theorem jQ (a b c d t:Nat) (ha:a<18446744073709551616) (hb:b<18446744073709551616) (hc:c<18446744073709551616) (hd:d<18446744073709551616) (ht:t≤38) (w:World) :
 Calls Tryz.prog 211 #[.int .u64 a,.int .u64 b,.int .u64 c,.int .u64 d,.int .u64 t] w fun e w'=>e = .returned (ag ((bN a b c d+115792089237316195423570985008687907853269984665640564039457584007913129639936*t)%pF))∧Below w.heap.size w w':=by
 obtain ⟨s0,s1,s2,s3,h0,h1,h2,h3,es,rs⟩:=lC a b c (d%9223372036854775808) ((t*2+d / 9223372036854775808)*19) ha hb hc (by omega) (by omega)
 have hs3:s3<9223372036854775809:=by unfold bN at es;omega
 obtain ⟨m0,m1,m2,m3,g0,g1,g2,g3,em,rm⟩:=lC s0 s1 s2 s3 19 h0 h1 h2 (by omega) (by decide);obtain ⟨f1,f2⟩:=wv (bN a b c d) (bN a b c (d%9223372036854775808)) (bN s0 s1 s2 s3) (bN m0 m1 m2 m3) t (d / 9223372036854775808) (by unfold bN;omega) es (by unfold bN;omega) ht (by omega) em
 obtain ⟨N,hN⟩:∃ N,N=(bN a b c d+115792089237316195423570985008687907853269984665640564039457584007913129639936*t)%pF:=⟨_,rfl⟩
 rw [←hN] at f1 f2 ⊢;have o1:=zD t d ht hd
 obtain ⟨ox,hox⟩:∃ ox,ox=t*2+d / 9223372036854775808:=⟨_,rfl⟩
 obtain ⟨dl,hdl⟩:∃ dl,dl=d%9223372036854775808:=⟨_,rfl⟩
 obtain ⟨ml,hml⟩:∃ ml,ml=m3%9223372036854775808:=⟨_,rfl⟩
 have hox77:ox≤77:=by omega
 rw [←hox,←hdl] at rs;rw [←hox] at o1;have o2:=xD d hd;have o3:=xD m3 g3;rw [←hdl] at o2;rw [←hml] at o3
 obtain ⟨ov,hov⟩:∃ ov,ov=ox*19:=⟨_,rfl⟩
 rw [←hov] at rs
 have o4:(ox:Int)*19=(ov:Int):=by omega
 have hmll:ml<18446744073709551616:=by omega
 have fin1:m3 > 9223372036854775807→(Value.agg #[.int .u64 m0,.int .u64 m1,.int .u64 m2,.int .u64 ml]:Value)=ag N:=fun hm=>nq N m0 m1 m2 ml g0 g1 g2 (by omega) (by rw [f2 (by unfold bN;omega)];unfold bN;omega)
 have fin2:¬m3 > 9223372036854775807→(Value.agg #[.int .u64 s0,.int .u64 s1,.int .u64 s2,.int .u64 s3]:Value)=ag N:=fun hm=>nq N s0 s1 s2 s3 h0 h1 h2 (by omega) (by rw [f1 (by unfold bN;omega)])
 clear es em hN f1 f2 hox hdl hml hov
 by_cases hm:m3 > 9223372036854775807
 · have fin:=Hid.mk' (fin1 hm)
   have hm':(9223372036854775807:Int)<(m3:Int):=by omega
   clear fin1 fin2;go_enter Tryz.func211,Tryz.ntmps211
   go_wp2_with (first
    | (go_at_call 247;refine (rs _).mono ?_;clear rs;rintro e w' ⟨rfl,hw⟩;subst hw)
    | (go_at_call 247;refine (I9 (rm _)).mono ?_;rintro e w' ⟨rfl,hw⟩;subst hw))
   (try simp only [Exit.inBlock,Exit.then]);exact bodyPost_ret (fN Tryz.results211 _ _ _ _ _ _ _ rfl Tryz.underlying73 rfl (by kernel_rfl)) rfl ⟨by rw [fin.out],(Below.refl _ _).alloc (JW _) _⟩
 · have fin:=Hid.mk' (fin2 hm)
   have hm':¬(9223372036854775807:Int)<(m3:Int):=by omega
   clear fin1 fin2;go_enter Tryz.func211,Tryz.ntmps211
   go_wp2_with (first
    | (go_at_call 247;refine (rs _).mono ?_;clear rs;rintro e w' ⟨rfl,hw⟩;subst hw)
    | (go_at_call 247;refine (I9 (rm _)).mono ?_;rintro e w' ⟨rfl,hw⟩;subst hw))
   (try simp only [Exit.inBlock,Exit.then]);exact bodyPost_ret (fN Tryz.results211 _ _ _ _ _ _ _ rfl Tryz.underlying73 rfl (by kernel_rfl)) rfl ⟨by rw [fin.out],(Below.refl _ _).alloc (JW _) _⟩
open Go.RowKit
structure fh (w:World) (b n:Nat):Prop where
 c0:w.cell? ⟨b,0,none⟩=some (.int .u64 (lw n 0))
 c1:w.cell? ⟨b,1,none⟩=some (.int .u64 (lw n 1))
 c2:w.cell? ⟨b,2,none⟩=some (.int .u64 (lw n 2))
 c3:w.cell? ⟨b,3,none⟩=some (.int .u64 (lw n 3))
theorem fh.lt {w:World} {b n:Nat} (h:fh w b n):b<w.heap.size:=block_lt_of_cell h.c0
theorem fh.below {w w':World} {b n B:Nat} (h:fh w b n) (hb:Below B w w') (hB:b<B):fh w' b n :=
 ⟨(hb.cell (p:=⟨b,0,none⟩) hB).trans h.c0,(hb.cell (p:=⟨b,1,none⟩) hB).trans h.c1,(hb.cell (p:=⟨b,2,none⟩) hB).trans h.c2,(hb.cell (p:=⟨b,3,none⟩) hB).trans h.c3⟩
theorem fh.ex {w:World} {b n:Nat} (h:fh w b n) (hn:n<pF):∃ x0 x1 x2 x3:Nat,x0<18446744073709551616∧x1<18446744073709551616∧x2<18446744073709551616∧x3<18446744073709551616∧bN x0 x1 x2 x3=n∧w.cell? ⟨b,0,none⟩=some (.int .u64 x0)∧w.cell? ⟨b,1,none⟩=some (.int .u64 x1)∧w.cell? ⟨b,2,none⟩=some (.int .u64 x2)∧w.cell? ⟨b,3,none⟩=some (.int .u64 x3) :=
 ⟨lw n 0,lw n 1,lw n 2,lw n 3,fs _ _,fs _ _,fs _ _,fs _ _,BX n (by unfold pF at hn;omega),h.c0,h.c1,h.c2,h.c3⟩
theorem bh (n:Nat):∃ x0 x1 x2 x3:Nat,ag n = .agg #[.int .u64 x0,.int .u64 x1,.int .u64 x2,.int .u64 x3]:=⟨_,_,_,_,rfl⟩
theorem uk {W w1:World} {b o n:Nat} (h:W.there b o n) (hb:Below W.heap.size W w1) (hl:b<W.heap.size):w1.there b o n:=fun j hj=>by
 rw [hb.cell (p:=⟨b,o+j,none⟩) hl,hb.frozen (p:=⟨b,o+j,none⟩) hl];exact h j hj
theorem kf (w:World) (a b c d:Value) (t:TypeId):(w.alloc (.cells #[a,b,c,d] t)).there w.heap.size 0 4:=fun j hj=>by
 match j,hj with
 | 0,_=>simp
 | 1,_=>simp
 | 2,_=>simp
 | 3,_=>simp
theorem behind {w w1:World} {a b c d:Value} {t:TypeId} {n:Nat} (h:Below ((w.alloc (.cells #[a,b,c,d] t)).drewN n).heap.size ((w.alloc (.cells #[a,b,c,d] t)).drewN n) w1):w1.there w.heap.size 0 4∧Below w.heap.size w w1 ∧
 (w1.cell? ⟨w.heap.size,0,none⟩=some a∧w1.cell? ⟨w.heap.size,1,none⟩=some b∧w1.cell? ⟨w.heap.size,2,none⟩=some c∧w1.cell? ⟨w.heap.size,3,none⟩=some d)∧∀ j,j<4→w1.frozen? ⟨w.heap.size,j,none⟩=false:=by
 have hs:w.heap.size<((w.alloc (.cells #[a,b,c,d] t)).drewN n).heap.size:=by simp
 have ht:=uk (W:=(w.alloc (.cells #[a,b,c,d] t)).drewN n) (fun j hj=>kf w a b c d t j hj) h hs;have hr:=ii w a b c d t;refine ⟨ht,(bU ((Below.refl w.heap.size w).alloc (JW _) (.cells #[a,b,c,d] t)) n).trans (h.mono (Nat.le_of_lt hs)),⟨?_,?_,?_,?_⟩,fun j hj=>by have:=(ht j hj).2;rwa [J0] at this⟩
 · exact (h.cell (p:=⟨w.heap.size,0,none⟩) hs).trans (hr 0 a rfl)
 · exact (h.cell (p:=⟨w.heap.size,1,none⟩) hs).trans (hr 1 b rfl)
 · exact (h.cell (p:=⟨w.heap.size,2,none⟩) hs).trans (hr 2 c rfl)
 · exact (h.cell (p:=⟨w.heap.size,3,none⟩) hs).trans (hr 3 d rfl)
theorem sR {w w1:World} {a b c d:Value} {t:TypeId} (h:Below (w.alloc (.cells #[a,b,c,d] t)).heap.size (w.alloc (.cells #[a,b,c,d] t)) w1):w1.there w.heap.size 0 4∧Below w.heap.size w w1 ∧
 (w1.cell? ⟨w.heap.size,0,none⟩=some a∧w1.cell? ⟨w.heap.size,1,none⟩=some b∧w1.cell? ⟨w.heap.size,2,none⟩=some c∧w1.cell? ⟨w.heap.size,3,none⟩=some d)∧∀ j,j<4→w1.frozen? ⟨w.heap.size,j,none⟩=false:=behind (n:=0) h
theorem bO {P:Program} {fn:Func} {p:Tmp} {ty:TypeId} (h:fn.results=#[.cell p ty]) (tmps:Array Value) (w:World) (g:Nat) (a b c d:Value) {D:TypeDesc} (ht:w.there g 0 4)
 (hp:tmps.getD p undef = .pointer (some ⟨g,0,none⟩)) (hu:P.underlying ty=some D) (hd:D.isRow=true) (hi:(P.info? ty).map (·.size)=some 4) :
 (results fn tmps).run P ((((w.setCell ⟨g,0,none⟩ a).setCell ⟨g,1,none⟩ b).setCell ⟨g,2,none⟩ c).setCell ⟨g,3,none⟩ d) = .ok (.agg #[a,b,c,d]) ((((w.setCell ⟨g,0,none⟩ a).setCell ⟨g,1,none⟩ b).setCell ⟨g,2,none⟩ c).setCell ⟨g,3,none⟩ d) :=
 ai h tmps _ g 0 [a,b,c,d] D hp (World.rangeAt_setCells_same w g 0 [a,b,c,d] ht) hu hd hi
theorem bX {B:Nat} {u w:World} {g:Nat} (h:Below B u w) (hg:B≤g) (a b c d:Value):Below B u ((((w.setCell ⟨g,0,none⟩ a).setCell ⟨g,1,none⟩ b).setCell ⟨g,2,none⟩ c).setCell ⟨g,3,none⟩ d) :=
 (((h.setCell hg a).setCell hg b).setCell hg c).setCell hg d
set_option maxRecDepth 20000 in
set_option maxHeartbeats 2000000 in
theorem Et (p q x y:Nat) (hx:x<pF) (hy:y<pF) (w:World) (hp:fh w p x) (hq:fh w q y) :
 Calls Tryz.prog 220 #[.pointer (some ⟨p,0,none⟩),.pointer (some ⟨q,0,none⟩)] w fun e w'=>e = .returned (ag ((x+y)%pF))∧Below w.heap.size w w':=by
 have hpl:=hp.lt;have hql:=hq.lt;obtain ⟨x0,x1,x2,x3,hx0,hx1,hx2,hx3,ex,p0,p1,p2,p3⟩:=hp.ex hx;obtain ⟨y0,y1,y2,y3,hy0,hy1,hy2,hy3,ey,q0,q1,q2,q3⟩:=hq.ex hy;obtain ⟨s0,k0,hs0,hk0,e0,r0⟩:=eI x0 y0 hx0 hy0;obtain ⟨s1,k1,hs1,hk1,e1,r1⟩:=iK x1 y1 k0 hx1 hy1 hk0;obtain ⟨s2,k2,hs2,hk2,e2,r2⟩:=iK x2 y2 k1 hx2 hy2 hk1;obtain ⟨s3,k3,hs3,hk3,e3,r3⟩:=iK x3 y3 k2 hx3 hy3 hk2
 have hv:bN s0 s1 s2 s3+115792089237316195423570985008687907853269984665640564039457584007913129639936*k3=x+y:=by
  rw [←ex,←ey];unfold bN;omega
 have hset:=fun W=>jQ s0 s1 s2 s3 k3 hs0 hs1 hs2 hs3 (by omega) W
 rw [hv] at hset
 obtain ⟨N,hN⟩:∃ N,N=(x+y)%pF:=⟨_,rfl⟩
 rw [←hN] at hset ⊢;obtain ⟨z0,z1,z2,z3,hz⟩:=bh N;rw [hz] at hset ⊢;clear ex ey hp hq e0 e1 e2 e3 hv hN hz;go_enter Tryz.func220,Tryz.ntmps220;go_wp2;go_quiet (first | rw [r0]);go_wp2;go_quiet (first | rw [r1]);go_wp2;go_quiet (first | rw [r2]);go_wp2;go_quiet (first | rw [r3]);go_wp2_with (go_at_call 211;refine (hset _).mono ?_;clear hset;rintro e w1 ⟨rfl,hb1⟩;(obtain ⟨ht1,hbw,⟨t0,t1,t2,t3⟩,hf⟩:=behind hb1);(have f0:=hf 0 (by decide));(have f1:=hf 1 (by decide));(have f2:=hf 2 (by decide));(have f3:=hf 3 (by decide));clear hb1 hf);(try simp only [Exit.inBlock,Exit.then]);exact bodyPost_ret (bO Tryz.results220 _ _ _ _ _ _ _ ht1 rfl Tryz.underlying73 rfl (by kernel_rfl)) rfl ⟨rfl,bX hbw (JW _) _ _ _ _⟩
theorem CD (x y D E k u:Nat) (hx:x<pF) (hy:y<pF) (hk:k≤1) (_hu:u≤1) (hD:D+y=x+115792089237316195423570985008687907853269984665640564039457584007913129639936*k) (hDl:D<115792089237316195423570985008687907853269984665640564039457584007913129639936) (hE:E+19*k=D+115792089237316195423570985008687907853269984665640564039457584007913129639936*u) (_hEl:E<115792089237316195423570985008687907853269984665640564039457584007913129639936) :
 E%57896044618658097711785492504343953926634992332820282019728792003956564819968=(x+pF - y)%pF:=by
 unfold pF at *
 have h:k=0∨k=1:=by omega
 rcases h with rfl | rfl <;> omega
theorem Bb (a b c d:Nat) (ha:a<18446744073709551616) (hb:b<18446744073709551616) (hc:c<18446744073709551616):bN a b c (d%9223372036854775808)=bN a b c d%57896044618658097711785492504343953926634992332820282019728792003956564819968:=by
 unfold bN;omega
set_option maxRecDepth 20000 in
set_option maxHeartbeats 2000000 in
theorem po (p q x y:Nat) (hx:x<pF) (hy:y<pF) (w:World) (hp:fh w p x) (hq:fh w q y) :
 Calls Tryz.prog 176 #[.pointer (some ⟨p,0,none⟩),.pointer (some ⟨q,0,none⟩)] w fun e w'=>e = .returned (ag ((x+pF - y)%pF))∧Below w.heap.size w w':=by
 have hpl:=hp.lt;have hql:=hq.lt;obtain ⟨x0,x1,x2,x3,hx0,hx1,hx2,hx3,ex,p0,p1,p2,p3⟩:=hp.ex hx;obtain ⟨y0,y1,y2,y3,hy0,hy1,hy2,hy3,ey,q0,q1,q2,q3⟩:=hq.ex hy;obtain ⟨s0,k0,hs0,hk0,e0,r0⟩:=rp x0 y0 hx0 hy0;obtain ⟨s1,k1,hs1,hk1,e1,r1⟩:=gK x1 y1 k0 hx1 hy1 hk0;obtain ⟨s2,k2,hs2,hk2,e2,r2⟩:=gK x2 y2 k1 hx2 hy2 hk1;obtain ⟨s3,k3,hs3,hk3,e3,r3⟩:=gK x3 y3 k2 hx3 hy3 hk2
 obtain ⟨kk,hkk⟩:∃ kk,kk=19*k3:=⟨_,rfl⟩
 have okk:(19:Int)*(k3:Int)=(kk:Int):=by omega
 obtain ⟨u0,j0,hu0,hj0,g0,r4⟩:=rp s0 kk hs0 (by omega);obtain ⟨u1,j1,hu1,hj1,g1,r5⟩:=mc s1 j0 hs1 hj0;obtain ⟨u2,j2,hu2,hj2,g2,r6⟩:=mc s2 j1 hs2 hj1;obtain ⟨u3,j3,hu3,hj3,g3,r7⟩:=mc s3 j2 hs3 hj2;have hv:=CD x y (bN s0 s1 s2 s3) (bN u0 u1 u2 u3) k3 j3 hx hy hk3 hj3 (by rw [←ex,←ey];unfold bN;omega) (ny _ _ _ _ hs0 hs1 hs2 hs3) (by unfold bN;omega) (ny _ _ _ _ hu0 hu1 hu2 hu3);rw [←Bb _ _ _ _ hu0 hu1 hu2] at hv;have o3:=xD u3 hu3
 obtain ⟨ml,hml⟩:∃ ml,ml=u3%9223372036854775808:=⟨_,rfl⟩
 rw [←hml] at o3 hv;have fin:=Hid.mk' (nq ((x+pF - y)%pF) u0 u1 u2 ml hu0 hu1 hu2 (by omega) hv)
 obtain ⟨N,hN⟩:∃ N,N=(x+pF - y)%pF:=⟨_,rfl⟩
 rw [←hN] at fin ⊢;clear ex ey hp hq e0 e1 e2 e3 g0 g1 g2 g3 hv hN hml hkk;go_enter Tryz.func176,Tryz.ntmps176;go_wp2;go_quiet (first | rw [r0]);go_wp2;go_quiet (first | rw [r1]);go_wp2;go_quiet (first | rw [r2]);go_wp2;go_quiet (first | rw [r3]);go_wp2_with (first | rw [r4] | rw [r5] | rw [r6] | rw [r7]);(try simp only [Exit.inBlock,Exit.then]);exact bodyPost_ret (bO Tryz.results176 _ _ _ _ _ _ _ (fun j hj=>kf w _ _ _ _ _ j hj) rfl Tryz.underlying73 rfl (by kernel_rfl)) rfl ⟨by rw [fin.out],bX (bU ((Below.refl w.heap.size w).alloc (JW _) _) _) (JW _) _ _ _ _⟩
theorem ET (x a b c d:Nat):x*bN a b c d=x*a+18446744073709551616*(x*b)+340282366920938463463374607431768211456*(x*c)+6277101735386680763835789423207666416102355444464034512896*(x*d):=by
 unfold bN;rw [Nat.mul_add,Nat.mul_add,Nat.mul_add,Nat.mul_left_comm x,Nat.mul_left_comm x,Nat.mul_left_comm x]
set_option maxRecDepth 20000 in
set_option maxHeartbeats 2000000 in
theorem ic (t0 t1 t2 t3 x y0 y1 y2 y3:Nat) (ht0:t0<18446744073709551616) (ht1:t1<18446744073709551616) (ht2:t2<18446744073709551616) (ht3:t3<18446744073709551616) (hx:x<18446744073709551616) (hy0:y0<18446744073709551616) (hy1:y1<18446744073709551616) (hy2:y2<18446744073709551616) (hy3:y3<18446744073709551616) :
 ∃ r0 r1 r2 r3 r4:Nat,r0<18446744073709551616∧r1<18446744073709551616∧r2<18446744073709551616∧r3<18446744073709551616∧r4<18446744073709551616∧r0+18446744073709551616*bN r1 r2 r3 r4=bN t0 t1 t2 t3+x*bN y0 y1 y2 y3 ∧
 ∀ (w:World) (q:Nat),w.cell? ⟨q,0,none⟩=some (.int .u64 y0)→w.cell? ⟨q,1,none⟩=some (.int .u64 y1)→w.cell? ⟨q,2,none⟩=some (.int .u64 y2)→w.cell? ⟨q,3,none⟩=some (.int .u64 y3) →
  Calls Tryz.prog 209 #[.int .u64 t0,.int .u64 t1,.int .u64 t2,.int .u64 t3,.int .u64 x,.pointer (some ⟨q,0,none⟩)] w fun e w'=>e = .returned (.tuple #[.int .u64 r0,.int .u64 r1,.int .u64 r2,.int .u64 r3,.int .u64 r4])∧w'=w:=by
 obtain ⟨l0,h0,hl0,hh0,e0,r0⟩:=bM t0 x y0 0 ht0 hx hy0 (by decide);obtain ⟨l1,h1,hl1,hh1,e1,r1⟩:=bM t1 x y1 h0 ht1 hx hy1 hh0;obtain ⟨l2,h2,hl2,hh2,e2,r2⟩:=bM t2 x y2 h1 ht2 hx hy2 hh1;obtain ⟨l3,h3,hl3,hh3,e3,r3⟩:=bM t3 x y3 h2 ht3 hx hy3 hh2;refine ⟨l0,l1,l2,l3,h3,hl0,hl1,hl2,hl3,hh3,by rw [ET x];unfold bN;omega,fun w q q0 q1 q2 q3 => ?_⟩
 have c0:Calls Tryz.prog 210 #[.int .u64 t0,.int .u64 x,.int .u64 y0,.int .u64 0] w fun e w'=>e = .returned (.tuple #[.int .u64 l0,.int .u64 h0])∧w'=w:=r0 w
 have c1:=r1 w;have c2:=r2 w;have c3:=r3 w;clear e0 e1 e2 e3 r0 r1 r2 r3;go_enter Tryz.func209,Tryz.ntmps209
 go_wp2_with (first
  | (go_at_call 210;refine c0.mono ?_;clear c0;rintro e w' ⟨rfl,hw⟩;subst hw)
  | (go_at_call 210;refine c1.mono ?_;clear c1;rintro e w' ⟨rfl,hw⟩;subst hw)
  | (go_at_call 210;refine c2.mono ?_;clear c2;rintro e w' ⟨rfl,hw⟩;subst hw)
  | (go_at_call 210;refine c3.mono ?_;clear c3;rintro e w' ⟨rfl,hw⟩;subst hw))
 (try simp only [Exit.inBlock,Exit.then]);exact bodyPost_ret (tD Tryz.results209 _ _ _) rfl ⟨rfl,rfl⟩
theorem CE (X Y a0 a1 a2 a3:Nat) (hX:bN a0 a1 a2 a3=X) (w0 w1 w2 w3 A B C H:Nat) (e0:w0+18446744073709551616*A=a0*Y) (e1:w1+18446744073709551616*B=A+a1*Y) (e2:w2+18446744073709551616*C=B+a2*Y) (e3:w3+18446744073709551616*H=C+a3*Y) :
 bN w0 w1 w2 w3+115792089237316195423570985008687907853269984665640564039457584007913129639936*H=X*Y:=by
 have h:X*Y=a0*Y+18446744073709551616*(a1*Y)+340282366920938463463374607431768211456*(a2*Y)+6277101735386680763835789423207666416102355444464034512896*(a3*Y):=by
  rw [←hX];unfold bN;rw [Nat.add_mul,Nat.add_mul,Nat.add_mul,Nat.mul_assoc,Nat.mul_assoc,Nat.mul_assoc]
 rw [h];unfold bN;omega
theorem BR (W H V c XY:Nat) (h:W+115792089237316195423570985008687907853269984665640564039457584007913129639936*H=XY) (hv:V+115792089237316195423570985008687907853269984665640564039457584007913129639936*c=W+38*H) :
 (V+115792089237316195423570985008687907853269984665640564039457584007913129639936*c)%pF=XY%pF:=by
 have e:XY=W+38*H+pF*(2*H):=by unfold pF;omega
 rw [hv,e,Nat.add_mul_mod_self_left]
set_option maxRecDepth 20000 in
set_option maxHeartbeats 2000000 in
theorem u5 (p q x y:Nat) (hx:x<pF) (hy:y<pF) (w:World) (hp:fh w p x) (hq:fh w q y) :
 Calls Tryz.prog 161 #[.pointer (some ⟨p,0,none⟩),.pointer (some ⟨q,0,none⟩)] w fun e w'=>e = .returned (ag (x*y%pF))∧Below w.heap.size w w':=by
 have hpl:=hp.lt;have hql:=hq.lt;obtain ⟨x0,x1,x2,x3,hx0,hx1,hx2,hx3,ex,p0,p1,p2,p3⟩:=hp.ex hx;obtain ⟨y0,y1,y2,y3,hy0,hy1,hy2,hy3,ey,q0,q1,q2,q3⟩:=hq.ex hy;obtain ⟨w0,a0,a1,a2,a3,hw0,ha0,ha1,ha2,ha3,e0,r0⟩:=ic 0 0 0 0 x0 y0 y1 y2 y3 (by decide) (by decide) (by decide) (by decide) hx0 hy0 hy1 hy2 hy3;obtain ⟨w1,b0,b1,b2,b3,hw1,hb0,hb1,hb2,hb3,e1,r1⟩:=ic a0 a1 a2 a3 x1 y0 y1 y2 y3 ha0 ha1 ha2 ha3 hx1 hy0 hy1 hy2 hy3;obtain ⟨w2,c0,c1,c2,c3,hw2,hc0,hc1,hc2,hc3,e2,r2⟩:=ic b0 b1 b2 b3 x2 y0 y1 y2 y3 hb0 hb1 hb2 hb3 hx2 hy0 hy1 hy2 hy3;obtain ⟨w3,d0,d1,d2,d3,hw3,hd0,hd1,hd2,hd3,e3,r3⟩:=ic c0 c1 c2 c3 x3 y0 y1 y2 y3 hc0 hc1 hc2 hc3 hx3 hy0 hy1 hy2 hy3;obtain ⟨v0,k0,hv0,hk0,g0,r4⟩:=bM w0 d0 38 0 hw0 hd0 (by decide) (by decide);obtain ⟨v1,k1,hv1,hk1,g1,r5⟩:=bM w1 d1 38 k0 hw1 hd1 (by decide) hk0;obtain ⟨v2,k2,hv2,hk2,g2,r6⟩:=bM w2 d2 38 k1 hw2 hd2 (by decide) hk1;obtain ⟨v3,k3,hv3,hk3,g3,r7⟩:=bM w3 d3 38 k2 hw3 hd3 (by decide) hk2;rw [ey] at e0 e1 e2 e3;have hz:bN 0 0 0 0=0:=rfl;rw [hz,J0] at e0;have hprod:=CE x y x0 x1 x2 x3 ex w0 w1 w2 w3 _ _ _ _ e0 e1 e2 e3
 have hfold:bN v0 v1 v2 v3+115792089237316195423570985008687907853269984665640564039457584007913129639936*k3=bN w0 w1 w2 w3+38*bN d0 d1 d2 d3:=by unfold bN;omega
 have hk38:k3≤38:=by
  have h1:=ny w0 w1 w2 w3 hw0 hw1 hw2 hw3;have h2:=ny d0 d1 d2 d3 hd0 hd1 hd2 hd3;omega
 have hset:=fun W=>jQ v0 v1 v2 v3 k3 hv0 hv1 hv2 hv3 hk38 W
 rw [BR _ _ _ _ _ hprod hfold] at hset
 obtain ⟨N,hN⟩:∃ N,N=x*y%pF:=⟨_,rfl⟩
 rw [←hN] at hset ⊢;obtain ⟨z0,z1,z2,z3,hz⟩:=bh N;rw [hz] at hset ⊢
 have m0:∀ W:World,W.cell? ⟨q,0,none⟩=some (.int .u64 y0)→W.cell? ⟨q,1,none⟩=some (.int .u64 y1)→W.cell? ⟨q,2,none⟩=some (.int .u64 y2)→W.cell? ⟨q,3,none⟩=some (.int .u64 y3)→Calls Tryz.prog 209 #[.int .u64 0,.int .u64 0,.int .u64 0,.int .u64 0,.int .u64 x0,.pointer (some ⟨q,0,none⟩)] W fun e w'=>e = .returned (.tuple #[.int .u64 w0,.int .u64 a0,.int .u64 a1,.int .u64 a2,.int .u64 a3])∧w'=W:=fun W=>r0 W q
 have m4:∀ W:World,Calls Tryz.prog 210 #[.int .u64 w0,.int .u64 d0,.int .u64 38,.int .u64 0] W fun e w'=>e = .returned (.tuple #[.int .u64 v0,.int .u64 k0])∧w'=W:=fun W=>r4 W
 have m5:∀ W:World,Calls Tryz.prog 210 #[.int .u64 w1,.int .u64 d1,.int .u64 38,.int .u64 k0] W fun e w'=>e = .returned (.tuple #[.int .u64 v1,.int .u64 k1])∧w'=W:=fun W=>r5 W
 have m6:∀ W:World,Calls Tryz.prog 210 #[.int .u64 w2,.int .u64 d2,.int .u64 38,.int .u64 k1] W fun e w'=>e = .returned (.tuple #[.int .u64 v2,.int .u64 k2])∧w'=W:=fun W=>r6 W
 have m7:∀ W:World,Calls Tryz.prog 210 #[.int .u64 w3,.int .u64 d3,.int .u64 38,.int .u64 k2] W fun e w'=>e = .returned (.tuple #[.int .u64 v3,.int .u64 k3])∧w'=W:=fun W=>r7 W
 obtain ⟨W,hW⟩:∃ W,W=w.alloc (.cells #[.int .u64 0,.int .u64 0,.int .u64 0,.int .u64 0] 73):=⟨_,rfl⟩
 have HW:=Hid.mk' hW
 have hbw:Below w.heap.size w W:=by rw [hW];exact (Below.refl _ _).alloc (JW _) _
 have Q0:=(hbw.cell (p:=⟨q,0,none⟩) hql).trans q0;have Q1:=(hbw.cell (p:=⟨q,1,none⟩) hql).trans q1;have Q2:=(hbw.cell (p:=⟨q,2,none⟩) hql).trans q2;have Q3:=(hbw.cell (p:=⟨q,3,none⟩) hql).trans q3;have P0:=(hbw.cell (p:=⟨p,0,none⟩) hpl).trans p0;have P1:=(hbw.cell (p:=⟨p,1,none⟩) hpl).trans p1;have P2:=(hbw.cell (p:=⟨p,2,none⟩) hpl).trans p2;have P3:=(hbw.cell (p:=⟨p,3,none⟩) hpl).trans p3;replace m0:=m0 W Q0 Q1 Q2 Q3;have m1:=r1 W q Q0 Q1 Q2 Q3;have m2:=r2 W q Q0 Q1 Q2 Q3;have m3:=r3 W q Q0 Q1 Q2 Q3;clear ex ey hp hq e0 e1 e2 e3 g0 g1 g2 g3 hprod hfold hN hz r0 r1 r2 r3 r4 r5 r6 r7 p1 p2 p3 q0 q1 q2 q3 P0 hW;go_enter Tryz.func161,Tryz.ntmps161
 go_wp2_with (first
  | (go_at_call 209;rw [←HW.out];refine m0.mono ?_;clear m0;rintro e w' ⟨rfl,hw⟩;subst hw)
  | (go_at_call 209;refine m1.mono ?_;clear m1;rintro e w' ⟨rfl,hw⟩;subst hw)
  | (go_at_call 209;refine m2.mono ?_;clear m2;rintro e w' ⟨rfl,hw⟩;subst hw)
  | (go_at_call 209;refine m3.mono ?_;clear m3;rintro e w' ⟨rfl,hw⟩;subst hw)
  | (go_at_call 210;refine (m4 _).mono ?_;clear m4;rintro e w' ⟨rfl,hw⟩;subst hw)
  | (go_at_call 210;refine (m5 _).mono ?_;clear m5;rintro e w' ⟨rfl,hw⟩;subst hw)
  | (go_at_call 210;refine (m6 _).mono ?_;clear m6;rintro e w' ⟨rfl,hw⟩;subst hw)
  | (go_at_call 210;refine (m7 _).mono ?_;clear m7;rintro e w' ⟨rfl,hw⟩;subst hw)
  | (go_at_call 211;refine (hset _).mono ?_;clear hset;rintro e w9 ⟨rfl,hb9⟩;rw [HW.out] at hb9;(obtain ⟨ht1,hbw9,⟨t0,t1,t2,t3⟩,hf⟩:=sR hb9);(have f0:=hf 0 (by decide));(have f1:=hf 1 (by decide));(have f2:=hf 2 (by decide));(have f3:=hf 3 (by decide));clear hb9 hf))
 (try simp only [Exit.inBlock,Exit.then]);exact bodyPost_ret (bO Tryz.results161 _ _ _ _ _ _ _ ht1 rfl Tryz.underlying73 rfl (by kernel_rfl)) rfl ⟨rfl,bX hbw9 (JW _) _ _ _ _⟩
theorem sO {w w1:World} {A B:Obj} {a b c d:Value} {t:TypeId} (h:Below (((w.alloc A).alloc B).alloc (.cells #[a,b,c,d] t)).heap.size (((w.alloc A).alloc B).alloc (.cells #[a,b,c,d] t)) w1):w1.there (w.heap.size+1+1) 0 4∧Below w.heap.size w w1 ∧
 (w1.cell? ⟨w.heap.size+1+1,0,none⟩=some a∧w1.cell? ⟨w.heap.size+1+1,1,none⟩=some b∧w1.cell? ⟨w.heap.size+1+1,2,none⟩=some c∧w1.cell? ⟨w.heap.size+1+1,3,none⟩=some d)∧∀ j,j<4→w1.frozen? ⟨w.heap.size+1+1,j,none⟩=false:=by
 have hs:((w.alloc A).alloc B).heap.size=w.heap.size+1+1:=by simp
 have:=sR h;rw [hs] at this;obtain ⟨h1,h2,h3,h4⟩:=this;exact ⟨h1,(((Below.refl w.heap.size w).alloc (JW _) A).alloc (by simp) B).trans (h2.mono (by omega)),h3,h4⟩
theorem iS (w:World) (x y:Nat) (C:Obj) (t:TypeId):fh (((w.alloc (.cells #[.int .u64 (lw x 0),.int .u64 (lw x 1),.int .u64 (lw x 2),.int .u64 (lw x 3)] t)).alloc (.cells #[.int .u64 (lw y 0),.int .u64 (lw y 1),.int .u64 (lw y 2),.int .u64 (lw y 3)] t)).alloc C) w.heap.size x∧fh (((w.alloc (.cells #[.int .u64 (lw x 0),.int .u64 (lw x 1),.int .u64 (lw x 2),.int .u64 (lw x 3)] t)).alloc (.cells #[.int .u64 (lw y 0),.int .u64 (lw y 1),.int .u64 (lw y 2),.int .u64 (lw y 3)] t)).alloc C) (w.heap.size+1) y:=by
 have h1:∀ (u:World) (n:Nat),fh (u.alloc (.cells #[.int .u64 (lw n 0),.int .u64 (lw n 1),.int .u64 (lw n 2),.int .u64 (lw n 3)] t)) u.heap.size n:=fun u n=>by constructor <;> simp
 refine ⟨((h1 w x).below ((Below.refl _ _).alloc (JW _) _) (by simp)).below ((Below.refl _ _).alloc (JW _) _) (by simp;omega),?_⟩;have h2:=h1 (w.alloc (.cells #[.int .u64 (lw x 0),.int .u64 (lw x 1),.int .u64 (lw x 2),.int .u64 (lw x 3)] t)) y
 have hs:(w.alloc (.cells #[.int .u64 (lw x 0),.int .u64 (lw x 1),.int .u64 (lw x 2),.int .u64 (lw x 3)] t)).heap.size=w.heap.size+1:=by simp
 rw [hs] at h2;exact h2.below ((Below.refl _ _).alloc (JW _) C) (by simp)
set_option maxRecDepth 20000 in
set_option maxHeartbeats 2000000 in
theorem eY (x y:Nat) (hx:x<pF) (hy:y<pF) (w:World) :
 Calls Tryz.prog 175 #[ag x,ag y] w fun e w'=>e = .returned (ag ((x+y)%pF))∧Below w.heap.size w w':=by
 obtain ⟨hX,hY⟩:=iS w x y (.cells #[.int .u64 0,.int .u64 0,.int .u64 0,.int .u64 0] 75) 75;have hs:=Et w.heap.size (w.heap.size+1) x y hx hy _ hX hY
 obtain ⟨N,hN⟩:∃ N,N=(x+y)%pF:=⟨_,rfl⟩
 rw [←hN] at hs ⊢;obtain ⟨z0,z1,z2,z3,hz⟩:=bh N;rw [hz] at hs ⊢;unfold ag;clear hX hY hN hz;go_enter Tryz.func175,Tryz.ntmps175;go_wp2_with (go_at_call 220;refine hs.mono ?_;clear hs;rintro e w1 ⟨rfl,hb1⟩;(obtain ⟨ht1,hbw,⟨t0,t1,t2,t3⟩,hf⟩:=sO hb1);(have f0:=hf 0 (by decide));(have f1:=hf 1 (by decide));(have f2:=hf 2 (by decide));(have f3:=hf 3 (by decide));clear hb1 hf);(try simp only [Exit.inBlock,Exit.then]);exact bodyPost_ret (bO Tryz.results175 _ _ _ _ _ _ _ ht1 rfl Tryz.underlying75 rfl (by kernel_rfl)) rfl ⟨rfl,bX hbw (by omega) _ _ _ _⟩
set_option maxRecDepth 20000 in
set_option maxHeartbeats 2000000 in
theorem dJ (x y:Nat) (hx:x<pF) (hy:y<pF) (w:World) :
 Calls Tryz.prog 112 #[ag x,ag y] w fun e w'=>e = .returned (ag ((x+pF - y)%pF))∧Below w.heap.size w w':=by
 obtain ⟨hX,hY⟩:=iS w x y (.cells #[.int .u64 0,.int .u64 0,.int .u64 0,.int .u64 0] 75) 75;have hs:=po w.heap.size (w.heap.size+1) x y hx hy _ hX hY
 obtain ⟨N,hN⟩:∃ N,N=(x+pF - y)%pF:=⟨_,rfl⟩
 rw [←hN] at hs ⊢;obtain ⟨z0,z1,z2,z3,hz⟩:=bh N;rw [hz] at hs ⊢;unfold ag;clear hX hY hN hz;go_enter Tryz.func112,Tryz.ntmps112;go_wp2_with (go_at_call 176;refine hs.mono ?_;clear hs;rintro e w1 ⟨rfl,hb1⟩;(obtain ⟨ht1,hbw,⟨t0,t1,t2,t3⟩,hf⟩:=sO hb1);(have f0:=hf 0 (by decide));(have f1:=hf 1 (by decide));(have f2:=hf 2 (by decide));(have f3:=hf 3 (by decide));clear hb1 hf);(try simp only [Exit.inBlock,Exit.then]);exact bodyPost_ret (bO Tryz.results112 _ _ _ _ _ _ _ ht1 rfl Tryz.underlying75 rfl (by kernel_rfl)) rfl ⟨rfl,bX hbw (by omega) _ _ _ _⟩
set_option maxRecDepth 20000 in
set_option maxHeartbeats 2000000 in
theorem aI (x y:Nat) (hx:x<pF) (hy:y<pF) (w:World) :
 Calls Tryz.prog 98 #[ag x,ag y] w fun e w'=>e = .returned (ag (x*y%pF))∧Below w.heap.size w w':=by
 obtain ⟨hX,hY⟩:=iS w x y (.cells #[.int .u64 0,.int .u64 0,.int .u64 0,.int .u64 0] 75) 75;have hs:=u5 w.heap.size (w.heap.size+1) x y hx hy _ hX hY
 obtain ⟨N,hN⟩:∃ N,N=x*y%pF:=⟨_,rfl⟩
 rw [←hN] at hs ⊢;obtain ⟨z0,z1,z2,z3,hz⟩:=bh N;rw [hz] at hs ⊢;unfold ag;clear hX hY hN hz;go_enter Tryz.func98,Tryz.ntmps98;go_wp2_with (go_at_call 161;refine hs.mono ?_;clear hs;rintro e w1 ⟨rfl,hb1⟩;(obtain ⟨ht1,hbw,⟨t0,t1,t2,t3⟩,hf⟩:=sO hb1);(have f0:=hf 0 (by decide));(have f1:=hf 1 (by decide));(have f2:=hf 2 (by decide));(have f3:=hf 3 (by decide));clear hb1 hf);(try simp only [Exit.inBlock,Exit.then]);exact bodyPost_ret (bO Tryz.results98 _ _ _ _ _ _ _ ht1 rfl Tryz.underlying75 rfl (by kernel_rfl)) rfl ⟨rfl,bX hbw (by omega) _ _ _ _⟩
set_option maxRecDepth 20000 in
set_option maxHeartbeats 2000000 in
theorem gI (n:Nat) (w:World) :
 Calls Tryz.prog 160 #[ag n] w fun e w'=>∃ g,e = .returned (.slice (some ⟨g,0,none⟩) 32 32)∧w.heap.size≤g∧ah .u8 w' g 0 32 (bf n)∧Below w.heap.size w w':=by
 obtain ⟨W,hW⟩:∃ W,W=w.alloc (.cells #[.int .u64 (lw n 0),.int .u64 (lw n 1),.int .u64 (lw n 2),.int .u64 (lw n 3)] 75):=⟨_,rfl⟩
 have hN:fh W w.heap.size n:=by rw [hW];constructor <;> simp
 have hWs:W.heap.size=w.heap.size+1:=by rw [hW];simp
 have hbW:Below w.heap.size w W:=by rw [hW];exact (Below.refl _ _).alloc (JW _) _
 have hlw:∀ (wr:World),Below (w.heap.size+1) W wr→∀ a,a<4→wr.cell? ⟨w.heap.size,a,none⟩=some (.int .u64 (lw n a)):=fun wr hb a ha=>by
  have h:=hN.below hb (by omega)
  match a,ha with
  | 0,_=>exact h.c0
  | 1,_=>exact h.c1
  | 2,_=>exact h.c2
  | 3,_=>exact h.c3
 have hmk:=cO W 32 32 rfl (by decide);have HW:=Hid.mk' hW;have hb0:Below (w.heap.size+1) W (W.alloc (.cells (zb 32) 5)):=(Below.refl _ _).alloc (by omega) _
 have hrow0:ah .u8 (W.alloc (.cells (zb 32) 5)) (w.heap.size+1) 0 32 (fun _=>0):=by rw [←hWs];exact ah.fresh (fun j hj=>fO 32 j hj)
 unfold ag;clear hW hN;go_enter Tryz.func160,Tryz.ntmps160;go_wp2_with (rw [←HW.out];rw [hmk]);go_loopw [8] (fun i wr=>∃ k:Nat,k≤32∧i = .int .i64 k∧ah .u8 wr (w.heap.size+1) 0 32 (fun j=>if j<k then bf n j else 0)∧Below (w.heap.size+1) W wr) (fun i _=>32 - (intOf i).toNat)
 case atStart=>exact ⟨0,Nat.zero_le _,rfl,hrow0.congr (fun j _=>by simp),hb0⟩
 case round =>
  clear hrow0 hb0 hmk;obtain ⟨k,hk,rfl,hrow,hb⟩:=hrel
  by_cases hlt:k<32
  · obtain ⟨rk,rf⟩:=hrow k hlt
    rw [J0] at rk rf;have hc:=hlw wr hb (k / 8) (by omega)
    have rk0:wr.cell? ⟨w.heap.size+1,k,none⟩=some (.int .u8 0):=by simpa using rk
    clear hlw rk;go_wp2;go_roundw
    case rel =>
     have h1:=hrow.set (i:=k) hlt (v:=(lw n (k / 8):Int) / 2 ^ (k%8*8)%256) (u:=bf n k) (js n k);rw [J0] at h1;refine ⟨k+1,by omega,by go_num,h1.congr (fun j hj => ?_),hb.setCell (JW _) _⟩;unfold bK
     by_cases e:j=k
     · rw [if_pos e,if_pos (by omega),e]
     · rw [if_neg e]
       show (if j<k then bf n j else 0)=_
       by_cases e2:j<k
       · rw [if_pos e2,if_pos (by omega)]
       · rw [if_neg e2,if_neg (by omega)]
    case measure=>simp [intOf];omega
  · go_wp2
    go_ret;exact ⟨w.heap.size+1,rfl,by omega,hrow.congr (fun j hj=>by rw [if_pos (by omega)]),hbW.trans (hb.mono (by omega))⟩
theorem am {P:Program} {fn:Func} {p q:Tmp} {ty:TypeId} (h:fn.results=#[.cell p ty,.tmp q]) (tmps:Array Value) (w:World) (g o:Nat) (cs:List Value) (d:TypeDesc)
 (hp:tmps.getD p undef = .pointer (some ⟨g,o,none⟩)) (hc:w.rangeAt g o cs)
 (hu:P.underlying ty=some d) (hd:d.isRow=true) (hi:(P.info? ty).map (·.size)=some cs.length) :
 (results fn tmps).run P w = .ok (.tuple #[.agg cs.toArray,tmps.getD q undef]) w:=by
 have hp':tmps[p]?.getD undef = .pointer (some ⟨g,o,none⟩):=by simpa using hp
 simp [results,h,hp',asAddr,run_loadVar_mid w g o ty cs d hc hu hd hi]
theorem AD:ag 0 = .agg #[.int .u64 0,.int .u64 0,.int .u64 0,.int .u64 0]:=by kernel_rfl
set_option maxRecDepth 20000 in
set_option maxHeartbeats 2000000 in
theorem wW (xo:Option Addr) (n c:Nat) (hn:n≠32) (w:World) :
 Calls Tryz.prog 172 #[.slice xo n c] w fun e w'=>e = .returned (.tuple #[ag 0,.int .i64 1])∧Below w.heap.size w w':=by
 have hni:¬(n:Int)=32:=by omega
 rw [AD];go_enter Tryz.func172,Tryz.ntmps172;go_wp2;(try simp only [Exit.inBlock,Exit.then]);exact bodyPost_ret (am Tryz.results172 _ _ w.heap.size 0 [.int .u64 0,.int .u64 0,.int .u64 0,.int .u64 0] _ rfl (ii w _ _ _ _ _) Tryz.underlying75 rfl (by kernel_rfl)) rfl ⟨rfl,(Below.refl _ _).alloc (JW _) _⟩
set_option maxRecDepth 20000 in
set_option maxHeartbeats 2000000 in
theorem E8 (bb ob c:Nat) (bs:Nat→Nat) (hbs:∀ j,bs j<256) (w:World) (hbl:bb<w.heap.size) (hc:∀ j,j<32→w.cell? ⟨bb,ob+j,none⟩=some (.int .u8 (bs j))) :
 Calls Tryz.prog 172 #[.slice (some ⟨bb,ob,none⟩) 32 c] w fun e w'=>e = .returned (.tuple #[ag (aK bs 32%pF),.int .i64 0])∧Below w.heap.size w w':=by
 obtain ⟨W,hW⟩:∃ W,W=w.alloc (.cells #[.int .u64 0,.int .u64 0,.int .u64 0,.int .u64 0] 75):=⟨_,rfl⟩
 have hWs:W.heap.size=w.heap.size+1:=by rw [hW];simp
 have hbW:Below w.heap.size w W:=by rw [hW];exact (Below.refl _ _).alloc (JW _) _
 have HW:=Hid.mk' hW
 have hrow0:ah .u64 (W.alloc (.cells #[.int .u64 0,.int .u64 0,.int .u64 0,.int .u64 0] 73)) (w.heap.size+1) 0 4 (lw (aK bs 0)):=by
  rw [←hWs]
  have hz:∀ a,lw (aK bs 0) a=0:=fun a=>by unfold lw aK;rw [Nat.zero_div,Nat.zero_mod]
  exact ah.fresh (fun j hj=>by rw [hz];exact match j,hj with | 0,_=>rfl | 1,_=>rfl | 2,_=>rfl | 3,_=>rfl)
 have hb0:Below (w.heap.size+1) W (W.alloc (.cells #[.int .u64 0,.int .u64 0,.int .u64 0,.int .u64 0] 73)):=(Below.refl _ _).alloc (by omega) _
 have hset:∀ W',Calls Tryz.prog 211 #[.int .u64 (lw (aK bs 32) 0),.int .u64 (lw (aK bs 32) 1),.int .u64 (lw (aK bs 32) 2),.int .u64 (lw (aK bs 32) 3),.int .u64 0] W' fun e w'=>e = .returned (ag (aK bs 32%pF))∧Below W'.heap.size W' w':=fun W'=>by
  have:=jQ (lw (aK bs 32) 0) (lw (aK bs 32) 1) (lw (aK bs 32) 2) (lw (aK bs 32) 3) 0 (fs _ _) (fs _ _) (fs _ _) (fs _ _) (by decide) W';rw [BX _ (dY bs hbs 32),Nat.mul_zero,Nat.add_zero] at this;exact this
 obtain ⟨N,hN⟩:∃ N,N=aK bs 32%pF:=⟨_,rfl⟩
 rw [←hN] at hset ⊢;obtain ⟨z0,z1,z2,z3,hz⟩:=bh N;rw [hz] at hset ⊢;clear hW hN hz;go_enter Tryz.func172,Tryz.ntmps172;go_wp2;rw [←HW.out];go_loopw [13] (fun i wr=>∃ k:Nat,k≤32∧i = .int .i64 k∧ah .u64 wr (w.heap.size+1) 0 4 (lw (aK bs k))∧Below (w.heap.size+1) W wr) (fun i _=>32 - (intOf i).toNat)
 case atStart=>exact ⟨0,Nat.zero_le _,rfl,hrow0,hb0⟩
 case round =>
  clear hrow0 hb0;obtain ⟨k,hk,rfl,hrow,hb⟩:=hrel
  by_cases hlt:k<32
  · obtain ⟨rk,rf⟩:=hrow (k / 8) (by omega)
    rw [J0] at rk rf;have hck:wr.cell? ⟨bb,ob+k,none⟩=some (.int .u8 (bs k)):=((hbW.trans (hb.mono (by omega))).cell (p:=⟨bb,ob+k,none⟩) hbl).trans (hc k hlt);have hor:=zk (lw (aK bs k) (k / 8)) (bs k) k (fs _ _) (hbs k);have hbk:=hbs k;clear hc hset;go_wp2;go_roundw
    case rel =>
     have h1:=hrow.set (i:=k / 8) (by omega) (v:=((lw (aK bs k) (k / 8) ||| bs k*2 ^ (k%8*8):Nat):Int)) rfl;rw [J0] at h1;refine ⟨k+1,by omega,by go_num,h1.congr (fun j hj => ?_),hb.setCell (JW _) _⟩;rw [qW bs hbs k j];unfold bK
     by_cases e:j=k / 8
     · rw [if_pos e,if_pos e,e]
     · rw [if_neg e,if_neg e]
    case measure=>simp [intOf];omega
  · have hke:k=32:=by omega
    rw [hke] at hrow;have d0:=(hrow 0 (by decide)).1;have d1:=(hrow 1 (by decide)).1;have d2:=(hrow 2 (by decide)).1;have d3:=(hrow 3 (by decide)).1;rw [J0] at d0 d1 d2 d3;have hsr:=hset wr
    obtain ⟨v0,hv0⟩:∃ v,v=lw (aK bs 32) 0:=⟨_,rfl⟩
    obtain ⟨v1,hv1⟩:∃ v,v=lw (aK bs 32) 1:=⟨_,rfl⟩
    obtain ⟨v2,hv2⟩:∃ v,v=lw (aK bs 32) 2:=⟨_,rfl⟩
    obtain ⟨v3,hv3⟩:∃ v,v=lw (aK bs 32) 3:=⟨_,rfl⟩
    rw [←hv0] at d0;rw [←hv1] at d1;rw [←hv2] at d2;rw [←hv3] at d3;rw [←hv0,←hv1,←hv2,←hv3] at hsr;clear hset hrow hc hke hv0 hv1 hv2 hv3
    have hbr:Below (w.heap.size+1) (w.alloc (.cells #[.int .u64 0,.int .u64 0,.int .u64 0,.int .u64 0] 75)) wr:=by rw [←HW.out];exact hb
    go_wp2_with (go_at_call 211;refine hsr.mono ?_;clear hsr;rintro e w1 ⟨rfl,hb1⟩;(obtain ⟨ht1,hbw,⟨t0,t1,t2,t3⟩,hf⟩:=sR (w:=w) (by rw [World.size_alloc];exact hbr.trans (hb1.mono (by have:=hbr.size;rw [World.size_alloc] at this;exact this)));(have f0:=hf 0 (by decide));(have f1:=hf 1 (by decide));(have f2:=hf 2 (by decide));(have f3:=hf 3 (by decide));clear hb1 hf));(try simp only [Exit.inBlock,Exit.then]);exact bodyPost_ret (am Tryz.results172 _ _ w.heap.size 0 [.int .u64 z0,.int .u64 z1,.int .u64 z2,.int .u64 z3] _ rfl (World.rangeAt_setCells_same w1 w.heap.size 0 [.int .u64 z0,.int .u64 z1,.int .u64 z2,.int .u64 z3] ht1) Tryz.underlying75 rfl (by kernel_rfl)) rfl ⟨rfl,bX hbw (JW _) _ _ _ _⟩
theorem wb (n:Nat) (h:n<18446744073709551616):(Value.agg #[.int .u64 n,.int .u64 0,.int .u64 0,.int .u64 0]:Value)=ag n :=
 nq n n 0 0 0 h (by decide) (by decide) (by decide) (by unfold bN;omega)
set_option maxRecDepth 20000 in
set_option maxHeartbeats 2000000 in
theorem jJ (n:Nat) (h:n≤9223372036854775807) (w:World):Calls Tryz.prog 157 #[.int .i64 n] w fun e w'=>e = .returned (ag n)∧Below w.heap.size w w':=by
 have fin:=Hid.mk' (wb n (by omega))
 have hni:¬(n:Int)<0:=by omega
 go_enter Tryz.func157,Tryz.ntmps157;go_wp2;(try simp only [Exit.inBlock,Exit.then]);exact bodyPost_ret (fN Tryz.results157 _ _ _ _ _ _ _ rfl Tryz.underlying75 rfl (by kernel_rfl)) rfl ⟨by rw [fin.out],(Below.refl _ _).alloc (JW _) _⟩
end Go.Proofs.YtibdhadbflfdpaaGreatDoor
