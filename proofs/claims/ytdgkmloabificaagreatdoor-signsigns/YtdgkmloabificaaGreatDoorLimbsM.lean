/- What the proof stands on: Limbs, Number, Both, Then, Ones, Inverse, FSmall, Narrow, LRow, ZAb, RNum, NNum. -/
import Derived.Test.YtdgkmloabificaaGreatDoorBaseM
import Derived.Test.YtdgkmloabificaaGreatDoorRefFromM
import Derived.Deep.Cut
namespace Go.Proofs.YtdgkmloabificaaGreatDoor
open Go.RowKit
structure NumAt (w:World) (b n:Nat):Prop where
 c0:w.cell? ⟨b,0,none⟩=some (.int .u64 (lw n 0))
 c1:w.cell? ⟨b,1,none⟩=some (.int .u64 (lw n 1))
 c2:w.cell? ⟨b,2,none⟩=some (.int .u64 (lw n 2))
 c3:w.cell? ⟨b,3,none⟩=some (.int .u64 (lw n 3))
theorem NumAt.lt {w:World} {b n:Nat} (h:NumAt w b n):b<w.heap.size:=block_lt_of_cell h.c0
theorem NumAt.below {w w':World} {b n B:Nat} (h:NumAt w b n) (hb:Below B w w') (hB:b<B):NumAt w' b n :=
 ⟨(hb.cell (p:=⟨b,0,none⟩) hB).trans h.c0,(hb.cell (p:=⟨b,1,none⟩) hB).trans h.c1,(hb.cell (p:=⟨b,2,none⟩) hB).trans h.c2,(hb.cell (p:=⟨b,3,none⟩) hB).trans h.c3⟩
theorem NumAt.ex {w:World} {b n:Nat} (h:NumAt w b n) (hn:n<pF):∃ x0 x1 x2 x3:Nat,x0<18446744073709551616∧x1<18446744073709551616∧x2<18446744073709551616∧x3<18446744073709551616∧val4 x0 x1 x2 x3=n∧w.cell? ⟨b,0,none⟩=some (.int .u64 x0)∧w.cell? ⟨b,1,none⟩=some (.int .u64 x1)∧w.cell? ⟨b,2,none⟩=some (.int .u64 x2)∧w.cell? ⟨b,3,none⟩=some (.int .u64 x3) :=
 ⟨lw n 0,lw n 1,lw n 2,lw n 3,lw_lt _ _,lw_lt _ _,lw_lt _ _,lw_lt _ _,lw_val n (by unfold pF at hn;omega),h.c0,h.c1,h.c2,h.c3⟩
theorem numV_ex (n:Nat):∃ x0 x1 x2 x3:Nat,numV n = .agg #[.int .u64 x0,.int .u64 x1,.int .u64 x2,.int .u64 x3]:=⟨_,_,_,_,rfl⟩
theorem there_below {W w1:World} {b o n:Nat} (h:W.there b o n) (hb:Below W.heap.size W w1) (hl:b<W.heap.size):w1.there b o n:=fun j hj=>by
 rw [hb.cell (p:=⟨b,o+j,none⟩) hl,hb.frozen (p:=⟨b,o+j,none⟩) hl];exact h j hj
theorem there_fresh4 (w:World) (a b c d:Value) (t:TypeId):(w.alloc (.cells #[a,b,c,d] t)).there w.heap.size 0 4:=fun j hj=>by
 match j,hj with
 | 0,_=>simp
 | 1,_=>simp
 | 2,_=>simp
 | 3,_=>simp
theorem behind {w w1:World} {a b c d:Value} {t:TypeId} {n:Nat} (h:Below ((w.alloc (.cells #[a,b,c,d] t)).drewN n).heap.size ((w.alloc (.cells #[a,b,c,d] t)).drewN n) w1):w1.there w.heap.size 0 4∧Below w.heap.size w w1 ∧
 (w1.cell? ⟨w.heap.size,0,none⟩=some a∧w1.cell? ⟨w.heap.size,1,none⟩=some b∧w1.cell? ⟨w.heap.size,2,none⟩=some c∧w1.cell? ⟨w.heap.size,3,none⟩=some d)∧∀ j,j<4→w1.frozen? ⟨w.heap.size,j,none⟩=false:=by
 have hs:w.heap.size<((w.alloc (.cells #[a,b,c,d] t)).drewN n).heap.size:=by simp
 have ht:=there_below (W:=(w.alloc (.cells #[a,b,c,d] t)).drewN n) (fun j hj=>there_fresh4 w a b c d t j hj) h hs
 have hr:=range_fresh4 w a b c d t
 refine ⟨ht,(below_drewN ((Below.refl w.heap.size w).alloc (Nat.le_refl _) (.cells #[a,b,c,d] t)) n).trans (h.mono (Nat.le_of_lt hs)),⟨?_,?_,?_,?_⟩,fun j hj=>by have:=(ht j hj).2;rwa [Nat.zero_add] at this⟩
 · exact (h.cell (p:=⟨w.heap.size,0,none⟩) hs).trans (hr 0 a rfl)
 · exact (h.cell (p:=⟨w.heap.size,1,none⟩) hs).trans (hr 1 b rfl)
 · exact (h.cell (p:=⟨w.heap.size,2,none⟩) hs).trans (hr 2 c rfl)
 · exact (h.cell (p:=⟨w.heap.size,3,none⟩) hs).trans (hr 3 d rfl)
theorem behind' {w w1:World} {a b c d:Value} {t:TypeId} (h:Below (w.alloc (.cells #[a,b,c,d] t)).heap.size (w.alloc (.cells #[a,b,c,d] t)) w1):w1.there w.heap.size 0 4∧Below w.heap.size w w1 ∧
 (w1.cell? ⟨w.heap.size,0,none⟩=some a∧w1.cell? ⟨w.heap.size,1,none⟩=some b∧w1.cell? ⟨w.heap.size,2,none⟩=some c∧w1.cell? ⟨w.heap.size,3,none⟩=some d)∧∀ j,j<4→w1.frozen? ⟨w.heap.size,j,none⟩=false:=behind (n:=0) h
theorem results_set4 {P:Program} {fn:Func} {p:Tmp} {ty:TypeId} (h:fn.results=#[.cell p ty]) (tmps:Array Value) (w:World) (g:Nat) (a b c d:Value) {D:TypeDesc} (ht:w.there g 0 4)
 (hp:tmps.getD p undef = .pointer (some ⟨g,0,none⟩)) (hu:P.underlying ty=some D) (hd:D.isRow=true) (hi:(P.info? ty).map (·.size)=some 4) :
 (results fn tmps).run P ((((w.setCell ⟨g,0,none⟩ a).setCell ⟨g,1,none⟩ b).setCell ⟨g,2,none⟩ c).setCell ⟨g,3,none⟩ d) = .ok (.agg #[a,b,c,d]) ((((w.setCell ⟨g,0,none⟩ a).setCell ⟨g,1,none⟩ b).setCell ⟨g,2,none⟩ c).setCell ⟨g,3,none⟩ d) :=
 results_cell_mid h tmps _ g 0 [a,b,c,d] D hp (World.rangeAt_setCells_same w g 0 [a,b,c,d] ht) hu hd hi
theorem below_set4 {B:Nat} {u w:World} {g:Nat} (h:Below B u w) (hg:B≤g) (a b c d:Value):Below B u ((((w.setCell ⟨g,0,none⟩ a).setCell ⟨g,1,none⟩ b).setCell ⟨g,2,none⟩ c).setCell ⟨g,3,none⟩ d) :=
 (((h.setCell hg a).setCell hg b).setCell hg c).setCell hg d
set_option maxRecDepth 20000 in
set_option maxHeartbeats 2000000 in
theorem sum_any (p q x y:Nat) (hx:x<pF) (hy:y<pF) (w:World) (hp:NumAt w p x) (hq:NumAt w q y) :
 Calls Tryz.prog 127 #[.pointer (some ⟨p,0,none⟩),.pointer (some ⟨q,0,none⟩)] w fun e w'=>e = .returned (numV ((x+y)%pF))∧Below w.heap.size w w':=by
 have hpl:=hp.lt
 have hql:=hq.lt
 obtain ⟨x0,x1,x2,x3,hx0,hx1,hx2,hx3,ex,p0,p1,p2,p3⟩:=hp.ex hx
 obtain ⟨y0,y1,y2,y3,hy0,hy1,hy2,hy3,ey,q0,q1,q2,q3⟩:=hq.ex hy
 obtain ⟨s0,k0,hs0,hk0,e0,r0⟩:=add64_ex0 x0 y0 hx0 hy0
 obtain ⟨s1,k1,hs1,hk1,e1,r1⟩:=add64_ex x1 y1 k0 hx1 hy1 hk0
 obtain ⟨s2,k2,hs2,hk2,e2,r2⟩:=add64_ex x2 y2 k1 hx2 hy2 hk1
 obtain ⟨s3,k3,hs3,hk3,e3,r3⟩:=add64_ex x3 y3 k2 hx3 hy3 hk2
 have hv:val4 s0 s1 s2 s3+115792089237316195423570985008687907853269984665640564039457584007913129639936*k3=x+y:=by
  rw [←ex,←ey];unfold val4;omega
 have hset:=fun W=>settle_any s0 s1 s2 s3 k3 hs0 hs1 hs2 hs3 (by omega) W
 rw [hv] at hset
 obtain ⟨N,hN⟩:∃ N,N=(x+y)%pF:=⟨_,rfl⟩
 rw [←hN] at hset ⊢
 obtain ⟨z0,z1,z2,z3,hz⟩:=numV_ex N
 rw [hz] at hset ⊢
 clear ex ey hp hq e0 e1 e2 e3 hv hN hz
 go_enter Tryz.func127,Tryz.ntmps127
 go_wp2
 go_quiet (first | rw [r0])
 go_wp2
 go_quiet (first | rw [r1])
 go_wp2
 go_quiet (first | rw [r2])
 go_wp2
 go_quiet (first | rw [r3])
 go_wp2_with (go_at_call 123;refine (hset _).mono ?_;clear hset;rintro e w1 ⟨rfl,hb1⟩;(obtain ⟨ht1,hbw,⟨t0,t1,t2,t3⟩,hf⟩:=behind hb1);(have f0:=hf 0 (by decide));(have f1:=hf 1 (by decide));(have f2:=hf 2 (by decide));(have f3:=hf 3 (by decide));clear hb1 hf)
 (try simp only [Exit.inBlock,Exit.then])
 exact bodyPost_ret (results_set4 Tryz.results127 _ _ _ _ _ _ _ ht1 rfl Tryz.underlying49 rfl (by kernel_rfl)) rfl ⟨rfl,below_set4 hbw (Nat.le_refl _) _ _ _ _⟩
theorem diff_val (x y D E k u:Nat) (hx:x<pF) (hy:y<pF) (hk:k≤1) (_hu:u≤1) (hD:D+y=x+115792089237316195423570985008687907853269984665640564039457584007913129639936*k) (hDl:D<115792089237316195423570985008687907853269984665640564039457584007913129639936) (hE:E+19*k=D+115792089237316195423570985008687907853269984665640564039457584007913129639936*u) (_hEl:E<115792089237316195423570985008687907853269984665640564039457584007913129639936) :
 E%57896044618658097711785492504343953926634992332820282019728792003956564819968=(x+pF - y)%pF:=by
 unfold pF at *
 have h:k=0∨k=1:=by omega
 rcases h with rfl | rfl <;> omega
theorem val4_mask (a b c d:Nat) (ha:a<18446744073709551616) (hb:b<18446744073709551616) (hc:c<18446744073709551616):val4 a b c (d%9223372036854775808)=val4 a b c d%57896044618658097711785492504343953926634992332820282019728792003956564819968:=by
 unfold val4;omega
set_option maxRecDepth 20000 in
set_option maxHeartbeats 2000000 in
theorem difference_any (p q x y:Nat) (hx:x<pF) (hy:y<pF) (w:World) (hp:NumAt w p x) (hq:NumAt w q y) :
 Calls Tryz.prog 105 #[.pointer (some ⟨p,0,none⟩),.pointer (some ⟨q,0,none⟩)] w fun e w'=>e = .returned (numV ((x+pF - y)%pF))∧Below w.heap.size w w':=by
 have hpl:=hp.lt
 have hql:=hq.lt
 obtain ⟨x0,x1,x2,x3,hx0,hx1,hx2,hx3,ex,p0,p1,p2,p3⟩:=hp.ex hx
 obtain ⟨y0,y1,y2,y3,hy0,hy1,hy2,hy3,ey,q0,q1,q2,q3⟩:=hq.ex hy
 obtain ⟨s0,k0,hs0,hk0,e0,r0⟩:=sub64_ex0 x0 y0 hx0 hy0
 obtain ⟨s1,k1,hs1,hk1,e1,r1⟩:=sub64_ex x1 y1 k0 hx1 hy1 hk0
 obtain ⟨s2,k2,hs2,hk2,e2,r2⟩:=sub64_ex x2 y2 k1 hx2 hy2 hk1
 obtain ⟨s3,k3,hs3,hk3,e3,r3⟩:=sub64_ex x3 y3 k2 hx3 hy3 hk2
 obtain ⟨kk,hkk⟩:∃ kk,kk=19*k3:=⟨_,rfl⟩
 have okk:(19:Int)*(k3:Int)=(kk:Int):=by omega
 obtain ⟨u0,j0,hu0,hj0,g0,r4⟩:=sub64_ex0 s0 kk hs0 (by omega)
 obtain ⟨u1,j1,hu1,hj1,g1,r5⟩:=sub64_exz s1 j0 hs1 hj0
 obtain ⟨u2,j2,hu2,hj2,g2,r6⟩:=sub64_exz s2 j1 hs2 hj1
 obtain ⟨u3,j3,hu3,hj3,g3,r7⟩:=sub64_exz s3 j2 hs3 hj2
 have hv:=diff_val x y (val4 s0 s1 s2 s3) (val4 u0 u1 u2 u3) k3 j3 hx hy hk3 hj3 (by rw [←ex,←ey];unfold val4;omega) (val4_lt _ _ _ _ hs0 hs1 hs2 hs3) (by unfold val4;omega) (val4_lt _ _ _ _ hu0 hu1 hu2 hu3)
 rw [←val4_mask _ _ _ _ hu0 hu1 hu2] at hv
 have o3:=mask63 u3 hu3
 obtain ⟨ml,hml⟩:∃ ml,ml=u3%9223372036854775808:=⟨_,rfl⟩
 rw [←hml] at o3 hv
 have fin:=Hid.mk' (numV_of ((x+pF - y)%pF) u0 u1 u2 ml hu0 hu1 hu2 (by omega) hv)
 obtain ⟨N,hN⟩:∃ N,N=(x+pF - y)%pF:=⟨_,rfl⟩
 rw [←hN] at fin ⊢
 clear ex ey hp hq e0 e1 e2 e3 g0 g1 g2 g3 hv hN hml hkk
 go_enter Tryz.func105,Tryz.ntmps105
 go_wp2
 go_quiet (first | rw [r0])
 go_wp2
 go_quiet (first | rw [r1])
 go_wp2
 go_quiet (first | rw [r2])
 go_wp2
 go_quiet (first | rw [r3])
 go_wp2_with (first | rw [r4] | rw [r5] | rw [r6] | rw [r7])
 (try simp only [Exit.inBlock,Exit.then])
 exact bodyPost_ret (results_set4 Tryz.results105 _ _ _ _ _ _ _ (fun j hj=>there_fresh4 w _ _ _ _ _ j hj) rfl Tryz.underlying49 rfl (by kernel_rfl)) rfl ⟨by rw [fin.out],below_set4 (below_drewN ((Below.refl w.heap.size w).alloc (Nat.le_refl _) _) _) (Nat.le_refl _) _ _ _ _⟩
theorem row_mul (x a b c d:Nat):x*val4 a b c d=x*a+18446744073709551616*(x*b)+340282366920938463463374607431768211456*(x*c)+6277101735386680763835789423207666416102355444464034512896*(x*d):=by
 unfold val4
 rw [Nat.mul_add,Nat.mul_add,Nat.mul_add,Nat.mul_left_comm x,Nat.mul_left_comm x,Nat.mul_left_comm x]
set_option maxRecDepth 20000 in
set_option maxHeartbeats 2000000 in
theorem addRow_any (t0 t1 t2 t3 x y0 y1 y2 y3:Nat) (ht0:t0<18446744073709551616) (ht1:t1<18446744073709551616) (ht2:t2<18446744073709551616) (ht3:t3<18446744073709551616) (hx:x<18446744073709551616) (hy0:y0<18446744073709551616) (hy1:y1<18446744073709551616) (hy2:y2<18446744073709551616) (hy3:y3<18446744073709551616) :
 ∃ r0 r1 r2 r3 r4:Nat,r0<18446744073709551616∧r1<18446744073709551616∧r2<18446744073709551616∧r3<18446744073709551616∧r4<18446744073709551616∧r0+18446744073709551616*val4 r1 r2 r3 r4=val4 t0 t1 t2 t3+x*val4 y0 y1 y2 y3 ∧
 ∀ (w:World) (q:Nat),w.cell? ⟨q,0,none⟩=some (.int .u64 y0)→w.cell? ⟨q,1,none⟩=some (.int .u64 y1)→w.cell? ⟨q,2,none⟩=some (.int .u64 y2)→w.cell? ⟨q,3,none⟩=some (.int .u64 y3) →
  Calls Tryz.prog 121 #[.int .u64 t0,.int .u64 t1,.int .u64 t2,.int .u64 t3,.int .u64 x,.pointer (some ⟨q,0,none⟩)] w fun e w'=>e = .returned (.tuple #[.int .u64 r0,.int .u64 r1,.int .u64 r2,.int .u64 r3,.int .u64 r4])∧w'=w:=by
 obtain ⟨l0,h0,hl0,hh0,e0,r0⟩:=addProduct_any t0 x y0 0 ht0 hx hy0 (by decide)
 obtain ⟨l1,h1,hl1,hh1,e1,r1⟩:=addProduct_any t1 x y1 h0 ht1 hx hy1 hh0
 obtain ⟨l2,h2,hl2,hh2,e2,r2⟩:=addProduct_any t2 x y2 h1 ht2 hx hy2 hh1
 obtain ⟨l3,h3,hl3,hh3,e3,r3⟩:=addProduct_any t3 x y3 h2 ht3 hx hy3 hh2
 refine ⟨l0,l1,l2,l3,h3,hl0,hl1,hl2,hl3,hh3,by rw [row_mul x];unfold val4;omega,fun w q q0 q1 q2 q3 => ?_⟩
 have c0:Calls Tryz.prog 122 #[.int .u64 t0,.int .u64 x,.int .u64 y0,.int .u64 0] w fun e w'=>e = .returned (.tuple #[.int .u64 l0,.int .u64 h0])∧w'=w:=r0 w
 have c1:=r1 w
 have c2:=r2 w
 have c3:=r3 w
 clear e0 e1 e2 e3 r0 r1 r2 r3
 go_enter Tryz.func121,Tryz.ntmps121
 go_wp2_with (first
  | (go_at_call 122;refine c0.mono ?_;clear c0;rintro e w' ⟨rfl,hw⟩;subst hw)
  | (go_at_call 122;refine c1.mono ?_;clear c1;rintro e w' ⟨rfl,hw⟩;subst hw)
  | (go_at_call 122;refine c2.mono ?_;clear c2;rintro e w' ⟨rfl,hw⟩;subst hw)
  | (go_at_call 122;refine c3.mono ?_;clear c3;rintro e w' ⟨rfl,hw⟩;subst hw))
 (try simp only [Exit.inBlock,Exit.then])
 exact bodyPost_ret (results_tmp5 Tryz.results121 _ _ _) rfl ⟨rfl,rfl⟩
theorem prod_val (X Y a0 a1 a2 a3:Nat) (hX:val4 a0 a1 a2 a3=X) (w0 w1 w2 w3 A B C H:Nat) (e0:w0+18446744073709551616*A=a0*Y) (e1:w1+18446744073709551616*B=A+a1*Y) (e2:w2+18446744073709551616*C=B+a2*Y) (e3:w3+18446744073709551616*H=C+a3*Y) :
 val4 w0 w1 w2 w3+115792089237316195423570985008687907853269984665640564039457584007913129639936*H=X*Y:=by
 have h:X*Y=a0*Y+18446744073709551616*(a1*Y)+340282366920938463463374607431768211456*(a2*Y)+6277101735386680763835789423207666416102355444464034512896*(a3*Y):=by
  rw [←hX];unfold val4
  rw [Nat.add_mul,Nat.add_mul,Nat.add_mul,Nat.mul_assoc,Nat.mul_assoc,Nat.mul_assoc]
 rw [h];unfold val4;omega
theorem fold_val (W H V c XY:Nat) (h:W+115792089237316195423570985008687907853269984665640564039457584007913129639936*H=XY) (hv:V+115792089237316195423570985008687907853269984665640564039457584007913129639936*c=W+38*H) :
 (V+115792089237316195423570985008687907853269984665640564039457584007913129639936*c)%pF=XY%pF:=by
 have e:XY=W+38*H+pF*(2*H):=by unfold pF;omega
 rw [hv,e,Nat.add_mul_mod_self_left]
set_option maxRecDepth 20000 in
set_option maxHeartbeats 2000000 in
theorem product_any (p q x y:Nat) (hx:x<pF) (hy:y<pF) (w:World) (hp:NumAt w p x) (hq:NumAt w q y) :
 Calls Tryz.prog 93 #[.pointer (some ⟨p,0,none⟩),.pointer (some ⟨q,0,none⟩)] w fun e w'=>e = .returned (numV (x*y%pF))∧Below w.heap.size w w':=by
 have hpl:=hp.lt
 have hql:=hq.lt
 obtain ⟨x0,x1,x2,x3,hx0,hx1,hx2,hx3,ex,p0,p1,p2,p3⟩:=hp.ex hx
 obtain ⟨y0,y1,y2,y3,hy0,hy1,hy2,hy3,ey,q0,q1,q2,q3⟩:=hq.ex hy
 obtain ⟨w0,a0,a1,a2,a3,hw0,ha0,ha1,ha2,ha3,e0,r0⟩:=addRow_any 0 0 0 0 x0 y0 y1 y2 y3 (by decide) (by decide) (by decide) (by decide) hx0 hy0 hy1 hy2 hy3
 obtain ⟨w1,b0,b1,b2,b3,hw1,hb0,hb1,hb2,hb3,e1,r1⟩:=addRow_any a0 a1 a2 a3 x1 y0 y1 y2 y3 ha0 ha1 ha2 ha3 hx1 hy0 hy1 hy2 hy3
 obtain ⟨w2,c0,c1,c2,c3,hw2,hc0,hc1,hc2,hc3,e2,r2⟩:=addRow_any b0 b1 b2 b3 x2 y0 y1 y2 y3 hb0 hb1 hb2 hb3 hx2 hy0 hy1 hy2 hy3
 obtain ⟨w3,d0,d1,d2,d3,hw3,hd0,hd1,hd2,hd3,e3,r3⟩:=addRow_any c0 c1 c2 c3 x3 y0 y1 y2 y3 hc0 hc1 hc2 hc3 hx3 hy0 hy1 hy2 hy3
 obtain ⟨v0,k0,hv0,hk0,g0,r4⟩:=addProduct_any w0 d0 38 0 hw0 hd0 (by decide) (by decide)
 obtain ⟨v1,k1,hv1,hk1,g1,r5⟩:=addProduct_any w1 d1 38 k0 hw1 hd1 (by decide) hk0
 obtain ⟨v2,k2,hv2,hk2,g2,r6⟩:=addProduct_any w2 d2 38 k1 hw2 hd2 (by decide) hk1
 obtain ⟨v3,k3,hv3,hk3,g3,r7⟩:=addProduct_any w3 d3 38 k2 hw3 hd3 (by decide) hk2
 rw [ey] at e0 e1 e2 e3
 have hz:val4 0 0 0 0=0:=rfl
 rw [hz,Nat.zero_add] at e0
 have hprod:=prod_val x y x0 x1 x2 x3 ex w0 w1 w2 w3 _ _ _ _ e0 e1 e2 e3
 have hfold:val4 v0 v1 v2 v3+115792089237316195423570985008687907853269984665640564039457584007913129639936*k3=val4 w0 w1 w2 w3+38*val4 d0 d1 d2 d3:=by unfold val4;omega
 have hk38:k3≤38:=by
  have h1:=val4_lt w0 w1 w2 w3 hw0 hw1 hw2 hw3
  have h2:=val4_lt d0 d1 d2 d3 hd0 hd1 hd2 hd3
  omega
 have hset:=fun W=>settle_any v0 v1 v2 v3 k3 hv0 hv1 hv2 hv3 hk38 W
 rw [fold_val _ _ _ _ _ hprod hfold] at hset
 obtain ⟨N,hN⟩:∃ N,N=x*y%pF:=⟨_,rfl⟩
 rw [←hN] at hset ⊢
 obtain ⟨z0,z1,z2,z3,hz⟩:=numV_ex N
 rw [hz] at hset ⊢
 have m0:∀ W:World,W.cell? ⟨q,0,none⟩=some (.int .u64 y0)→W.cell? ⟨q,1,none⟩=some (.int .u64 y1)→W.cell? ⟨q,2,none⟩=some (.int .u64 y2)→W.cell? ⟨q,3,none⟩=some (.int .u64 y3)→Calls Tryz.prog 121 #[.int .u64 0,.int .u64 0,.int .u64 0,.int .u64 0,.int .u64 x0,.pointer (some ⟨q,0,none⟩)] W fun e w'=>e = .returned (.tuple #[.int .u64 w0,.int .u64 a0,.int .u64 a1,.int .u64 a2,.int .u64 a3])∧w'=W:=fun W=>r0 W q
 have m4:∀ W:World,Calls Tryz.prog 122 #[.int .u64 w0,.int .u64 d0,.int .u64 38,.int .u64 0] W fun e w'=>e = .returned (.tuple #[.int .u64 v0,.int .u64 k0])∧w'=W:=fun W=>r4 W
 have m5:∀ W:World,Calls Tryz.prog 122 #[.int .u64 w1,.int .u64 d1,.int .u64 38,.int .u64 k0] W fun e w'=>e = .returned (.tuple #[.int .u64 v1,.int .u64 k1])∧w'=W:=fun W=>r5 W
 have m6:∀ W:World,Calls Tryz.prog 122 #[.int .u64 w2,.int .u64 d2,.int .u64 38,.int .u64 k1] W fun e w'=>e = .returned (.tuple #[.int .u64 v2,.int .u64 k2])∧w'=W:=fun W=>r6 W
 have m7:∀ W:World,Calls Tryz.prog 122 #[.int .u64 w3,.int .u64 d3,.int .u64 38,.int .u64 k2] W fun e w'=>e = .returned (.tuple #[.int .u64 v3,.int .u64 k3])∧w'=W:=fun W=>r7 W
 obtain ⟨W,hW⟩:∃ W,W=w.alloc (.cells #[.int .u64 0,.int .u64 0,.int .u64 0,.int .u64 0] 49):=⟨_,rfl⟩
 have HW:=Hid.mk' hW
 have hbw:Below w.heap.size w W:=by rw [hW];exact (Below.refl _ _).alloc (Nat.le_refl _) _
 have Q0:=(hbw.cell (p:=⟨q,0,none⟩) hql).trans q0
 have Q1:=(hbw.cell (p:=⟨q,1,none⟩) hql).trans q1
 have Q2:=(hbw.cell (p:=⟨q,2,none⟩) hql).trans q2
 have Q3:=(hbw.cell (p:=⟨q,3,none⟩) hql).trans q3
 have P0:=(hbw.cell (p:=⟨p,0,none⟩) hpl).trans p0
 have P1:=(hbw.cell (p:=⟨p,1,none⟩) hpl).trans p1
 have P2:=(hbw.cell (p:=⟨p,2,none⟩) hpl).trans p2
 have P3:=(hbw.cell (p:=⟨p,3,none⟩) hpl).trans p3
 replace m0:=m0 W Q0 Q1 Q2 Q3
 have m1:=r1 W q Q0 Q1 Q2 Q3
 have m2:=r2 W q Q0 Q1 Q2 Q3
 have m3:=r3 W q Q0 Q1 Q2 Q3
 clear ex ey hp hq e0 e1 e2 e3 g0 g1 g2 g3 hprod hfold hN hz r0 r1 r2 r3 r4 r5 r6 r7 p1 p2 p3 q0 q1 q2 q3 P0 hW
 go_enter Tryz.func93,Tryz.ntmps93
 go_wp2_with (first
  | (go_at_call 121;rw [←HW.out];refine m0.mono ?_;clear m0;rintro e w' ⟨rfl,hw⟩;subst hw)
  | (go_at_call 121;refine m1.mono ?_;clear m1;rintro e w' ⟨rfl,hw⟩;subst hw)
  | (go_at_call 121;refine m2.mono ?_;clear m2;rintro e w' ⟨rfl,hw⟩;subst hw)
  | (go_at_call 121;refine m3.mono ?_;clear m3;rintro e w' ⟨rfl,hw⟩;subst hw)
  | (go_at_call 122;refine (m4 _).mono ?_;clear m4;rintro e w' ⟨rfl,hw⟩;subst hw)
  | (go_at_call 122;refine (m5 _).mono ?_;clear m5;rintro e w' ⟨rfl,hw⟩;subst hw)
  | (go_at_call 122;refine (m6 _).mono ?_;clear m6;rintro e w' ⟨rfl,hw⟩;subst hw)
  | (go_at_call 122;refine (m7 _).mono ?_;clear m7;rintro e w' ⟨rfl,hw⟩;subst hw)
  | (go_at_call 123;refine (hset _).mono ?_;clear hset;rintro e w9 ⟨rfl,hb9⟩;rw [HW.out] at hb9;(obtain ⟨ht1,hbw9,⟨t0,t1,t2,t3⟩,hf⟩:=behind' hb9);(have f0:=hf 0 (by decide));(have f1:=hf 1 (by decide));(have f2:=hf 2 (by decide));(have f3:=hf 3 (by decide));clear hb9 hf))
 (try simp only [Exit.inBlock,Exit.then])
 exact bodyPost_ret (results_set4 Tryz.results93 _ _ _ _ _ _ _ ht1 rfl Tryz.underlying49 rfl (by kernel_rfl)) rfl ⟨rfl,below_set4 hbw9 (Nat.le_refl _) _ _ _ _⟩
end Go.Proofs.YtdgkmloabificaaGreatDoor
namespace Go.Proofs.YtdgkmloabificaaGreatDoor
open Go.RowKit
theorem behind3 {w w1:World} {A B:Obj} {a b c d:Value} {t:TypeId} (h:Below (((w.alloc A).alloc B).alloc (.cells #[a,b,c,d] t)).heap.size (((w.alloc A).alloc B).alloc (.cells #[a,b,c,d] t)) w1):w1.there (w.heap.size+1+1) 0 4∧Below w.heap.size w w1 ∧
 (w1.cell? ⟨w.heap.size+1+1,0,none⟩=some a∧w1.cell? ⟨w.heap.size+1+1,1,none⟩=some b∧w1.cell? ⟨w.heap.size+1+1,2,none⟩=some c∧w1.cell? ⟨w.heap.size+1+1,3,none⟩=some d)∧∀ j,j<4→w1.frozen? ⟨w.heap.size+1+1,j,none⟩=false:=by
 have hs:((w.alloc A).alloc B).heap.size=w.heap.size+1+1:=by simp
 have:=behind' h
 rw [hs] at this
 obtain ⟨h1,h2,h3,h4⟩:=this
 exact ⟨h1,(((Below.refl w.heap.size w).alloc (Nat.le_refl _) A).alloc (by simp) B).trans (h2.mono (by omega)),h3,h4⟩
theorem numAt_boxes (w:World) (x y:Nat) (C:Obj) (t:TypeId):NumAt (((w.alloc (.cells #[.int .u64 (lw x 0),.int .u64 (lw x 1),.int .u64 (lw x 2),.int .u64 (lw x 3)] t)).alloc (.cells #[.int .u64 (lw y 0),.int .u64 (lw y 1),.int .u64 (lw y 2),.int .u64 (lw y 3)] t)).alloc C) w.heap.size x∧NumAt (((w.alloc (.cells #[.int .u64 (lw x 0),.int .u64 (lw x 1),.int .u64 (lw x 2),.int .u64 (lw x 3)] t)).alloc (.cells #[.int .u64 (lw y 0),.int .u64 (lw y 1),.int .u64 (lw y 2),.int .u64 (lw y 3)] t)).alloc C) (w.heap.size+1) y:=by
 have h1:∀ (u:World) (n:Nat),NumAt (u.alloc (.cells #[.int .u64 (lw n 0),.int .u64 (lw n 1),.int .u64 (lw n 2),.int .u64 (lw n 3)] t)) u.heap.size n:=fun u n=>by constructor <;> simp
 refine ⟨((h1 w x).below ((Below.refl _ _).alloc (Nat.le_refl _) _) (by simp)).below ((Below.refl _ _).alloc (Nat.le_refl _) _) (by simp;omega),?_⟩
 have h2:=h1 (w.alloc (.cells #[.int .u64 (lw x 0),.int .u64 (lw x 1),.int .u64 (lw x 2),.int .u64 (lw x 3)] t)) y
 have hs:(w.alloc (.cells #[.int .u64 (lw x 0),.int .u64 (lw x 1),.int .u64 (lw x 2),.int .u64 (lw x 3)] t)).heap.size=w.heap.size+1:=by simp
 rw [hs] at h2
 exact h2.below ((Below.refl _ _).alloc (Nat.le_refl _) C) (by simp)
set_option maxRecDepth 20000 in
set_option maxHeartbeats 2000000 in
theorem plus_any (x y:Nat) (hx:x<pF) (hy:y<pF) (w:World) :
 Calls Tryz.prog 104 #[numV x,numV y] w fun e w'=>e = .returned (numV ((x+y)%pF))∧Below w.heap.size w w':=by
 obtain ⟨hX,hY⟩:=numAt_boxes w x y (.cells #[.int .u64 0,.int .u64 0,.int .u64 0,.int .u64 0] 51) 51
 have hs:=sum_any w.heap.size (w.heap.size+1) x y hx hy _ hX hY
 obtain ⟨N,hN⟩:∃ N,N=(x+y)%pF:=⟨_,rfl⟩
 rw [←hN] at hs ⊢
 obtain ⟨z0,z1,z2,z3,hz⟩:=numV_ex N
 rw [hz] at hs ⊢
 unfold numV
 clear hX hY hN hz
 go_enter Tryz.func104,Tryz.ntmps104
 go_wp2_with (go_at_call 127;refine hs.mono ?_;clear hs;rintro e w1 ⟨rfl,hb1⟩;(obtain ⟨ht1,hbw,⟨t0,t1,t2,t3⟩,hf⟩:=behind3 hb1);(have f0:=hf 0 (by decide));(have f1:=hf 1 (by decide));(have f2:=hf 2 (by decide));(have f3:=hf 3 (by decide));clear hb1 hf)
 (try simp only [Exit.inBlock,Exit.then])
 exact bodyPost_ret (results_set4 Tryz.results104 _ _ _ _ _ _ _ ht1 rfl Tryz.underlying51 rfl (by kernel_rfl)) rfl ⟨rfl,below_set4 hbw (by omega) _ _ _ _⟩
set_option maxRecDepth 20000 in
set_option maxHeartbeats 2000000 in
theorem minus_any (x y:Nat) (hx:x<pF) (hy:y<pF) (w:World) :
 Calls Tryz.prog 63 #[numV x,numV y] w fun e w'=>e = .returned (numV ((x+pF - y)%pF))∧Below w.heap.size w w':=by
 obtain ⟨hX,hY⟩:=numAt_boxes w x y (.cells #[.int .u64 0,.int .u64 0,.int .u64 0,.int .u64 0] 51) 51
 have hs:=difference_any w.heap.size (w.heap.size+1) x y hx hy _ hX hY
 obtain ⟨N,hN⟩:∃ N,N=(x+pF - y)%pF:=⟨_,rfl⟩
 rw [←hN] at hs ⊢
 obtain ⟨z0,z1,z2,z3,hz⟩:=numV_ex N
 rw [hz] at hs ⊢
 unfold numV
 clear hX hY hN hz
 go_enter Tryz.func63,Tryz.ntmps63
 go_wp2_with (go_at_call 105;refine hs.mono ?_;clear hs;rintro e w1 ⟨rfl,hb1⟩;(obtain ⟨ht1,hbw,⟨t0,t1,t2,t3⟩,hf⟩:=behind3 hb1);(have f0:=hf 0 (by decide));(have f1:=hf 1 (by decide));(have f2:=hf 2 (by decide));(have f3:=hf 3 (by decide));clear hb1 hf)
 (try simp only [Exit.inBlock,Exit.then])
 exact bodyPost_ret (results_set4 Tryz.results63 _ _ _ _ _ _ _ ht1 rfl Tryz.underlying51 rfl (by kernel_rfl)) rfl ⟨rfl,below_set4 hbw (by omega) _ _ _ _⟩
set_option maxRecDepth 20000 in
set_option maxHeartbeats 2000000 in
theorem times_any (x y:Nat) (hx:x<pF) (hy:y<pF) (w:World) :
 Calls Tryz.prog 53 #[numV x,numV y] w fun e w'=>e = .returned (numV (x*y%pF))∧Below w.heap.size w w':=by
 obtain ⟨hX,hY⟩:=numAt_boxes w x y (.cells #[.int .u64 0,.int .u64 0,.int .u64 0,.int .u64 0] 51) 51
 have hs:=product_any w.heap.size (w.heap.size+1) x y hx hy _ hX hY
 obtain ⟨N,hN⟩:∃ N,N=x*y%pF:=⟨_,rfl⟩
 rw [←hN] at hs ⊢
 obtain ⟨z0,z1,z2,z3,hz⟩:=numV_ex N
 rw [hz] at hs ⊢
 unfold numV
 clear hX hY hN hz
 go_enter Tryz.func53,Tryz.ntmps53
 go_wp2_with (go_at_call 93;refine hs.mono ?_;clear hs;rintro e w1 ⟨rfl,hb1⟩;(obtain ⟨ht1,hbw,⟨t0,t1,t2,t3⟩,hf⟩:=behind3 hb1);(have f0:=hf 0 (by decide));(have f1:=hf 1 (by decide));(have f2:=hf 2 (by decide));(have f3:=hf 3 (by decide));clear hb1 hf)
 (try simp only [Exit.inBlock,Exit.then])
 exact bodyPost_ret (results_set4 Tryz.results53 _ _ _ _ _ _ _ ht1 rfl Tryz.underlying51 rfl (by kernel_rfl)) rfl ⟨rfl,below_set4 hbw (by omega) _ _ _ _⟩
set_option maxRecDepth 20000 in
set_option maxHeartbeats 2000000 in
theorem bytes_any (n:Nat) (w:World) :
 Calls Tryz.prog 92 #[numV n] w fun e w'=>∃ g,e = .returned (.slice (some ⟨g,0,none⟩) 32 32)∧w.heap.size≤g∧RowAt .u8 w' g 0 32 (byt n)∧Below w.heap.size w w':=by
 obtain ⟨W,hW⟩:∃ W,W=w.alloc (.cells #[.int .u64 (lw n 0),.int .u64 (lw n 1),.int .u64 (lw n 2),.int .u64 (lw n 3)] 51):=⟨_,rfl⟩
 have hN:NumAt W w.heap.size n:=by rw [hW];constructor <;> simp
 have hWs:W.heap.size=w.heap.size+1:=by rw [hW];simp
 have hbW:Below w.heap.size w W:=by rw [hW];exact (Below.refl _ _).alloc (Nat.le_refl _) _
 have hlw:∀ (wr:World),Below (w.heap.size+1) W wr→∀ a,a<4→wr.cell? ⟨w.heap.size,a,none⟩=some (.int .u64 (lw n a)):=fun wr hb a ha=>by
  have h:=hN.below hb (by omega)
  match a,ha with
  | 0,_=>exact h.c0
  | 1,_=>exact h.c1
  | 2,_=>exact h.c2
  | 3,_=>exact h.c3
 have hmk:=make_bytes W 32 32 rfl (by decide)
 have HW:=Hid.mk' hW
 have hb0:Below (w.heap.size+1) W (W.alloc (.cells (zb 32) 5)):=(Below.refl _ _).alloc (by omega) _
 have hrow0:RowAt .u8 (W.alloc (.cells (zb 32) 5)) (w.heap.size+1) 0 32 (fun _=>0):=by rw [←hWs];exact RowAt.fresh (fun j hj=>zb_at 32 j hj)
 unfold numV
 clear hW hN
 go_enter Tryz.func92,Tryz.ntmps92
 go_wp2_with (rw [←HW.out];rw [hmk])
 go_loopw [8] (fun i wr=>∃ k:Nat,k≤32∧i = .int .i64 k∧RowAt .u8 wr (w.heap.size+1) 0 32 (fun j=>if j<k then byt n j else 0)∧Below (w.heap.size+1) W wr) (fun i _=>32 - (intOf i).toNat)
 case atStart=>exact ⟨0,Nat.zero_le _,rfl,hrow0.congr (fun j _=>by simp),hb0⟩
 case round =>
  clear hrow0 hb0 hmk
  obtain ⟨k,hk,rfl,hrow,hb⟩:=hrel
  by_cases hlt:k<32
  · obtain ⟨rk,rf⟩:=hrow k hlt
    rw [Nat.zero_add] at rk rf
    have hc:=hlw wr hb (k / 8) (by omega)
    have rk0:wr.cell? ⟨w.heap.size+1,k,none⟩=some (.int .u8 0):=by simpa using rk
    clear hlw rk
    go_wp2
    go_roundw
    case rel =>
     have h1:=hrow.set (i:=k) hlt (v:=(lw n (k / 8):Int) / 2 ^ (k%8*8)%256) (u:=byt n k) (word_byte_int n k)
     rw [Nat.zero_add] at h1
     refine ⟨k+1,by omega,by go_num,h1.congr (fun j hj => ?_),hb.setCell (Nat.le_refl _) _⟩
     unfold upd
     by_cases e:j=k
     · rw [if_pos e,if_pos (by omega),e]
     · rw [if_neg e]
       show (if j<k then byt n j else 0)=_
       by_cases e2:j<k
       · rw [if_pos e2,if_pos (by omega)]
       · rw [if_neg e2,if_neg (by omega)]
    case measure=>simp [intOf];omega
  · go_wp2
    go_ret
    exact ⟨w.heap.size+1,rfl,by omega,hrow.congr (fun j hj=>by rw [if_pos (by omega)]),hbW.trans (hb.mono (by omega))⟩
theorem results_cell_tmp {P:Program} {fn:Func} {p q:Tmp} {ty:TypeId} (h:fn.results=#[.cell p ty,.tmp q]) (tmps:Array Value) (w:World) (g o:Nat) (cs:List Value) (d:TypeDesc)
 (hp:tmps.getD p undef = .pointer (some ⟨g,o,none⟩)) (hc:w.rangeAt g o cs)
 (hu:P.underlying ty=some d) (hd:d.isRow=true) (hi:(P.info? ty).map (·.size)=some cs.length) :
 (results fn tmps).run P w = .ok (.tuple #[.agg cs.toArray,tmps.getD q undef]) w:=by
 have hp':tmps[p]?.getD undef = .pointer (some ⟨g,o,none⟩):=by simpa using hp
 simp [results,h,hp',asAddr,run_loadVar_mid w g o ty cs d hc hu hd hi]
theorem numV_zero:numV 0 = .agg #[.int .u64 0,.int .u64 0,.int .u64 0,.int .u64 0]:=by kernel_rfl
set_option maxRecDepth 20000 in
set_option maxHeartbeats 2000000 in
theorem from_other (xo:Option Addr) (n c:Nat) (hn:n≠32) (w:World) :
 Calls Tryz.prog 101 #[.slice xo n c] w fun e w'=>e = .returned (.tuple #[numV 0,.int .i64 1])∧Below w.heap.size w w':=by
 have hni:¬(n:Int)=32:=by omega
 rw [numV_zero]
 go_enter Tryz.func101,Tryz.ntmps101
 go_wp2
 (try simp only [Exit.inBlock,Exit.then])
 exact bodyPost_ret (results_cell_tmp Tryz.results101 _ _ w.heap.size 0 [.int .u64 0,.int .u64 0,.int .u64 0,.int .u64 0] _ rfl (range_fresh4 w _ _ _ _ _) Tryz.underlying51 rfl (by kernel_rfl)) rfl ⟨rfl,(Below.refl _ _).alloc (Nat.le_refl _) _⟩
set_option maxRecDepth 20000 in
set_option maxHeartbeats 2000000 in
theorem from_32 (bb ob c:Nat) (bs:Nat→Nat) (hbs:∀ j,bs j<256) (w:World) (hbl:bb<w.heap.size) (hc:∀ j,j<32→w.cell? ⟨bb,ob+j,none⟩=some (.int .u8 (bs j))) :
 Calls Tryz.prog 101 #[.slice (some ⟨bb,ob,none⟩) 32 c] w fun e w'=>e = .returned (.tuple #[numV (ofB bs 32%pF),.int .i64 0])∧Below w.heap.size w w':=by
 obtain ⟨W,hW⟩:∃ W,W=w.alloc (.cells #[.int .u64 0,.int .u64 0,.int .u64 0,.int .u64 0] 51):=⟨_,rfl⟩
 have hWs:W.heap.size=w.heap.size+1:=by rw [hW];simp
 have hbW:Below w.heap.size w W:=by rw [hW];exact (Below.refl _ _).alloc (Nat.le_refl _) _
 have HW:=Hid.mk' hW
 have hrow0:RowAt .u64 (W.alloc (.cells #[.int .u64 0,.int .u64 0,.int .u64 0,.int .u64 0] 49)) (w.heap.size+1) 0 4 (lw (ofB bs 0)):=by
  rw [←hWs]
  have hz:∀ a,lw (ofB bs 0) a=0:=fun a=>by unfold lw ofB;rw [Nat.zero_div,Nat.zero_mod]
  exact RowAt.fresh (fun j hj=>by rw [hz];exact match j,hj with | 0,_=>rfl | 1,_=>rfl | 2,_=>rfl | 3,_=>rfl)
 have hb0:Below (w.heap.size+1) W (W.alloc (.cells #[.int .u64 0,.int .u64 0,.int .u64 0,.int .u64 0] 49)):=(Below.refl _ _).alloc (by omega) _
 have hset:∀ W',Calls Tryz.prog 123 #[.int .u64 (lw (ofB bs 32) 0),.int .u64 (lw (ofB bs 32) 1),.int .u64 (lw (ofB bs 32) 2),.int .u64 (lw (ofB bs 32) 3),.int .u64 0] W' fun e w'=>e = .returned (numV (ofB bs 32%pF))∧Below W'.heap.size W' w':=fun W'=>by
  have:=settle_any (lw (ofB bs 32) 0) (lw (ofB bs 32) 1) (lw (ofB bs 32) 2) (lw (ofB bs 32) 3) 0 (lw_lt _ _) (lw_lt _ _) (lw_lt _ _) (lw_lt _ _) (by decide) W'
  rw [lw_val _ (ofB_lt bs hbs 32),Nat.mul_zero,Nat.add_zero] at this
  exact this
 obtain ⟨N,hN⟩:∃ N,N=ofB bs 32%pF:=⟨_,rfl⟩
 rw [←hN] at hset ⊢
 obtain ⟨z0,z1,z2,z3,hz⟩:=numV_ex N
 rw [hz] at hset ⊢
 clear hW hN hz
 go_enter Tryz.func101,Tryz.ntmps101
 go_wp2
 rw [←HW.out]
 go_loopw [13] (fun i wr=>∃ k:Nat,k≤32∧i = .int .i64 k∧RowAt .u64 wr (w.heap.size+1) 0 4 (lw (ofB bs k))∧Below (w.heap.size+1) W wr) (fun i _=>32 - (intOf i).toNat)
 case atStart=>exact ⟨0,Nat.zero_le _,rfl,hrow0,hb0⟩
 case round =>
  clear hrow0 hb0
  obtain ⟨k,hk,rfl,hrow,hb⟩:=hrel
  by_cases hlt:k<32
  · obtain ⟨rk,rf⟩:=hrow (k / 8) (by omega)
    rw [Nat.zero_add] at rk rf
    have hck:wr.cell? ⟨bb,ob+k,none⟩=some (.int .u8 (bs k)):=((hbW.trans (hb.mono (by omega))).cell (p:=⟨bb,ob+k,none⟩) hbl).trans (hc k hlt)
    have hor:=or_byte (lw (ofB bs k) (k / 8)) (bs k) k (lw_lt _ _) (hbs k)
    have hbk:=hbs k
    clear hc hset
    go_wp2
    go_roundw
    case rel =>
     have h1:=hrow.set (i:=k / 8) (by omega) (v:=((lw (ofB bs k) (k / 8) ||| bs k*2 ^ (k%8*8):Nat):Int)) rfl
     rw [Nat.zero_add] at h1
     refine ⟨k+1,by omega,by go_num,h1.congr (fun j hj => ?_),hb.setCell (Nat.le_refl _) _⟩
     rw [word_more bs hbs k j]
     unfold upd
     by_cases e:j=k / 8
     · rw [if_pos e,if_pos e,e]
     · rw [if_neg e,if_neg e]
    case measure=>simp [intOf];omega
  · have hke:k=32:=by omega
    rw [hke] at hrow
    have d0:=(hrow 0 (by decide)).1
    have d1:=(hrow 1 (by decide)).1
    have d2:=(hrow 2 (by decide)).1
    have d3:=(hrow 3 (by decide)).1
    rw [Nat.zero_add] at d0 d1 d2 d3
    have hsr:=hset wr
    obtain ⟨v0,hv0⟩:∃ v,v=lw (ofB bs 32) 0:=⟨_,rfl⟩
    obtain ⟨v1,hv1⟩:∃ v,v=lw (ofB bs 32) 1:=⟨_,rfl⟩
    obtain ⟨v2,hv2⟩:∃ v,v=lw (ofB bs 32) 2:=⟨_,rfl⟩
    obtain ⟨v3,hv3⟩:∃ v,v=lw (ofB bs 32) 3:=⟨_,rfl⟩
    rw [←hv0] at d0
    rw [←hv1] at d1
    rw [←hv2] at d2
    rw [←hv3] at d3
    rw [←hv0,←hv1,←hv2,←hv3] at hsr
    clear hset hrow hc hke hv0 hv1 hv2 hv3
    have hbr:Below (w.heap.size+1) (w.alloc (.cells #[.int .u64 0,.int .u64 0,.int .u64 0,.int .u64 0] 51)) wr:=by rw [←HW.out];exact hb
    go_wp2_with (go_at_call 123;refine hsr.mono ?_;clear hsr;rintro e w1 ⟨rfl,hb1⟩;(obtain ⟨ht1,hbw,⟨t0,t1,t2,t3⟩,hf⟩:=behind' (w:=w) (by rw [World.size_alloc];exact hbr.trans (hb1.mono (by have:=hbr.size;rw [World.size_alloc] at this;exact this)));(have f0:=hf 0 (by decide));(have f1:=hf 1 (by decide));(have f2:=hf 2 (by decide));(have f3:=hf 3 (by decide));clear hb1 hf))
    (try simp only [Exit.inBlock,Exit.then])
    exact bodyPost_ret (results_cell_tmp Tryz.results101 _ _ w.heap.size 0 [.int .u64 z0,.int .u64 z1,.int .u64 z2,.int .u64 z3] _ rfl (World.rangeAt_setCells_same w1 w.heap.size 0 [.int .u64 z0,.int .u64 z1,.int .u64 z2,.int .u64 z3] ht1) Tryz.underlying51 rfl (by kernel_rfl)) rfl ⟨rfl,below_set4 hbw (Nat.le_refl _) _ _ _ _⟩
end Go.Proofs.YtdgkmloabificaaGreatDoor
namespace Go.Proofs.YtdgkmloabificaaGreatDoor
open Go.RowKit
structure FourAt (w:World) (g:Nat) (a b c d:Value):Prop where
 c0:w.cell? ⟨g,0,none⟩=some a
 c1:w.cell? ⟨g,1,none⟩=some b
 c2:w.cell? ⟨g,2,none⟩=some c
 c3:w.cell? ⟨g,3,none⟩=some d
 f0:w.frozen? ⟨g,0,none⟩=false
 f1:w.frozen? ⟨g,1,none⟩=false
 f2:w.frozen? ⟨g,2,none⟩=false
 f3:w.frozen? ⟨g,3,none⟩=false
theorem FourAt.below {w w':World} {g B:Nat} {a b c d:Value} (h:FourAt w g a b c d) (hb:Below B w w') (hB:g<B):FourAt w' g a b c d :=
 ⟨(hb.cell (p:=⟨g,0,none⟩) hB).trans h.c0,(hb.cell (p:=⟨g,1,none⟩) hB).trans h.c1,(hb.cell (p:=⟨g,2,none⟩) hB).trans h.c2,(hb.cell (p:=⟨g,3,none⟩) hB).trans h.c3,(hb.frozen (p:=⟨g,0,none⟩) hB).trans h.f0,(hb.frozen (p:=⟨g,1,none⟩) hB).trans h.f1,(hb.frozen (p:=⟨g,2,none⟩) hB).trans h.f2,(hb.frozen (p:=⟨g,3,none⟩) hB).trans h.f3⟩
theorem FourAt.there {w:World} {g:Nat} {a b c d:Value} (h:FourAt w g a b c d):w.there g 0 4:=fun j hj=>by
 match j,hj with
 | 0,_=>exact ⟨by rw [h.c0];rfl,h.f0⟩
 | 1,_=>exact ⟨by rw [show (0+1:Nat)=1 from rfl,h.c1];rfl,h.f1⟩
 | 2,_=>exact ⟨by rw [show (0+2:Nat)=2 from rfl,h.c2];rfl,h.f2⟩
 | 3,_=>exact ⟨by rw [show (0+3:Nat)=3 from rfl,h.c3];rfl,h.f3⟩
theorem FourAt.range {w:World} {g:Nat} {a b c d:Value} (h:FourAt w g a b c d):w.rangeAt g 0 [a,b,c,d]:=fun j v hv=>by
 match j,hv with
 | 0,hv=>cases hv;exact h.c0
 | 1,hv=>cases hv;exact h.c1
 | 2,hv=>cases hv;exact h.c2
 | 3,hv=>cases hv;exact h.c3
theorem FourAt.drew {w:World} {g:Nat} {a b c d:Value} (h:FourAt w g a b c d):FourAt w.drew g a b c d:=⟨h.c0,h.c1,h.c2,h.c3,h.f0,h.f1,h.f2,h.f3⟩
theorem four_fresh (w:World) (a b c d:Value) (t:TypeId):FourAt (w.alloc (.cells #[a,b,c,d] t)) w.heap.size a b c d:=by constructor <;> simp
def set4 (w:World) (g:Nat) (a b c d:Value):World:=(((w.setCell ⟨g,0,none⟩ a).setCell ⟨g,1,none⟩ b).setCell ⟨g,2,none⟩ c).setCell ⟨g,3,none⟩ d
theorem FourAt.set {w:World} {g:Nat} {a b c d:Value} (h:FourAt w g a b c d) (a' b' c' d':Value):FourAt (set4 w g a' b' c' d') g a' b' c' d':=by
 have hr:=World.rangeAt_setCells_same w g 0 [a',b',c',d'] h.there
 have hf:∀ j,(set4 w g a' b' c' d').frozen? ⟨g,j,none⟩=w.frozen? ⟨g,j,none⟩:=fun j=>World.frozen?_setCells g [a',b',c',d'] 0 w _
 exact ⟨hr 0 _ rfl,hr 1 _ rfl,hr 2 _ rfl,hr 3 _ rfl,(hf 0).trans h.f0,(hf 1).trans h.f1,(hf 2).trans h.f2,(hf 3).trans h.f3⟩
theorem set4_other {w:World} {g k:Nat} (hk:k≠g) (a b c d:Value):(set4 w g a b c d).heap[k]? = w.heap[k]?:=heap_setCells_other g [a,b,c,d] 0 w k hk
theorem FourAt.far {w:World} {g k:Nat} {a b c d:Value} (h:FourAt w g a b c d) (hk:g≠k) (a' b' c' d':Value):FourAt (set4 w k a' b' c' d') g a b c d:=by
 have hc:∀ j,(set4 w k a' b' c' d').cell? ⟨g,j,none⟩=w.cell? ⟨g,j,none⟩:=fun j=>World.cell?_of_block (w:=w) (set4_other hk a' b' c' d')
 have hf:∀ j,(set4 w k a' b' c' d').frozen? ⟨g,j,none⟩=w.frozen? ⟨g,j,none⟩:=fun j=>World.frozen?_of_block (w:=w) (set4_other hk a' b' c' d')
 exact ⟨(hc 0).trans h.c0,(hc 1).trans h.c1,(hc 2).trans h.c2,(hc 3).trans h.c3,(hf 0).trans h.f0,(hf 1).trans h.f1,(hf 2).trans h.f2,(hf 3).trans h.f3⟩
theorem below_set4' {B:Nat} {u w:World} {g:Nat} (h:Below B u w) (hg:B≤g) (a b c d:Value):Below B u (set4 w g a b c d):=below_set4 h hg a b c d
theorem size_set4 (w:World) (g:Nat) (a b c d:Value):(set4 w g a b c d).heap.size=w.heap.size:=(setCells_same g [a,b,c,d] 0 w).2.2.2
theorem results_cells2 {P:Program} {fn:Func} {p q s:Tmp} {ty:TypeId} (h:fn.results=#[.cell p ty,.cell q ty,.tmp s]) (tmps:Array Value) (w:World) (g k:Nat) (cs ds:List Value) (d:TypeDesc)
 (hp:tmps.getD p undef = .pointer (some ⟨g,0,none⟩)) (hq:tmps.getD q undef = .pointer (some ⟨k,0,none⟩)) (hc:w.rangeAt g 0 cs) (hds:w.rangeAt k 0 ds)
 (hu:P.underlying ty=some d) (hd:d.isRow=true) (hi:(P.info? ty).map (·.size)=some cs.length) (hj:(P.info? ty).map (·.size)=some ds.length) :
 (results fn tmps).run P w = .ok (.tuple #[.agg cs.toArray,.agg ds.toArray,tmps.getD s undef]) w:=by
 have hp':tmps[p]?.getD undef = .pointer (some ⟨g,0,none⟩):=by simpa using hp
 have hq':tmps[q]?.getD undef = .pointer (some ⟨k,0,none⟩):=by simpa using hq
 simp [results,h,hp',hq',asAddr,run_loadVar_mid w g 0 ty cs d hc hu hd hi,run_loadVar_mid w k 0 ty ds d hds hu hd hj]
def fromN (n:Nat) (bs:Nat→Nat):Nat:=if n=32 then ofB bs 32%pF else 0
def fromE (n:Nat):Nat:=if n=32 then 0 else 1
theorem from_any (v:Value) (n:Nat) (bs:Nat→Nat) (hbs:∀ j,bs j<256) (w:World) (hv:BytesIn w v n bs) :
 Calls Tryz.prog 101 #[v] w fun e w'=>e = .returned (.tuple #[numV (fromN n bs),.int .i64 (fromE n)])∧Below w.heap.size w w':=by
 unfold fromN fromE
 by_cases h:n=32
 · subst h
   rw [if_pos rfl,if_pos rfl]
   rcases hv with ⟨_,_,h0⟩ | ⟨bb,ob,cap,rfl,h1,h2,h3⟩
   · omega
   · exact from_32 bb ob cap bs hbs w h1 h3
 · rw [if_neg h,if_neg h]
   obtain ⟨xo,c,rfl,-⟩:=hv.src
   exact from_other xo n c h w
set_option maxRecDepth 20000 in
set_option maxHeartbeats 2000000 in
theorem both_good (v u:Value) (bs cs:Nat→Nat) (hbs:∀ j,bs j<256) (hcs:∀ j,cs j<256) (w:World) (hv:BytesIn w v 32 bs) (hu:BytesIn w u 32 cs) :
 Calls Tryz.prog 125 #[v,u] w fun e w'=>e = .returned (.tuple #[numV (ofB bs 32%pF),numV (ofB cs 32%pF),.int .i64 0])∧Below w.heap.size w w':=by
 have cv:∀ W,Below w.heap.size w W→Calls Tryz.prog 101 #[v] W fun e w'=>e = .returned (.tuple #[numV (ofB bs 32%pF),.int .i64 0])∧Below W.heap.size W w':=fun W h=>from_any v 32 bs hbs W (hv.still h)
 have cu:∀ W,Below w.heap.size w W→Calls Tryz.prog 101 #[u] W fun e w'=>e = .returned (.tuple #[numV (ofB cs 32%pF),.int .i64 0])∧Below W.heap.size W w':=fun W h=>from_any u 32 cs hcs W (hu.still h)
 obtain ⟨xv,kv,rfl,-⟩:=hv.src
 obtain ⟨xu,ku,rfl,-⟩:=hu.src
 obtain ⟨x0,x1,x2,x3,hx⟩:=numV_ex (ofB bs 32%pF)
 obtain ⟨y0,y1,y2,y3,hy⟩:=numV_ex (ofB cs 32%pF)
 rw [hx] at cv ⊢
 rw [hy] at cu ⊢
 obtain ⟨W0,hW0⟩:∃ W,W=(w.alloc (.cells #[.int .u64 0,.int .u64 0,.int .u64 0,.int .u64 0] 51)).alloc (.cells #[.int .u64 0,.int .u64 0,.int .u64 0,.int .u64 0] 51):=⟨_,rfl⟩
 have H0:=Hid.mk' hW0
 have hs0:W0.heap.size=w.heap.size+1+1:=by rw [hW0];simp
 have hb0:Below w.heap.size w W0:=by rw [hW0];exact ((Below.refl _ _).alloc (Nat.le_refl _) _).alloc (by simp) _
 have A0:FourAt W0 w.heap.size (.int .u64 0) (.int .u64 0) (.int .u64 0) (.int .u64 0):=by rw [hW0];exact (four_fresh w _ _ _ _ _).below ((Below.refl _ _).alloc (Nat.le_refl _) _) (by simp)
 have B0:FourAt W0 (w.heap.size+1) (.int .u64 0) (.int .u64 0) (.int .u64 0) (.int .u64 0):=by
  have:=four_fresh (w.alloc (.cells #[.int .u64 0,.int .u64 0,.int .u64 0,.int .u64 0] 51)) (.int .u64 0) (.int .u64 0) (.int .u64 0) (.int .u64 0) 51
  rw [World.size_alloc] at this
  rw [hW0];exact this
 have cv0:=cv W0 hb0
 clear hv hu hx hy hW0 cv
 go_enter Tryz.func125,Tryz.ntmps125
 go_wp2_with (first
  | (go_at_call 101;rw [←H0.out];refine cv0.mono ?_;clear cv0;rintro e w1 ⟨rfl,hb1⟩;(have A1:=A0.below hb1 (by omega));(have B1:=B0.below hb1 (by omega));(have hbw1:Below w.heap.size w w1:=hb0.trans (hb1.mono hb0.size));(have hs1:=hb1.size);obtain ⟨a0,a1,a2,a3,g0,g1,g2,g3⟩:=id A1;clear A0 B0)
  | (go_at_call 101;refine (cu (set4 w1 w.heap.size (.int .u64 x0) (.int .u64 x1) (.int .u64 x2) (.int .u64 x3)) (below_set4' hbw1 (Nat.le_refl _) _ _ _ _)).mono ?_;clear cu;rintro e w2 ⟨rfl,hb2⟩;(have hs2:=hb2.size);rw [size_set4] at hb2 hs2;(have A2:=(A1.set (.int .u64 x0) (.int .u64 x1) (.int .u64 x2) (.int .u64 x3)).below hb2 (by omega));(have B2:=(B1.far (k:=w.heap.size) (by omega) (.int .u64 x0) (.int .u64 x1) (.int .u64 x2) (.int .u64 x3)).below hb2 (by omega));(have hbw2:Below w.heap.size w w2:=(below_set4' hbw1 (Nat.le_refl _) _ _ _ _).trans (hb2.mono (by omega)));clear a0 a1 a2 a3 g0 g1 g2 g3 A1 B1;obtain ⟨a0,a1,a2,a3,g0,g1,g2,g3⟩:=id A2;obtain ⟨b0,b1,b2,b3,k0,k1,k2,k3⟩:=id B2))
 go_region
 go_wp2
 (try simp only [Exit.inBlock,Exit.then])
 have FA:=(((A2.far (k:=w.heap.size+1) (by omega) (.int .u64 y0) (.int .u64 y1) (.int .u64 y2) (.int .u64 y3)).set (.int .u64 x0) (.int .u64 x1) (.int .u64 x2) (.int .u64 x3)).far (k:=w.heap.size+1) (by omega) (.int .u64 y0) (.int .u64 y1) (.int .u64 y2) (.int .u64 y3)).drew
 have FB:=(((B2.set (.int .u64 y0) (.int .u64 y1) (.int .u64 y2) (.int .u64 y3)).far (k:=w.heap.size) (by omega) (.int .u64 x0) (.int .u64 x1) (.int .u64 x2) (.int .u64 x3)).set (.int .u64 y0) (.int .u64 y1) (.int .u64 y2) (.int .u64 y3)).drew
 exact bodyPost_ret (results_cells2 Tryz.results125 _ _ w.heap.size (w.heap.size+1) _ _ _ rfl rfl FA.range FB.range Tryz.underlying51 rfl (by kernel_rfl) (by kernel_rfl)) rfl ⟨rfl,(below_set4' (below_set4' (below_set4' hbw2 (by omega) _ _ _ _) (Nat.le_refl _) _ _ _ _) (by omega) _ _ _ _).drew⟩
end Go.Proofs.YtdgkmloabificaaGreatDoor
namespace Go.Proofs.YtdgkmloabificaaGreatDoor
open Go.RowKit
theorem pF_pos:0<pF:=by decide
def sqN (n k:Nat):Nat:=n ^ (2 ^ k)%pF
theorem sqN_lt (n k:Nat):sqN n k<pF:=Nat.mod_lt _ pF_pos
theorem sqN_zero (n:Nat) (h:n<pF):sqN n 0=n:=by unfold sqN;rw [Nat.pow_zero,Nat.pow_one,Nat.mod_eq_of_lt h]
theorem sqN_step (n k:Nat):sqN n k*sqN n k%pF=sqN n (k+1):=by
 unfold sqN
 rw [←Nat.mul_mod,←Nat.pow_add,Nat.pow_succ,Nat.mul_two]
def NumW (w:World) (g n:Nat):Prop:=FourAt w g (.int .u64 (lw n 0)) (.int .u64 (lw n 1)) (.int .u64 (lw n 2)) (.int .u64 (lw n 3))
theorem NumW.ex {w:World} {g n:Nat} (h:NumW w g n):∃ x0 x1 x2 x3:Nat,numV n = .agg #[.int .u64 x0,.int .u64 x1,.int .u64 x2,.int .u64 x3]∧FourAt w g (.int .u64 x0) (.int .u64 x1) (.int .u64 x2) (.int .u64 x3):=⟨_,_,_,_,rfl,h⟩
set_option maxRecDepth 20000 in
set_option maxHeartbeats 2000000 in
theorem then_any (n m k:Nat) (hn:n<pF) (hm:m<pF) (hk:k<1000) (w:World) :
 Calls Tryz.prog 91 #[numV n,.int .i64 k,.func (.func 53) #[numV m] #[]] w fun e w'=>e = .returned (numV (m*sqN n k%pF))∧Below w.heap.size w w':=by
 have ct:=fun W=>times_any m (sqN n k) hm (sqN_lt n k) W
 obtain ⟨R,hR⟩:∃ R,R=m*sqN n k%pF:=⟨_,rfl⟩
 rw [←hR] at ct ⊢
 obtain ⟨z0,z1,z2,z3,hz⟩:=numV_ex R
 obtain ⟨m0,m1,m2,m3,hmv⟩:=numV_ex m
 rw [hz] at ct ⊢
 rw [hmv] at ct ⊢
 obtain ⟨W,hW⟩:∃ W,W=(w.alloc (.cells #[.int .u64 (lw n 0),.int .u64 (lw n 1),.int .u64 (lw n 2),.int .u64 (lw n 3)] 51)).alloc (.cells #[.int .u64 0,.int .u64 0,.int .u64 0,.int .u64 0] 51):=⟨_,rfl⟩
 have HW:=Hid.mk' hW
 have hWs:W.heap.size=w.heap.size+1+1:=by rw [hW];simp
 have hbW:Below w.heap.size w W:=by rw [hW];exact ((Below.refl _ _).alloc (Nat.le_refl _) _).alloc (by simp) _
 have hA:NumW W w.heap.size (sqN n 0):=by rw [sqN_zero n hn,hW];exact (four_fresh w _ _ _ _ _).below ((Below.refl _ _).alloc (Nat.le_refl _) _) (by simp)
 have hB:FourAt W (w.heap.size+1) (.int .u64 0) (.int .u64 0) (.int .u64 0) (.int .u64 0):=by
  have:=four_fresh (w.alloc (.cells #[.int .u64 (lw n 0),.int .u64 (lw n 1),.int .u64 (lw n 2),.int .u64 (lw n 3)] 51)) (.int .u64 0) (.int .u64 0) (.int .u64 0) (.int .u64 0) 51
  rw [World.size_alloc] at this
  rw [hW];exact this
 unfold numV
 clear hW hR hz hmv
 go_enter Tryz.func91,Tryz.ntmps91
 go_wp2
 rw [←HW.out]
 go_loopw [8] (fun i wr=>∃ q:Nat,q≤k∧i = .int .i64 q∧NumW wr w.heap.size (sqN n q)∧FourAt wr (w.heap.size+1) (.int .u64 0) (.int .u64 0) (.int .u64 0) (.int .u64 0)∧Below w.heap.size w wr∧w.heap.size+1<wr.heap.size) (fun i _=>k - (intOf i).toNat)
 case atStart=>exact ⟨0,Nat.zero_le _,rfl,hA,hB,hbW,by omega⟩
 case round =>
  clear hA hB hbW
  obtain ⟨q,hq,rfl,hA,hB,hb,hs⟩:=hrel
  by_cases hlt:q<k
  · have cs:=times_any (sqN n q) (sqN n q) (sqN_lt n q) (sqN_lt n q) wr
    rw [sqN_step] at cs
    obtain ⟨x0,x1,x2,x3,hx,hA'⟩:=hA.ex
    have hy:∃ y0 y1 y2 y3:Nat,numV (sqN n (q+1)) = .agg #[.int .u64 y0,.int .u64 y1,.int .u64 y2,.int .u64 y3]∧∀ W,FourAt W w.heap.size (.int .u64 y0) (.int .u64 y1) (.int .u64 y2) (.int .u64 y3)→NumW W w.heap.size (sqN n (q+1)):=⟨_,_,_,_,rfl,fun _ h=>h⟩
    obtain ⟨y0,y1,y2,y3,hye,hyn⟩:=hy
    rw [hx,hye] at cs
    obtain ⟨c0,c1,c2,c3,f0,f1,f2,f3⟩:=id hA'
    clear ct hx hye hA
    go_wp2_with (go_at_call 53;refine cs.mono ?_;clear cs;rintro e w1 ⟨rfl,hb1⟩;(have A1:=hA'.below hb1 (by omega));clear c0 c1 c2 c3 f0 f1 f2 f3;obtain ⟨c0,c1,c2,c3,f0,f1,f2,f3⟩:=id A1)
    go_roundw
    case rel =>
     refine ⟨q+1,by omega,by go_num,hyn _ (A1.set _ _ _ _),(hB.below hb1 (by omega)).far (by omega) _ _ _ _,below_set4' (hb.trans (hb1.mono hb.size)) (Nat.le_refl _) _ _ _ _,?_⟩
     show w.heap.size+1<(set4 _ _ _ _ _ _).heap.size
     rw [size_set4];have:=hb1.size;omega
    case measure=>simp [intOf];omega
  · have hqe:q=k:=by omega
    rw [hqe] at hA
    obtain ⟨x0,x1,x2,x3,hx,hA'⟩:=hA.ex
    have ct':=ct wr
    rw [hx] at ct'
    obtain ⟨c0,c1,c2,c3,f0,f1,f2,f3⟩:=id hA'
    clear ct hx hA
    go_wp2_with (go_at_call 53;refine ct'.mono ?_;clear ct';rintro e w1 ⟨rfl,hb1⟩;(have B1:=hB.below hb1 (by omega));(have ht1:=B1.there);clear c0 c1 c2 c3 f0 f1 f2 f3;obtain ⟨c0,c1,c2,c3,f0,f1,f2,f3⟩:=B1)
    (try simp only [Exit.inBlock,Exit.then])
    exact bodyPost_ret (results_set4 Tryz.results91 _ _ _ _ _ _ _ ht1 rfl Tryz.underlying51 rfl (by kernel_rfl)) rfl ⟨rfl,below_set4 (hb.trans (hb1.mono hb.size)) (by omega) _ _ _ _⟩
end Go.Proofs.YtdgkmloabificaaGreatDoor
namespace Go.Proofs.YtdgkmloabificaaGreatDoor
open Go.RowKit
theorem then_pow (x a b k e:Nat) (he:b+a*2 ^ k=e) (hk:k<1000) (w:World) :
 Calls Tryz.prog 91 #[numV (x ^ a%pF),.int .i64 k,.func (.func 53) #[numV (x ^ b%pF)] #[]] w fun e' w'=>e' = .returned (numV (x ^ e%pF))∧Below w.heap.size w w':=by
 have h:=then_any (x ^ a%pF) (x ^ b%pF) k (Nat.mod_lt _ pF_pos) (Nat.mod_lt _ pF_pos) hk w
 have e1:x ^ b%pF*sqN (x ^ a%pF) k%pF=x ^ e%pF:=by
  unfold sqN
  rw [←Nat.pow_mod,←Nat.mul_mod,←Nat.pow_mul,←Nat.pow_add,he]
 rw [e1] at h
 exact h
set_option maxRecDepth 20000 in
set_option maxHeartbeats 4000000 in
theorem ones250_any (x:Nat) (w:World) :
 Calls Tryz.prog 90 #[numV (x ^ 1%pF)] w fun e w'=>e = .returned (numV (x ^ 1809251394333065553493296640760748560207343510400633813116524750123642650623%pF))∧Below w.heap.size w w':=by
 have cc0:=fun W=>then_pow x 1 1 1 3 (by decide) (by decide) W
 have cc1:=fun W=>then_pow x 3 3 2 15 (by decide) (by decide) W
 have cc2:=fun W=>then_pow x 15 1 1 31 (by decide) (by decide) W
 have cc3:=fun W=>then_pow x 31 31 5 1023 (by decide) (by decide) W
 have cc4:=fun W=>then_pow x 1023 1023 10 1048575 (by decide) (by decide) W
 have cc5:=fun W=>then_pow x 1048575 1048575 20 1099511627775 (by decide) (by decide) W
 have cc6:=fun W=>then_pow x 1099511627775 1023 10 1125899906842623 (by decide) (by decide) W
 have cc7:=fun W=>then_pow x 1125899906842623 1125899906842623 50 1267650600228229401496703205375 (by decide) (by decide) W
 have cc8:=fun W=>then_pow x 1267650600228229401496703205375 1267650600228229401496703205375 100 1606938044258990275541962092341162602522202993782792835301375 (by decide) (by decide) W
 have cc9:=fun W=>then_pow x 1606938044258990275541962092341162602522202993782792835301375 1125899906842623 50 1809251394333065553493296640760748560207343510400633813116524750123642650623 (by decide) (by decide) W
 obtain ⟨va0,va1,va2,va3,hva⟩:=numV_ex (x ^ 1%pF)
 obtain ⟨vb0,vb1,vb2,vb3,hvb⟩:=numV_ex (x ^ 3%pF)
 obtain ⟨vc0,vc1,vc2,vc3,hvc⟩:=numV_ex (x ^ 15%pF)
 obtain ⟨vd0,vd1,vd2,vd3,hvd⟩:=numV_ex (x ^ 31%pF)
 obtain ⟨ve0,ve1,ve2,ve3,hve⟩:=numV_ex (x ^ 1023%pF)
 obtain ⟨vf0,vf1,vf2,vf3,hvf⟩:=numV_ex (x ^ 1048575%pF)
 obtain ⟨vg0,vg1,vg2,vg3,hvg⟩:=numV_ex (x ^ 1099511627775%pF)
 obtain ⟨vh0,vh1,vh2,vh3,hvh⟩:=numV_ex (x ^ 1125899906842623%pF)
 obtain ⟨vi0,vi1,vi2,vi3,hvi⟩:=numV_ex (x ^ 1267650600228229401496703205375%pF)
 obtain ⟨vj0,vj1,vj2,vj3,hvj⟩:=numV_ex (x ^ 1606938044258990275541962092341162602522202993782792835301375%pF)
 obtain ⟨vk0,vk1,vk2,vk3,hvk⟩:=numV_ex (x ^ 1809251394333065553493296640760748560207343510400633813116524750123642650623%pF)
 rw [hva,hvb] at cc0
 rw [hvb,hvc] at cc1
 rw [hvc,hva,hvd] at cc2
 rw [hvd,hve] at cc3
 rw [hve,hvf] at cc4
 rw [hvf,hvg] at cc5
 rw [hvg,hve,hvh] at cc6
 rw [hvh,hvi] at cc7
 rw [hvi,hvj] at cc8
 rw [hvj,hvh,hvk] at cc9
 rw [hva,hvk]
 have dd0:∀ W,Calls Tryz.prog 91 #[.agg #[.int .u64 va0,.int .u64 va1,.int .u64 va2,.int .u64 va3],.int .i64 1,.func (.func 53) #[.agg #[.int .u64 va0,.int .u64 va1,.int .u64 va2,.int .u64 va3]] #[]] W fun e w'=>e = .returned (.agg #[.int .u64 vb0,.int .u64 vb1,.int .u64 vb2,.int .u64 vb3])∧Below W.heap.size W w':=cc0
 have dd1:∀ W,Calls Tryz.prog 91 #[.agg #[.int .u64 vb0,.int .u64 vb1,.int .u64 vb2,.int .u64 vb3],.int .i64 2,.func (.func 53) #[.agg #[.int .u64 vb0,.int .u64 vb1,.int .u64 vb2,.int .u64 vb3]] #[]] W fun e w'=>e = .returned (.agg #[.int .u64 vc0,.int .u64 vc1,.int .u64 vc2,.int .u64 vc3])∧Below W.heap.size W w':=cc1
 have dd2:∀ W,Calls Tryz.prog 91 #[.agg #[.int .u64 vc0,.int .u64 vc1,.int .u64 vc2,.int .u64 vc3],.int .i64 1,.func (.func 53) #[.agg #[.int .u64 va0,.int .u64 va1,.int .u64 va2,.int .u64 va3]] #[]] W fun e w'=>e = .returned (.agg #[.int .u64 vd0,.int .u64 vd1,.int .u64 vd2,.int .u64 vd3])∧Below W.heap.size W w':=cc2
 have dd3:∀ W,Calls Tryz.prog 91 #[.agg #[.int .u64 vd0,.int .u64 vd1,.int .u64 vd2,.int .u64 vd3],.int .i64 5,.func (.func 53) #[.agg #[.int .u64 vd0,.int .u64 vd1,.int .u64 vd2,.int .u64 vd3]] #[]] W fun e w'=>e = .returned (.agg #[.int .u64 ve0,.int .u64 ve1,.int .u64 ve2,.int .u64 ve3])∧Below W.heap.size W w':=cc3
 have dd4:∀ W,Calls Tryz.prog 91 #[.agg #[.int .u64 ve0,.int .u64 ve1,.int .u64 ve2,.int .u64 ve3],.int .i64 10,.func (.func 53) #[.agg #[.int .u64 ve0,.int .u64 ve1,.int .u64 ve2,.int .u64 ve3]] #[]] W fun e w'=>e = .returned (.agg #[.int .u64 vf0,.int .u64 vf1,.int .u64 vf2,.int .u64 vf3])∧Below W.heap.size W w':=cc4
 have dd5:∀ W,Calls Tryz.prog 91 #[.agg #[.int .u64 vf0,.int .u64 vf1,.int .u64 vf2,.int .u64 vf3],.int .i64 20,.func (.func 53) #[.agg #[.int .u64 vf0,.int .u64 vf1,.int .u64 vf2,.int .u64 vf3]] #[]] W fun e w'=>e = .returned (.agg #[.int .u64 vg0,.int .u64 vg1,.int .u64 vg2,.int .u64 vg3])∧Below W.heap.size W w':=cc5
 have dd6:∀ W,Calls Tryz.prog 91 #[.agg #[.int .u64 vg0,.int .u64 vg1,.int .u64 vg2,.int .u64 vg3],.int .i64 10,.func (.func 53) #[.agg #[.int .u64 ve0,.int .u64 ve1,.int .u64 ve2,.int .u64 ve3]] #[]] W fun e w'=>e = .returned (.agg #[.int .u64 vh0,.int .u64 vh1,.int .u64 vh2,.int .u64 vh3])∧Below W.heap.size W w':=cc6
 have dd7:∀ W,Calls Tryz.prog 91 #[.agg #[.int .u64 vh0,.int .u64 vh1,.int .u64 vh2,.int .u64 vh3],.int .i64 50,.func (.func 53) #[.agg #[.int .u64 vh0,.int .u64 vh1,.int .u64 vh2,.int .u64 vh3]] #[]] W fun e w'=>e = .returned (.agg #[.int .u64 vi0,.int .u64 vi1,.int .u64 vi2,.int .u64 vi3])∧Below W.heap.size W w':=cc7
 have dd8:∀ W,Calls Tryz.prog 91 #[.agg #[.int .u64 vi0,.int .u64 vi1,.int .u64 vi2,.int .u64 vi3],.int .i64 100,.func (.func 53) #[.agg #[.int .u64 vi0,.int .u64 vi1,.int .u64 vi2,.int .u64 vi3]] #[]] W fun e w'=>e = .returned (.agg #[.int .u64 vj0,.int .u64 vj1,.int .u64 vj2,.int .u64 vj3])∧Below W.heap.size W w':=cc8
 have dd9:∀ W,Calls Tryz.prog 91 #[.agg #[.int .u64 vj0,.int .u64 vj1,.int .u64 vj2,.int .u64 vj3],.int .i64 50,.func (.func 53) #[.agg #[.int .u64 vh0,.int .u64 vh1,.int .u64 vh2,.int .u64 vh3]] #[]] W fun e w'=>e = .returned (.agg #[.int .u64 vk0,.int .u64 vk1,.int .u64 vk2,.int .u64 vk3])∧Below W.heap.size W w':=cc9
 clear cc0 cc1 cc2 cc3 cc4 cc5 cc6 cc7 cc8 cc9 hva hvb hvc hvd hve hvf hvg hvh hvi hvj hvk
 obtain ⟨W,hW⟩:∃ W,W=(w.alloc (.cells #[.int .u64 va0,.int .u64 va1,.int .u64 va2,.int .u64 va3] 51)).alloc (.cells #[.int .u64 0,.int .u64 0,.int .u64 0,.int .u64 0] 51):=⟨_,rfl⟩
 have HW:=Hid.mk' hW
 have hWs:W.heap.size=w.heap.size+1+1:=by rw [hW];simp
 have hbW:Below w.heap.size w W:=by rw [hW];exact ((Below.refl _ _).alloc (Nat.le_refl _) _).alloc (by simp) _
 have N0:FourAt W w.heap.size (.int .u64 va0) (.int .u64 va1) (.int .u64 va2) (.int .u64 va3):=by rw [hW];exact (four_fresh w _ _ _ _ _).below ((Below.refl _ _).alloc (Nat.le_refl _) _) (by simp)
 have R0:FourAt W (w.heap.size+1) (.int .u64 0) (.int .u64 0) (.int .u64 0) (.int .u64 0):=by
  have:=four_fresh (w.alloc (.cells #[.int .u64 va0,.int .u64 va1,.int .u64 va2,.int .u64 va3] 51)) (.int .u64 0) (.int .u64 0) (.int .u64 0) (.int .u64 0) 51
  rw [World.size_alloc] at this
  rw [hW];exact this
 clear hW
 go_enter Tryz.func90,Tryz.ntmps90
 go_wp2_with (first
  | (go_at_call 91;rw [←HW.out];refine (dd0 _).mono ?_;clear dd0;rintro e w1 ⟨rfl,bel1⟩;(have N1:=N0.below bel1 (by omega));(have R1:=R0.below bel1 (by omega));(have zz1:w.heap.size+1+1≤w1.heap.size:=by have:=bel1.size;omega);(have hw1:Below w.heap.size w w1:=hbW.trans (bel1.mono (by omega))))
  | (go_at_call 91;refine (dd1 _).mono ?_;clear dd1;rintro e w2 ⟨rfl,bel2⟩;(have sz2:w1.heap.size+1≤w2.heap.size:=by have:=bel2.size;rw [World.size_alloc] at this;exact this);(have tb2:Below w1.heap.size w1 w2:=((Below.refl w1.heap.size w1).alloc (Nat.le_refl _) _).trans (bel2.mono (by rw [World.size_alloc];omega)));(have zz2:w.heap.size+1+1≤w2.heap.size:=by omega);(have hw2:Below w.heap.size w w2:=hw1.trans (tb2.mono (by omega)));(have R2:=R1.below tb2 (by omega));(have N2:=N1.below tb2 (by omega));(have q2:w.heap.size<w2.heap.size:=by omega);(obtain ⟨n0,n1,n2,n3,-,-,-,-⟩:=id N2))
  | (go_at_call 91;refine (dd2 _).mono ?_;clear dd2;rintro e w3 ⟨rfl,bel3⟩;(have sz3:w2.heap.size+1≤w3.heap.size:=by have:=bel3.size;rw [World.size_alloc] at this;exact this);(have tb3:Below w2.heap.size w2 w3:=((Below.refl w2.heap.size w2).alloc (Nat.le_refl _) _).trans (bel3.mono (by rw [World.size_alloc];omega)));(have zz3:w.heap.size+1+1≤w3.heap.size:=by omega);(have hw3:Below w.heap.size w w3:=hw2.trans (tb3.mono (by omega)));(have R3:=R2.below tb3 (by omega)))
  | (go_at_call 91;refine (dd3 _).mono ?_;clear dd3;rintro e w4 ⟨rfl,bel4⟩;(have sz4:w3.heap.size+1≤w4.heap.size:=by have:=bel4.size;rw [World.size_alloc] at this;exact this);(have tb4:Below w3.heap.size w3 w4:=((Below.refl w3.heap.size w3).alloc (Nat.le_refl _) _).trans (bel4.mono (by rw [World.size_alloc];omega)));(have zz4:w.heap.size+1+1≤w4.heap.size:=by omega);(have hw4:Below w.heap.size w w4:=hw3.trans (tb4.mono (by omega)));(have R4:=R3.below tb4 (by omega)))
  | (go_at_call 91;refine (dd4 _).mono ?_;clear dd4;rintro e w5 ⟨rfl,bel5⟩;(have sz5:w4.heap.size+1≤w5.heap.size:=by have:=bel5.size;rw [World.size_alloc] at this;exact this);(have tb5:Below w4.heap.size w4 w5:=((Below.refl w4.heap.size w4).alloc (Nat.le_refl _) _).trans (bel5.mono (by rw [World.size_alloc];omega)));(have zz5:w.heap.size+1+1≤w5.heap.size:=by omega);(have hw5:Below w.heap.size w w5:=hw4.trans (tb5.mono (by omega)));(have R5:=R4.below tb5 (by omega));(have T5:=(four_fresh w4 (.int .u64 ve0) (.int .u64 ve1) (.int .u64 ve2) (.int .u64 ve3) 51).below bel5 (by simp));(have q5:w4.heap.size<w5.heap.size:=by omega))
  | (go_at_call 91;refine (dd5 _).mono ?_;clear dd5;rintro e w6 ⟨rfl,bel6⟩;(have sz6:w5.heap.size+1≤w6.heap.size:=by have:=bel6.size;rw [World.size_alloc] at this;exact this);(have tb6:Below w5.heap.size w5 w6:=((Below.refl w5.heap.size w5).alloc (Nat.le_refl _) _).trans (bel6.mono (by rw [World.size_alloc];omega)));(have zz6:w.heap.size+1+1≤w6.heap.size:=by omega);(have hw6:Below w.heap.size w w6:=hw5.trans (tb6.mono (by omega)));(have R6:=R5.below tb6 (by omega));(have T6:=T5.below tb6 (by omega));(have q6:w4.heap.size<w6.heap.size:=by omega);(obtain ⟨m0,m1,m2,m3,-,-,-,-⟩:=id T6))
  | (go_at_call 91;refine (dd6 _).mono ?_;clear dd6;rintro e w7 ⟨rfl,bel7⟩;(have sz7:w6.heap.size+1≤w7.heap.size:=by have:=bel7.size;rw [World.size_alloc] at this;exact this);(have tb7:Below w6.heap.size w6 w7:=((Below.refl w6.heap.size w6).alloc (Nat.le_refl _) _).trans (bel7.mono (by rw [World.size_alloc];omega)));(have zz7:w.heap.size+1+1≤w7.heap.size:=by omega);(have hw7:Below w.heap.size w w7:=hw6.trans (tb7.mono (by omega)));(have R7:=R6.below tb7 (by omega)))
  | (go_at_call 91;refine (dd7 _).mono ?_;clear dd7;rintro e w8 ⟨rfl,bel8⟩;(have sz8:w7.heap.size+1≤w8.heap.size:=by have:=bel8.size;rw [World.size_alloc] at this;exact this);(have tb8:Below w7.heap.size w7 w8:=((Below.refl w7.heap.size w7).alloc (Nat.le_refl _) _).trans (bel8.mono (by rw [World.size_alloc];omega)));(have zz8:w.heap.size+1+1≤w8.heap.size:=by omega);(have hw8:Below w.heap.size w w8:=hw7.trans (tb8.mono (by omega)));(have R8:=R7.below tb8 (by omega));(have F8:=(four_fresh w7 (.int .u64 vh0) (.int .u64 vh1) (.int .u64 vh2) (.int .u64 vh3) 51).below bel8 (by simp));(have q8:w7.heap.size<w8.heap.size:=by omega))
  | (go_at_call 91;refine (dd8 _).mono ?_;clear dd8;rintro e w9 ⟨rfl,bel9⟩;(have sz9:w8.heap.size+1≤w9.heap.size:=by have:=bel9.size;rw [World.size_alloc] at this;exact this);(have tb9:Below w8.heap.size w8 w9:=((Below.refl w8.heap.size w8).alloc (Nat.le_refl _) _).trans (bel9.mono (by rw [World.size_alloc];omega)));(have zz9:w.heap.size+1+1≤w9.heap.size:=by omega);(have hw9:Below w.heap.size w w9:=hw8.trans (tb9.mono (by omega)));(have R9:=R8.below tb9 (by omega));(have F9:=F8.below tb9 (by omega));(have q9:w7.heap.size<w9.heap.size:=by omega);(obtain ⟨p0,p1,p2,p3,-,-,-,-⟩:=id F9))
  | (go_at_call 91;refine (dd9 _).mono ?_;clear dd9;rintro e w10 ⟨rfl,bel10⟩;(have sz10:w9.heap.size+1≤w10.heap.size:=by have:=bel10.size;rw [World.size_alloc] at this;exact this);(have tb10:Below w9.heap.size w9 w10:=((Below.refl w9.heap.size w9).alloc (Nat.le_refl _) _).trans (bel10.mono (by rw [World.size_alloc];omega)));(have zz10:w.heap.size+1+1≤w10.heap.size:=by omega);(have hw10:Below w.heap.size w w10:=hw9.trans (tb10.mono (by omega)));(have R10:=R9.below tb10 (by omega));(have ht:=R10.there);(obtain ⟨r0,r1,r2,r3,f0,f1,f2,f3⟩:=id R10)))
 (try simp only [Exit.inBlock,Exit.then])
 exact bodyPost_ret (results_set4 Tryz.results90 _ _ _ _ _ _ _ ht rfl Tryz.underlying51 rfl (by kernel_rfl)) rfl ⟨rfl,below_set4 hw10 (by omega) _ _ _ _⟩
end Go.Proofs.YtdgkmloabificaaGreatDoor
namespace Go.Proofs.YtdgkmloabificaaGreatDoor
open Go.RowKit
set_option maxRecDepth 20000 in
set_option maxHeartbeats 4000000 in
theorem inverse_pow (x:Nat) (w:World) :
 Calls Tryz.prog 51 #[numV (x ^ 1%pF)] w fun e w'=>e = .returned (numV (x ^ 57896044618658097711785492504343953926634992332820282019728792003956564819947%pF))∧Below w.heap.size w w':=by
 have cc0:=fun W=>ones250_any x W
 have cc1:=fun W=>then_pow x 1809251394333065553493296640760748560207343510400633813116524750123642650623 1 2 7237005577332262213973186563042994240829374041602535252466099000494570602493 (by decide) (by decide) W
 have cc2:=fun W=>then_pow x 7237005577332262213973186563042994240829374041602535252466099000494570602493 1 2 28948022309329048855892746252171976963317496166410141009864396001978282409973 (by decide) (by decide) W
 have cc3:=fun W=>then_pow x 28948022309329048855892746252171976963317496166410141009864396001978282409973 1 1 57896044618658097711785492504343953926634992332820282019728792003956564819947 (by decide) (by decide) W
 obtain ⟨va0,va1,va2,va3,hva⟩:=numV_ex (x ^ 1%pF)
 obtain ⟨vb0,vb1,vb2,vb3,hvb⟩:=numV_ex (x ^ 1809251394333065553493296640760748560207343510400633813116524750123642650623%pF)
 obtain ⟨vc0,vc1,vc2,vc3,hvc⟩:=numV_ex (x ^ 7237005577332262213973186563042994240829374041602535252466099000494570602493%pF)
 obtain ⟨vd0,vd1,vd2,vd3,hvd⟩:=numV_ex (x ^ 28948022309329048855892746252171976963317496166410141009864396001978282409973%pF)
 obtain ⟨ve0,ve1,ve2,ve3,hve⟩:=numV_ex (x ^ 57896044618658097711785492504343953926634992332820282019728792003956564819947%pF)
 rw [hva,hvb] at cc0
 rw [hvb,hva,hvc] at cc1
 rw [hvc,hva,hvd] at cc2
 rw [hvd,hva,hve] at cc3
 rw [hva,hve]
 have dd1:∀ W,Calls Tryz.prog 91 #[.agg #[.int .u64 vb0,.int .u64 vb1,.int .u64 vb2,.int .u64 vb3],.int .i64 2,.func (.func 53) #[.agg #[.int .u64 va0,.int .u64 va1,.int .u64 va2,.int .u64 va3]] #[]] W fun e w'=>e = .returned (.agg #[.int .u64 vc0,.int .u64 vc1,.int .u64 vc2,.int .u64 vc3])∧Below W.heap.size W w':=cc1
 have dd2:∀ W,Calls Tryz.prog 91 #[.agg #[.int .u64 vc0,.int .u64 vc1,.int .u64 vc2,.int .u64 vc3],.int .i64 2,.func (.func 53) #[.agg #[.int .u64 va0,.int .u64 va1,.int .u64 va2,.int .u64 va3]] #[]] W fun e w'=>e = .returned (.agg #[.int .u64 vd0,.int .u64 vd1,.int .u64 vd2,.int .u64 vd3])∧Below W.heap.size W w':=cc2
 have dd3:∀ W,Calls Tryz.prog 91 #[.agg #[.int .u64 vd0,.int .u64 vd1,.int .u64 vd2,.int .u64 vd3],.int .i64 1,.func (.func 53) #[.agg #[.int .u64 va0,.int .u64 va1,.int .u64 va2,.int .u64 va3]] #[]] W fun e w'=>e = .returned (.agg #[.int .u64 ve0,.int .u64 ve1,.int .u64 ve2,.int .u64 ve3])∧Below W.heap.size W w':=cc3
 clear cc1 cc2 cc3 hva hvb hvc hvd hve
 obtain ⟨W,hW⟩:∃ W,W=(w.alloc (.cells #[.int .u64 va0,.int .u64 va1,.int .u64 va2,.int .u64 va3] 51)).alloc (.cells #[.int .u64 0,.int .u64 0,.int .u64 0,.int .u64 0] 51):=⟨_,rfl⟩
 have HW:=Hid.mk' hW
 have hWs:W.heap.size=w.heap.size+1+1:=by rw [hW];simp
 have hbW:Below w.heap.size w W:=by rw [hW];exact ((Below.refl _ _).alloc (Nat.le_refl _) _).alloc (by simp) _
 have N0:FourAt W w.heap.size (.int .u64 va0) (.int .u64 va1) (.int .u64 va2) (.int .u64 va3):=by rw [hW];exact (four_fresh w _ _ _ _ _).below ((Below.refl _ _).alloc (Nat.le_refl _) _) (by simp)
 have R0:FourAt W (w.heap.size+1) (.int .u64 0) (.int .u64 0) (.int .u64 0) (.int .u64 0):=by
  have:=four_fresh (w.alloc (.cells #[.int .u64 va0,.int .u64 va1,.int .u64 va2,.int .u64 va3] 51)) (.int .u64 0) (.int .u64 0) (.int .u64 0) (.int .u64 0) 51
  rw [World.size_alloc] at this
  rw [hW];exact this
 have hr:∀ w':World,Below (w.heap.size+1) W w'→w'.rangeAt w.heap.size 0 [.int .u64 va0,.int .u64 va1,.int .u64 va2,.int .u64 va3]:=fun w' h=>(N0.below h (by omega)).range
 have hi':(Tryz.prog.info? 51).map (·.size)=some 4:=by kernel_rfl
 have hb0:Below (w.heap.size+1) W W.drew:=(Below.refl _ _).drew
 clear hW
 go_enter Tryz.func51,Tryz.ntmps51
 go_wp2
 rw [←HW.out]
 refine wp_region_held_drew (S:=fun w2=>Below (w.heap.size+1) W w2) (by kernel_rfl) hb0 (fun hHeld => ?_)
 refine wpAnyH_take (i:=0) (v := .agg #[.int .u64 va0,.int .u64 va1,.int .u64 va2,.int .u64 va3]) rfl (by kernel_rfl) (by kernel_rfl) (by kernel_rfl) (fun _ _ _ h=>h) (yieldsIf_load_mid (by rfl) 51 _ rfl w.heap.size 0 rfl [.int .u64 va0,.int .u64 va1,.int .u64 va2,.int .u64 va3] _ hr Tryz.underlying51 rfl hi') hHeld ?_
 refine wpAnyH_take (i:=2) (v := .agg #[.int .u64 va0,.int .u64 va1,.int .u64 va2,.int .u64 va3]) rfl (by kernel_rfl) (by kernel_rfl) (by kernel_rfl) (fun _ _ _ h=>h) (yieldsIf_load_mid (by rfl) 51 _ rfl w.heap.size 0 rfl [.int .u64 va0,.int .u64 va1,.int .u64 va2,.int .u64 va3] _ hr Tryz.underlying51 rfl hi') hHeld ?_
 refine wpAnyH_take (i:=5) (v := .agg #[.int .u64 va0,.int .u64 va1,.int .u64 va2,.int .u64 va3]) rfl (by kernel_rfl) (by kernel_rfl) (by kernel_rfl) (fun _ _ _ h=>h) (yieldsIf_load_mid (by rfl) 51 _ rfl w.heap.size 0 rfl [.int .u64 va0,.int .u64 va1,.int .u64 va2,.int .u64 va3] _ hr Tryz.underlying51 rfl hi') hHeld ?_
 refine wpAnyH_take (i:=8) (v := .agg #[.int .u64 va0,.int .u64 va1,.int .u64 va2,.int .u64 va3]) rfl (by kernel_rfl) (by kernel_rfl) (by kernel_rfl) (fun _ _ _ h=>h) (yieldsIf_load_mid (by rfl) 51 _ rfl w.heap.size 0 rfl [.int .u64 va0,.int .u64 va1,.int .u64 va2,.int .u64 va3] _ hr Tryz.underlying51 rfl hi') hHeld ?_
 refine wpAnyH_take (i:=3) (v := .func (.func 53) #[.agg #[.int .u64 va0,.int .u64 va1,.int .u64 va2,.int .u64 va3]] #[]) rfl (by kernel_rfl) (by kernel_rfl) (by kernel_rfl) (fun _ _ _ h=>h) (Or.inl ⟨by rfl,fun w2 _=>by go_simp⟩) hHeld ?_
 refine wpAnyH_take (i:=6) (v := .func (.func 53) #[.agg #[.int .u64 va0,.int .u64 va1,.int .u64 va2,.int .u64 va3]] #[]) rfl (by kernel_rfl) (by kernel_rfl) (by kernel_rfl) (fun _ _ _ h=>h) (Or.inl ⟨by rfl,fun w2 _=>by go_simp⟩) hHeld ?_
 refine wpAnyH_take (i:=9) (v := .func (.func 53) #[.agg #[.int .u64 va0,.int .u64 va1,.int .u64 va2,.int .u64 va3]] #[]) rfl (by kernel_rfl) (by kernel_rfl) (by kernel_rfl) (fun _ _ _ h=>h) (Or.inl ⟨by rfl,fun w2 _=>by go_simp⟩) hHeld ?_
 refine wpAnyH_ready (rs:=[1]) (by kernel_rfl) (by simp) ?_
 refine AllReadyH.cons rfl (fun K hK => ?_) AllReadyH.nil
 go_simp
 go_at_call 90
 refine (cc0 _).mono ?_
 clear cc0
 rintro e w1 ⟨rfl,bel_w1⟩
 have S_w1:Below (w.heap.size+1) W w1:=hb0.trans (bel_w1.mono (by have:=hb0.size;omega))
 go_simp
 refine hK.out _ _ S_w1 (fun h1 => ?_)
 clear hK K
 refine wpAnyH_ready (rs:=[4]) (by kernel_rfl) (by simp) ?_
 refine AllReadyH.cons rfl (fun K hK => ?_) AllReadyH.nil
 go_simp
 go_at_call 91
 refine (dd1 _).mono ?_
 clear dd1
 rintro e w2 ⟨rfl,bel_w2⟩
 have S_w2:Below (w.heap.size+1) W w2:=S_w1.trans (bel_w2.mono (by have:=S_w1.size;omega))
 go_simp
 refine hK.out _ _ S_w2 (fun h2 => ?_)
 clear hK K
 refine wpAnyH_ready (rs:=[7]) (by kernel_rfl) (by simp) ?_
 refine AllReadyH.cons rfl (fun K hK => ?_) AllReadyH.nil
 go_simp
 go_at_call 91
 refine (dd2 _).mono ?_
 clear dd2
 rintro e w3 ⟨rfl,bel_w3⟩
 have S_w3:Below (w.heap.size+1) W w3:=S_w2.trans (bel_w3.mono (by have:=S_w2.size;omega))
 go_simp
 refine hK.out _ _ S_w3 (fun h3 => ?_)
 clear hK K
 refine wpAnyH_ready (rs:=[10]) (by kernel_rfl) (by simp) ?_
 refine AllReadyH.cons rfl (fun K hK => ?_) AllReadyH.nil
 go_simp
 go_at_call 91
 refine (dd3 _).mono ?_
 clear dd3
 rintro e w4 ⟨rfl,bel_w4⟩
 have S_w4:Below (w.heap.size+1) W w4:=S_w3.trans (bel_w4.mono (by have:=S_w3.size;omega))
 go_simp
 refine hK.out _ _ S_w4 (fun h4 => ?_)
 clear hK K
 have z1:=bel_w1.size
 have z2:=bel_w2.size
 have z3:=bel_w3.size
 have zd:W.drew.heap.size=w.heap.size+1+1:=hWs
 have R4:=(((R0.drew.below bel_w1 (by omega)).below bel_w2 (by omega)).below bel_w3 (by omega)).below bel_w4 (by omega)
 have ht:=R4.there
 have S5:Below (w.heap.size+1) W (set4 w4 (w.heap.size+1) (.int .u64 ve0) (.int .u64 ve1) (.int .u64 ve2) (.int .u64 ve3)):=below_set4' S_w4 (Nat.le_refl _) _ _ _ _
 have hbw4:Below w.heap.size w w4:=hbW.trans (S_w4.mono (by omega))
 obtain ⟨r0,r1,r2,r3,f0,f1,f2,f3⟩:=R4
 refine wpAnyH_ready (rs:=[11]) (by kernel_rfl) (by simp) ?_
 refine AllReadyH.cons rfl (fun K hK => ?_) AllReadyH.nil
 go_simp
 refine hK.out _ _ S5 (fun h5 => ?_)
 clear hK K
 refine wpAnyH_done (by kernel_rfl) ?_ _
 go_simp
 go_wp2
 (try simp only [Exit.inBlock,Exit.then])
 exact bodyPost_ret (results_set4 Tryz.results51 _ _ _ _ _ _ _ ht rfl Tryz.underlying51 rfl (by kernel_rfl)) rfl ⟨rfl,below_set4 hbw4 (by omega) _ _ _ _⟩
theorem inverse_any (x:Nat) (hx:x<pF) (w:World) :
 Calls Tryz.prog 51 #[numV x] w fun e w'=>e = .returned (numV (x ^ (pF - 2)%pF))∧Below w.heap.size w w':=by
 have h:=inverse_pow x w
 rw [Nat.pow_one,Nat.mod_eq_of_lt hx] at h
 have e:57896044618658097711785492504343953926634992332820282019728792003956564819947=pF - 2:=by decide
 rw [e] at h
 exact h
end Go.Proofs.YtdgkmloabificaaGreatDoor
namespace Go.Proofs.YtdgkmloabificaaGreatDoor
open Go.RowKit
theorem numV_small (n:Nat) (h:n<18446744073709551616):(Value.agg #[.int .u64 n,.int .u64 0,.int .u64 0,.int .u64 0]:Value)=numV n :=
 numV_of n n 0 0 0 h (by decide) (by decide) (by decide) (by unfold val4;omega)
set_option maxRecDepth 20000 in
set_option maxHeartbeats 2000000 in
theorem fsmall_pos (n:Nat) (h:n≤9223372036854775807) (w:World):Calls Tryz.prog 89 #[.int .i64 n] w fun e w'=>e = .returned (numV n)∧Below w.heap.size w w':=by
 have fin:=Hid.mk' (numV_small n (by omega))
 have hni:¬(n:Int)<0:=by omega
 go_enter Tryz.func89,Tryz.ntmps89
 go_wp2
 (try simp only [Exit.inBlock,Exit.then])
 exact bodyPost_ret (results_fresh4 Tryz.results89 _ _ _ _ _ _ _ rfl Tryz.underlying51 rfl (by kernel_rfl)) rfl ⟨by rw [fin.out],(Below.refl _ _).alloc (Nat.le_refl _) _⟩
end Go.Proofs.YtdgkmloabificaaGreatDoor
namespace Go.Proofs.YtdgkmloabificaaGreatDoor
open Go.RowKit
theorem wpAnyH_narrow {P:Program} {md:Region.Mode} {ops:Array Oper} {Q:Exit→Act→World→Prop} {S S':World→Prop} (h:∀ w,S' w→S w):∀ (fuel:Nat) (listed:Array Bool) (a:Act) (w:World),wpAnyH P md ops Q S' fuel listed a w→wpAnyH P md ops Q S fuel listed a w
 | 0,_,_,_,H=>H
 | fuel+1,_,_,_,H=>⟨H.1,fun i hi=>wpOp_mono (fun a' w' h'=>⟨h w' h'.1,wpAnyH_narrow h fuel _ a' w' h'.2⟩) (H.2 i hi)⟩
end Go.Proofs.YtdgkmloabificaaGreatDoor
namespace Go.Proofs.YtdgkmloabificaaGreatDoor
open Go.RowKit
structure RW (w:World) (g o:Nat) (cs:List Value):Prop where
 range:w.rangeAt g o cs
 there:w.there g o cs.length
 lt:g<w.heap.size
theorem RW.still {w w':World} {g o:Nat} {cs:List Value} (h:RW w g o cs) (hb:Below w.heap.size w w'):RW w' g o cs :=
 ⟨fun j v hv=>(hb.cell (p:=⟨g,o+j,none⟩) h.lt).trans (h.range j v hv),fun j hj=>by
   rw [hb.cell (p:=⟨g,o+j,none⟩) h.lt,hb.frozen (p:=⟨g,o+j,none⟩) h.lt];exact h.there j hj,Nat.lt_of_lt_of_le h.lt hb.size⟩
theorem RW.below {w w':World} {g o B:Nat} {cs:List Value} (h:RW w g o cs) (hb:Below B w w') (hB:g<B):RW w' g o cs :=
 ⟨fun j v hv=>(hb.cell (p:=⟨g,o+j,none⟩) hB).trans (h.range j v hv),fun j hj=>by
   rw [hb.cell (p:=⟨g,o+j,none⟩) hB,hb.frozen (p:=⟨g,o+j,none⟩) hB];exact h.there j hj,Nat.lt_of_lt_of_le h.lt hb.size⟩
theorem RW.out {w w':World} {g o b p n:Nat} {cs:List Value} (h:RW w g o cs) (hb:Out b p n w w') (hne:g≠b):RW w' g o cs :=
 ⟨fun j v hv=>(hb.cell' h.lt hne).trans (h.range j v hv),fun j hj=>by
   rw [hb.cell' h.lt hne,hb.frozen' h.lt hne];exact h.there j hj,Nat.lt_of_lt_of_le h.lt hb.size⟩
theorem RW.stored {w:World} {g o:Nat} {cs:List Value} (h:RW w g o cs) (ds:List Value) (hl:ds.length=cs.length):RW (w.setCells g o ds) g o ds :=
 ⟨World.rangeAt_setCells_same _ _ _ _ (by rw [hl];exact h.there),World.there_setCells (by rw [hl];exact h.there) _ _ _,by rw [(setCells_same g ds o w).2.2.2];exact h.lt⟩
theorem RW.far {w:World} {g o:Nat} {cs:List Value} (h:RW w g o cs) (b p:Nat) (ds:List Value) (hap:g≠b∨o+cs.length≤p∨p+ds.length≤o):RW (w.setCells b p ds) g o cs :=
 ⟨World.rangeAt_setCells_apart h.range _ _ _ hap,World.there_setCells h.there _ _ _,by rw [(setCells_same b ds p w).2.2.2];exact h.lt⟩
theorem RW.left {w:World} {g o:Nat} {cs ds:List Value} (h:RW w g o (cs ++ ds)):RW w g o cs :=
 ⟨fun j v hv=>h.range j v (by rw [List.getElem?_append_left (List.getElem?_eq_some_iff.1 hv).1];exact hv),fun j hj=>h.there j (by rw [List.length_append];omega),h.lt⟩
theorem RW.right {w:World} {g o:Nat} {cs ds:List Value} (h:RW w g o (cs ++ ds)):RW w g (o+cs.length) ds :=
 ⟨fun j v hv=>by
   have:=h.range (cs.length+j) v (by rw [List.getElem?_append_right (Nat.le_add_right _ _),Nat.add_sub_cancel_left];exact hv)
   rw [←Nat.add_assoc] at this;exact this,fun j hj=>by
   have:=h.there (cs.length+j) (by rw [List.length_append];omega)
   rw [←Nat.add_assoc] at this;exact this,h.lt⟩
theorem RW.join {w:World} {g o:Nat} {cs ds:List Value} (h:RW w g o cs) (k:RW w g (o+cs.length) ds):RW w g o (cs ++ ds) :=
 ⟨fun j v hv=>by
   by_cases hj:j<cs.length
   · exact h.range j v (by rw [List.getElem?_append_left hj] at hv;exact hv)
   · rw [List.getElem?_append_right (by omega)] at hv
     have:=k.range (j - cs.length) v hv
     rw [show o+cs.length+(j - cs.length)=o+j by omega] at this;exact this,fun j hj=>by
   rw [List.length_append] at hj
   by_cases hj':j<cs.length
   · exact h.there j hj'
   · have:=k.there (j - cs.length) (by omega)
     rw [show o+cs.length+(j - cs.length)=o+j by omega] at this;exact this,h.lt⟩
theorem RW.fresh (w:World) (cs:List Value) (t:TypeId):RW (w.alloc (.cells cs.toArray t)) w.heap.size 0 cs :=
 ⟨fun j v hv=>by rw [Nat.zero_add];simp [hv],fun j hj=>by
   rw [Nat.zero_add];simp [hj],by simp⟩
theorem RW.drew {w:World} {g o:Nat} {cs:List Value} (h:RW w g o cs):RW w.drew g o cs:=h.still ((Below.refl _ _).drew)
def c4 (n:Nat):List Value:=[.int .u64 (lw n 0),.int .u64 (lw n 1),.int .u64 (lw n 2),.int .u64 (lw n 3)]
def c8 (x z:Nat):List Value:=c4 x ++ c4 z
theorem c4_zero:c4 0=[.int .u64 0,.int .u64 0,.int .u64 0,.int .u64 0]:=by kernel_rfl
theorem fresh4 (w:World):∃ w' g,w.alloc (.cells #[.int .u64 0,.int .u64 0,.int .u64 0,.int .u64 0] 51)=w'∧w.heap.size=g∧Below w.heap.size w w'∧RW w' g 0 (c4 0):=by
 refine ⟨_,_,rfl,rfl,(Below.refl _ _).alloc (Nat.le_refl _) _,?_⟩
 rw [c4_zero];exact RW.fresh w _ _
theorem info4:(Tryz.prog.info? 51).map (·.size)=some 4:=by kernel_rfl
theorem one4 (n:Nat):(c4 n).toArray.all (·.oneCell')=true:=by simp [c4,Value.oneCell']
end Go.Proofs.YtdgkmloabificaaGreatDoor
namespace Go.Proofs.YtdgkmloabificaaGreatDoor
open Go.RowKit
abbrev jD (n:Nat):Edge:={ on:=n,ground:=Ground.data }
abbrev jC (n:Nat):Edge:={ on:=n,ground:=Ground.chain }
abbrev jP (n:Nat):Edge:={ on:=n,ground:=Ground.phase }
abbrev jG (n:Nat):Edge:={ on:=n,ground:=Ground.guard }
abbrev jT (n:Nat):Edge:={ on:=n,ground:=Ground.textOnly Departure.lateStores }
abbrev jO (n:Nat):Edge:={ on:=n,ground:=Ground.gcOnly Departure.lateStores }
abbrev jU (n:Nat):Edge:={ on:=n,ground:=Ground.textOnly Departure.lateStoresUnsure }
abbrev oN (d:Nat) (o:Op) (t:TypeId) (p:String) (a:Array Edge):Oper:={ dst:=some d,op:=o,type:=t,pos:=p,after:=a,guard:=none }
abbrev oS (o:Op) (p:String) (a:Array Edge):Oper:={ dst:=none,op:=o,type:=0,pos:=p,after:=a,guard:=none }
abbrev cF1 (f:FuncId) (a:Array Operand) (t:Array TypeId):Op:=Op.call { callee:=Callee.value (Operand.func f),args:=a,argTypes:=t }
abbrev oT (k:Nat):Operand:=Operand.tmp k
abbrev pA (g o:Nat):Value := .pointer (some ⟨g,o,none⟩)
theorem pS:(∀ (a:Act) (d:Nat) (v:Value),a.put (some d) v={ a with tmps:=a.tmps.setIfInBounds d v })∧(∀ (l:List Value) (i:Nat) (v:Value),l.toArray.setIfInBounds i v=(l.set i v).toArray)∧(∀ (x:Value) (l:List Value) (v:Value),(x :: l).set 0 v=v :: l)∧(∀ (x:Value) (l:List Value) (n:Nat) (v:Value),(x :: l).set (n+1) v=x :: l.set n v) :=
 ⟨fun _ _ _=>rfl,fun _ _ _=>List.setIfInBounds_toArray ..,fun _ _ _=>rfl,fun _ _ _ _=>rfl⟩
section
variable {P:Program} {md:Region.Mode} {ops:Array Oper} {Q:Exit→Act→World→Prop} {S:World→Prop} {fuel:Nat} {listed:Array Bool} {a:Act} {w:World}
theorem tkH (i:Nat) (oi:Oper) (v:Value) (hS:S w) (hy:YieldsIf P ops S oi v a)
 (h:wpAnyH P md ops Q S fuel (listed.setIfInBounds i true) (a.put oi.dst v) w) (hQ:∀ c a w,Q (.panic c) (a.put oi.dst v) w→Q (.panic c) a w:=by exact fun _ _ _ h=>h) (hi:ops[i]? = some oi:=by rfl) (hs:Region.noSelect ops=true:=by kernel_rfl) (hf:Region.free md ops listed i=true:=by kernel_rfl) (hr:(Region.ready md ops listed).contains i=true:=by kernel_rfl):wpAnyH P md ops Q S (fuel+1) listed a w :=
 wpAnyH_take hi hs hf hr hQ hy hS h
theorem bR {w:World}:Below w.heap.size w w:=Below.refl _ _
theorem yR {o:Oper} {v:Value} (hw:Region.wanted o (yielded ops a.tmps)=true:=by rfl) (hr:∀ w,(execOp a.eval o).run P w = .ok (.value v) w:=by intro _;kernel_rfl):YieldsIf P ops S o v a := .inl ⟨hw,fun w _=>hr w⟩
theorem ne_l {g o k:Nat} {cs:List Value} (r:RW w g o cs) (h:w.heap.size≤k):g≠k:=Nat.ne_of_lt (Nat.lt_of_lt_of_le r.lt h)
theorem ne_r {g o k:Nat} {cs:List Value} (r:RW w g o cs) (h:w.heap.size≤k):k≠g:=(ne_l r h).symm
theorem ldH {V:World} {o:Oper} {g off:Nat} {cs:List Value} (h:RW V g off cs) (ty k:Nat) {d:TypeDesc} (hu:P.underlying ty=some d) (hi:(P.info? ty).map (·.size)=some cs.length) (hd:d.isRow=true:=by rfl) (hw:Region.wanted o (yielded ops a.tmps)=true:=by rfl) (ho:o.op = .load ty (.tmp k):=by rfl) (hx:a.eval (.tmp k) = .pointer (some ⟨g,off,none⟩):=by rfl):YieldsIf P ops (fun w'=>Below V.heap.size V w') o (.agg cs.toArray) a :=
 yieldsIf_load_mid hw ty _ ho g off hx cs d (fun _ hb=>(h.still hb).range) hu hd hi
theorem ldO {V:World} {o:Oper} {g off b p n:Nat} {cs:List Value} (h:RW V g off cs) (hne:g≠b) (ty k:Nat) {d:TypeDesc} (hu:P.underlying ty=some d) (hi:(P.info? ty).map (·.size)=some cs.length) (hd:d.isRow=true:=by rfl) (hw:Region.wanted o (yielded ops a.tmps)=true:=by rfl) (ho:o.op = .load ty (.tmp k):=by rfl) (hx:a.eval (.tmp k) = .pointer (some ⟨g,off,none⟩):=by rfl):YieldsIf P ops (fun w'=>Out b p n V w') o (.agg cs.toArray) a :=
 yieldsIf_load_mid hw ty _ ho g off hx cs d (fun _ hb=>(h.out hb hne).range) hu hd hi
theorem arC {i:Nat} {rs:List Nat} (oi:Oper) {f:FuncId} {args:Array Value} {R:Ending→World→Prop} (c:Calls P f args w R) (h:∀ e w',R e w'→∃ r,e = .returned r∧S w'∧wpAnyH P md ops Q S fuel (listed.setIfInBounds i true) (a.put oi.dst r) w') (hs:AllReadyH P md ops Q S fuel listed a w rs)
 (hi:ops[i]? = some oi:=by rfl) (hw:Region.wanted oi (yielded ops a.tmps)=true:=by rfl) (hrun:(execOp a.eval oi).run P w = .ok (.enter f args) w:=by kernel_rfl):AllReadyH P md ops Q S fuel listed a w (i :: rs):=by
 refine AllReadyH.cons hi (fun K hK => ?_) hs
 rw [if_pos hw]
 unfold Oper.wp
 rw [hrun,Oper.upon_enter]
 refine c.mono fun e w' hR => ?_
 obtain ⟨r,rfl,hS,hk⟩:=h e w' hR
 exact hK.out _ _ hS (fun _=>hk)
theorem callH (i:Nat) (oi:Oper) {f:FuncId} {args:Array Value} {R:Ending→World→Prop} (c:Calls P f args w R) (h:∀ e w',R e w'→∃ r,e = .returned r∧S w'∧wpAnyH P md ops Q S fuel (listed.setIfInBounds i true) (a.put oi.dst r) w')
 (hr:Region.ready md ops listed=[i]:=by kernel_rfl) (hi:ops[i]? = some oi:=by rfl) (hw:Region.wanted oi (yielded ops a.tmps)=true:=by rfl) (hrun:(execOp a.eval oi).run P w = .ok (.enter f args) w:=by kernel_rfl):wpAnyH P md ops Q S (fuel+1) listed a w :=
 wpAnyH_ready hr (by simp) (arC oi c h AllReadyH.nil hi hw hrun)
theorem callN (i:Nat) (oi:Oper) {f:FuncId} {args:Array Value} {R:Ending→World→Prop} (c:Calls P f args w R) (h:∀ e w',R e w'→∃ r,e = .returned r∧Below w.heap.size w w'∧wpAnyH P md ops Q (fun u=>Below w'.heap.size w' u) fuel (listed.setIfInBounds i true) (a.put oi.dst r) w')
 (hr:Region.ready md ops listed=[i]:=by kernel_rfl) (hi:ops[i]? = some oi:=by rfl) (hw:Region.wanted oi (yielded ops a.tmps)=true:=by rfl) (hrun:(execOp a.eval oi).run P w = .ok (.enter f args) w:=by kernel_rfl):wpAnyH P md ops Q (fun u=>Below w.heap.size w u) (fuel+1) listed a w :=
 callH i oi c (fun e w' hR=>by
  obtain ⟨r,he,hb,hk⟩:=h e w' hR
  exact ⟨r,he,hb,wpAnyH_narrow (fun _ hu=>below_next hb hu) _ _ _ _ hk⟩) hr hi hw hrun
theorem arA {i:Nat} {rs:List Nat} (oi:Oper) {cs:Array Value} {t:TypeId} (h:S (w.alloc (.cells cs t))∧wpAnyH P md ops Q S fuel (listed.setIfInBounds i true) (a.put oi.dst (pA w.heap.size 0)) (w.alloc (.cells cs t))) (hs:AllReadyH P md ops Q S fuel listed a w rs)
 (hrun:(execOp a.eval oi).run P w = .ok (.value (pA w.heap.size 0)) (w.alloc (.cells cs t)):=by kernel_rfl) (hi:ops[i]? = some oi:=by rfl) (hw:Region.wanted oi (yielded ops a.tmps)=true:=by rfl):AllReadyH P md ops Q S fuel listed a w (i :: rs):=by
 refine AllReadyH.cons hi (fun K hK => ?_) hs
 rw [if_pos hw]
 unfold Oper.wp
 rw [hrun,Oper.upon_value]
 exact hK.out _ _ h.1 (fun _=>h.2)
theorem dag_root (h:∀ G:Nat→Array Bool→Act→World→Prop,G=wpAnyH P md ops Q S→G fuel listed a w):wpAnyH P md ops Q S fuel listed a w:=h _ rfl
theorem dagW {G:Nat→Array Bool→Act→World→Prop} (hG:Hid (G=wpAnyH P md ops Q S)) {f:Nat} {l:Array Bool} {b:Act} (h:G f l b w) (hb:b=a) (hf:f=fuel:=by kernel_rfl) (hl:l=listed:=by kernel_rfl):wpAnyH P md ops Q S fuel listed a w:=by
 subst hf;subst hl;subst hb;rw [←hG.out];exact h
end
end Go.Proofs.YtdgkmloabificaaGreatDoor
namespace Go.Proofs.YtdgkmloabificaaGreatDoor
open Go.RowKit
def fadd (a b:Nat):Nat:=(a+b)%pF
def fsub (a b:Nat):Nat:=(a+pF - b)%pF
def fmul (a b:Nat):Nat:=a*b%pF
def finv (a:Nat):Nat:=a ^ (pF - 2)%pF
theorem fadd_lt (a b:Nat):fadd a b<pF:=Nat.mod_lt _ (by decide)
theorem fsub_lt (a b:Nat):fsub a b<pF:=Nat.mod_lt _ (by decide)
theorem fmul_lt (a b:Nat):fmul a b<pF:=Nat.mod_lt _ (by decide)
theorem finv_lt (a:Nat):finv a<pF:=Nat.mod_lt _ (by decide)
theorem Rep.cast {L:Nat→Int} {x y:Nat} (h:Rep L x) (e:x%pF=y%pF):Rep L y:=⟨h.dig,by rw [h.val,e]⟩
structure Rw (L:Nat→Int) (x:Nat):Prop where
 dig:Dig 65725 L
 val:valR L 16%(pF:Int)=((x%pF:Nat):Int)
theorem Rep.wide {L:Nat→Int} {x:Nat} (h:Rep L x):Rw L x:=⟨h.dig.mono (by decide),h.val⟩
theorem Rw.bd {L:Nat→Int} {x:Nat} (h:Rw L x):∀ j,j<16→-131072≤L j∧L j≤131072:=fun j hj=>by have:=h.dig.all (by decide) j hj;omega
theorem Rw.cast {L:Nat→Int} {x y:Nat} (h:Rw L x) (e:x%pF=y%pF):Rw L y:=⟨h.dig,by rw [h.val,e]⟩
theorem rw_times {L M:Nat→Int} {x y:Nat} (hL:Rw L x) (hM:Rw M y):Rep (timesL L M) (fmul x y):=by
 have hbd:=tP_bd L M hL.bd hM.bd 15 16 (by decide) (Nat.le_refl _)
 have hF:∀ j,j<16→-171523813933056≤foldT (tP L M 15 16) 16 j∧foldT (tP L M 15 16) 16 j≤171523813933056:=fun j hj=>by
  have h1:=hbd j
  have h2:=hbd (j+16)
  unfold foldT
  rw [if_pos hj]
  split <;> omega
 refine ⟨(carry_fine _ ((carry_dig _ 171523813933056 (by decide) hF).mono (by decide))).1,?_⟩
 unfold timesL fmul
 rw [valR_carry,valR_carry,foldT_val,tP_all,show ∀ a b c d P:Int,a - 2*P*d - b*2*P - c*2*P=a+P*(-(2*d) - b*2 - c*2) from fun a b c d P=>by
  rw [Int.mul_sub,Int.mul_sub,Int.mul_neg,Int.mul_comm P (b*2),Int.mul_comm P (c*2),Int.mul_comm 2 P,Int.mul_assoc P 2 d];omega,Int.add_mul_emod_self_left,Int.mul_emod,hL.val,hM.val,←Int.natCast_mul,nat_mod,←Nat.mul_mod,Nat.mod_mod]
def plusL (L M:Nat→Int):Nat→Int:=carryL (fun j=>L j+M j)
def minusL (L M:Nat→Int):Nat→Int:=carryL (fun j=>L j - M j)
theorem rep_minus {L M:Nat→Int} {x y:Nat} (hL:Rep L x) (hM:Rep M y) (hy:y<pF):Rw (minusL L M) (fsub x y):=by
 have hb:∀ j,j<16→-131146≤L j - M j∧L j - M j≤131146:=fun j hj=>by
  have h1:=hL.dig.all (by decide) j hj
  have h2:=hM.dig.all (by decide) j hj
  omega
 refine ⟨(carry_dig _ 131146 (by decide) hb).mono (by decide),?_⟩
 have e:valR (fun j=>L j - M j) 16=valR L 16 - valR M 16:=by
  have:=valR_lin L M (-1) 16
  simp only [Int.neg_mul,Int.one_mul,←Int.sub_eq_add_neg] at this
  exact this
 unfold minusL fsub
 rw [valR_carry,e,show ∀ a b P:Int,a - b*2*P=a+P*(-(b*2)) from fun a b P=>by rw [Int.mul_neg,Int.mul_comm P];omega,Int.add_mul_emod_self_left,Int.sub_emod,hL.val,hM.val,←nat_mod,←nat_mod,←Int.sub_emod,Nat.mod_mod,←nat_mod,show ((x+pF - y:Nat):Int)=((x:Int) - (y:Int))+(pF:Int)*1 by omega,Int.add_mul_emod_self_left]
def i16 (L:Nat→Int):List Value:=intsI 16 L
def rV (L:Nat→Int):Value := .agg (i16 L).toArray
theorem i16_len (L:Nat→Int):(i16 L).length=16:=intsI_len 16 L
theorem zI_eq:zI=(i16 (fun _=>0)).toArray:=by kernel_rfl
theorem freshR (w:World):∃ w' g,w.alloc (.cells zI 66)=w'∧w.heap.size=g∧Below w.heap.size w w'∧RW w' g 0 (i16 (fun _=>0)):=by
 refine ⟨_,_,rfl,rfl,(Below.refl _ _).alloc (Nat.le_refl _) _,?_⟩
 rw [zI_eq];exact RW.fresh w _ _
theorem infoI (L:Nat→Int):(Tryz.prog.info? 66).map (·.size)=some (i16 L).length:=infoRL L
theorem infoIA (L:Nat→Int):(Tryz.prog.info? 66).map (·.size)=some (i16 L).toArray.size:=infoRA L
theorem oneI (L:Nat→Int):(i16 L).toArray.all (·.oneCell')=true:=oneR L
theorem ref_store {o:Oper} {a:Act} {cur V:World} {K:Act→World→Prop} {Q:Exit→Act→World→Prop} (x y:Operand) (ho:o.op = .store 66 x y) (g:Nat) (M L:Nat→Int) (hx:a.eval x = .pointer (some ⟨g,0,none⟩)) (hy:a.eval y=rV L) (r:RW cur g 0 (i16 M)) (S:Below V.heap.size V cur) (G:V.heap.size≤g)
 (h:∀ W1,RW W1 g 0 (i16 L)→Below V.heap.size V W1→K (a.put o.dst undef) W1):o.wp Tryz.prog a cur K Q :=
 wp_store_mid 66 x y ho g 0 (i16 L).toArray hx hy (by rw [List.size_toArray,i16_len];have:=r.there;rwa [i16_len] at this) (infoIA L) (oneI L) (h _ (r.stored (i16 L) (by rw [i16_len,i16_len])) (below_setCells G _ _ _ S))
theorem freshR' (w:World):RW (w.alloc (.cells zI 66)) w.heap.size 0 (i16 (fun _=>0)):=by rw [zI_eq];exact RW.fresh w _ _
theorem freshRt (w:World) (L:Nat→Int):(w.alloc (.cells zI 66)).there w.heap.size 0 (i16 L).toArray.size:=by
 have h:=(freshR' w).there
 rw [i16_len] at h
 have e:(i16 L).toArray.size=16:=by rw [List.size_toArray];exact i16_len L
 rw [e];exact h
end Go.Proofs.YtdgkmloabificaaGreatDoor
namespace Go.Proofs.YtdgkmloabificaaGreatDoor
open Go.RowKit
theorem pow_finv (a e:Nat) (h:pF - 2=e):a ^ e%pF=finv a%pF:=by unfold finv;rw [h,Nat.mod_mod]
theorem rinverse_wide (A:Nat→Int) (a:Nat) (hA:Rw A a) (w:World):Calls Tryz.prog 77 #[rV A] w fun e w'=>∃ R,e = .returned (rV R)∧Rw R (finv a)∧Below w.heap.size w w':=by
 obtain ⟨E,hE⟩:∃ E:Nat,57896044618658097711785492504343953926634992332820282019728792003956564819947=E:=⟨_,rfl⟩
 have h:=rinverse_gen A a hA.bd (fun M m h=>(rw_times h.wide hA).cast (by unfold fmul;rw [Nat.mod_mod])) w
 rw [hE] at h
 exact h.mono fun _ _ ⟨R,he,hR,hb⟩=>⟨R,he,(hR.cast (pow_finv a E (by rw [←hE];decide))).wide,hb⟩
theorem Rep.far {L:Nat→Int} {x:Nat} (h:Rep L x):∀ j,j<16→-1073741824≤L j∧L j≤1073741824:=fun j hj=>by have:=h.bd j hj;omega
theorem Rw.far {L:Nat→Int} {x:Nat} (h:Rw L x):∀ j,j<16→-1073741824≤L j∧L j≤1073741824:=fun j hj=>by have:=h.bd j hj;omega
end Go.Proofs.YtdgkmloabificaaGreatDoor
