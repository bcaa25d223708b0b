/- What the proof stands on: Limbs, Number, Both. -/
import Derived.Test.YtcgkajlehdgpoaaGreatDoorLentM
import Derived.Test.YtcgkajlehdgpoaaGreatDoorZAb2M
namespace Go.Proofs.YtcgkajlehdgpoaaGreatDoor
open Go.RowKit
structure NumAt (w:World) (b n:Nat):Prop where
 c0:w.cell? ⟨b,0,none⟩=some (.int .u64 (lw n 0))
 c1:w.cell? ⟨b,1,none⟩=some (.int .u64 (lw n 1))
 c2:w.cell? ⟨b,2,none⟩=some (.int .u64 (lw n 2))
 c3:w.cell? ⟨b,3,none⟩=some (.int .u64 (lw n 3))
theorem NumAt.lt {w:World} {b n:Nat} (h:NumAt w b n):b<w.heap.size:=block_lt_of_cell h.c0
theorem NumAt.below {w w':World} {b n B:Nat} (h:NumAt w b n) (hb:Below B w w') (hB:b<B):NumAt w' b n :=
 ⟨(hb.cell (p:=⟨b,0,none⟩) hB).trans h.c0,(hb.cell (p:=⟨b,1,none⟩) hB).trans h.c1,(hb.cell (p:=⟨b,2,none⟩) hB).trans h.c2,(hb.cell (p:=⟨b,3,none⟩) hB).trans h.c3⟩
theorem NumAt.ex {w:World} {b n:Nat} (h:NumAt w b n) (hn:n<pF):∃ x0 x1 x2 x3:Nat,x0<18446744073709551616∧x1<18446744073709551616∧x2<18446744073709551616∧x3<18446744073709551616∧val4 x0 x1 x2 x3=n∧w.cell? ⟨b,0,none⟩=some (.int .u64 x0)∧w.cell? ⟨b,1,none⟩=some (.int .u64 x1)∧w.cell? ⟨b,2,none⟩=some (.int .u64 x2)∧w.cell? ⟨b,3,none⟩=some (.int .u64 x3) :=
 ⟨lw n 0,lw n 1,lw n 2,lw n 3,lw_lt _ _,lw_lt _ _,lw_lt _ _,lw_lt _ _,lw_val n (by unfold pF at hn;omega),h.c0,h.c1,h.c2,h.c3⟩
theorem numV_ex (n:Nat):∃ x0 x1 x2 x3:Nat,numV n = .agg #[.int .u64 x0,.int .u64 x1,.int .u64 x2,.int .u64 x3]:=⟨_,_,_,_,rfl⟩
theorem there_below {W w1:World} {b o n:Nat} (h:W.there b o n) (hb:Below W.heap.size W w1) (hl:b<W.heap.size):w1.there b o n:=fun j hj=>by
 rw [hb.cell (p:=⟨b,o+j,none⟩) hl,hb.frozen (p:=⟨b,o+j,none⟩) hl];exact h j hj
theorem there_fresh4 (w:World) (a b c d:Value) (t:TypeId):(w.alloc (.cells #[a,b,c,d] t)).there w.heap.size 0 4:=fun j hj=>by
 match j,hj with
 | 0,_=>simp
 | 1,_=>simp
 | 2,_=>simp
 | 3,_=>simp
theorem behind {w w1:World} {a b c d:Value} {t:TypeId} {n:Nat} (h:Below ((w.alloc (.cells #[a,b,c,d] t)).drewN n).heap.size ((w.alloc (.cells #[a,b,c,d] t)).drewN n) w1):w1.there w.heap.size 0 4∧Below w.heap.size w w1 ∧
 (w1.cell? ⟨w.heap.size,0,none⟩=some a∧w1.cell? ⟨w.heap.size,1,none⟩=some b∧w1.cell? ⟨w.heap.size,2,none⟩=some c∧w1.cell? ⟨w.heap.size,3,none⟩=some d)∧∀ j,j<4→w1.frozen? ⟨w.heap.size,j,none⟩=false:=by
 have hs:w.heap.size<((w.alloc (.cells #[a,b,c,d] t)).drewN n).heap.size:=by simp
 have ht:=there_below (W:=(w.alloc (.cells #[a,b,c,d] t)).drewN n) (fun j hj=>there_fresh4 w a b c d t j hj) h hs
 have hr:=range_fresh4 w a b c d t
 refine ⟨ht,(below_drewN ((Below.refl w.heap.size w).alloc (Nat.le_refl _) (.cells #[a,b,c,d] t)) n).trans (h.mono (Nat.le_of_lt hs)),⟨?_,?_,?_,?_⟩,fun j hj=>by have:=(ht j hj).2;rwa [Nat.zero_add] at this⟩
 · exact (h.cell (p:=⟨w.heap.size,0,none⟩) hs).trans (hr 0 a rfl)
 · exact (h.cell (p:=⟨w.heap.size,1,none⟩) hs).trans (hr 1 b rfl)
 · exact (h.cell (p:=⟨w.heap.size,2,none⟩) hs).trans (hr 2 c rfl)
 · exact (h.cell (p:=⟨w.heap.size,3,none⟩) hs).trans (hr 3 d rfl)
theorem behind' {w w1:World} {a b c d:Value} {t:TypeId} (h:Below (w.alloc (.cells #[a,b,c,d] t)).heap.size (w.alloc (.cells #[a,b,c,d] t)) w1):w1.there w.heap.size 0 4∧Below w.heap.size w w1 ∧
 (w1.cell? ⟨w.heap.size,0,none⟩=some a∧w1.cell? ⟨w.heap.size,1,none⟩=some b∧w1.cell? ⟨w.heap.size,2,none⟩=some c∧w1.cell? ⟨w.heap.size,3,none⟩=some d)∧∀ j,j<4→w1.frozen? ⟨w.heap.size,j,none⟩=false:=behind (n:=0) h
theorem results_set4 {P:Program} {fn:Func} {p:Tmp} {ty:TypeId} (h:fn.results=#[.cell p ty]) (tmps:Array Value) (w:World) (g:Nat) (a b c d:Value) {D:TypeDesc} (ht:w.there g 0 4)
 (hp:tmps.getD p undef = .pointer (some ⟨g,0,none⟩)) (hu:P.underlying ty=some D) (hd:D.isRow=true) (hi:(P.info? ty).map (·.size)=some 4) :
 (results fn tmps).run P ((((w.setCell ⟨g,0,none⟩ a).setCell ⟨g,1,none⟩ b).setCell ⟨g,2,none⟩ c).setCell ⟨g,3,none⟩ d) = .ok (.agg #[a,b,c,d]) ((((w.setCell ⟨g,0,none⟩ a).setCell ⟨g,1,none⟩ b).setCell ⟨g,2,none⟩ c).setCell ⟨g,3,none⟩ d) :=
 results_cell_mid h tmps _ g 0 [a,b,c,d] D hp (World.rangeAt_setCells_same w g 0 [a,b,c,d] ht) hu hd hi
theorem below_set4 {B:Nat} {u w:World} {g:Nat} (h:Below B u w) (hg:B≤g) (a b c d:Value):Below B u ((((w.setCell ⟨g,0,none⟩ a).setCell ⟨g,1,none⟩ b).setCell ⟨g,2,none⟩ c).setCell ⟨g,3,none⟩ d) :=
 (((h.setCell hg a).setCell hg b).setCell hg c).setCell hg d
set_option maxRecDepth 20000 in
set_option maxHeartbeats 2000000 in
theorem sum_any (p q x y:Nat) (hx:x<pF) (hy:y<pF) (w:World) (hp:NumAt w p x) (hq:NumAt w q y) :
 Calls Tryz.prog 177 #[.pointer (some ⟨p,0,none⟩),.pointer (some ⟨q,0,none⟩)] w fun e w'=>e = .returned (numV ((x+y)%pF))∧Below w.heap.size w w':=by
 have hpl:=hp.lt
 have hql:=hq.lt
 obtain ⟨x0,x1,x2,x3,hx0,hx1,hx2,hx3,ex,p0,p1,p2,p3⟩:=hp.ex hx
 obtain ⟨y0,y1,y2,y3,hy0,hy1,hy2,hy3,ey,q0,q1,q2,q3⟩:=hq.ex hy
 obtain ⟨s0,k0,hs0,hk0,e0,r0⟩:=add64_ex0 x0 y0 hx0 hy0
 obtain ⟨s1,k1,hs1,hk1,e1,r1⟩:=add64_ex x1 y1 k0 hx1 hy1 hk0
 obtain ⟨s2,k2,hs2,hk2,e2,r2⟩:=add64_ex x2 y2 k1 hx2 hy2 hk1
 obtain ⟨s3,k3,hs3,hk3,e3,r3⟩:=add64_ex x3 y3 k2 hx3 hy3 hk2
 have hv:val4 s0 s1 s2 s3+115792089237316195423570985008687907853269984665640564039457584007913129639936*k3=x+y:=by
  rw [←ex,←ey];unfold val4;omega
 have hset:=fun W=>settle_any s0 s1 s2 s3 k3 hs0 hs1 hs2 hs3 (by omega) W
 rw [hv] at hset
 obtain ⟨N,hN⟩:∃ N,N=(x+y)%pF:=⟨_,rfl⟩
 rw [←hN] at hset ⊢
 obtain ⟨z0,z1,z2,z3,hz⟩:=numV_ex N
 rw [hz] at hset ⊢
 clear ex ey hp hq e0 e1 e2 e3 hv hN hz
 go_enter Tryz.func177,Tryz.ntmps177
 go_wp2
 go_quiet (first | rw [r0])
 go_wp2
 go_quiet (first | rw [r1])
 go_wp2
 go_quiet (first | rw [r2])
 go_wp2
 go_quiet (first | rw [r3])
 go_wp2_with (go_at_call 122;refine (hset _).mono ?_;clear hset;rintro e w1 ⟨rfl,hb1⟩;(obtain ⟨ht1,hbw,⟨t0,t1,t2,t3⟩,hf⟩:=behind hb1);(have f0:=hf 0 (by decide));(have f1:=hf 1 (by decide));(have f2:=hf 2 (by decide));(have f3:=hf 3 (by decide));clear hb1 hf)
 (try simp only [Exit.inBlock,Exit.then])
 exact bodyPost_ret (results_set4 Tryz.results177 _ _ _ _ _ _ _ ht1 rfl Tryz.underlying86 rfl (by kernel_rfl)) rfl ⟨rfl,below_set4 hbw (Nat.le_refl _) _ _ _ _⟩
theorem diff_val (x y D E k u:Nat) (hx:x<pF) (hy:y<pF) (hk:k≤1) (_hu:u≤1) (hD:D+y=x+115792089237316195423570985008687907853269984665640564039457584007913129639936*k) (hDl:D<115792089237316195423570985008687907853269984665640564039457584007913129639936) (hE:E+19*k=D+115792089237316195423570985008687907853269984665640564039457584007913129639936*u) (_hEl:E<115792089237316195423570985008687907853269984665640564039457584007913129639936) :
 E%57896044618658097711785492504343953926634992332820282019728792003956564819968=(x+pF - y)%pF:=by
 unfold pF at *
 have h:k=0∨k=1:=by omega
 rcases h with rfl | rfl <;> omega
theorem val4_mask (a b c d:Nat) (ha:a<18446744073709551616) (hb:b<18446744073709551616) (hc:c<18446744073709551616):val4 a b c (d%9223372036854775808)=val4 a b c d%57896044618658097711785492504343953926634992332820282019728792003956564819968:=by
 unfold val4;omega
set_option maxRecDepth 20000 in
set_option maxHeartbeats 2000000 in
theorem difference_any (p q x y:Nat) (hx:x<pF) (hy:y<pF) (w:World) (hp:NumAt w p x) (hq:NumAt w q y) :
 Calls Tryz.prog 105 #[.pointer (some ⟨p,0,none⟩),.pointer (some ⟨q,0,none⟩)] w fun e w'=>e = .returned (numV ((x+pF - y)%pF))∧Below w.heap.size w w':=by
 have hpl:=hp.lt
 have hql:=hq.lt
 obtain ⟨x0,x1,x2,x3,hx0,hx1,hx2,hx3,ex,p0,p1,p2,p3⟩:=hp.ex hx
 obtain ⟨y0,y1,y2,y3,hy0,hy1,hy2,hy3,ey,q0,q1,q2,q3⟩:=hq.ex hy
 obtain ⟨s0,k0,hs0,hk0,e0,r0⟩:=sub64_ex0 x0 y0 hx0 hy0
 obtain ⟨s1,k1,hs1,hk1,e1,r1⟩:=sub64_ex x1 y1 k0 hx1 hy1 hk0
 obtain ⟨s2,k2,hs2,hk2,e2,r2⟩:=sub64_ex x2 y2 k1 hx2 hy2 hk1
 obtain ⟨s3,k3,hs3,hk3,e3,r3⟩:=sub64_ex x3 y3 k2 hx3 hy3 hk2
 obtain ⟨kk,hkk⟩:∃ kk,kk=19*k3:=⟨_,rfl⟩
 have okk:(19:Int)*(k3:Int)=(kk:Int):=by omega
 obtain ⟨u0,j0,hu0,hj0,g0,r4⟩:=sub64_ex0 s0 kk hs0 (by omega)
 obtain ⟨u1,j1,hu1,hj1,g1,r5⟩:=sub64_exz s1 j0 hs1 hj0
 obtain ⟨u2,j2,hu2,hj2,g2,r6⟩:=sub64_exz s2 j1 hs2 hj1
 obtain ⟨u3,j3,hu3,hj3,g3,r7⟩:=sub64_exz s3 j2 hs3 hj2
 have hv:=diff_val x y (val4 s0 s1 s2 s3) (val4 u0 u1 u2 u3) k3 j3 hx hy hk3 hj3 (by rw [←ex,←ey];unfold val4;omega) (val4_lt _ _ _ _ hs0 hs1 hs2 hs3) (by unfold val4;omega) (val4_lt _ _ _ _ hu0 hu1 hu2 hu3)
 rw [←val4_mask _ _ _ _ hu0 hu1 hu2] at hv
 have o3:=mask63 u3 hu3
 obtain ⟨ml,hml⟩:∃ ml,ml=u3%9223372036854775808:=⟨_,rfl⟩
 rw [←hml] at o3 hv
 have fin:=Hid.mk' (numV_of ((x+pF - y)%pF) u0 u1 u2 ml hu0 hu1 hu2 (by omega) hv)
 obtain ⟨N,hN⟩:∃ N,N=(x+pF - y)%pF:=⟨_,rfl⟩
 rw [←hN] at fin ⊢
 clear ex ey hp hq e0 e1 e2 e3 g0 g1 g2 g3 hv hN hml hkk
 go_enter Tryz.func105,Tryz.ntmps105
 go_wp2
 go_quiet (first | rw [r0])
 go_wp2
 go_quiet (first | rw [r1])
 go_wp2
 go_quiet (first | rw [r2])
 go_wp2
 go_quiet (first | rw [r3])
 go_wp2_with (first | rw [r4] | rw [r5] | rw [r6] | rw [r7])
 (try simp only [Exit.inBlock,Exit.then])
 exact bodyPost_ret (results_set4 Tryz.results105 _ _ _ _ _ _ _ (fun j hj=>there_fresh4 w _ _ _ _ _ j hj) rfl Tryz.underlying86 rfl (by kernel_rfl)) rfl ⟨by rw [fin.out],below_set4 (below_drewN ((Below.refl w.heap.size w).alloc (Nat.le_refl _) _) _) (Nat.le_refl _) _ _ _ _⟩
theorem row_mul (x a b c d:Nat):x*val4 a b c d=x*a+18446744073709551616*(x*b)+340282366920938463463374607431768211456*(x*c)+6277101735386680763835789423207666416102355444464034512896*(x*d):=by
 unfold val4
 rw [Nat.mul_add,Nat.mul_add,Nat.mul_add,Nat.mul_left_comm x,Nat.mul_left_comm x,Nat.mul_left_comm x]
set_option maxRecDepth 20000 in
set_option maxHeartbeats 2000000 in
theorem addRow_any (t0 t1 t2 t3 x y0 y1 y2 y3:Nat) (ht0:t0<18446744073709551616) (ht1:t1<18446744073709551616) (ht2:t2<18446744073709551616) (ht3:t3<18446744073709551616) (hx:x<18446744073709551616) (hy0:y0<18446744073709551616) (hy1:y1<18446744073709551616) (hy2:y2<18446744073709551616) (hy3:y3<18446744073709551616) :
 ∃ r0 r1 r2 r3 r4:Nat,r0<18446744073709551616∧r1<18446744073709551616∧r2<18446744073709551616∧r3<18446744073709551616∧r4<18446744073709551616∧r0+18446744073709551616*val4 r1 r2 r3 r4=val4 t0 t1 t2 t3+x*val4 y0 y1 y2 y3 ∧
 ∀ (w:World) (q:Nat),w.cell? ⟨q,0,none⟩=some (.int .u64 y0)→w.cell? ⟨q,1,none⟩=some (.int .u64 y1)→w.cell? ⟨q,2,none⟩=some (.int .u64 y2)→w.cell? ⟨q,3,none⟩=some (.int .u64 y3) →
  Calls Tryz.prog 178 #[.int .u64 t0,.int .u64 t1,.int .u64 t2,.int .u64 t3,.int .u64 x,.pointer (some ⟨q,0,none⟩)] w fun e w'=>e = .returned (.tuple #[.int .u64 r0,.int .u64 r1,.int .u64 r2,.int .u64 r3,.int .u64 r4])∧w'=w:=by
 obtain ⟨l0,h0,hl0,hh0,e0,r0⟩:=addProduct_any t0 x y0 0 ht0 hx hy0 (by decide)
 obtain ⟨l1,h1,hl1,hh1,e1,r1⟩:=addProduct_any t1 x y1 h0 ht1 hx hy1 hh0
 obtain ⟨l2,h2,hl2,hh2,e2,r2⟩:=addProduct_any t2 x y2 h1 ht2 hx hy2 hh1
 obtain ⟨l3,h3,hl3,hh3,e3,r3⟩:=addProduct_any t3 x y3 h2 ht3 hx hy3 hh2
 refine ⟨l0,l1,l2,l3,h3,hl0,hl1,hl2,hl3,hh3,by rw [row_mul x];unfold val4;omega,fun w q q0 q1 q2 q3 => ?_⟩
 have c0:Calls Tryz.prog 179 #[.int .u64 t0,.int .u64 x,.int .u64 y0,.int .u64 0] w fun e w'=>e = .returned (.tuple #[.int .u64 l0,.int .u64 h0])∧w'=w:=r0 w
 have c1:=r1 w
 have c2:=r2 w
 have c3:=r3 w
 clear e0 e1 e2 e3 r0 r1 r2 r3
 go_enter Tryz.func178,Tryz.ntmps178
 go_wp2_with (first
  | (go_at_call 179;refine c0.mono ?_;clear c0;rintro e w' ⟨rfl,hw⟩;subst hw)
  | (go_at_call 179;refine c1.mono ?_;clear c1;rintro e w' ⟨rfl,hw⟩;subst hw)
  | (go_at_call 179;refine c2.mono ?_;clear c2;rintro e w' ⟨rfl,hw⟩;subst hw)
  | (go_at_call 179;refine c3.mono ?_;clear c3;rintro e w' ⟨rfl,hw⟩;subst hw))
 (try simp only [Exit.inBlock,Exit.then])
 exact bodyPost_ret (results_tmp5 Tryz.results178 _ _ _) rfl ⟨rfl,rfl⟩
theorem prod_val (X Y a0 a1 a2 a3:Nat) (hX:val4 a0 a1 a2 a3=X) (w0 w1 w2 w3 A B C H:Nat) (e0:w0+18446744073709551616*A=a0*Y) (e1:w1+18446744073709551616*B=A+a1*Y) (e2:w2+18446744073709551616*C=B+a2*Y) (e3:w3+18446744073709551616*H=C+a3*Y) :
 val4 w0 w1 w2 w3+115792089237316195423570985008687907853269984665640564039457584007913129639936*H=X*Y:=by
 have h:X*Y=a0*Y+18446744073709551616*(a1*Y)+340282366920938463463374607431768211456*(a2*Y)+6277101735386680763835789423207666416102355444464034512896*(a3*Y):=by
  rw [←hX];unfold val4
  rw [Nat.add_mul,Nat.add_mul,Nat.add_mul,Nat.mul_assoc,Nat.mul_assoc,Nat.mul_assoc]
 rw [h];unfold val4;omega
theorem fold_val (W H V c XY:Nat) (h:W+115792089237316195423570985008687907853269984665640564039457584007913129639936*H=XY) (hv:V+115792089237316195423570985008687907853269984665640564039457584007913129639936*c=W+38*H) :
 (V+115792089237316195423570985008687907853269984665640564039457584007913129639936*c)%pF=XY%pF:=by
 have e:XY=W+38*H+pF*(2*H):=by unfold pF;omega
 rw [hv,e,Nat.add_mul_mod_self_left]
set_option maxRecDepth 20000 in
set_option maxHeartbeats 2000000 in
theorem product_any (p q x y:Nat) (hx:x<pF) (hy:y<pF) (w:World) (hp:NumAt w p x) (hq:NumAt w q y) :
 Calls Tryz.prog 155 #[.pointer (some ⟨p,0,none⟩),.pointer (some ⟨q,0,none⟩)] w fun e w'=>e = .returned (numV (x*y%pF))∧Below w.heap.size w w':=by
 have hpl:=hp.lt
 have hql:=hq.lt
 obtain ⟨x0,x1,x2,x3,hx0,hx1,hx2,hx3,ex,p0,p1,p2,p3⟩:=hp.ex hx
 obtain ⟨y0,y1,y2,y3,hy0,hy1,hy2,hy3,ey,q0,q1,q2,q3⟩:=hq.ex hy
 obtain ⟨w0,a0,a1,a2,a3,hw0,ha0,ha1,ha2,ha3,e0,r0⟩:=addRow_any 0 0 0 0 x0 y0 y1 y2 y3 (by decide) (by decide) (by decide) (by decide) hx0 hy0 hy1 hy2 hy3
 obtain ⟨w1,b0,b1,b2,b3,hw1,hb0,hb1,hb2,hb3,e1,r1⟩:=addRow_any a0 a1 a2 a3 x1 y0 y1 y2 y3 ha0 ha1 ha2 ha3 hx1 hy0 hy1 hy2 hy3
 obtain ⟨w2,c0,c1,c2,c3,hw2,hc0,hc1,hc2,hc3,e2,r2⟩:=addRow_any b0 b1 b2 b3 x2 y0 y1 y2 y3 hb0 hb1 hb2 hb3 hx2 hy0 hy1 hy2 hy3
 obtain ⟨w3,d0,d1,d2,d3,hw3,hd0,hd1,hd2,hd3,e3,r3⟩:=addRow_any c0 c1 c2 c3 x3 y0 y1 y2 y3 hc0 hc1 hc2 hc3 hx3 hy0 hy1 hy2 hy3
 obtain ⟨v0,k0,hv0,hk0,g0,r4⟩:=addProduct_any w0 d0 38 0 hw0 hd0 (by decide) (by decide)
 obtain ⟨v1,k1,hv1,hk1,g1,r5⟩:=addProduct_any w1 d1 38 k0 hw1 hd1 (by decide) hk0
 obtain ⟨v2,k2,hv2,hk2,g2,r6⟩:=addProduct_any w2 d2 38 k1 hw2 hd2 (by decide) hk1
 obtain ⟨v3,k3,hv3,hk3,g3,r7⟩:=addProduct_any w3 d3 38 k2 hw3 hd3 (by decide) hk2
 rw [ey] at e0 e1 e2 e3
 have hz:val4 0 0 0 0=0:=rfl
 rw [hz,Nat.zero_add] at e0
 have hprod:=prod_val x y x0 x1 x2 x3 ex w0 w1 w2 w3 _ _ _ _ e0 e1 e2 e3
 have hfold:val4 v0 v1 v2 v3+115792089237316195423570985008687907853269984665640564039457584007913129639936*k3=val4 w0 w1 w2 w3+38*val4 d0 d1 d2 d3:=by unfold val4;omega
 have hk38:k3≤38:=by
  have h1:=val4_lt w0 w1 w2 w3 hw0 hw1 hw2 hw3
  have h2:=val4_lt d0 d1 d2 d3 hd0 hd1 hd2 hd3
  omega
 have hset:=fun W=>settle_any v0 v1 v2 v3 k3 hv0 hv1 hv2 hv3 hk38 W
 rw [fold_val _ _ _ _ _ hprod hfold] at hset
 obtain ⟨N,hN⟩:∃ N,N=x*y%pF:=⟨_,rfl⟩
 rw [←hN] at hset ⊢
 obtain ⟨z0,z1,z2,z3,hz⟩:=numV_ex N
 rw [hz] at hset ⊢
 have m0:∀ W:World,W.cell? ⟨q,0,none⟩=some (.int .u64 y0)→W.cell? ⟨q,1,none⟩=some (.int .u64 y1)→W.cell? ⟨q,2,none⟩=some (.int .u64 y2)→W.cell? ⟨q,3,none⟩=some (.int .u64 y3)→Calls Tryz.prog 178 #[.int .u64 0,.int .u64 0,.int .u64 0,.int .u64 0,.int .u64 x0,.pointer (some ⟨q,0,none⟩)] W fun e w'=>e = .returned (.tuple #[.int .u64 w0,.int .u64 a0,.int .u64 a1,.int .u64 a2,.int .u64 a3])∧w'=W:=fun W=>r0 W q
 have m4:∀ W:World,Calls Tryz.prog 179 #[.int .u64 w0,.int .u64 d0,.int .u64 38,.int .u64 0] W fun e w'=>e = .returned (.tuple #[.int .u64 v0,.int .u64 k0])∧w'=W:=fun W=>r4 W
 have m5:∀ W:World,Calls Tryz.prog 179 #[.int .u64 w1,.int .u64 d1,.int .u64 38,.int .u64 k0] W fun e w'=>e = .returned (.tuple #[.int .u64 v1,.int .u64 k1])∧w'=W:=fun W=>r5 W
 have m6:∀ W:World,Calls Tryz.prog 179 #[.int .u64 w2,.int .u64 d2,.int .u64 38,.int .u64 k1] W fun e w'=>e = .returned (.tuple #[.int .u64 v2,.int .u64 k2])∧w'=W:=fun W=>r6 W
 have m7:∀ W:World,Calls Tryz.prog 179 #[.int .u64 w3,.int .u64 d3,.int .u64 38,.int .u64 k2] W fun e w'=>e = .returned (.tuple #[.int .u64 v3,.int .u64 k3])∧w'=W:=fun W=>r7 W
 obtain ⟨W,hW⟩:∃ W,W=w.alloc (.cells #[.int .u64 0,.int .u64 0,.int .u64 0,.int .u64 0] 86):=⟨_,rfl⟩
 have HW:=Hid.mk' hW
 have hbw:Below w.heap.size w W:=by rw [hW];exact (Below.refl _ _).alloc (Nat.le_refl _) _
 have Q0:=(hbw.cell (p:=⟨q,0,none⟩) hql).trans q0
 have Q1:=(hbw.cell (p:=⟨q,1,none⟩) hql).trans q1
 have Q2:=(hbw.cell (p:=⟨q,2,none⟩) hql).trans q2
 have Q3:=(hbw.cell (p:=⟨q,3,none⟩) hql).trans q3
 have P0:=(hbw.cell (p:=⟨p,0,none⟩) hpl).trans p0
 have P1:=(hbw.cell (p:=⟨p,1,none⟩) hpl).trans p1
 have P2:=(hbw.cell (p:=⟨p,2,none⟩) hpl).trans p2
 have P3:=(hbw.cell (p:=⟨p,3,none⟩) hpl).trans p3
 replace m0:=m0 W Q0 Q1 Q2 Q3
 have m1:=r1 W q Q0 Q1 Q2 Q3
 have m2:=r2 W q Q0 Q1 Q2 Q3
 have m3:=r3 W q Q0 Q1 Q2 Q3
 clear ex ey hp hq e0 e1 e2 e3 g0 g1 g2 g3 hprod hfold hN hz r0 r1 r2 r3 r4 r5 r6 r7 p1 p2 p3 q0 q1 q2 q3 P0 hW
 go_enter Tryz.func155,Tryz.ntmps155
 go_wp2_with (first
  | (go_at_call 178;rw [←HW.out];refine m0.mono ?_;clear m0;rintro e w' ⟨rfl,hw⟩;subst hw)
  | (go_at_call 178;refine m1.mono ?_;clear m1;rintro e w' ⟨rfl,hw⟩;subst hw)
  | (go_at_call 178;refine m2.mono ?_;clear m2;rintro e w' ⟨rfl,hw⟩;subst hw)
  | (go_at_call 178;refine m3.mono ?_;clear m3;rintro e w' ⟨rfl,hw⟩;subst hw)
  | (go_at_call 179;refine (m4 _).mono ?_;clear m4;rintro e w' ⟨rfl,hw⟩;subst hw)
  | (go_at_call 179;refine (m5 _).mono ?_;clear m5;rintro e w' ⟨rfl,hw⟩;subst hw)
  | (go_at_call 179;refine (m6 _).mono ?_;clear m6;rintro e w' ⟨rfl,hw⟩;subst hw)
  | (go_at_call 179;refine (m7 _).mono ?_;clear m7;rintro e w' ⟨rfl,hw⟩;subst hw)
  | (go_at_call 122;refine (hset _).mono ?_;clear hset;rintro e w9 ⟨rfl,hb9⟩;rw [HW.out] at hb9;(obtain ⟨ht1,hbw9,⟨t0,t1,t2,t3⟩,hf⟩:=behind' hb9);(have f0:=hf 0 (by decide));(have f1:=hf 1 (by decide));(have f2:=hf 2 (by decide));(have f3:=hf 3 (by decide));clear hb9 hf))
 (try simp only [Exit.inBlock,Exit.then])
 exact bodyPost_ret (results_set4 Tryz.results155 _ _ _ _ _ _ _ ht1 rfl Tryz.underlying86 rfl (by kernel_rfl)) rfl ⟨rfl,below_set4 hbw9 (Nat.le_refl _) _ _ _ _⟩
end Go.Proofs.YtcgkajlehdgpoaaGreatDoor
namespace Go.Proofs.YtcgkajlehdgpoaaGreatDoor
open Go.RowKit
theorem behind3 {w w1:World} {A B:Obj} {a b c d:Value} {t:TypeId} (h:Below (((w.alloc A).alloc B).alloc (.cells #[a,b,c,d] t)).heap.size (((w.alloc A).alloc B).alloc (.cells #[a,b,c,d] t)) w1):w1.there (w.heap.size+1+1) 0 4∧Below w.heap.size w w1 ∧
 (w1.cell? ⟨w.heap.size+1+1,0,none⟩=some a∧w1.cell? ⟨w.heap.size+1+1,1,none⟩=some b∧w1.cell? ⟨w.heap.size+1+1,2,none⟩=some c∧w1.cell? ⟨w.heap.size+1+1,3,none⟩=some d)∧∀ j,j<4→w1.frozen? ⟨w.heap.size+1+1,j,none⟩=false:=by
 have hs:((w.alloc A).alloc B).heap.size=w.heap.size+1+1:=by simp
 have:=behind' h
 rw [hs] at this
 obtain ⟨h1,h2,h3,h4⟩:=this
 exact ⟨h1,(((Below.refl w.heap.size w).alloc (Nat.le_refl _) A).alloc (by simp) B).trans (h2.mono (by omega)),h3,h4⟩
theorem numAt_boxes (w:World) (x y:Nat) (C:Obj) (t:TypeId):NumAt (((w.alloc (.cells #[.int .u64 (lw x 0),.int .u64 (lw x 1),.int .u64 (lw x 2),.int .u64 (lw x 3)] t)).alloc (.cells #[.int .u64 (lw y 0),.int .u64 (lw y 1),.int .u64 (lw y 2),.int .u64 (lw y 3)] t)).alloc C) w.heap.size x∧NumAt (((w.alloc (.cells #[.int .u64 (lw x 0),.int .u64 (lw x 1),.int .u64 (lw x 2),.int .u64 (lw x 3)] t)).alloc (.cells #[.int .u64 (lw y 0),.int .u64 (lw y 1),.int .u64 (lw y 2),.int .u64 (lw y 3)] t)).alloc C) (w.heap.size+1) y:=by
 have h1:∀ (u:World) (n:Nat),NumAt (u.alloc (.cells #[.int .u64 (lw n 0),.int .u64 (lw n 1),.int .u64 (lw n 2),.int .u64 (lw n 3)] t)) u.heap.size n:=fun u n=>by constructor <;> simp
 refine ⟨((h1 w x).below ((Below.refl _ _).alloc (Nat.le_refl _) _) (by simp)).below ((Below.refl _ _).alloc (Nat.le_refl _) _) (by simp;omega),?_⟩
 have h2:=h1 (w.alloc (.cells #[.int .u64 (lw x 0),.int .u64 (lw x 1),.int .u64 (lw x 2),.int .u64 (lw x 3)] t)) y
 have hs:(w.alloc (.cells #[.int .u64 (lw x 0),.int .u64 (lw x 1),.int .u64 (lw x 2),.int .u64 (lw x 3)] t)).heap.size=w.heap.size+1:=by simp
 rw [hs] at h2
 exact h2.below ((Below.refl _ _).alloc (Nat.le_refl _) C) (by simp)
set_option maxRecDepth 20000 in
set_option maxHeartbeats 2000000 in
theorem plus_any (x y:Nat) (hx:x<pF) (hy:y<pF) (w:World) :
 Calls Tryz.prog 154 #[numV x,numV y] w fun e w'=>e = .returned (numV ((x+y)%pF))∧Below w.heap.size w w':=by
 obtain ⟨hX,hY⟩:=numAt_boxes w x y (.cells #[.int .u64 0,.int .u64 0,.int .u64 0,.int .u64 0] 88) 88
 have hs:=sum_any w.heap.size (w.heap.size+1) x y hx hy _ hX hY
 obtain ⟨N,hN⟩:∃ N,N=(x+y)%pF:=⟨_,rfl⟩
 rw [←hN] at hs ⊢
 obtain ⟨z0,z1,z2,z3,hz⟩:=numV_ex N
 rw [hz] at hs ⊢
 unfold numV
 clear hX hY hN hz
 go_enter Tryz.func154,Tryz.ntmps154
 go_wp2_with (go_at_call 177;refine hs.mono ?_;clear hs;rintro e w1 ⟨rfl,hb1⟩;(obtain ⟨ht1,hbw,⟨t0,t1,t2,t3⟩,hf⟩:=behind3 hb1);(have f0:=hf 0 (by decide));(have f1:=hf 1 (by decide));(have f2:=hf 2 (by decide));(have f3:=hf 3 (by decide));clear hb1 hf)
 (try simp only [Exit.inBlock,Exit.then])
 exact bodyPost_ret (results_set4 Tryz.results154 _ _ _ _ _ _ _ ht1 rfl Tryz.underlying88 rfl (by kernel_rfl)) rfl ⟨rfl,below_set4 hbw (by omega) _ _ _ _⟩
set_option maxRecDepth 20000 in
set_option maxHeartbeats 2000000 in
theorem minus_any (x y:Nat) (hx:x<pF) (hy:y<pF) (w:World) :
 Calls Tryz.prog 77 #[numV x,numV y] w fun e w'=>e = .returned (numV ((x+pF - y)%pF))∧Below w.heap.size w w':=by
 obtain ⟨hX,hY⟩:=numAt_boxes w x y (.cells #[.int .u64 0,.int .u64 0,.int .u64 0,.int .u64 0] 88) 88
 have hs:=difference_any w.heap.size (w.heap.size+1) x y hx hy _ hX hY
 obtain ⟨N,hN⟩:∃ N,N=(x+pF - y)%pF:=⟨_,rfl⟩
 rw [←hN] at hs ⊢
 obtain ⟨z0,z1,z2,z3,hz⟩:=numV_ex N
 rw [hz] at hs ⊢
 unfold numV
 clear hX hY hN hz
 go_enter Tryz.func77,Tryz.ntmps77
 go_wp2_with (go_at_call 105;refine hs.mono ?_;clear hs;rintro e w1 ⟨rfl,hb1⟩;(obtain ⟨ht1,hbw,⟨t0,t1,t2,t3⟩,hf⟩:=behind3 hb1);(have f0:=hf 0 (by decide));(have f1:=hf 1 (by decide));(have f2:=hf 2 (by decide));(have f3:=hf 3 (by decide));clear hb1 hf)
 (try simp only [Exit.inBlock,Exit.then])
 exact bodyPost_ret (results_set4 Tryz.results77 _ _ _ _ _ _ _ ht1 rfl Tryz.underlying88 rfl (by kernel_rfl)) rfl ⟨rfl,below_set4 hbw (by omega) _ _ _ _⟩
set_option maxRecDepth 20000 in
set_option maxHeartbeats 2000000 in
theorem times_any (x y:Nat) (hx:x<pF) (hy:y<pF) (w:World) :
 Calls Tryz.prog 126 #[numV x,numV y] w fun e w'=>e = .returned (numV (x*y%pF))∧Below w.heap.size w w':=by
 obtain ⟨hX,hY⟩:=numAt_boxes w x y (.cells #[.int .u64 0,.int .u64 0,.int .u64 0,.int .u64 0] 88) 88
 have hs:=product_any w.heap.size (w.heap.size+1) x y hx hy _ hX hY
 obtain ⟨N,hN⟩:∃ N,N=x*y%pF:=⟨_,rfl⟩
 rw [←hN] at hs ⊢
 obtain ⟨z0,z1,z2,z3,hz⟩:=numV_ex N
 rw [hz] at hs ⊢
 unfold numV
 clear hX hY hN hz
 go_enter Tryz.func126,Tryz.ntmps126
 go_wp2_with (go_at_call 155;refine hs.mono ?_;clear hs;rintro e w1 ⟨rfl,hb1⟩;(obtain ⟨ht1,hbw,⟨t0,t1,t2,t3⟩,hf⟩:=behind3 hb1);(have f0:=hf 0 (by decide));(have f1:=hf 1 (by decide));(have f2:=hf 2 (by decide));(have f3:=hf 3 (by decide));clear hb1 hf)
 (try simp only [Exit.inBlock,Exit.then])
 exact bodyPost_ret (results_set4 Tryz.results126 _ _ _ _ _ _ _ ht1 rfl Tryz.underlying88 rfl (by kernel_rfl)) rfl ⟨rfl,below_set4 hbw (by omega) _ _ _ _⟩
set_option maxRecDepth 20000 in
set_option maxHeartbeats 2000000 in
theorem bytes_any (n:Nat) (w:World) :
 Calls Tryz.prog 55 #[numV n] w fun e w'=>∃ g,e = .returned (.slice (some ⟨g,0,none⟩) 32 32)∧w.heap.size≤g∧RowAt .u8 w' g 0 32 (byt n)∧Below w.heap.size w w':=by
 obtain ⟨W,hW⟩:∃ W,W=w.alloc (.cells #[.int .u64 (lw n 0),.int .u64 (lw n 1),.int .u64 (lw n 2),.int .u64 (lw n 3)] 88):=⟨_,rfl⟩
 have hN:NumAt W w.heap.size n:=by rw [hW];constructor <;> simp
 have hWs:W.heap.size=w.heap.size+1:=by rw [hW];simp
 have hbW:Below w.heap.size w W:=by rw [hW];exact (Below.refl _ _).alloc (Nat.le_refl _) _
 have hlw:∀ (wr:World),Below (w.heap.size+1) W wr→∀ a,a<4→wr.cell? ⟨w.heap.size,a,none⟩=some (.int .u64 (lw n a)):=fun wr hb a ha=>by
  have h:=hN.below hb (by omega)
  match a,ha with
  | 0,_=>exact h.c0
  | 1,_=>exact h.c1
  | 2,_=>exact h.c2
  | 3,_=>exact h.c3
 have hmk:=make_bytes W 32 32 rfl (by decide)
 have HW:=Hid.mk' hW
 have hb0:Below (w.heap.size+1) W (W.alloc (.cells (zb 32) 5)):=(Below.refl _ _).alloc (by omega) _
 have hrow0:RowAt .u8 (W.alloc (.cells (zb 32) 5)) (w.heap.size+1) 0 32 (fun _=>0):=by rw [←hWs];exact RowAt.fresh (fun j hj=>zb_at 32 j hj)
 unfold numV
 clear hW hN
 go_enter Tryz.func55,Tryz.ntmps55
 go_wp2_with (rw [←HW.out];rw [hmk])
 go_loopw [8] (fun i wr=>∃ k:Nat,k≤32∧i = .int .i64 k∧RowAt .u8 wr (w.heap.size+1) 0 32 (fun j=>if j<k then byt n j else 0)∧Below (w.heap.size+1) W wr) (fun i _=>32 - (intOf i).toNat)
 case atStart=>exact ⟨0,Nat.zero_le _,rfl,hrow0.congr (fun j _=>by simp),hb0⟩
 case round =>
  clear hrow0 hb0 hmk
  obtain ⟨k,hk,rfl,hrow,hb⟩:=hrel
  by_cases hlt:k<32
  · obtain ⟨rk,rf⟩:=hrow k hlt
    rw [Nat.zero_add] at rk rf
    have hc:=hlw wr hb (k / 8) (by omega)
    have rk0:wr.cell? ⟨w.heap.size+1,k,none⟩=some (.int .u8 0):=by simpa using rk
    clear hlw rk
    go_wp2
    go_roundw
    case rel =>
     have h1:=hrow.set (i:=k) hlt (v:=(lw n (k / 8):Int) / 2 ^ (k%8*8)%256) (u:=byt n k) (word_byte_int n k)
     rw [Nat.zero_add] at h1
     refine ⟨k+1,by omega,by go_num,h1.congr (fun j hj => ?_),hb.setCell (Nat.le_refl _) _⟩
     unfold upd
     by_cases e:j=k
     · rw [if_pos e,if_pos (by omega),e]
     · rw [if_neg e]
       show (if j<k then byt n j else 0)=_
       by_cases e2:j<k
       · rw [if_pos e2,if_pos (by omega)]
       · rw [if_neg e2,if_neg (by omega)]
    case measure=>simp [intOf];omega
  · go_wp2
    go_ret
    exact ⟨w.heap.size+1,rfl,by omega,hrow.congr (fun j hj=>by rw [if_pos (by omega)]),hbW.trans (hb.mono (by omega))⟩
theorem results_cell_tmp {P:Program} {fn:Func} {p q:Tmp} {ty:TypeId} (h:fn.results=#[.cell p ty,.tmp q]) (tmps:Array Value) (w:World) (g o:Nat) (cs:List Value) (d:TypeDesc)
 (hp:tmps.getD p undef = .pointer (some ⟨g,o,none⟩)) (hc:w.rangeAt g o cs)
 (hu:P.underlying ty=some d) (hd:d.isRow=true) (hi:(P.info? ty).map (·.size)=some cs.length) :
 (results fn tmps).run P w = .ok (.tuple #[.agg cs.toArray,tmps.getD q undef]) w:=by
 have hp':tmps[p]?.getD undef = .pointer (some ⟨g,o,none⟩):=by simpa using hp
 simp [results,h,hp',asAddr,run_loadVar_mid w g o ty cs d hc hu hd hi]
theorem numV_zero:numV 0 = .agg #[.int .u64 0,.int .u64 0,.int .u64 0,.int .u64 0]:=by kernel_rfl
set_option maxRecDepth 20000 in
set_option maxHeartbeats 2000000 in
theorem from_other (xo:Option Addr) (n c:Nat) (hn:n≠32) (w:World) :
 Calls Tryz.prog 100 #[.slice xo n c] w fun e w'=>e = .returned (.tuple #[numV 0,.int .i64 1])∧Below w.heap.size w w':=by
 have hni:¬(n:Int)=32:=by omega
 rw [numV_zero]
 go_enter Tryz.func100,Tryz.ntmps100
 go_wp2
 (try simp only [Exit.inBlock,Exit.then])
 exact bodyPost_ret (results_cell_tmp Tryz.results100 _ _ w.heap.size 0 [.int .u64 0,.int .u64 0,.int .u64 0,.int .u64 0] _ rfl (range_fresh4 w _ _ _ _ _) Tryz.underlying88 rfl (by kernel_rfl)) rfl ⟨rfl,(Below.refl _ _).alloc (Nat.le_refl _) _⟩
set_option maxRecDepth 20000 in
set_option maxHeartbeats 2000000 in
theorem from_32 (bb ob c:Nat) (bs:Nat→Nat) (hbs:∀ j,bs j<256) (w:World) (hbl:bb<w.heap.size) (hc:∀ j,j<32→w.cell? ⟨bb,ob+j,none⟩=some (.int .u8 (bs j))) :
 Calls Tryz.prog 100 #[.slice (some ⟨bb,ob,none⟩) 32 c] w fun e w'=>e = .returned (.tuple #[numV (ofB bs 32%pF),.int .i64 0])∧Below w.heap.size w w':=by
 obtain ⟨W,hW⟩:∃ W,W=w.alloc (.cells #[.int .u64 0,.int .u64 0,.int .u64 0,.int .u64 0] 88):=⟨_,rfl⟩
 have hWs:W.heap.size=w.heap.size+1:=by rw [hW];simp
 have hbW:Below w.heap.size w W:=by rw [hW];exact (Below.refl _ _).alloc (Nat.le_refl _) _
 have HW:=Hid.mk' hW
 have hrow0:RowAt .u64 (W.alloc (.cells #[.int .u64 0,.int .u64 0,.int .u64 0,.int .u64 0] 86)) (w.heap.size+1) 0 4 (lw (ofB bs 0)):=by
  rw [←hWs]
  have hz:∀ a,lw (ofB bs 0) a=0:=fun a=>by unfold lw ofB;rw [Nat.zero_div,Nat.zero_mod]
  exact RowAt.fresh (fun j hj=>by rw [hz];exact match j,hj with | 0,_=>rfl | 1,_=>rfl | 2,_=>rfl | 3,_=>rfl)
 have hb0:Below (w.heap.size+1) W (W.alloc (.cells #[.int .u64 0,.int .u64 0,.int .u64 0,.int .u64 0] 86)):=(Below.refl _ _).alloc (by omega) _
 have hset:∀ W',Calls Tryz.prog 122 #[.int .u64 (lw (ofB bs 32) 0),.int .u64 (lw (ofB bs 32) 1),.int .u64 (lw (ofB bs 32) 2),.int .u64 (lw (ofB bs 32) 3),.int .u64 0] W' fun e w'=>e = .returned (numV (ofB bs 32%pF))∧Below W'.heap.size W' w':=fun W'=>by
  have:=settle_any (lw (ofB bs 32) 0) (lw (ofB bs 32) 1) (lw (ofB bs 32) 2) (lw (ofB bs 32) 3) 0 (lw_lt _ _) (lw_lt _ _) (lw_lt _ _) (lw_lt _ _) (by decide) W'
  rw [lw_val _ (ofB_lt bs hbs 32),Nat.mul_zero,Nat.add_zero] at this
  exact this
 obtain ⟨N,hN⟩:∃ N,N=ofB bs 32%pF:=⟨_,rfl⟩
 rw [←hN] at hset ⊢
 obtain ⟨z0,z1,z2,z3,hz⟩:=numV_ex N
 rw [hz] at hset ⊢
 clear hW hN hz
 go_enter Tryz.func100,Tryz.ntmps100
 go_wp2
 rw [←HW.out]
 go_loopw [13] (fun i wr=>∃ k:Nat,k≤32∧i = .int .i64 k∧RowAt .u64 wr (w.heap.size+1) 0 4 (lw (ofB bs k))∧Below (w.heap.size+1) W wr) (fun i _=>32 - (intOf i).toNat)
 case atStart=>exact ⟨0,Nat.zero_le _,rfl,hrow0,hb0⟩
 case round =>
  clear hrow0 hb0
  obtain ⟨k,hk,rfl,hrow,hb⟩:=hrel
  by_cases hlt:k<32
  · obtain ⟨rk,rf⟩:=hrow (k / 8) (by omega)
    rw [Nat.zero_add] at rk rf
    have hck:wr.cell? ⟨bb,ob+k,none⟩=some (.int .u8 (bs k)):=((hbW.trans (hb.mono (by omega))).cell (p:=⟨bb,ob+k,none⟩) hbl).trans (hc k hlt)
    have hor:=or_byte (lw (ofB bs k) (k / 8)) (bs k) k (lw_lt _ _) (hbs k)
    have hbk:=hbs k
    clear hc hset
    go_wp2
    go_roundw
    case rel =>
     have h1:=hrow.set (i:=k / 8) (by omega) (v:=((lw (ofB bs k) (k / 8) ||| bs k*2 ^ (k%8*8):Nat):Int)) rfl
     rw [Nat.zero_add] at h1
     refine ⟨k+1,by omega,by go_num,h1.congr (fun j hj => ?_),hb.setCell (Nat.le_refl _) _⟩
     rw [word_more bs hbs k j]
     unfold upd
     by_cases e:j=k / 8
     · rw [if_pos e,if_pos e,e]
     · rw [if_neg e,if_neg e]
    case measure=>simp [intOf];omega
  · have hke:k=32:=by omega
    rw [hke] at hrow
    have d0:=(hrow 0 (by decide)).1
    have d1:=(hrow 1 (by decide)).1
    have d2:=(hrow 2 (by decide)).1
    have d3:=(hrow 3 (by decide)).1
    rw [Nat.zero_add] at d0 d1 d2 d3
    have hsr:=hset wr
    obtain ⟨v0,hv0⟩:∃ v,v=lw (ofB bs 32) 0:=⟨_,rfl⟩
    obtain ⟨v1,hv1⟩:∃ v,v=lw (ofB bs 32) 1:=⟨_,rfl⟩
    obtain ⟨v2,hv2⟩:∃ v,v=lw (ofB bs 32) 2:=⟨_,rfl⟩
    obtain ⟨v3,hv3⟩:∃ v,v=lw (ofB bs 32) 3:=⟨_,rfl⟩
    rw [←hv0] at d0
    rw [←hv1] at d1
    rw [←hv2] at d2
    rw [←hv3] at d3
    rw [←hv0,←hv1,←hv2,←hv3] at hsr
    clear hset hrow hc hke hv0 hv1 hv2 hv3
    have hbr:Below (w.heap.size+1) (w.alloc (.cells #[.int .u64 0,.int .u64 0,.int .u64 0,.int .u64 0] 88)) wr:=by rw [←HW.out];exact hb
    go_wp2_with (go_at_call 122;refine hsr.mono ?_;clear hsr;rintro e w1 ⟨rfl,hb1⟩;(obtain ⟨ht1,hbw,⟨t0,t1,t2,t3⟩,hf⟩:=behind' (w:=w) (by rw [World.size_alloc];exact hbr.trans (hb1.mono (by have:=hbr.size;rw [World.size_alloc] at this;exact this)));(have f0:=hf 0 (by decide));(have f1:=hf 1 (by decide));(have f2:=hf 2 (by decide));(have f3:=hf 3 (by decide));clear hb1 hf))
    (try simp only [Exit.inBlock,Exit.then])
    exact bodyPost_ret (results_cell_tmp Tryz.results100 _ _ w.heap.size 0 [.int .u64 z0,.int .u64 z1,.int .u64 z2,.int .u64 z3] _ rfl (World.rangeAt_setCells_same w1 w.heap.size 0 [.int .u64 z0,.int .u64 z1,.int .u64 z2,.int .u64 z3] ht1) Tryz.underlying88 rfl (by kernel_rfl)) rfl ⟨rfl,below_set4 hbw (Nat.le_refl _) _ _ _ _⟩
end Go.Proofs.YtcgkajlehdgpoaaGreatDoor
namespace Go.Proofs.YtcgkajlehdgpoaaGreatDoor
open Go.RowKit
structure FourAt (w:World) (g:Nat) (a b c d:Value):Prop where
 c0:w.cell? ⟨g,0,none⟩=some a
 c1:w.cell? ⟨g,1,none⟩=some b
 c2:w.cell? ⟨g,2,none⟩=some c
 c3:w.cell? ⟨g,3,none⟩=some d
 f0:w.frozen? ⟨g,0,none⟩=false
 f1:w.frozen? ⟨g,1,none⟩=false
 f2:w.frozen? ⟨g,2,none⟩=false
 f3:w.frozen? ⟨g,3,none⟩=false
theorem FourAt.below {w w':World} {g B:Nat} {a b c d:Value} (h:FourAt w g a b c d) (hb:Below B w w') (hB:g<B):FourAt w' g a b c d :=
 ⟨(hb.cell (p:=⟨g,0,none⟩) hB).trans h.c0,(hb.cell (p:=⟨g,1,none⟩) hB).trans h.c1,(hb.cell (p:=⟨g,2,none⟩) hB).trans h.c2,(hb.cell (p:=⟨g,3,none⟩) hB).trans h.c3,(hb.frozen (p:=⟨g,0,none⟩) hB).trans h.f0,(hb.frozen (p:=⟨g,1,none⟩) hB).trans h.f1,(hb.frozen (p:=⟨g,2,none⟩) hB).trans h.f2,(hb.frozen (p:=⟨g,3,none⟩) hB).trans h.f3⟩
theorem FourAt.there {w:World} {g:Nat} {a b c d:Value} (h:FourAt w g a b c d):w.there g 0 4:=fun j hj=>by
 match j,hj with
 | 0,_=>exact ⟨by rw [h.c0];rfl,h.f0⟩
 | 1,_=>exact ⟨by rw [show (0+1:Nat)=1 from rfl,h.c1];rfl,h.f1⟩
 | 2,_=>exact ⟨by rw [show (0+2:Nat)=2 from rfl,h.c2];rfl,h.f2⟩
 | 3,_=>exact ⟨by rw [show (0+3:Nat)=3 from rfl,h.c3];rfl,h.f3⟩
theorem FourAt.range {w:World} {g:Nat} {a b c d:Value} (h:FourAt w g a b c d):w.rangeAt g 0 [a,b,c,d]:=fun j v hv=>by
 match j,hv with
 | 0,hv=>cases hv;exact h.c0
 | 1,hv=>cases hv;exact h.c1
 | 2,hv=>cases hv;exact h.c2
 | 3,hv=>cases hv;exact h.c3
theorem FourAt.drew {w:World} {g:Nat} {a b c d:Value} (h:FourAt w g a b c d):FourAt w.drew g a b c d:=⟨h.c0,h.c1,h.c2,h.c3,h.f0,h.f1,h.f2,h.f3⟩
theorem four_fresh (w:World) (a b c d:Value) (t:TypeId):FourAt (w.alloc (.cells #[a,b,c,d] t)) w.heap.size a b c d:=by constructor <;> simp
def set4 (w:World) (g:Nat) (a b c d:Value):World:=(((w.setCell ⟨g,0,none⟩ a).setCell ⟨g,1,none⟩ b).setCell ⟨g,2,none⟩ c).setCell ⟨g,3,none⟩ d
theorem FourAt.set {w:World} {g:Nat} {a b c d:Value} (h:FourAt w g a b c d) (a' b' c' d':Value):FourAt (set4 w g a' b' c' d') g a' b' c' d':=by
 have hr:=World.rangeAt_setCells_same w g 0 [a',b',c',d'] h.there
 have hf:∀ j,(set4 w g a' b' c' d').frozen? ⟨g,j,none⟩=w.frozen? ⟨g,j,none⟩:=fun j=>World.frozen?_setCells g [a',b',c',d'] 0 w _
 exact ⟨hr 0 _ rfl,hr 1 _ rfl,hr 2 _ rfl,hr 3 _ rfl,(hf 0).trans h.f0,(hf 1).trans h.f1,(hf 2).trans h.f2,(hf 3).trans h.f3⟩
theorem set4_other {w:World} {g k:Nat} (hk:k≠g) (a b c d:Value):(set4 w g a b c d).heap[k]? = w.heap[k]?:=heap_setCells_other g [a,b,c,d] 0 w k hk
theorem FourAt.far {w:World} {g k:Nat} {a b c d:Value} (h:FourAt w g a b c d) (hk:g≠k) (a' b' c' d':Value):FourAt (set4 w k a' b' c' d') g a b c d:=by
 have hc:∀ j,(set4 w k a' b' c' d').cell? ⟨g,j,none⟩=w.cell? ⟨g,j,none⟩:=fun j=>World.cell?_of_block (w:=w) (set4_other hk a' b' c' d')
 have hf:∀ j,(set4 w k a' b' c' d').frozen? ⟨g,j,none⟩=w.frozen? ⟨g,j,none⟩:=fun j=>World.frozen?_of_block (w:=w) (set4_other hk a' b' c' d')
 exact ⟨(hc 0).trans h.c0,(hc 1).trans h.c1,(hc 2).trans h.c2,(hc 3).trans h.c3,(hf 0).trans h.f0,(hf 1).trans h.f1,(hf 2).trans h.f2,(hf 3).trans h.f3⟩
theorem below_set4' {B:Nat} {u w:World} {g:Nat} (h:Below B u w) (hg:B≤g) (a b c d:Value):Below B u (set4 w g a b c d):=below_set4 h hg a b c d
theorem size_set4 (w:World) (g:Nat) (a b c d:Value):(set4 w g a b c d).heap.size=w.heap.size:=(setCells_same g [a,b,c,d] 0 w).2.2.2
def fromN (n:Nat) (bs:Nat→Nat):Nat:=if n=32 then ofB bs 32%pF else 0
def fromE (n:Nat):Nat:=if n=32 then 0 else 1
theorem from_any (v:Value) (n:Nat) (bs:Nat→Nat) (hbs:∀ j,bs j<256) (w:World) (hv:BytesIn w v n bs) :
 Calls Tryz.prog 100 #[v] w fun e w'=>e = .returned (.tuple #[numV (fromN n bs),.int .i64 (fromE n)])∧Below w.heap.size w w':=by
 unfold fromN fromE
 by_cases h:n=32
 · subst h
   rw [if_pos rfl,if_pos rfl]
   rcases hv with ⟨_,_,h0⟩ | ⟨bb,ob,cap,rfl,h1,h2,h3⟩
   · omega
   · exact from_32 bb ob cap bs hbs w h1 h3
 · rw [if_neg h,if_neg h]
   obtain ⟨xo,c,rfl,-⟩:=hv.src
   exact from_other xo n c h w
end Go.Proofs.YtcgkajlehdgpoaaGreatDoor
