/- What the proof stands on: IRow, Words, ICar, Limbs. -/
import Derived.Test.YtibdhadbflfdpaaGreatDoorLentM
namespace Go.Proofs.YtibdhadbflfdpaaGreatDoor
open Go.RowKit
def IRow (w:World) (g n:Nat) (L:Nat→Int):Prop:=∀ j,j<n→w.cell? ⟨g,j,none⟩=some (.int .i64 (L j))∧w.frozen? ⟨g,j,none⟩=false
def intsI (n:Nat) (L:Nat→Int):List Value:=(List.range n).map fun j => .int .i64 (L j)
theorem intsI_len (n:Nat) (L:Nat→Int):(intsI n L).length=n:=by simp [intsI]
theorem intsI_size (n:Nat) (L:Nat→Int):(intsI n L).toArray.size=n:=by simp [intsI]
theorem intsI_at (n:Nat) (L:Nat→Int) (j:Nat) (h:j<n):(intsI n L)[j]? = some (.int .i64 (L j)):=by simp [intsI,h]
theorem intsI_one (n:Nat) (L:Nat→Int):∀ v∈intsI n L,v.oneCell'=true:=fun v hv=>by
 simp only [intsI,List.mem_map] at hv
 obtain ⟨j,_,rfl⟩:=hv
 rfl
def refV (L:Nat→Int):Value := .agg (intsI 16 L).toArray
theorem IRow.below {B:Nat} {w w':World} {g n:Nat} {L:Nat→Int} (h:IRow w g n L) (hb:Below B w w') (hB:g<B):IRow w' g n L:=fun j hj =>
 ⟨(hb.cell (p:=⟨g,j,none⟩) hB).trans (h j hj).1,(hb.frozen (p:=⟨g,j,none⟩) hB).trans (h j hj).2⟩
theorem IRow.congr {w:World} {g n:Nat} {L M:Nat→Int} (h:IRow w g n L) (e:∀ j,j<n→L j=M j):IRow w g n M:=fun j hj=>by rw [←e j hj];exact h j hj
theorem IRow.drew {w:World} {g n:Nat} {L:Nat→Int} (h:IRow w g n L):IRow w.drew g n L:=fun j hj=>h j hj
def updI (L:Nat→Int) (i:Nat) (v:Int):Nat→Int:=fun j=>if j=i then v else L j
theorem IRow.set {w:World} {g n:Nat} {L:Nat→Int} (h:IRow w g n L) {i:Nat} (hi:i<n) (v:Int):IRow (w.setCell ⟨g,i,none⟩ (.int .i64 v)) g n (updI L i v):=fun j hj=>by
 obtain ⟨h1,h2⟩:=h j hj
 by_cases e:j=i
 · subst e
   refine ⟨?_,?_⟩
   · have:=World.rangeAt_setCells_same w g j [.int .i64 v] (fun k hk=>by
      have:k=0:=by simpa using hk
      subst this
      rw [Nat.add_zero,h1];exact ⟨rfl,h2⟩) 0 _ rfl
     simp only [updI,if_true]
     exact this
   · exact (World.frozen?_setCells g [.int .i64 v] j w _).trans h2
 · refine ⟨?_,(World.frozen?_setCells g [.int .i64 v] i w _).trans h2⟩
   simp only [updI,if_neg e]
   rw [←h1]
   exact World.cell?_setCells_out g [.int .i64 v] i w _ (fun _ _=>by show j<i∨i+1≤j;omega)
theorem IRow.far {w:World} {g n:Nat} {L:Nat→Int} (h:IRow w g n L) {a:Addr} (ha:a.block≠g) (v:Value):IRow (w.setCell a v) g n L:=fun j hj=>by
 have hk:(w.setCell a v).heap[g]? = w.heap[g]?:=Below.heap_setCell w a v g (Ne.symm ha)
 exact ⟨(World.cell?_of_block (w:=w) hk).trans (h j hj).1,(World.frozen?_of_block (w:=w) hk).trans (h j hj).2⟩
theorem IRow.range {w:World} {g n:Nat} {L:Nat→Int} (h:IRow w g n L):w.rangeAt g 0 (intsI n L):=fun j v hv=>by
 have hj:j<n:=by have:=(List.getElem?_eq_some_iff.1 hv).1;rwa [intsI_len] at this
 rw [intsI_at _ _ j hj] at hv
 cases hv
 rw [Nat.zero_add];exact (h j hj).1
theorem IRow.there {w:World} {g n:Nat} {L:Nat→Int} (h:IRow w g n L):w.there g 0 n:=fun j hj=>by
 rw [Nat.zero_add,(h j hj).1];exact ⟨rfl,(h j hj).2⟩
theorem IRow.fresh (w:World) (cs:Array Value) (t:TypeId) {n:Nat} {L:Nat→Int} (h:∀ j,j<n→cs[j]? = some (.int .i64 (L j))):IRow (w.alloc (.cells cs t)) w.heap.size n L:=fun j hj=>by
 refine ⟨?_,by simp⟩
 have:=h j hj
 simp [this]
theorem IRow.box (w:World) (n:Nat) (L:Nat→Int) (t:TypeId):IRow (w.alloc (.cells (intsI n L).toArray t)) w.heap.size n L:=IRow.fresh w _ t (fun j hj=>by rw [List.getElem?_toArray];exact intsI_at n L j hj)
theorem IRow.stored {w:World} {g n:Nat} {M L:Nat→Int} (h:IRow w g n M):IRow (w.setCells g 0 (intsI n L)) g n L:=fun j hj=>by
 have hr:=World.rangeAt_setCells_same w g 0 (intsI n L) (by rw [intsI_len];exact h.there)
 refine ⟨?_,(World.frozen?_setCells g (intsI n L) 0 w _).trans (h j hj).2⟩
 have:=hr j _ (intsI_at n L j hj)
 rwa [Nat.zero_add] at this
theorem IRow.farCells {w:World} {g n:Nat} {L:Nat→Int} (h:IRow w g n L) {k:Nat} (hk:g≠k) (o:Nat) (vs:List Value):IRow (w.setCells k o vs) g n L:=fun j hj=>by
 have hb:(w.setCells k o vs).heap[g]? = w.heap[g]?:=heap_setCells_other k vs o w g hk
 exact ⟨(World.cell?_of_block (w:=w) hb).trans (h j hj).1,(World.frozen?_of_block (w:=w) hb).trans (h j hj).2⟩
end Go.Proofs.YtibdhadbflfdpaaGreatDoor
namespace Go.Proofs.YtibdhadbflfdpaaGreatDoor
open Go.RowKit Go.Lib
def pF:Nat:=57896044618658097711785492504343953926634992332820282019728792003956564819949
set_option maxHeartbeats 1000000 in
theorem addProduct_any (t x y c:Nat) (ht:t<18446744073709551616) (hx:x<18446744073709551616) (hy:y<18446744073709551616) (hc:c<18446744073709551616) :
 ∃ l h:Nat,l<18446744073709551616∧h<18446744073709551616∧l+18446744073709551616*h=t+x*y+c∧∀ w,Calls Tryz.prog 210 #[.int .u64 t,.int .u64 x,.int .u64 y,.int .u64 c] w fun e w'=>e = .returned (.tuple #[.int .u64 l,.int .u64 h])∧w'=w:=by
 obtain ⟨h0,l0,hh0,hl0,e0,r0⟩:=mul64_ex x y hx hy
 obtain ⟨l1,k1,hl1,hk1,e1,r1⟩:=add64_ex0 l0 t hl0 ht
 obtain ⟨l2,k2,hl2,hk2,e2,r2⟩:=add64_ex0 l1 c hl1 hc
 have hxy:x*y≤18446744073709551615*18446744073709551615:=Nat.mul_le_mul (by omega) (by omega)
 obtain ⟨P,hP⟩:∃ P,P=x*y:=⟨_,rfl⟩
 rw [←hP] at e0 hxy ⊢
 clear hP
 refine ⟨l2,h0+k1+k2,hl2,by omega,by omega,fun w => ?_⟩
 have r0':=r0 w
 have b1:h0+k1<18446744073709551616:=by omega
 have b2:h0+k1+k2<18446744073709551616:=by omega
 clear e0 e1 e2 r0 hxy
 go_enter Tryz.func210,Tryz.ntmps210
 go_wp2_with (first
  | (go_at_call 162;refine r0'.mono ?_;rintro e w' ⟨rfl,rfl⟩)
  | rw [r1] | rw [r2])
 go_ret2
 exact ⟨rfl,rfl⟩
set_option maxHeartbeats 1000000 in
theorem addSmall_any (a b c d x:Nat) (ha:a<18446744073709551616) (hb:b<18446744073709551616) (hc:c<18446744073709551616) (hd:d<18446744073709551615) (hx:x<18446744073709551616) :
 ∃ s0 s1 s2 s3:Nat,s0<18446744073709551616∧s1<18446744073709551616∧s2<18446744073709551616∧s3<18446744073709551616∧val4 s0 s1 s2 s3=val4 a b c d+x∧∀ w,Calls Tryz.prog 247 #[.int .u64 a,.int .u64 b,.int .u64 c,.int .u64 d,.int .u64 x] w fun e w'=>e = .returned (.tuple #[.int .u64 s0,.int .u64 s1,.int .u64 s2,.int .u64 s3])∧w'=w:=by
 obtain ⟨s0,k0,hs0,hk0,e0,r0⟩:=add64_ex0 a x ha hx
 obtain ⟨s1,k1,hs1,hk1,e1,r1⟩:=add64_exz b k0 hb hk0
 obtain ⟨s2,k2,hs2,hk2,e2,r2⟩:=add64_exz c k1 hc hk1
 have b3:d+k2<18446744073709551616:=by omega
 refine ⟨s0,s1,s2,d+k2,hs0,hs1,hs2,b3,by unfold val4;omega,fun w => ?_⟩
 clear e0 e1 e2
 go_enter Tryz.func247,Tryz.ntmps247
 go_wp2_with (first | rw [r0] | rw [r1] | rw [r2])
 (try simp only [Exit.inBlock,Exit.then])
 refine bodyPost_ret (results_tmp4 rfl _ _ _) rfl ?_
 exact ⟨rfl,rfl⟩
theorem over_bits (top d:Nat) (ht:top≤38) (hd:d<18446744073709551616):bits .or .u64 ((top:Int)*2) ((d:Int) / 9223372036854775808)=((top*2+d / 9223372036854775808:Nat):Int):=by
 have e1:(top:Int)*2=((top*2:Nat):Int):=by omega
 have e2:(d:Int) / 9223372036854775808=((d / 9223372036854775808:Nat):Int):=by omega
 rw [e1,e2,bits_or_u64_nat _ _ (by omega) (by omega)]
 have h1:d / 9223372036854775808=0∨d / 9223372036854775808=1:=by omega
 congr 1
 rcases h1 with h | h <;> rw [h]
 · simp
 · have key:∀ k,k<39→k*2 ||| 1=k*2+1:=by decide
   exact key top (by omega)
theorem settle_val (V V' S M T o:Nat) (hV:V=V'+57896044618658097711785492504343953926634992332820282019728792003956564819968*o) (hS:S=V'+(T*2+o)*19) (hV':V'<57896044618658097711785492504343953926634992332820282019728792003956564819968) (hT:T≤38) (ho:o≤1) (hM:M=S+19) :
 (M<57896044618658097711785492504343953926634992332820282019728792003956564819968→(V+115792089237316195423570985008687907853269984665640564039457584007913129639936*T)%pF=S)∧(57896044618658097711785492504343953926634992332820282019728792003956564819968≤M→(V+115792089237316195423570985008687907853269984665640564039457584007913129639936*T)%pF=M - 57896044618658097711785492504343953926634992332820282019728792003956564819968):=by
 have key:V+115792089237316195423570985008687907853269984665640564039457584007913129639936*T=S+pF*(T*2+o):=by unfold pF;omega
 rw [key,Nat.add_mul_mod_self_left]
 unfold pF
 constructor <;> intro h <;> omega
theorem rm19 {f:FuncId} {a b c d:Value} {Q:Ending→World→Prop} {w:World} (h:Calls Tryz.prog f #[a,b,c,d,.int .u64 ((19:Nat):Int)] w Q):Calls Tryz.prog f #[a,b,c,d,.int .u64 19] w Q:=h
set_option maxRecDepth 20000 in
set_option maxHeartbeats 1000000 in
theorem settle_any (a b c d t:Nat) (ha:a<18446744073709551616) (hb:b<18446744073709551616) (hc:c<18446744073709551616) (hd:d<18446744073709551616) (ht:t≤38) (w:World) :
 Calls Tryz.prog 211 #[.int .u64 a,.int .u64 b,.int .u64 c,.int .u64 d,.int .u64 t] w fun e w'=>e = .returned (numV ((val4 a b c d+115792089237316195423570985008687907853269984665640564039457584007913129639936*t)%pF))∧Below w.heap.size w w':=by
 obtain ⟨s0,s1,s2,s3,h0,h1,h2,h3,es,rs⟩:=addSmall_any a b c (d%9223372036854775808) ((t*2+d / 9223372036854775808)*19) ha hb hc (by omega) (by omega)
 have hs3:s3<9223372036854775809:=by unfold val4 at es;omega
 obtain ⟨m0,m1,m2,m3,g0,g1,g2,g3,em,rm⟩:=addSmall_any s0 s1 s2 s3 19 h0 h1 h2 (by omega) (by decide)
 obtain ⟨f1,f2⟩:=settle_val (val4 a b c d) (val4 a b c (d%9223372036854775808)) (val4 s0 s1 s2 s3) (val4 m0 m1 m2 m3) t (d / 9223372036854775808) (by unfold val4;omega) es (by unfold val4;omega) ht (by omega) em
 obtain ⟨N,hN⟩:∃ N,N=(val4 a b c d+115792089237316195423570985008687907853269984665640564039457584007913129639936*t)%pF:=⟨_,rfl⟩
 rw [←hN] at f1 f2 ⊢
 have o1:=over_bits t d ht hd
 obtain ⟨ox,hox⟩:∃ ox,ox=t*2+d / 9223372036854775808:=⟨_,rfl⟩
 obtain ⟨dl,hdl⟩:∃ dl,dl=d%9223372036854775808:=⟨_,rfl⟩
 obtain ⟨ml,hml⟩:∃ ml,ml=m3%9223372036854775808:=⟨_,rfl⟩
 have hox77:ox≤77:=by omega
 rw [←hox,←hdl] at rs
 rw [←hox] at o1
 have o2:=mask63 d hd
 have o3:=mask63 m3 g3
 rw [←hdl] at o2
 rw [←hml] at o3
 obtain ⟨ov,hov⟩:∃ ov,ov=ox*19:=⟨_,rfl⟩
 rw [←hov] at rs
 have o4:(ox:Int)*19=(ov:Int):=by omega
 have hmll:ml<18446744073709551616:=by omega
 have fin1:m3 > 9223372036854775807→(Value.agg #[.int .u64 m0,.int .u64 m1,.int .u64 m2,.int .u64 ml]:Value)=numV N:=fun hm=>numV_of N m0 m1 m2 ml g0 g1 g2 (by omega) (by rw [f2 (by unfold val4;omega)];unfold val4;omega)
 have fin2:¬m3 > 9223372036854775807→(Value.agg #[.int .u64 s0,.int .u64 s1,.int .u64 s2,.int .u64 s3]:Value)=numV N:=fun hm=>numV_of N s0 s1 s2 s3 h0 h1 h2 (by omega) (by rw [f1 (by unfold val4;omega)])
 clear es em hN f1 f2 hox hdl hml hov
 by_cases hm:m3 > 9223372036854775807
 · have fin:=Hid.mk' (fin1 hm)
   have hm':(9223372036854775807:Int)<(m3:Int):=by omega
   clear fin1 fin2
   go_enter Tryz.func211,Tryz.ntmps211
   go_wp2_with (first
    | (go_at_call 247;refine (rs _).mono ?_;clear rs;rintro e w' ⟨rfl,hw⟩;subst hw)
    | (go_at_call 247;refine (rm19 (rm _)).mono ?_;rintro e w' ⟨rfl,hw⟩;subst hw))
   (try simp only [Exit.inBlock,Exit.then])
   exact bodyPost_ret (results_fresh4 Tryz.results211 _ _ _ _ _ _ _ rfl Tryz.underlying73 rfl (by kernel_rfl)) rfl ⟨by rw [fin.out],(Below.refl _ _).alloc (Nat.le_refl _) _⟩
 · have fin:=Hid.mk' (fin2 hm)
   have hm':¬(9223372036854775807:Int)<(m3:Int):=by omega
   clear fin1 fin2
   go_enter Tryz.func211,Tryz.ntmps211
   go_wp2_with (first
    | (go_at_call 247;refine (rs _).mono ?_;clear rs;rintro e w' ⟨rfl,hw⟩;subst hw)
    | (go_at_call 247;refine (rm19 (rm _)).mono ?_;rintro e w' ⟨rfl,hw⟩;subst hw))
   (try simp only [Exit.inBlock,Exit.then])
   exact bodyPost_ret (results_fresh4 Tryz.results211 _ _ _ _ _ _ _ rfl Tryz.underlying73 rfl (by kernel_rfl)) rfl ⟨by rw [fin.out],(Below.refl _ _).alloc (Nat.le_refl _) _⟩
end Go.Proofs.YtibdhadbflfdpaaGreatDoor
namespace Go.Proofs.YtibdhadbflfdpaaGreatDoor
open Go.RowKit
def cr (L:Nat→Int):Nat→Int
 | 0=>0
 | i+1=>(L i+cr L i) / 65536
def stC (L:Nat→Int) (k:Nat):Nat→Int:=fun j=>if j<k then (L j+cr L j)%65536 else if j=k then L j+cr L j else L j
def carryL (L:Nat→Int):Nat→Int:=fun j=>if j=0 then L 0%65536+38*cr L 16 else (L j+cr L j)%65536
def valR (L:Nat→Int):Nat→Int
 | 0=>0
 | n+1=>valR L n+L n*65536 ^ n
theorem valR_congr {L M:Nat→Int}:∀ n,(∀ j,j<n→L j=M j)→valR L n=valR M n
 | 0,_=>rfl
 | n+1,h=>by rw [valR,valR,valR_congr n (fun j hj=>h j (by omega)),h n (by omega)]
theorem valR_digits (L:Nat→Int):∀ n,valR (fun j=>(L j+cr L j)%65536) n+cr L n*65536 ^ n=valR L n
 | 0=>by simp [valR,cr]
 | n+1=>by
  have h:=valR_digits L n
  rw [valR,valR,cr,←h]
  have e:L n+cr L n=65536*((L n+cr L n) / 65536)+(L n+cr L n)%65536:=(Int.mul_ediv_add_emod _ _).symm
  have e2:(L n+cr L n)*65536 ^ n=(65536*((L n+cr L n) / 65536)+(L n+cr L n)%65536)*65536 ^ n:=congrArg (· * 65536 ^ n) e
  rw [Int.add_mul,Int.add_mul] at e2
  have e3:65536*((L n+cr L n) / 65536)*65536 ^ n=(L n+cr L n) / 65536*65536 ^ (n+1):=by
   rw [Int.pow_succ,Int.mul_comm 65536,Int.mul_assoc,Int.mul_comm 65536 (65536 ^ n)]
  omega
theorem valR_carry (L:Nat→Int):valR (carryL L) 16=valR L 16 - cr L 16*2*(pF:Int):=by
 have h:=valR_digits L 16
 have h1:∀ n,valR (carryL L) (n+1)=valR (fun j=>(L j+cr L j)%65536) (n+1)+38*cr L 16:=by
  intro n
  induction n with
  | zero =>
   simp only [valR,carryL,if_true,cr]
   simp
  | succ n ih =>
   rw [valR,ih]
   conv=>rhs;rw [valR]
   simp only [carryL,Nat.add_eq_zero_iff,Nat.one_ne_zero,and_false,if_false]
   omega
 have h2:valR (carryL L) 16=valR (fun j=>(L j+cr L j)%65536) 16+38*cr L 16:=h1 15
 have e:(65536:Int) ^ 16=2*(pF:Int)+38:=by decide
 have e2:cr L 16*(65536:Int) ^ 16=cr L 16*2*(pF:Int)+38*cr L 16:=by rw [e,Int.mul_add,Int.mul_assoc,Int.mul_comm (cr L 16) 38]
 rw [h2,←h,e2]
 generalize cr L 16*2*(pF:Int)=Y
 omega
theorem cr_bd (L:Nat→Int) (M:Int) (hM:2≤M) (h:∀ j,j<16→-M≤L j∧L j≤M):∀ i,i≤16→-M≤cr L i∧cr L i≤M
 | 0,_=>by simp [cr];omega
 | i+1,hi=>by
  have h1:=cr_bd L M hM h i (by omega)
  have h2:=h i (by omega)
  rw [cr];omega
theorem cr_bd2 (L:Nat→Int) (M:Int) (hM:2≤M) (h:∀ j,j<16→-M≤L j∧L j≤M) (i:Nat) (hi:i≤16):-(M / 32768) - 1≤cr L i∧cr L i≤M / 32768+1:=by
 cases i with
 | zero=>simp [cr];omega
 | succ i =>
  have h1:=cr_bd L M hM h i (by omega)
  have h2:=h i (by omega)
  rw [cr];omega
structure Dig (R:Int) (L:Nat→Int):Prop where
 low:-R≤L 0∧L 0≤R
 dig:∀ j,0<j→j<16→0≤L j∧L j≤65535
theorem Dig.all {R:Int} {L:Nat→Int} (h:Dig R L) (hR:65535≤R):∀ j,j<16→-R≤L j∧L j≤R:=fun j hj=>by
 by_cases e:j=0
 · rw [e];exact h.low
 · have:=h.dig j (by omega) hj;omega
theorem carry_dig (L:Nat→Int) (M:Int) (hM:2≤M) (h:∀ j,j<16→-M≤L j∧L j≤M):Dig (65535+38*(M / 32768+1)) (carryL L):=by
 have h1:=cr_bd2 L M hM h 16 (Nat.le_refl _)
 refine ⟨?_,fun j h0 hj => ?_⟩
 · unfold carryL;rw [if_pos rfl];omega
 · unfold carryL;rw [if_neg (by omega)];omega
theorem cr_small (L:Nat→Int) (h:Dig 9007199254740992 L):∀ i,4≤i→i≤16→-1≤cr L i∧cr L i≤1:=by
 have c1:-137438953472≤cr L 1∧cr L 1≤137438953472:=by
  have:=h.low
  show _≤(L 0+0) / 65536∧(L 0+0) / 65536≤_
  omega
 have c2:-2097152≤cr L 2∧cr L 2≤2097153:=by
  have:=h.dig 1 (by decide) (by decide)
  show _≤(L 1+cr L 1) / 65536∧(L 1+cr L 1) / 65536≤_
  omega
 have c3:-33≤cr L 3∧cr L 3≤33:=by
  have:=h.dig 2 (by decide) (by decide)
  show _≤(L 2+cr L 2) / 65536∧(L 2+cr L 2) / 65536≤_
  omega
 intro i h4 hi
 induction i with
 | zero=>omega
 | succ i ih =>
  have hd:=h.dig i (by omega) (by omega)
  rw [cr]
  by_cases e:i=3
  · subst e;omega
  · have:=ih (by omega) (by omega);omega
theorem carry_fine (L:Nat→Int) (h:Dig 9007199254740992 L):Dig 65573 (carryL L)∧-38≤carryL L 0:=by
 have h1:=cr_small L h 16 (by decide) (Nat.le_refl _)
 refine ⟨⟨?_,fun j h0 hj => ?_⟩,?_⟩
 · unfold carryL;rw [if_pos rfl];omega
 · unfold carryL;rw [if_neg (by omega)];omega
 · unfold carryL;rw [if_pos rfl];omega
def Nrm (L:Nat→Int):Prop:=∀ j,j<16→0≤L j∧L j≤65535
theorem carry_nrm (L:Nat→Int) (h:Dig 65573 L) (h0:-38≤L 0):Nrm (carryL L):=by
 have key:∀ i,1≤i→i≤16→(cr L i=0∨cr L i=cr L 1):=by
  intro i h1 hi
  have c1:cr L 1=(L 0+0) / 65536:=rfl
  have hl:=h.low
  induction i with
  | zero=>omega
  | succ i ih =>
   by_cases e:i=0
   · subst e;exact .inr rfl
   · have hd:=h.dig i (by omega) (by omega)
     rw [cr]
     rcases ih (by omega) (by omega) with e2 | e2 <;> rw [e2] <;> omega
 intro j hj
 by_cases e:j=0
 · subst e
   unfold carryL;rw [if_pos rfl]
   have c1:cr L 1=(L 0+0) / 65536:=rfl
   have hl:=h.low
   rcases key 16 (by decide) (Nat.le_refl _) with e2 | e2 <;> rw [e2] <;> omega
 · unfold carryL;rw [if_neg e];omega
end Go.Proofs.YtibdhadbflfdpaaGreatDoor
namespace Go.Proofs.YtibdhadbflfdpaaGreatDoor
open Go.RowKit
structure NumAt (w:World) (b n:Nat):Prop where
 c0:w.cell? ⟨b,0,none⟩=some (.int .u64 (lw n 0))
 c1:w.cell? ⟨b,1,none⟩=some (.int .u64 (lw n 1))
 c2:w.cell? ⟨b,2,none⟩=some (.int .u64 (lw n 2))
 c3:w.cell? ⟨b,3,none⟩=some (.int .u64 (lw n 3))
theorem NumAt.lt {w:World} {b n:Nat} (h:NumAt w b n):b<w.heap.size:=block_lt_of_cell h.c0
theorem NumAt.below {w w':World} {b n B:Nat} (h:NumAt w b n) (hb:Below B w w') (hB:b<B):NumAt w' b n :=
 ⟨(hb.cell (p:=⟨b,0,none⟩) hB).trans h.c0,(hb.cell (p:=⟨b,1,none⟩) hB).trans h.c1,(hb.cell (p:=⟨b,2,none⟩) hB).trans h.c2,(hb.cell (p:=⟨b,3,none⟩) hB).trans h.c3⟩
theorem NumAt.ex {w:World} {b n:Nat} (h:NumAt w b n) (hn:n<pF):∃ x0 x1 x2 x3:Nat,x0<18446744073709551616∧x1<18446744073709551616∧x2<18446744073709551616∧x3<18446744073709551616∧val4 x0 x1 x2 x3=n∧w.cell? ⟨b,0,none⟩=some (.int .u64 x0)∧w.cell? ⟨b,1,none⟩=some (.int .u64 x1)∧w.cell? ⟨b,2,none⟩=some (.int .u64 x2)∧w.cell? ⟨b,3,none⟩=some (.int .u64 x3) :=
 ⟨lw n 0,lw n 1,lw n 2,lw n 3,lw_lt _ _,lw_lt _ _,lw_lt _ _,lw_lt _ _,lw_val n (by unfold pF at hn;omega),h.c0,h.c1,h.c2,h.c3⟩
theorem numV_ex (n:Nat):∃ x0 x1 x2 x3:Nat,numV n = .agg #[.int .u64 x0,.int .u64 x1,.int .u64 x2,.int .u64 x3]:=⟨_,_,_,_,rfl⟩
theorem there_below {W w1:World} {b o n:Nat} (h:W.there b o n) (hb:Below W.heap.size W w1) (hl:b<W.heap.size):w1.there b o n:=fun j hj=>by
 rw [hb.cell (p:=⟨b,o+j,none⟩) hl,hb.frozen (p:=⟨b,o+j,none⟩) hl];exact h j hj
theorem there_fresh4 (w:World) (a b c d:Value) (t:TypeId):(w.alloc (.cells #[a,b,c,d] t)).there w.heap.size 0 4:=fun j hj=>by
 match j,hj with
 | 0,_=>simp
 | 1,_=>simp
 | 2,_=>simp
 | 3,_=>simp
theorem behind {w w1:World} {a b c d:Value} {t:TypeId} {n:Nat} (h:Below ((w.alloc (.cells #[a,b,c,d] t)).drewN n).heap.size ((w.alloc (.cells #[a,b,c,d] t)).drewN n) w1):w1.there w.heap.size 0 4∧Below w.heap.size w w1 ∧
 (w1.cell? ⟨w.heap.size,0,none⟩=some a∧w1.cell? ⟨w.heap.size,1,none⟩=some b∧w1.cell? ⟨w.heap.size,2,none⟩=some c∧w1.cell? ⟨w.heap.size,3,none⟩=some d)∧∀ j,j<4→w1.frozen? ⟨w.heap.size,j,none⟩=false:=by
 have hs:w.heap.size<((w.alloc (.cells #[a,b,c,d] t)).drewN n).heap.size:=by simp
 have ht:=there_below (W:=(w.alloc (.cells #[a,b,c,d] t)).drewN n) (fun j hj=>there_fresh4 w a b c d t j hj) h hs
 have hr:=range_fresh4 w a b c d t
 refine ⟨ht,(below_drewN ((Below.refl w.heap.size w).alloc (Nat.le_refl _) (.cells #[a,b,c,d] t)) n).trans (h.mono (Nat.le_of_lt hs)),⟨?_,?_,?_,?_⟩,fun j hj=>by have:=(ht j hj).2;rwa [Nat.zero_add] at this⟩
 · exact (h.cell (p:=⟨w.heap.size,0,none⟩) hs).trans (hr 0 a rfl)
 · exact (h.cell (p:=⟨w.heap.size,1,none⟩) hs).trans (hr 1 b rfl)
 · exact (h.cell (p:=⟨w.heap.size,2,none⟩) hs).trans (hr 2 c rfl)
 · exact (h.cell (p:=⟨w.heap.size,3,none⟩) hs).trans (hr 3 d rfl)
theorem behind' {w w1:World} {a b c d:Value} {t:TypeId} (h:Below (w.alloc (.cells #[a,b,c,d] t)).heap.size (w.alloc (.cells #[a,b,c,d] t)) w1):w1.there w.heap.size 0 4∧Below w.heap.size w w1 ∧
 (w1.cell? ⟨w.heap.size,0,none⟩=some a∧w1.cell? ⟨w.heap.size,1,none⟩=some b∧w1.cell? ⟨w.heap.size,2,none⟩=some c∧w1.cell? ⟨w.heap.size,3,none⟩=some d)∧∀ j,j<4→w1.frozen? ⟨w.heap.size,j,none⟩=false:=behind (n:=0) h
theorem results_set4 {P:Program} {fn:Func} {p:Tmp} {ty:TypeId} (h:fn.results=#[.cell p ty]) (tmps:Array Value) (w:World) (g:Nat) (a b c d:Value) {D:TypeDesc} (ht:w.there g 0 4)
 (hp:tmps.getD p undef = .pointer (some ⟨g,0,none⟩)) (hu:P.underlying ty=some D) (hd:D.isRow=true) (hi:(P.info? ty).map (·.size)=some 4) :
 (results fn tmps).run P ((((w.setCell ⟨g,0,none⟩ a).setCell ⟨g,1,none⟩ b).setCell ⟨g,2,none⟩ c).setCell ⟨g,3,none⟩ d) = .ok (.agg #[a,b,c,d]) ((((w.setCell ⟨g,0,none⟩ a).setCell ⟨g,1,none⟩ b).setCell ⟨g,2,none⟩ c).setCell ⟨g,3,none⟩ d) :=
 results_cell_mid h tmps _ g 0 [a,b,c,d] D hp (World.rangeAt_setCells_same w g 0 [a,b,c,d] ht) hu hd hi
theorem below_set4 {B:Nat} {u w:World} {g:Nat} (h:Below B u w) (hg:B≤g) (a b c d:Value):Below B u ((((w.setCell ⟨g,0,none⟩ a).setCell ⟨g,1,none⟩ b).setCell ⟨g,2,none⟩ c).setCell ⟨g,3,none⟩ d) :=
 (((h.setCell hg a).setCell hg b).setCell hg c).setCell hg d
set_option maxRecDepth 20000 in
set_option maxHeartbeats 2000000 in
theorem sum_any (p q x y:Nat) (hx:x<pF) (hy:y<pF) (w:World) (hp:NumAt w p x) (hq:NumAt w q y) :
 Calls Tryz.prog 220 #[.pointer (some ⟨p,0,none⟩),.pointer (some ⟨q,0,none⟩)] w fun e w'=>e = .returned (numV ((x+y)%pF))∧Below w.heap.size w w':=by
 have hpl:=hp.lt
 have hql:=hq.lt
 obtain ⟨x0,x1,x2,x3,hx0,hx1,hx2,hx3,ex,p0,p1,p2,p3⟩:=hp.ex hx
 obtain ⟨y0,y1,y2,y3,hy0,hy1,hy2,hy3,ey,q0,q1,q2,q3⟩:=hq.ex hy
 obtain ⟨s0,k0,hs0,hk0,e0,r0⟩:=add64_ex0 x0 y0 hx0 hy0
 obtain ⟨s1,k1,hs1,hk1,e1,r1⟩:=add64_ex x1 y1 k0 hx1 hy1 hk0
 obtain ⟨s2,k2,hs2,hk2,e2,r2⟩:=add64_ex x2 y2 k1 hx2 hy2 hk1
 obtain ⟨s3,k3,hs3,hk3,e3,r3⟩:=add64_ex x3 y3 k2 hx3 hy3 hk2
 have hv:val4 s0 s1 s2 s3+115792089237316195423570985008687907853269984665640564039457584007913129639936*k3=x+y:=by
  rw [←ex,←ey];unfold val4;omega
 have hset:=fun W=>settle_any s0 s1 s2 s3 k3 hs0 hs1 hs2 hs3 (by omega) W
 rw [hv] at hset
 obtain ⟨N,hN⟩:∃ N,N=(x+y)%pF:=⟨_,rfl⟩
 rw [←hN] at hset ⊢
 obtain ⟨z0,z1,z2,z3,hz⟩:=numV_ex N
 rw [hz] at hset ⊢
 clear ex ey hp hq e0 e1 e2 e3 hv hN hz
 go_enter Tryz.func220,Tryz.ntmps220
 go_wp2
 go_quiet (first | rw [r0])
 go_wp2
 go_quiet (first | rw [r1])
 go_wp2
 go_quiet (first | rw [r2])
 go_wp2
 go_quiet (first | rw [r3])
 go_wp2_with (go_at_call 211;refine (hset _).mono ?_;clear hset;rintro e w1 ⟨rfl,hb1⟩;(obtain ⟨ht1,hbw,⟨t0,t1,t2,t3⟩,hf⟩:=behind hb1);(have f0:=hf 0 (by decide));(have f1:=hf 1 (by decide));(have f2:=hf 2 (by decide));(have f3:=hf 3 (by decide));clear hb1 hf)
 (try simp only [Exit.inBlock,Exit.then])
 exact bodyPost_ret (results_set4 Tryz.results220 _ _ _ _ _ _ _ ht1 rfl Tryz.underlying73 rfl (by kernel_rfl)) rfl ⟨rfl,below_set4 hbw (Nat.le_refl _) _ _ _ _⟩
theorem diff_val (x y D E k u:Nat) (hx:x<pF) (hy:y<pF) (hk:k≤1) (_hu:u≤1) (hD:D+y=x+115792089237316195423570985008687907853269984665640564039457584007913129639936*k) (hDl:D<115792089237316195423570985008687907853269984665640564039457584007913129639936) (hE:E+19*k=D+115792089237316195423570985008687907853269984665640564039457584007913129639936*u) (_hEl:E<115792089237316195423570985008687907853269984665640564039457584007913129639936) :
 E%57896044618658097711785492504343953926634992332820282019728792003956564819968=(x+pF - y)%pF:=by
 unfold pF at *
 have h:k=0∨k=1:=by omega
 rcases h with rfl | rfl <;> omega
theorem val4_mask (a b c d:Nat) (ha:a<18446744073709551616) (hb:b<18446744073709551616) (hc:c<18446744073709551616):val4 a b c (d%9223372036854775808)=val4 a b c d%57896044618658097711785492504343953926634992332820282019728792003956564819968:=by
 unfold val4;omega
set_option maxRecDepth 20000 in
set_option maxHeartbeats 2000000 in
theorem difference_any (p q x y:Nat) (hx:x<pF) (hy:y<pF) (w:World) (hp:NumAt w p x) (hq:NumAt w q y) :
 Calls Tryz.prog 176 #[.pointer (some ⟨p,0,none⟩),.pointer (some ⟨q,0,none⟩)] w fun e w'=>e = .returned (numV ((x+pF - y)%pF))∧Below w.heap.size w w':=by
 have hpl:=hp.lt
 have hql:=hq.lt
 obtain ⟨x0,x1,x2,x3,hx0,hx1,hx2,hx3,ex,p0,p1,p2,p3⟩:=hp.ex hx
 obtain ⟨y0,y1,y2,y3,hy0,hy1,hy2,hy3,ey,q0,q1,q2,q3⟩:=hq.ex hy
 obtain ⟨s0,k0,hs0,hk0,e0,r0⟩:=sub64_ex0 x0 y0 hx0 hy0
 obtain ⟨s1,k1,hs1,hk1,e1,r1⟩:=sub64_ex x1 y1 k0 hx1 hy1 hk0
 obtain ⟨s2,k2,hs2,hk2,e2,r2⟩:=sub64_ex x2 y2 k1 hx2 hy2 hk1
 obtain ⟨s3,k3,hs3,hk3,e3,r3⟩:=sub64_ex x3 y3 k2 hx3 hy3 hk2
 obtain ⟨kk,hkk⟩:∃ kk,kk=19*k3:=⟨_,rfl⟩
 have okk:(19:Int)*(k3:Int)=(kk:Int):=by omega
 obtain ⟨u0,j0,hu0,hj0,g0,r4⟩:=sub64_ex0 s0 kk hs0 (by omega)
 obtain ⟨u1,j1,hu1,hj1,g1,r5⟩:=sub64_exz s1 j0 hs1 hj0
 obtain ⟨u2,j2,hu2,hj2,g2,r6⟩:=sub64_exz s2 j1 hs2 hj1
 obtain ⟨u3,j3,hu3,hj3,g3,r7⟩:=sub64_exz s3 j2 hs3 hj2
 have hv:=diff_val x y (val4 s0 s1 s2 s3) (val4 u0 u1 u2 u3) k3 j3 hx hy hk3 hj3 (by rw [←ex,←ey];unfold val4;omega) (val4_lt _ _ _ _ hs0 hs1 hs2 hs3) (by unfold val4;omega) (val4_lt _ _ _ _ hu0 hu1 hu2 hu3)
 rw [←val4_mask _ _ _ _ hu0 hu1 hu2] at hv
 have o3:=mask63 u3 hu3
 obtain ⟨ml,hml⟩:∃ ml,ml=u3%9223372036854775808:=⟨_,rfl⟩
 rw [←hml] at o3 hv
 have fin:=Hid.mk' (numV_of ((x+pF - y)%pF) u0 u1 u2 ml hu0 hu1 hu2 (by omega) hv)
 obtain ⟨N,hN⟩:∃ N,N=(x+pF - y)%pF:=⟨_,rfl⟩
 rw [←hN] at fin ⊢
 clear ex ey hp hq e0 e1 e2 e3 g0 g1 g2 g3 hv hN hml hkk
 go_enter Tryz.func176,Tryz.ntmps176
 go_wp2
 go_quiet (first | rw [r0])
 go_wp2
 go_quiet (first | rw [r1])
 go_wp2
 go_quiet (first | rw [r2])
 go_wp2
 go_quiet (first | rw [r3])
 go_wp2_with (first | rw [r4] | rw [r5] | rw [r6] | rw [r7])
 (try simp only [Exit.inBlock,Exit.then])
 exact bodyPost_ret (results_set4 Tryz.results176 _ _ _ _ _ _ _ (fun j hj=>there_fresh4 w _ _ _ _ _ j hj) rfl Tryz.underlying73 rfl (by kernel_rfl)) rfl ⟨by rw [fin.out],below_set4 (below_drewN ((Below.refl w.heap.size w).alloc (Nat.le_refl _) _) _) (Nat.le_refl _) _ _ _ _⟩
theorem row_mul (x a b c d:Nat):x*val4 a b c d=x*a+18446744073709551616*(x*b)+340282366920938463463374607431768211456*(x*c)+6277101735386680763835789423207666416102355444464034512896*(x*d):=by
 unfold val4
 rw [Nat.mul_add,Nat.mul_add,Nat.mul_add,Nat.mul_left_comm x,Nat.mul_left_comm x,Nat.mul_left_comm x]
set_option maxRecDepth 20000 in
set_option maxHeartbeats 2000000 in
theorem addRow_any (t0 t1 t2 t3 x y0 y1 y2 y3:Nat) (ht0:t0<18446744073709551616) (ht1:t1<18446744073709551616) (ht2:t2<18446744073709551616) (ht3:t3<18446744073709551616) (hx:x<18446744073709551616) (hy0:y0<18446744073709551616) (hy1:y1<18446744073709551616) (hy2:y2<18446744073709551616) (hy3:y3<18446744073709551616) :
 ∃ r0 r1 r2 r3 r4:Nat,r0<18446744073709551616∧r1<18446744073709551616∧r2<18446744073709551616∧r3<18446744073709551616∧r4<18446744073709551616∧r0+18446744073709551616*val4 r1 r2 r3 r4=val4 t0 t1 t2 t3+x*val4 y0 y1 y2 y3 ∧
 ∀ (w:World) (q:Nat),w.cell? ⟨q,0,none⟩=some (.int .u64 y0)→w.cell? ⟨q,1,none⟩=some (.int .u64 y1)→w.cell? ⟨q,2,none⟩=some (.int .u64 y2)→w.cell? ⟨q,3,none⟩=some (.int .u64 y3) →
  Calls Tryz.prog 209 #[.int .u64 t0,.int .u64 t1,.int .u64 t2,.int .u64 t3,.int .u64 x,.pointer (some ⟨q,0,none⟩)] w fun e w'=>e = .returned (.tuple #[.int .u64 r0,.int .u64 r1,.int .u64 r2,.int .u64 r3,.int .u64 r4])∧w'=w:=by
 obtain ⟨l0,h0,hl0,hh0,e0,r0⟩:=addProduct_any t0 x y0 0 ht0 hx hy0 (by decide)
 obtain ⟨l1,h1,hl1,hh1,e1,r1⟩:=addProduct_any t1 x y1 h0 ht1 hx hy1 hh0
 obtain ⟨l2,h2,hl2,hh2,e2,r2⟩:=addProduct_any t2 x y2 h1 ht2 hx hy2 hh1
 obtain ⟨l3,h3,hl3,hh3,e3,r3⟩:=addProduct_any t3 x y3 h2 ht3 hx hy3 hh2
 refine ⟨l0,l1,l2,l3,h3,hl0,hl1,hl2,hl3,hh3,by rw [row_mul x];unfold val4;omega,fun w q q0 q1 q2 q3 => ?_⟩
 have c0:Calls Tryz.prog 210 #[.int .u64 t0,.int .u64 x,.int .u64 y0,.int .u64 0] w fun e w'=>e = .returned (.tuple #[.int .u64 l0,.int .u64 h0])∧w'=w:=r0 w
 have c1:=r1 w
 have c2:=r2 w
 have c3:=r3 w
 clear e0 e1 e2 e3 r0 r1 r2 r3
 go_enter Tryz.func209,Tryz.ntmps209
 go_wp2_with (first
  | (go_at_call 210;refine c0.mono ?_;clear c0;rintro e w' ⟨rfl,hw⟩;subst hw)
  | (go_at_call 210;refine c1.mono ?_;clear c1;rintro e w' ⟨rfl,hw⟩;subst hw)
  | (go_at_call 210;refine c2.mono ?_;clear c2;rintro e w' ⟨rfl,hw⟩;subst hw)
  | (go_at_call 210;refine c3.mono ?_;clear c3;rintro e w' ⟨rfl,hw⟩;subst hw))
 (try simp only [Exit.inBlock,Exit.then])
 exact bodyPost_ret (results_tmp5 Tryz.results209 _ _ _) rfl ⟨rfl,rfl⟩
theorem prod_val (X Y a0 a1 a2 a3:Nat) (hX:val4 a0 a1 a2 a3=X) (w0 w1 w2 w3 A B C H:Nat) (e0:w0+18446744073709551616*A=a0*Y) (e1:w1+18446744073709551616*B=A+a1*Y) (e2:w2+18446744073709551616*C=B+a2*Y) (e3:w3+18446744073709551616*H=C+a3*Y) :
 val4 w0 w1 w2 w3+115792089237316195423570985008687907853269984665640564039457584007913129639936*H=X*Y:=by
 have h:X*Y=a0*Y+18446744073709551616*(a1*Y)+340282366920938463463374607431768211456*(a2*Y)+6277101735386680763835789423207666416102355444464034512896*(a3*Y):=by
  rw [←hX];unfold val4
  rw [Nat.add_mul,Nat.add_mul,Nat.add_mul,Nat.mul_assoc,Nat.mul_assoc,Nat.mul_assoc]
 rw [h];unfold val4;omega
theorem fold_val (W H V c XY:Nat) (h:W+115792089237316195423570985008687907853269984665640564039457584007913129639936*H=XY) (hv:V+115792089237316195423570985008687907853269984665640564039457584007913129639936*c=W+38*H) :
 (V+115792089237316195423570985008687907853269984665640564039457584007913129639936*c)%pF=XY%pF:=by
 have e:XY=W+38*H+pF*(2*H):=by unfold pF;omega
 rw [hv,e,Nat.add_mul_mod_self_left]
set_option maxRecDepth 20000 in
set_option maxHeartbeats 2000000 in
theorem product_any (p q x y:Nat) (hx:x<pF) (hy:y<pF) (w:World) (hp:NumAt w p x) (hq:NumAt w q y) :
 Calls Tryz.prog 161 #[.pointer (some ⟨p,0,none⟩),.pointer (some ⟨q,0,none⟩)] w fun e w'=>e = .returned (numV (x*y%pF))∧Below w.heap.size w w':=by
 have hpl:=hp.lt
 have hql:=hq.lt
 obtain ⟨x0,x1,x2,x3,hx0,hx1,hx2,hx3,ex,p0,p1,p2,p3⟩:=hp.ex hx
 obtain ⟨y0,y1,y2,y3,hy0,hy1,hy2,hy3,ey,q0,q1,q2,q3⟩:=hq.ex hy
 obtain ⟨w0,a0,a1,a2,a3,hw0,ha0,ha1,ha2,ha3,e0,r0⟩:=addRow_any 0 0 0 0 x0 y0 y1 y2 y3 (by decide) (by decide) (by decide) (by decide) hx0 hy0 hy1 hy2 hy3
 obtain ⟨w1,b0,b1,b2,b3,hw1,hb0,hb1,hb2,hb3,e1,r1⟩:=addRow_any a0 a1 a2 a3 x1 y0 y1 y2 y3 ha0 ha1 ha2 ha3 hx1 hy0 hy1 hy2 hy3
 obtain ⟨w2,c0,c1,c2,c3,hw2,hc0,hc1,hc2,hc3,e2,r2⟩:=addRow_any b0 b1 b2 b3 x2 y0 y1 y2 y3 hb0 hb1 hb2 hb3 hx2 hy0 hy1 hy2 hy3
 obtain ⟨w3,d0,d1,d2,d3,hw3,hd0,hd1,hd2,hd3,e3,r3⟩:=addRow_any c0 c1 c2 c3 x3 y0 y1 y2 y3 hc0 hc1 hc2 hc3 hx3 hy0 hy1 hy2 hy3
 obtain ⟨v0,k0,hv0,hk0,g0,r4⟩:=addProduct_any w0 d0 38 0 hw0 hd0 (by decide) (by decide)
 obtain ⟨v1,k1,hv1,hk1,g1,r5⟩:=addProduct_any w1 d1 38 k0 hw1 hd1 (by decide) hk0
 obtain ⟨v2,k2,hv2,hk2,g2,r6⟩:=addProduct_any w2 d2 38 k1 hw2 hd2 (by decide) hk1
 obtain ⟨v3,k3,hv3,hk3,g3,r7⟩:=addProduct_any w3 d3 38 k2 hw3 hd3 (by decide) hk2
 rw [ey] at e0 e1 e2 e3
 have hz:val4 0 0 0 0=0:=rfl
 rw [hz,Nat.zero_add] at e0
 have hprod:=prod_val x y x0 x1 x2 x3 ex w0 w1 w2 w3 _ _ _ _ e0 e1 e2 e3
 have hfold:val4 v0 v1 v2 v3+115792089237316195423570985008687907853269984665640564039457584007913129639936*k3=val4 w0 w1 w2 w3+38*val4 d0 d1 d2 d3:=by unfold val4;omega
 have hk38:k3≤38:=by
  have h1:=val4_lt w0 w1 w2 w3 hw0 hw1 hw2 hw3
  have h2:=val4_lt d0 d1 d2 d3 hd0 hd1 hd2 hd3
  omega
 have hset:=fun W=>settle_any v0 v1 v2 v3 k3 hv0 hv1 hv2 hv3 hk38 W
 rw [fold_val _ _ _ _ _ hprod hfold] at hset
 obtain ⟨N,hN⟩:∃ N,N=x*y%pF:=⟨_,rfl⟩
 rw [←hN] at hset ⊢
 obtain ⟨z0,z1,z2,z3,hz⟩:=numV_ex N
 rw [hz] at hset ⊢
 have m0:∀ W:World,W.cell? ⟨q,0,none⟩=some (.int .u64 y0)→W.cell? ⟨q,1,none⟩=some (.int .u64 y1)→W.cell? ⟨q,2,none⟩=some (.int .u64 y2)→W.cell? ⟨q,3,none⟩=some (.int .u64 y3)→Calls Tryz.prog 209 #[.int .u64 0,.int .u64 0,.int .u64 0,.int .u64 0,.int .u64 x0,.pointer (some ⟨q,0,none⟩)] W fun e w'=>e = .returned (.tuple #[.int .u64 w0,.int .u64 a0,.int .u64 a1,.int .u64 a2,.int .u64 a3])∧w'=W:=fun W=>r0 W q
 have m4:∀ W:World,Calls Tryz.prog 210 #[.int .u64 w0,.int .u64 d0,.int .u64 38,.int .u64 0] W fun e w'=>e = .returned (.tuple #[.int .u64 v0,.int .u64 k0])∧w'=W:=fun W=>r4 W
 have m5:∀ W:World,Calls Tryz.prog 210 #[.int .u64 w1,.int .u64 d1,.int .u64 38,.int .u64 k0] W fun e w'=>e = .returned (.tuple #[.int .u64 v1,.int .u64 k1])∧w'=W:=fun W=>r5 W
 have m6:∀ W:World,Calls Tryz.prog 210 #[.int .u64 w2,.int .u64 d2,.int .u64 38,.int .u64 k1] W fun e w'=>e = .returned (.tuple #[.int .u64 v2,.int .u64 k2])∧w'=W:=fun W=>r6 W
 have m7:∀ W:World,Calls Tryz.prog 210 #[.int .u64 w3,.int .u64 d3,.int .u64 38,.int .u64 k2] W fun e w'=>e = .returned (.tuple #[.int .u64 v3,.int .u64 k3])∧w'=W:=fun W=>r7 W
 obtain ⟨W,hW⟩:∃ W,W=w.alloc (.cells #[.int .u64 0,.int .u64 0,.int .u64 0,.int .u64 0] 73):=⟨_,rfl⟩
 have HW:=Hid.mk' hW
 have hbw:Below w.heap.size w W:=by rw [hW];exact (Below.refl _ _).alloc (Nat.le_refl _) _
 have Q0:=(hbw.cell (p:=⟨q,0,none⟩) hql).trans q0
 have Q1:=(hbw.cell (p:=⟨q,1,none⟩) hql).trans q1
 have Q2:=(hbw.cell (p:=⟨q,2,none⟩) hql).trans q2
 have Q3:=(hbw.cell (p:=⟨q,3,none⟩) hql).trans q3
 have P0:=(hbw.cell (p:=⟨p,0,none⟩) hpl).trans p0
 have P1:=(hbw.cell (p:=⟨p,1,none⟩) hpl).trans p1
 have P2:=(hbw.cell (p:=⟨p,2,none⟩) hpl).trans p2
 have P3:=(hbw.cell (p:=⟨p,3,none⟩) hpl).trans p3
 replace m0:=m0 W Q0 Q1 Q2 Q3
 have m1:=r1 W q Q0 Q1 Q2 Q3
 have m2:=r2 W q Q0 Q1 Q2 Q3
 have m3:=r3 W q Q0 Q1 Q2 Q3
 clear ex ey hp hq e0 e1 e2 e3 g0 g1 g2 g3 hprod hfold hN hz r0 r1 r2 r3 r4 r5 r6 r7 p1 p2 p3 q0 q1 q2 q3 P0 hW
 go_enter Tryz.func161,Tryz.ntmps161
 go_wp2_with (first
  | (go_at_call 209;rw [←HW.out];refine m0.mono ?_;clear m0;rintro e w' ⟨rfl,hw⟩;subst hw)
  | (go_at_call 209;refine m1.mono ?_;clear m1;rintro e w' ⟨rfl,hw⟩;subst hw)
  | (go_at_call 209;refine m2.mono ?_;clear m2;rintro e w' ⟨rfl,hw⟩;subst hw)
  | (go_at_call 209;refine m3.mono ?_;clear m3;rintro e w' ⟨rfl,hw⟩;subst hw)
  | (go_at_call 210;refine (m4 _).mono ?_;clear m4;rintro e w' ⟨rfl,hw⟩;subst hw)
  | (go_at_call 210;refine (m5 _).mono ?_;clear m5;rintro e w' ⟨rfl,hw⟩;subst hw)
  | (go_at_call 210;refine (m6 _).mono ?_;clear m6;rintro e w' ⟨rfl,hw⟩;subst hw)
  | (go_at_call 210;refine (m7 _).mono ?_;clear m7;rintro e w' ⟨rfl,hw⟩;subst hw)
  | (go_at_call 211;refine (hset _).mono ?_;clear hset;rintro e w9 ⟨rfl,hb9⟩;rw [HW.out] at hb9;(obtain ⟨ht1,hbw9,⟨t0,t1,t2,t3⟩,hf⟩:=behind' hb9);(have f0:=hf 0 (by decide));(have f1:=hf 1 (by decide));(have f2:=hf 2 (by decide));(have f3:=hf 3 (by decide));clear hb9 hf))
 (try simp only [Exit.inBlock,Exit.then])
 exact bodyPost_ret (results_set4 Tryz.results161 _ _ _ _ _ _ _ ht1 rfl Tryz.underlying73 rfl (by kernel_rfl)) rfl ⟨rfl,below_set4 hbw9 (Nat.le_refl _) _ _ _ _⟩
end Go.Proofs.YtibdhadbflfdpaaGreatDoor
