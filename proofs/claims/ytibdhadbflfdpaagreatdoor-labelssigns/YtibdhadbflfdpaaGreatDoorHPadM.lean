/- What the proof stands on: HPad, HSum, HTop. -/
import Derived.Test.YtibdhadbflfdpaaGreatDoorHMixM
import Derived.Test.YtibdhadbflfdpaaGreatDoorHStartM
import Derived.Test.YtibdhadbflfdpaaGreatDoorHWriteCM
import Derived.Deep.Cut
import Derived.Deep.RegionWith
namespace Go.Proofs.YtibdhadbflfdpaaGreatDoor
open Nat renaming le_refl → JW
open Nat renaming zero_add → J0
open Go renaming block_lt_of_cell → J5
open Go.RowKit
def br (r:Ru) (c:Nat):Nat:=1+(4*r.m - 1 - r.m / 4 - c%(2*r.m))%(2*r.m)+r.m / 4
def lV (N c:Nat):Nat→Nat→Nat
 | 0=>bK (fun _=>0) 0 128
 | i+1=>bK (lV N c i) (N - 1 - i) (c*8 / 2 ^ (8*i)%256)
def dk (r:Ru) (c:Nat):Nat→Nat:=lV (br r c) c 8
set_option maxRecDepth 20000 in
set_option maxHeartbeats 1000000 in
theorem pp (c:Nat) (hc:c<2305843009213693952) (w:World) :
 Calls Tryz.prog 187 #[(.agg #[.int .i64 32,.int .i64 64,.int .u64 7,.int .u64 18,.int .u64 3,.int .u64 17,.int .u64 19,.int .u64 10,.int .u64 2,.int .u64 13,.int .u64 22,.int .u64 6,.int .u64 11,.int .u64 25]),.int .i64 c] w fun e w'=>∃ g,e = .returned (.slice (some ⟨g,0,none⟩) (br rn c) (br rn c))∧w.heap.size≤g∧ah .u8 w' g 0 (br rn c) (dk rn c)∧Below w.heap.size w w':=by
 obtain ⟨N,hNe⟩:∃ N,N=br rn c:=⟨_,rfl⟩
 have HN:Hid (N=br rn c):=hNe
 have hN0:(1+(119 - (c:Int))%64+8)=(N:Int):=by
  have:N=1+(119 - c%64)%64+8:=hNe;omega
 have hN1:8+1≤N:=by omega
 have hN2:N≤200:=by omega
 clear hNe
 have hmk:=fun W=>cO W N _ hN0 (by omega)
 clear hN0;have hz0:=fO N 0 (by omega);go_enter Tryz.func187,Tryz.ntmps187;go_wp2_with (go_at_call 185;refine (cG _).mono ?_;rintro e w1 ⟨rfl,hb1⟩;simp only [World.size_alloc] at hb1;have hR:aY w1 w.heap.size:=aY.of_box hb1;have p0:=hR.1);clear hmk p0;go_loopw [41] (fun i wr=>∃ k:Nat,k≤8∧i = .int .i64 k∧ah .u8 wr w1.heap.size 0 N (lV N c k)∧Below w1.heap.size w1 wr) (fun i _=>8 - (intOf i).toNat)
 case atStart =>
  refine ⟨0,by decide,rfl,?_,?_⟩
  · have h1:=(ah.fresh (K := .u8) (w:=w1) (cs:=zb N) (t:=5) (n:=N) (X:=fun _=>0) (fun j hj=>fO N j hj)).set (i:=0) (by omega) (v:=128) (u:=128) rfl
    rw [J0,World.setCell_alloc_at _ _ _ _ _ rfl] at h1;exact h1
  · exact (Below.refl _ _).alloc (JW _) _
 case round =>
  obtain ⟨k,hk,rfl,hrow,hbel⟩:=hrel
  by_cases hlt:k<8
  · obtain ⟨r1,r2⟩:=hrow (N - 1 - k) (by omega)
    rw [J0] at r1 r2
    obtain ⟨q,hq⟩:∃ q,q=N - 1 - k:=⟨_,rfl⟩
    rw [←hq] at r1 r2;have HQ:Hid (q=N - 1 - k):=hq
    have hqi:(N:Int) - 1 - k=(q:Int):=by omega
    have hqn:q<N:=by omega
    clear hq;go_wp2;go_roundw
    case rel =>
     have h1:=hrow.set (i:=q) hqn (v:=(c:Int)*8 / 2 ^ (8*k)%256) (u:=c*8 / 2 ^ (8*k)%256) (by simp);rw [J0,HQ.out] at h1;rw [HQ.out];exact ⟨k+1,by omega,by go_num,h1,hbel.setCell (JW _) _⟩
    case measure=>simp [intOf];omega
  · have hke:k=8:=by omega
    subst hke
    have hg:w.heap.size≤w1.heap.size:=by have:=hb1.size;simp only [World.size_alloc] at this;omega
    have hbw:Below w.heap.size w wr:=((Below.refl _ _).alloc (JW _) _).trans ((hb1.mono (by omega)).trans (hbel.mono hg))
    have hrow8:ah .u8 wr w1.heap.size 0 (br rn c) (dk rn c):=by
     show ah .u8 wr w1.heap.size 0 (br rn c) (lV (br rn c) c 8);rw [←HN.out];exact hrow
    clear hrow;go_wp2;go_ret;exact ⟨w1.heap.size,by rw [←HN.out];rfl,hg,hrow8,hbw⟩
set_option maxRecDepth 20000 in
set_option maxHeartbeats 1000000 in
theorem pI (c:Nat) (hc:c<2305843009213693952) (w:World) :
 Calls Tryz.prog 187 #[(.agg #[.int .i64 64,.int .i64 80,.int .u64 1,.int .u64 8,.int .u64 7,.int .u64 19,.int .u64 61,.int .u64 6,.int .u64 28,.int .u64 34,.int .u64 39,.int .u64 14,.int .u64 18,.int .u64 41]),.int .i64 c] w fun e w'=>∃ g,e = .returned (.slice (some ⟨g,0,none⟩) (br aA c) (br aA c))∧w.heap.size≤g∧ah .u8 w' g 0 (br aA c) (dk aA c)∧Below w.heap.size w w':=by
 obtain ⟨N,hNe⟩:∃ N,N=br aA c:=⟨_,rfl⟩
 have HN:Hid (N=br aA c):=hNe
 have hN0:(1+(239 - (c:Int))%128+16)=(N:Int):=by
  have:N=1+(239 - c%128)%128+16:=hNe;omega
 have hN1:16+1≤N:=by omega
 have hN2:N≤200:=by omega
 clear hNe
 have hmk:=fun W=>cO W N _ hN0 (by omega)
 clear hN0;have hz0:=fO N 0 (by omega);go_enter Tryz.func187,Tryz.ntmps187;go_wp2_with (go_at_call 185;refine (cC _).mono ?_;rintro e w1 ⟨rfl,hb1⟩;simp only [World.size_alloc] at hb1;have hR:aZ w1 w.heap.size:=aZ.of_box hb1;have p0:=hR.1);clear hmk p0;go_loopw [41] (fun i wr=>∃ k:Nat,k≤8∧i = .int .i64 k∧ah .u8 wr w1.heap.size 0 N (lV N c k)∧Below w1.heap.size w1 wr) (fun i _=>8 - (intOf i).toNat)
 case atStart =>
  refine ⟨0,by decide,rfl,?_,?_⟩
  · have h1:=(ah.fresh (K := .u8) (w:=w1) (cs:=zb N) (t:=5) (n:=N) (X:=fun _=>0) (fun j hj=>fO N j hj)).set (i:=0) (by omega) (v:=128) (u:=128) rfl
    rw [J0,World.setCell_alloc_at _ _ _ _ _ rfl] at h1;exact h1
  · exact (Below.refl _ _).alloc (JW _) _
 case round =>
  obtain ⟨k,hk,rfl,hrow,hbel⟩:=hrel
  by_cases hlt:k<8
  · obtain ⟨r1,r2⟩:=hrow (N - 1 - k) (by omega)
    rw [J0] at r1 r2
    obtain ⟨q,hq⟩:∃ q,q=N - 1 - k:=⟨_,rfl⟩
    rw [←hq] at r1 r2;have HQ:Hid (q=N - 1 - k):=hq
    have hqi:(N:Int) - 1 - k=(q:Int):=by omega
    have hqn:q<N:=by omega
    clear hq;go_wp2;go_roundw
    case rel =>
     have h1:=hrow.set (i:=q) hqn (v:=(c:Int)*8 / 2 ^ (8*k)%256) (u:=c*8 / 2 ^ (8*k)%256) (by simp);rw [J0,HQ.out] at h1;rw [HQ.out];exact ⟨k+1,by omega,by go_num,h1,hbel.setCell (JW _) _⟩
    case measure=>simp [intOf];omega
  · have hke:k=8:=by omega
    subst hke
    have hg:w.heap.size≤w1.heap.size:=by have:=hb1.size;simp only [World.size_alloc] at this;omega
    have hbw:Below w.heap.size w wr:=((Below.refl _ _).alloc (JW _) _).trans ((hb1.mono (by omega)).trans (hbel.mono hg));obtain ⟨r1,r2⟩:=hrow (N - 9) (by omega);rw [J0] at r1 r2
    obtain ⟨q,hq⟩:∃ q,q=N - 9:=⟨_,rfl⟩
    rw [←hq] at r1 r2;have HQ:Hid (q=N - 9):=hq
    have hqi:(N:Int) - 9=(q:Int):=by omega
    have hqn:q<N:=by omega
    clear hq;go_wp2;go_ret
    have key:∀ v:Int,v=0→ah .u8 (wr.setCell ⟨w1.heap.size,q,none⟩ (.int .u8 v)) w1.heap.size 0 (br aA c) (dk aA c):=fun v hv=>by
     have h1:=hrow.set (i:=q) hqn (v:=v) (u:=0) hv;rw [J0] at h1;show ah .u8 _ w1.heap.size 0 (br aA c) (lV (br aA c) c 8);rw [←HN.out];refine h1.congr (fun j hj => ?_)
     by_cases e:j=q
     · have:=HQ.out
       simp only [lV,bK,e,if_true]
       repeat rw [if_neg (by omega)]
     · simp [bK,e]
    exact ⟨w1.heap.size,by rw [←HN.out];rfl,hg,key _ (by omega),hbw.setCell hg _⟩
def pN (r:Ru) (K:Nat→Nat) (s:St) (R:Nat→Nat) (c:Nat):St:=(a6 r K s R c (br r c) (dk r c)).1
def eD (m:Nat) (s:St) (j:Nat):Nat:=s.at (j / (m / 8)) / 2 ^ (m - 8 - j%(m / 8)*8)%256
def DG (m:Nat) (s:St):Nat→Nat→Nat
 | 0=>fun _=>0
 | k+1=>bK (DG m s k) k (eD m s k)
theorem sg (m:Nat) (s:St):∀ k j,j<k→DG m s k j=eD m s j
 | k+1,j,h=>by
  unfold DG bK
  by_cases e:j=k
  · rw [if_pos e,e]
  · rw [if_neg e];exact sg m s k j (by omega)
theorem kJ (r:Ru) (c:Nat):∀ j,dk r c j<256:=by
 suffices h:∀ N i j,lV N c i j<256 from h _ _
 intro N i
 induction i with
 | zero =>
  intro j;unfold lV bK;split
  · omega
  · exact Nat.zero_lt_succ _
 | succ i ih =>
  intro j;unfold lV bK;split
  · exact Nat.mod_lt _ (by decide)
  · exact ih j
theorem AU (c:Nat):br rn c≤200:=by
 show 1+(4*32 - 1 - 32 / 4 - c%(2*32))%(2*32)+32 / 4≤200;omega
set_option maxRecDepth 20000 in
set_option maxHeartbeats 1000000 in
theorem qs (K:Nat→Nat) (hK:∀ j,K j<18446744073709551616) (s:St) (hs:s.lt 4294967296) (R:Nat→Nat) (hR:∀ j,R j<256) (c:Nat) (hc:c<2305843009213693952) (w:World)
 (hcub:∀ j,j<80→w.cell? ⟨4,j,none⟩=some (.int .u64 (K j))) :
 Calls Tryz.prog 133 #[.agg (aH .u32 s R c).toArray,(.agg #[.int .i64 32,.int .i64 64,.int .u64 7,.int .u64 18,.int .u64 3,.int .u64 17,.int .u64 19,.int .u64 10,.int .u64 2,.int .u64 13,.int .u64 22,.int .u64 6,.int .u64 11,.int .u64 25])] w
  fun e w'=>∃ g,e = .returned (.slice (some ⟨g,0,none⟩) 32 32)∧w.heap.size≤g∧ah .u8 w' g 0 32 (eD 32 (pN rn K s R c))∧Below w.heap.size w w':=by
 have h3:4<w.heap.size:=J5 (hcub 0 (by decide))
 obtain ⟨W2,hW2⟩:∃ W2,W2=(w.alloc (.cells (aH .u32 s R c).toArray 154)).alloc (.cells #[.int .i64 32,.int .i64 64,.int .u64 7,.int .u64 18,.int .u64 3,.int .u64 17,.int .u64 19,.int .u64 10,.int .u64 2,.int .u64 13,.int .u64 22,.int .u64 6,.int .u64 11,.int .u64 25] 158):=⟨_,rfl⟩
 have hE:az .u32 W2 w.heap.size 0 s R c:=by rw [hW2];exact (az.fresh w s R c 154).below ((Below.refl _ _).alloc (JW _) _)
 have hRu:aY W2 (w.heap.size+1):=by
  have:=aY.of_box (W:=w.alloc (.cells (aH .u32 s R c).toArray 154)) (w1:=W2) (by rw [hW2];exact Below.refl _ _);rw [World.size_alloc] at this;exact this
 have hcub2:∀ j,j<80→W2.cell? ⟨4,j,none⟩=some (.int .u64 (K j)):=fun j hj=>by
  rw [hW2,World.cell?_alloc_lt _ _ _ (by simp;omega),World.cell?_alloc_lt _ _ _ h3];exact hcub j hj
 have hB2:Below w.heap.size w W2:=by rw [hW2];exact ((Below.refl _ _).alloc (JW _) _).alloc (by simp) _
 have hz2:W2.heap.size=w.heap.size+1+1:=by rw [hW2];simp
 have HW2:Hid (W2=(w.alloc (.cells (aH .u32 s R c).toArray 154)).alloc (.cells #[.int .i64 32,.int .i64 64,.int .u64 7,.int .u64 18,.int .u64 3,.int .u64 17,.int .u64 19,.int .u64 10,.int .u64 2,.int .u64 13,.int .u64 22,.int .u64 6,.int .u64 11,.int .u64 25] 158)):=hW2;clear hW2;go_enter Tryz.func133,Tryz.ntmps133;go_wp2;rw [←HW2.out];obtain ⟨p0,p1,p2,p3,p4,p5,p6,p7,p8,p9,p10,p11,p12,p13⟩:=id hRu;have hcn:=hE.cnt;rw [J0] at hcn;have hb0:Below W2.heap.size W2 W2.drew:=(Below.refl _ _).drew;have hpad:=pp c hc W2.drew;have HZ2:Hid (W2.heap.size=w.heap.size+1+1):=hz2;clear hz2 hcub
 have hw:∀ (w1:World) (g:Nat),W2.drew.heap.size≤g→ah .u8 w1 g 0 (br rn c) (dk rn c)→Below W2.drew.heap.size W2.drew w1 →
  aY w1 (w.heap.size+1)∧Calls Tryz.prog 132 #[.pointer (some ⟨w.heap.size,0,none⟩),(.agg #[.int .i64 32,.int .i64 64,.int .u64 7,.int .u64 18,.int .u64 3,.int .u64 17,.int .u64 19,.int .u64 10,.int .u64 2,.int .u64 13,.int .u64 22,.int .u64 6,.int .u64 11,.int .u64 25]),.slice (some ⟨g,0,none⟩) (br rn c) (br rn c)] w1
   fun e w'=>e = .returned (.tuple #[])∧az .u32 w' w.heap.size 0 (a6 rn K s R c (br rn c) (dk rn c)).1 (a6 rn K s R c (br rn c) (dk rn c)).2 (c+br rn c)∧aY w' (w.heap.size+1)∧Below w.heap.size w w':=fun w1 g hg hrow hb=>by
  have hb':=aa hb0 hb;have hz:=HZ2.out
  have hg':w.heap.size+1+1≤g:=by simp only [World.size_drew] at hg;omega
  have hR1:=hRu.below hb' (by omega);refine ⟨hR1,(iJ K hK s hs R hR w.heap.size 0 c (br rn c) _ (dk rn c) (kJ _ _) w1 (hE.below hb') (fun j hj=>(hb'.cell (p:=⟨4,j,none⟩) (by show 4<_;omega)).trans (hcub2 j hj)) (by omega) (.inr ⟨g,0,_,rfl,by omega,JW _,fun j hj=>(hrow j hj).1⟩) (by have:=AU c;omega)).mono ?_⟩;rintro e w' ⟨rfl,hE',hO'⟩;have hs':=hb'.size;exact ⟨rfl,hE',hR1.same (fun q=>hO'.cell' (by omega) (by omega)),hB2.trans ((hb'.mono (by omega)).trans (hO'.below (JW _) (by omega)))⟩
 go_cut [] from 8 (fun wc=>az .u32 wc w.heap.size 0 (a6 rn K s R c (br rn c) (dk rn c)).1 (a6 rn K s R c (br rn c) (dk rn c)).2 (c+br rn c)∧aY wc (w.heap.size+1)∧Below w.heap.size w wc)
 case first =>
  go_region_with (first
   | (go_at_call 187;refine hpad.mono ?_;rintro e w1 ⟨g,rfl,hg,hrow,hb1⟩;obtain ⟨⟨r0,r1,r2,r3,r4,r5,r6,r7,r8,r9,r10,r11,r12,r13⟩,hwc⟩:=hw w1 g hg hrow hb1)
   | (go_at_call 132;refine hwc.mono ?_;rintro e w5 ⟨rfl,hE5,hR5,hB5⟩))
  all_goals
   go_wp2;go_meet
   case rel=>exact ⟨hE5,hR5,hB5⟩
 case rest =>
  obtain ⟨hE5,hR5,hB5⟩:=hcut;have hs5:(a6 rn K s R c (br rn c) (dk rn c)).1.lt 4294967296:=(fG (r:=rn) hs hR (kJ _ _)).1
  have HS5:Hid (pN rn K s R c=(a6 rn K s R c (br rn c) (dk rn c)).1):=(rfl:pN rn K s R c=(a6 rn K s R c (br rn c) (dk rn c)).1)
  have hst:=hE5.st
  obtain ⟨x,hx⟩:∃ x,x=(a6 rn K s R c (br rn c) (dk rn c)).1:=⟨_,rfl⟩
  have HX:Hid (x=(a6 rn K s R c (br rn c) (dk rn c)).1):=hx;rw [←hx] at hs5 hst;clear hx;have c0:=hR5.1
  have hmk:=fun W=>cO W 32 32 rfl (by decide)
  clear hw hpad hb0 hcn p0 p1 p2 p3 p4 p5 p6 p7 p8 p9 p10 p11 p12 p13 hRu hcub2 hE hB2 HW2 HZ2 hE5;have hwl:w.heap.size<wc.heap.size:=J5 (hst 0 (by decide)).1;have hwl1:w.heap.size+1<wc.heap.size:=J5 c0;go_wp2;clear hmk;go_loopw [22] (fun i wr=>∃ k:Nat,k≤32∧i = .int .i64 k∧ah .u8 wr wc.heap.size 0 32 (DG 32 x k)∧Below wc.heap.size wc wr) (fun i _=>32 - (intOf i).toNat)
  case atStart=>exact ⟨0,Nat.zero_le _,rfl,ah.fresh (fun j hj=>fO 32 j hj),(Below.refl _ _).alloc (JW _) _⟩
  case round =>
   obtain ⟨k,hk,rfl,hrow,hbel⟩:=hrel
   by_cases hlt:k<32
   · have rs:wr.cell? ⟨w.heap.size,k / 4,none⟩=some (.int .u32 (x.at (k / 4))):=by
      have:=(hst (k / 4) (by omega)).1;rw [J0] at this;exact (hbel.cell (p:=⟨w.heap.size,k / 4,none⟩) hwl).trans this
     have rr:wr.cell? ⟨w.heap.size+1,0,none⟩=some (.int .i64 32):=(hbel.cell (p:=⟨w.heap.size+1,0,none⟩) hwl1).trans c0;obtain ⟨rg,rf⟩:=hrow k hlt;rw [J0] at rg rf
     have hq:k / 4<8:=by omega
     go_wp2;go_region;go_wp2;go_roundw
     case rel =>
      have h1:=hrow.set (i:=k) hlt (v:=(x.at (k / 4):Int) / 2 ^ (32 - 8 - k%4*8)%256) (u:=eD 32 x k) (by show _=((x.at (k / (32 / 8)) / 2 ^ (32 - 8 - k%(32 / 8)*8)%256:Nat):Int);simp);rw [J0] at h1;exact ⟨k+1,by omega,by go_num,h1.drew,(hbel.setCell (JW _) _).drew⟩
     case measure=>simp [intOf];omega
   · have hke:k=32:=by omega
     subst hke;go_wp2;go_ret;refine ⟨wc.heap.size,rfl,hB5.size,hrow.cong (fun j hj => ?_),hB5.trans (hbel.mono hB5.size)⟩;rw [sg _ _ _ _ hj,HS5.out,←HX.out]
theorem qM (c:Nat):br aA c≤200:=by
 show 1+(4*64 - 1 - 64 / 4 - c%(2*64))%(2*64)+64 / 4≤200;omega
set_option maxRecDepth 20000 in
set_option maxHeartbeats 1000000 in
theorem qJ (K:Nat→Nat) (hK:∀ j,K j<18446744073709551616) (s:St) (hs:s.lt 18446744073709551616) (R:Nat→Nat) (hR:∀ j,R j<256) (c:Nat) (hc:c<2305843009213693952) (w:World)
 (hcub:∀ j,j<80→w.cell? ⟨4,j,none⟩=some (.int .u64 (K j))) :
 Calls Tryz.prog 152 #[.agg (aH .u64 s R c).toArray,(.agg #[.int .i64 64,.int .i64 80,.int .u64 1,.int .u64 8,.int .u64 7,.int .u64 19,.int .u64 61,.int .u64 6,.int .u64 28,.int .u64 34,.int .u64 39,.int .u64 14,.int .u64 18,.int .u64 41])] w
  fun e w'=>∃ g,e = .returned (.slice (some ⟨g,0,none⟩) 64 64)∧w.heap.size≤g∧ah .u8 w' g 0 64 (eD 64 (pN aA K s R c))∧Below w.heap.size w w':=by
 have h3:4<w.heap.size:=J5 (hcub 0 (by decide))
 obtain ⟨W2,hW2⟩:∃ W2,W2=(w.alloc (.cells (aH .u64 s R c).toArray 174)).alloc (.cells #[.int .i64 64,.int .i64 80,.int .u64 1,.int .u64 8,.int .u64 7,.int .u64 19,.int .u64 61,.int .u64 6,.int .u64 28,.int .u64 34,.int .u64 39,.int .u64 14,.int .u64 18,.int .u64 41] 158):=⟨_,rfl⟩
 have hE:az .u64 W2 w.heap.size 0 s R c:=by rw [hW2];exact (az.fresh w s R c 174).below ((Below.refl _ _).alloc (JW _) _)
 have hRu:aZ W2 (w.heap.size+1):=by
  have:=aZ.of_box (W:=w.alloc (.cells (aH .u64 s R c).toArray 174)) (w1:=W2) (by rw [hW2];exact Below.refl _ _);rw [World.size_alloc] at this;exact this
 have hcub2:∀ j,j<80→W2.cell? ⟨4,j,none⟩=some (.int .u64 (K j)):=fun j hj=>by
  rw [hW2,World.cell?_alloc_lt _ _ _ (by simp;omega),World.cell?_alloc_lt _ _ _ h3];exact hcub j hj
 have hB2:Below w.heap.size w W2:=by rw [hW2];exact ((Below.refl _ _).alloc (JW _) _).alloc (by simp) _
 have hz2:W2.heap.size=w.heap.size+1+1:=by rw [hW2];simp
 have HW2:Hid (W2=(w.alloc (.cells (aH .u64 s R c).toArray 174)).alloc (.cells #[.int .i64 64,.int .i64 80,.int .u64 1,.int .u64 8,.int .u64 7,.int .u64 19,.int .u64 61,.int .u64 6,.int .u64 28,.int .u64 34,.int .u64 39,.int .u64 14,.int .u64 18,.int .u64 41] 158)):=hW2;clear hW2;go_enter Tryz.func152,Tryz.ntmps152;go_wp2;rw [←HW2.out];obtain ⟨p0,p1,p2,p3,p4,p5,p6,p7,p8,p9,p10,p11,p12,p13⟩:=id hRu;have hcn:=hE.cnt;rw [J0] at hcn;have hb0:Below W2.heap.size W2 W2.drew:=(Below.refl _ _).drew;have hpad:=pI c hc W2.drew;have HZ2:Hid (W2.heap.size=w.heap.size+1+1):=hz2;clear hz2 hcub
 have hw:∀ (w1:World) (g:Nat),W2.drew.heap.size≤g→ah .u8 w1 g 0 (br aA c) (dk aA c)→Below W2.drew.heap.size W2.drew w1 →
  aZ w1 (w.heap.size+1)∧Calls Tryz.prog 151 #[.pointer (some ⟨w.heap.size,0,none⟩),(.agg #[.int .i64 64,.int .i64 80,.int .u64 1,.int .u64 8,.int .u64 7,.int .u64 19,.int .u64 61,.int .u64 6,.int .u64 28,.int .u64 34,.int .u64 39,.int .u64 14,.int .u64 18,.int .u64 41]),.slice (some ⟨g,0,none⟩) (br aA c) (br aA c)] w1
   fun e w'=>e = .returned (.tuple #[])∧az .u64 w' w.heap.size 0 (a6 aA K s R c (br aA c) (dk aA c)).1 (a6 aA K s R c (br aA c) (dk aA c)).2 (c+br aA c)∧aZ w' (w.heap.size+1)∧Below w.heap.size w w':=fun w1 g hg hrow hb=>by
  have hb':=aa hb0 hb;have hz:=HZ2.out
  have hg':w.heap.size+1+1≤g:=by simp only [World.size_drew] at hg;omega
  have hR1:=hRu.below hb' (by omega);refine ⟨hR1,(i8 K hK s hs R hR w.heap.size 0 c (br aA c) _ (dk aA c) (kJ _ _) w1 (hE.below hb') (fun j hj=>(hb'.cell (p:=⟨4,j,none⟩) (by show 4<_;omega)).trans (hcub2 j hj)) (by omega) (.inr ⟨g,0,_,rfl,by omega,JW _,fun j hj=>(hrow j hj).1⟩) (by have:=qM c;omega)).mono ?_⟩;rintro e w' ⟨rfl,hE',hO'⟩;have hs':=hb'.size;exact ⟨rfl,hE',hR1.same (fun q=>hO'.cell' (by omega) (by omega)),hB2.trans ((hb'.mono (by omega)).trans (hO'.below (JW _) (by omega)))⟩
 go_cut [] from 8 (fun wc=>az .u64 wc w.heap.size 0 (a6 aA K s R c (br aA c) (dk aA c)).1 (a6 aA K s R c (br aA c) (dk aA c)).2 (c+br aA c)∧aZ wc (w.heap.size+1)∧Below w.heap.size w wc)
 case first =>
  go_region_with (first
   | (go_at_call 187;refine hpad.mono ?_;rintro e w1 ⟨g,rfl,hg,hrow,hb1⟩;obtain ⟨⟨r0,r1,r2,r3,r4,r5,r6,r7,r8,r9,r10,r11,r12,r13⟩,hwc⟩:=hw w1 g hg hrow hb1)
   | (go_at_call 151;refine hwc.mono ?_;rintro e w5 ⟨rfl,hE5,hR5,hB5⟩))
  all_goals
   go_wp2;go_meet
   case rel=>exact ⟨hE5,hR5,hB5⟩
 case rest =>
  obtain ⟨hE5,hR5,hB5⟩:=hcut;have hs5:(a6 aA K s R c (br aA c) (dk aA c)).1.lt 18446744073709551616:=(fG (r:=aA) hs hR (kJ _ _)).1
  have HS5:Hid (pN aA K s R c=(a6 aA K s R c (br aA c) (dk aA c)).1):=(rfl:pN aA K s R c=(a6 aA K s R c (br aA c) (dk aA c)).1)
  have hst:=hE5.st
  obtain ⟨x,hx⟩:∃ x,x=(a6 aA K s R c (br aA c) (dk aA c)).1:=⟨_,rfl⟩
  have HX:Hid (x=(a6 aA K s R c (br aA c) (dk aA c)).1):=hx;rw [←hx] at hs5 hst;clear hx;have c0:=hR5.1
  have hmk:=fun W=>cO W 64 64 rfl (by decide)
  clear hw hpad hb0 hcn p0 p1 p2 p3 p4 p5 p6 p7 p8 p9 p10 p11 p12 p13 hRu hcub2 hE hB2 HW2 HZ2 hE5;have hwl:w.heap.size<wc.heap.size:=J5 (hst 0 (by decide)).1;have hwl1:w.heap.size+1<wc.heap.size:=J5 c0;go_wp2;clear hmk;go_loopw [22] (fun i wr=>∃ k:Nat,k≤64∧i = .int .i64 k∧ah .u8 wr wc.heap.size 0 64 (DG 64 x k)∧Below wc.heap.size wc wr) (fun i _=>64 - (intOf i).toNat)
  case atStart=>exact ⟨0,Nat.zero_le _,rfl,ah.fresh (fun j hj=>fO 64 j hj),(Below.refl _ _).alloc (JW _) _⟩
  case round =>
   obtain ⟨k,hk,rfl,hrow,hbel⟩:=hrel
   by_cases hlt:k<64
   · have rs:wr.cell? ⟨w.heap.size,k / 8,none⟩=some (.int .u64 (x.at (k / 8))):=by
      have:=(hst (k / 8) (by omega)).1;rw [J0] at this;exact (hbel.cell (p:=⟨w.heap.size,k / 8,none⟩) hwl).trans this
     have rr:wr.cell? ⟨w.heap.size+1,0,none⟩=some (.int .i64 64):=(hbel.cell (p:=⟨w.heap.size+1,0,none⟩) hwl1).trans c0;obtain ⟨rg,rf⟩:=hrow k hlt;rw [J0] at rg rf
     have hq:k / 8<8:=by omega
     go_wp2;go_region;go_wp2;go_roundw
     case rel =>
      have h1:=hrow.set (i:=k) hlt (v:=(x.at (k / 8):Int) / 2 ^ (64 - 8 - k%8*8)%256) (u:=eD 64 x k) (by show _=((x.at (k / (64 / 8)) / 2 ^ (64 - 8 - k%(64 / 8)*8)%256:Nat):Int);simp);rw [J0] at h1;exact ⟨k+1,by omega,by go_num,h1.drew,(hbel.setCell (JW _) _).drew⟩
     case measure=>simp [intOf];omega
   · have hke:k=64:=by omega
     subst hke;go_wp2;go_ret;refine ⟨wc.heap.size,rfl,hB5.size,hrow.cong (fun j hj => ?_),hB5.trans (hbel.mono hB5.size)⟩;rw [sg _ _ _ _ hj,HS5.out,←HX.out]
structure ep (w:World) (K q:Nat→Nat):Prop where
 cubes:∀ j,j<80→w.cell? ⟨4,j,none⟩=some (.int .u64 (K j))
 squares:∀ j,j<8→w.cell? ⟨3,j,none⟩=some (.int .u64 (q j))
 narrow:aY w 0
 wide:aZ w 1
 Klt:∀ j,K j<18446744073709551616
 qlt:∀ j,q j<18446744073709551616
theorem ep.size {w:World} {K q:Nat→Nat} (h:ep w K q):4<w.heap.size:=by
 first | exact J5 (h.cubes 0 (by decide)) | exact J5 h.wide.1 | exact J5 h.narrow.1 | exact J5 (h.squares 0 (by decide))
theorem ep.below {w w':World} {K q:Nat→Nat} (h:ep w K q) {n:Nat} (hb:Below n w w') (hn:4<n):ep w' K q :=
 ⟨fun j hj=>(hb.cell (p:=⟨4,j,none⟩) (by show 4<n;omega)).trans (h.cubes j hj),fun j hj=>(hb.cell (p:=⟨3,j,none⟩) (by show 3<n;omega)).trans (h.squares j hj),h.narrow.below hb (by omega),h.wide.below hb (by omega),h.Klt,h.qlt⟩
theorem gP (r:Ru) (q:Nat→Nat) (hm:r.m≤64) (hq:∀ j,q j<18446744073709551616):(aL r q).lt (2 ^ r.m):=by
 have h:∀ j,q j / 2 ^ (64 - r.m)<2 ^ r.m:=fun j=>by
  rw [Nat.div_lt_iff_lt_mul (Nat.two_pow_pos _),←Nat.pow_add,show r.m+(64 - r.m)=64 by omega];exact hq j
 exact ⟨h 0,h 1,h 2,h 3,h 4,h 5,h 6,h 7⟩
def uc (r:Ru) (K q:Nat→Nat) (n:Nat) (bs:Nat→Nat):St:=pN r K (a6 r K (aL r q) (fun _=>0) 0 n bs).1 (a6 r K (aL r q) (fun _=>0) 0 n bs).2 n
theorem ae.away {w w':World} {v:Value} {n:Nat} {bs:Nat→Nat} (h:ae w v n bs) (hb:Below w.heap.size w w') {b:Nat} (hn:w.heap.size≤b):mR w' b v n bs:=by
 rcases h with h | ⟨bb,ob,cap,rfl,h1,h2,h3⟩
 · exact .inl h
 · exact .inr ⟨bb,ob,cap,rfl,by omega,h2,fun j hj=>(hb.cell (p:=⟨bb,ob+j,none⟩) h1).trans (h3 j hj)⟩
theorem mD (w:World):(w.alloc (.cells jN 154)).there w.heap.size 0 137:=(az.fresh (K := .u32) w tJ (fun _=>0) 0 154).there
set_option maxRecDepth 20000 in
set_option maxHeartbeats 1000000 in
theorem oU (K q:Nat→Nat) (v:Value) (n:Nat) (bs:Nat→Nat) (hbs:∀ j,bs j<256) (w:World) (hT:ep w K q) (hv:ae w v n bs) (hn:n<2305843009213693952) :
 Calls Tryz.prog 67 #[v] w
  fun e w'=>∃ g,e = .returned (.slice (some ⟨g,0,none⟩) 32 32)∧w.heap.size≤g∧ah .u8 w' g 0 32 (eD 32 (uc rn K q n bs))∧Below w.heap.size w w':=by
 have hz:=xX;obtain ⟨p0,p1,p2,p3,p4,p5,p6,p7,p8,p9,p10,p11,p12,p13⟩:=id hT.narrow;have hst:=mW q hT.qlt w hT.squares;have hi:=Dh .u32 (aL rn q) (fun _=>0) 0;have hone:=all_oneCell_toArray (f8 .u32 (aL rn q) (fun _=>0) 0);have hF:(aL rn q).lt 4294967296:=gP rn q (by decide) hT.qlt
 have hkey:∀ w1:World,Below w.heap.size w w1→(w1.alloc (.cells jN 154)).there w1.heap.size 0 (aH .u32 (aL rn q) (fun _=>0) 0).toArray.size∧∀ w2,w2=(w1.alloc (.cells jN 154)).setCells w1.heap.size 0 (aH .u32 (aL rn q) (fun _=>0) 0)→aY w2 0∧Calls Tryz.prog 132 #[.pointer (some ⟨w1.heap.size,0,none⟩),(.agg #[.int .i64 32,.int .i64 64,.int .u64 7,.int .u64 18,.int .u64 3,.int .u64 17,.int .u64 19,.int .u64 10,.int .u64 2,.int .u64 13,.int .u64 22,.int .u64 6,.int .u64 11,.int .u64 25]),v] w2 fun e w'=>e = .returned (.tuple #[])∧aY w' 0∧az .u32 w' w1.heap.size 0 (a6 rn K (aL rn q) (fun _=>0) 0 n bs).1 (a6 rn K (aL rn q) (fun _=>0) 0 n bs).2 n∧Below w.heap.size w w'∧∀ j,j<80→w'.cell? ⟨4,j,none⟩=some (.int .u64 (K j)):=fun w1 hb1=>by
  refine ⟨by simp only [List.size_toArray,aV];exact mD w1,fun w2 hw2 => ?_⟩;have h3:=hT.size;have hs1:=hb1.size
  have hE:az .u32 w2 w1.heap.size 0 (aL rn q) (fun _=>0) 0:=by rw [hw2];exact az.stored (mD w1) _ _ _
  have hb2:Below w1.heap.size w1 w2:=by rw [hw2];exact ac (JW _) _ _ _ ((Below.refl _ _).alloc (JW _) _)
  have hb3:Below w.heap.size w w2:=hb1.trans (hb2.mono hs1);have hT2:=hT.below hb3 h3;refine ⟨hT2.narrow,(iJ K hT.Klt (aL rn q) hF (fun _=>0) (fun _=>by decide) w1.heap.size 0 0 n v bs hbs w2 hE hT2.cubes (by omega) (hv.away hb3 hs1) (by omega)).mono ?_⟩;rintro e w' ⟨rfl,hE',hO'⟩;have hl:w1.heap.size<w2.heap.size:=J5 hE.cnt;have hb4:Below w.heap.size w w':=hb3.trans (hO'.below hs1 (by omega));have hT3:=hT.below hb4 h3;rw [J0] at hE';exact ⟨rfl,hT3.narrow,hE',hb4,hT3.cubes⟩
 have hX:=fG (r:=rn) (K:=K) (c:=0) (n:=n) hF (fun _=>(by decide:(0:Nat)<256)) hbs
 obtain ⟨X,hXe⟩:∃ X,X=a6 rn K (aL rn q) (fun _=>0) 0 n bs:=⟨_,rfl⟩
 have HX:Hid (X=a6 rn K (aL rn q) (fun _=>0) 0 n bs):=hXe;rw [←hXe] at hkey hX
 have hsum:=fun w' h=>qs K hT.Klt X.1 hX.1 X.2 hX.2 n hn w' h
 clear hXe hv hT hF;go_enter Tryz.func67,Tryz.ntmps67
 go_wp2_with (first
  | (go_at_call 131;refine hst.mono ?_;clear hst;rintro e w1 ⟨rfl,hb1⟩;obtain ⟨ht,hk2⟩:=hkey w1 hb1;clear hkey)
  | (refine wpList_store_mid rfl 154 _ _ rfl _ 0 _ rfl rfl ht hi hone ?_;rw [List.toList_toArray];obtain ⟨w2,hw2⟩:∃ w2,w2=(w1.alloc (.cells jN 154)).setCells w1.heap.size 0 (aH .u32 (aL rn q) (fun _=>0) 0):=⟨_,rfl⟩;obtain ⟨⟨r0,r1,r2,r3,r4,r5,r6,r7,r8,r9,r10,r11,r12,r13⟩,hwr⟩:=hk2 w2 hw2;rw [←hw2];clear hw2 hk2 ht hi hone hz)
  | (go_at_call 132;refine hwr.mono ?_;clear hwr;rintro e w5 ⟨rfl,⟨t0,t1,t2,t3,t4,t5,t6,t7,t8,t9,t10,t11,t12,t13⟩,hE5,hB5,hc5⟩)
  | (refine wpList_load_mid rfl 154 _ rfl _ 0 rfl _ _ hE5.range Tryz.underlying154 rfl (by rw [aV];kernel_rfl) ?_)
  | (go_at_call 133;refine (hsum w5 hc5).mono ?_;rintro e w6 ⟨g,rfl,hg,hrow,hb6⟩))
 go_ret
 have e:uc rn K q n bs=pN rn K X.1 X.2 n:=by rw [HX.out];rfl
 rw [e];exact ⟨g,rfl,Nat.le_trans hB5.size hg,hrow,hB5.trans (hb6.mono hB5.size)⟩
theorem mS (w:World):(w.alloc (.cells jL 174)).there w.heap.size 0 137:=(az.fresh (K := .u64) w tJ (fun _=>0) 0 174).there
set_option maxRecDepth 20000 in
set_option maxHeartbeats 1000000 in
theorem wa (K q:Nat→Nat) (v:Value) (n:Nat) (bs:Nat→Nat) (hbs:∀ j,bs j<256) (w:World) (hT:ep w K q) (hv:ae w v n bs) (hn:n<2305843009213693952) :
 Calls Tryz.prog 83 #[v] w
  fun e w'=>∃ g,e = .returned (.slice (some ⟨g,0,none⟩) 64 64)∧w.heap.size≤g∧ah .u8 w' g 0 64 (eD 64 (uc aA K q n bs))∧Below w.heap.size w w':=by
 have hz:=yT;obtain ⟨p0,p1,p2,p3,p4,p5,p6,p7,p8,p9,p10,p11,p12,p13⟩:=id hT.wide;have hst:=mF q hT.qlt w hT.squares;have hi:=Dd .u64 (aL aA q) (fun _=>0) 0;have hone:=all_oneCell_toArray (f8 .u64 (aL aA q) (fun _=>0) 0);have hF:(aL aA q).lt 18446744073709551616:=gP aA q (by decide) hT.qlt
 have hkey:∀ w1:World,Below w.heap.size w w1→(w1.alloc (.cells jL 174)).there w1.heap.size 0 (aH .u64 (aL aA q) (fun _=>0) 0).toArray.size∧∀ w2,w2=(w1.alloc (.cells jL 174)).setCells w1.heap.size 0 (aH .u64 (aL aA q) (fun _=>0) 0)→aZ w2 1∧Calls Tryz.prog 151 #[.pointer (some ⟨w1.heap.size,0,none⟩),(.agg #[.int .i64 64,.int .i64 80,.int .u64 1,.int .u64 8,.int .u64 7,.int .u64 19,.int .u64 61,.int .u64 6,.int .u64 28,.int .u64 34,.int .u64 39,.int .u64 14,.int .u64 18,.int .u64 41]),v] w2 fun e w'=>e = .returned (.tuple #[])∧aZ w' 1∧az .u64 w' w1.heap.size 0 (a6 aA K (aL aA q) (fun _=>0) 0 n bs).1 (a6 aA K (aL aA q) (fun _=>0) 0 n bs).2 n∧Below w.heap.size w w'∧∀ j,j<80→w'.cell? ⟨4,j,none⟩=some (.int .u64 (K j)):=fun w1 hb1=>by
  refine ⟨by simp only [List.size_toArray,aV];exact mS w1,fun w2 hw2 => ?_⟩;have h3:=hT.size;have hs1:=hb1.size
  have hE:az .u64 w2 w1.heap.size 0 (aL aA q) (fun _=>0) 0:=by rw [hw2];exact az.stored (mS w1) _ _ _
  have hb2:Below w1.heap.size w1 w2:=by rw [hw2];exact ac (JW _) _ _ _ ((Below.refl _ _).alloc (JW _) _)
  have hb3:Below w.heap.size w w2:=hb1.trans (hb2.mono hs1);have hT2:=hT.below hb3 h3;refine ⟨hT2.wide,(i8 K hT.Klt (aL aA q) hF (fun _=>0) (fun _=>by decide) w1.heap.size 0 0 n v bs hbs w2 hE hT2.cubes (by omega) (hv.away hb3 hs1) (by omega)).mono ?_⟩;rintro e w' ⟨rfl,hE',hO'⟩;have hl:w1.heap.size<w2.heap.size:=J5 hE.cnt;have hb4:Below w.heap.size w w':=hb3.trans (hO'.below hs1 (by omega));have hT3:=hT.below hb4 h3;rw [J0] at hE';exact ⟨rfl,hT3.wide,hE',hb4,hT3.cubes⟩
 have hX:=fG (r:=aA) (K:=K) (c:=0) (n:=n) hF (fun _=>(by decide:(0:Nat)<256)) hbs
 obtain ⟨X,hXe⟩:∃ X,X=a6 aA K (aL aA q) (fun _=>0) 0 n bs:=⟨_,rfl⟩
 have HX:Hid (X=a6 aA K (aL aA q) (fun _=>0) 0 n bs):=hXe;rw [←hXe] at hkey hX
 have hsum:=fun w' h=>qJ K hT.Klt X.1 hX.1 X.2 hX.2 n hn w' h
 clear hXe hv hT hF;go_enter Tryz.func83,Tryz.ntmps83
 go_wp2_with (first
  | (go_at_call 150;refine hst.mono ?_;clear hst;rintro e w1 ⟨rfl,hb1⟩;obtain ⟨ht,hk2⟩:=hkey w1 hb1;clear hkey)
  | (refine wpList_store_mid rfl 174 _ _ rfl _ 0 _ rfl rfl ht hi hone ?_;rw [List.toList_toArray];obtain ⟨w2,hw2⟩:∃ w2,w2=(w1.alloc (.cells jL 174)).setCells w1.heap.size 0 (aH .u64 (aL aA q) (fun _=>0) 0):=⟨_,rfl⟩;obtain ⟨⟨r0,r1,r2,r3,r4,r5,r6,r7,r8,r9,r10,r11,r12,r13⟩,hwr⟩:=hk2 w2 hw2;rw [←hw2];clear hw2 hk2 ht hi hone hz)
  | (go_at_call 151;refine hwr.mono ?_;clear hwr;rintro e w5 ⟨rfl,⟨t0,t1,t2,t3,t4,t5,t6,t7,t8,t9,t10,t11,t12,t13⟩,hE5,hB5,hc5⟩)
  | (refine wpList_load_mid rfl 174 _ rfl _ 0 rfl _ _ hE5.range Tryz.underlying174 rfl (by rw [aV];kernel_rfl) ?_)
  | (go_at_call 152;refine (hsum w5 hc5).mono ?_;rintro e w6 ⟨g,rfl,hg,hrow,hb6⟩))
 go_ret
 have e:uc aA K q n bs=pN aA K X.1 X.2 n:=by rw [HX.out];rfl
 rw [e];exact ⟨g,rfl,Nat.le_trans hB5.size hg,hrow,hB5.trans (hb6.mono hB5.size)⟩
end Go.Proofs.YtibdhadbflfdpaaGreatDoor
