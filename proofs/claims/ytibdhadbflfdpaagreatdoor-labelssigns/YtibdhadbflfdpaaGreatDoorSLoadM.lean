/- What the proof stands on: SLoad, STake, SGuess, SRestM, SRest, SAdd, SApi. -/
import Derived.Test.YtibdhadbflfdpaaGreatDoorLentM
import Derived.Test.YtibdhadbflfdpaaGreatDoorPtBM
import Derived.Test.YtibdhadbflfdpaaGreatDoorPtEM
import Derived.WalkMore
namespace Go.Proofs.YtibdhadbflfdpaaGreatDoor
open Nat renaming le_refl → JW
open Nat renaming lt_of_lt_of_le → JX
open Nat renaming zero_add → J0
open Go.RowKit
def zW:Array Value:=Array.replicate 9 (.int .u64 0)
theorem vA (j:Nat) (h:j<9):zW[j]? = some (.int .u64 0):=by simp [zW,h]
theorem x8 (w:World):Sem.run Tryz.prog (zeroValue 123) w = .ok (.agg zW) w:=by kernel_rfl
theorem fK (K:IntKind) (n:Nat) (X:Nat→Nat):(au K n X).toArray.size=n:=by simp [au]
theorem Gc:(Tryz.prog.info? 123).map (·.size)=some 9:=by kernel_rfl
theorem Ho (X:Nat→Nat):(Tryz.prog.info? 123).map (·.size)=some (au .u64 9 X).length:=by rw [ak];exact Gc
theorem lT (X:Nat→Nat):(Tryz.prog.info? 123).map (·.size)=some (au .u64 9 X).toArray.size:=by rw [fK];exact Gc
theorem AE (X:Nat→Nat):(au .u64 9 X).toArray.all (·.oneCell')=true:=all_oneCell_toArray (bW .u64 9 X)
def re (X:Nat→Nat):Value := .agg (au .u64 9 X).toArray
set_option maxRecDepth 20000 in
set_option maxHeartbeats 2000000 in
theorem xZ (xo:Option Addr) (n c:Nat) (bs:Nat→Nat) (hbs:∀ j,bs j<256) (hn:n≤64) (w:World) (hc:∀ W,Below w.heap.size w W→∀ j,j<n→∃ bb ob,xo=some ⟨bb,ob,none⟩∧W.cell? ⟨bb,ob+j,none⟩=some (.int .u8 (bs j))) :
 Calls Tryz.prog 99 #[.slice xo n c] w fun e w'=>e = .returned (re (lw (aK bs n)))∧Below w.heap.size w w':=by
 have hz:=x8
 obtain ⟨W,hW⟩:∃ W,W=(w.alloc (.cells zW 123)).alloc (.cells zW 123):=⟨_,rfl⟩
 have HW:=Hid.mk' hW
 have hWs:W.heap.size=w.heap.size+1+1:=by rw [hW];simp
 have hbW:Below w.heap.size w W:=by rw [hW];exact ((Below.refl _ _).alloc (JW _) _).alloc (by simp) _
 have hz0:∀ a,lw (aK bs 0) a=0:=fun a=>by unfold lw aK;rw [Nat.zero_div,Nat.zero_mod]
 have hres:ah .u64 W w.heap.size 0 9 (fun _=>0):=by rw [hW];exact (ah.fresh (fun j hj=>vA j hj)).below ((Below.refl _ _).alloc (JW _) _) (by simp)
 have hrow0:ah .u64 W (w.heap.size+1) 0 9 (lw (aK bs 0)):=by
  have:=ah.fresh (K := .u64) (w:=w.alloc (.cells zW 123)) (cs:=zW) (t:=123) (n:=9) (X:=lw (aK bs 0)) (fun j hj=>by rw [hz0];exact vA j hj);rw [World.size_alloc] at this;rw [hW];exact this
 unfold re;clear hW hz0;go_enter Tryz.func99,Tryz.ntmps99;go_wp2;rw [←HW.out];go_loopw [8] (fun i wr=>∃ k:Nat,k≤n∧i = .int .i64 k∧ah .u64 wr (w.heap.size+1) 0 9 (lw (aK bs k))∧ah .u64 wr w.heap.size 0 9 (fun _=>0)∧Below w.heap.size w wr) (fun i _=>n - (intOf i).toNat)
 case atStart=>exact ⟨0,Nat.zero_le _,rfl,hrow0,hres,hbW⟩
 case round =>
  clear hrow0 hres hbW hz;obtain ⟨k,hk,rfl,hrow,hre,hb⟩:=hrel
  by_cases hlt:k<n
  · obtain ⟨rk,rf⟩:=hrow (k / 8) (by omega)
    rw [J0] at rk rf;obtain ⟨bb,ob,rfl,hck⟩:=hc wr hb k hlt;have hor:=zk (lw (aK bs k) (k / 8)) (bs k) k (fs _ _) (hbs k);have hbk:=hbs k
    have hki:(k:Int)<n:=by omega
    clear hc;go_wp2;go_roundw
    case rel =>
     have h1:=hrow.set (i:=k / 8) (by omega) (v:=((lw (aK bs k) (k / 8) ||| bs k*2 ^ (k%8*8):Nat):Int)) rfl;rw [J0] at h1;refine ⟨k+1,by omega,by go_num,h1.congr (fun j hj => ?_),hre.far (by show w.heap.size+1≠w.heap.size;omega) _,hb.setCell (by show w.heap.size≤w.heap.size+1;omega) _⟩;rw [qW bs hbs k j];unfold bK
     by_cases e:j=k / 8
     · rw [if_pos e,if_pos e,e]
     · rw [if_neg e,if_neg e]
    case measure=>simp [intOf];omega
  · have hke:k=n:=by omega
    subst hke
    obtain ⟨X,hX⟩:∃ X,X=lw (aK bs k):=⟨_,rfl⟩
    rw [←hX] at hrow;have HX:=Hid.mk' hX
    have hki:¬(k:Int)<k:=by omega
    clear hX hc hbs;have hi1:=Ho X;have hi2:=lT X;have ho:=AE X
    have hth:wr.there w.heap.size 0 (au .u64 9 X).toArray.size:=by rw [fK];exact hre.there
    go_wp2_with (first
     | (refine wpList_load_mid rfl 123 _ rfl (w.heap.size+1) 0 rfl (au .u64 9 X) _ hrow.range Tryz.underlying123 rfl hi1 ?_)
     | (refine wpList_store_mid rfl 123 _ _ rfl w.heap.size 0 (au .u64 9 X).toArray rfl rfl hth hi2 ho ?_))
    (try simp only [Exit.inBlock,Exit.then]);refine bodyPost_ret (ai Tryz.results99 _ _ w.heap.size 0 (au .u64 9 X) _ rfl (World.rangeAt_setCells_same _ _ _ _ (by rw [ak];exact hre.there)) Tryz.underlying123 rfl hi1) rfl ⟨by rw [HX.out],?_⟩;exact ac (JW _) _ _ _ hb
theorem i6 (v:Value) (n:Nat) (bs:Nat→Nat) (hbs:∀ j,bs j<256) (hn:n≤64) (w:World) (hv:ae w v n bs) :
 Calls Tryz.prog 99 #[v] w fun e w'=>e = .returned (re (lw (aK bs n)))∧Below w.heap.size w w':=by
 rcases hv with ⟨xo,rfl,rfl⟩ | ⟨bb,ob,cap,rfl,h1,h2,h3⟩
 · exact xZ xo 0 0 bs hbs hn w (fun _ _ j hj=>absurd hj (Nat.not_lt_zero j))
 · exact xZ _ n cap bs hbs hn w (fun W hW j hj=>⟨bb,ob,rfl,(hW.cell (p:=⟨bb,ob+j,none⟩) h1).trans (h3 j hj)⟩)
set_option maxRecDepth 20000 in
set_option maxHeartbeats 2000000 in
theorem we (g:Nat) (N:Nat) (w:World) (hg:g<w.heap.size) (hX:∀ j,j<4→w.cell? ⟨g,j,none⟩=some (.int .u64 (lw N j))) :
 Calls Tryz.prog 166 #[.pointer (some ⟨g,0,none⟩)] w fun e w'=>∃ h,e = .returned (.slice (some ⟨h,0,none⟩) 32 32)∧w.heap.size≤h∧h<w'.heap.size∧ah .u8 w' h 0 32 (bf N)∧Below w.heap.size w w':=by
 have hmk:=cO w 32 32 rfl (by decide);have hb0:Below w.heap.size w (w.alloc (.cells (zb 32) 5)):=(Below.refl _ _).alloc (JW _) _;have hrow0:ah .u8 (w.alloc (.cells (zb 32) 5)) w.heap.size 0 32 (fun _=>0):=ah.fresh (fun j hj=>fO 32 j hj);go_enter Tryz.func166,Tryz.ntmps166;go_wp2_with (rw [hmk]);go_loopw [8] (fun i wr=>∃ k:Nat,k≤32∧i = .int .i64 k∧ah .u8 wr w.heap.size 0 32 (fun j=>if j<k then bf N j else 0)∧Below w.heap.size w wr∧w.heap.size<wr.heap.size) (fun i _=>32 - (intOf i).toNat)
 case atStart=>exact ⟨0,Nat.zero_le _,rfl,hrow0.congr (fun j _=>by simp),hb0,by simp⟩
 case round =>
  clear hrow0 hb0 hmk;obtain ⟨k,hk,rfl,hrow,hb,hsz⟩:=hrel
  by_cases hlt:k<32
  · obtain ⟨rk,rf⟩:=hrow k hlt
    rw [J0] at rk rf;have hc:=(hb.cell (p:=⟨g,k / 8,none⟩) hg).trans (hX (k / 8) (by omega))
    have rk0:wr.cell? ⟨w.heap.size,k,none⟩=some (.int .u8 0):=by simpa using rk
    clear rk hX;go_wp2;go_roundw
    case rel =>
     have h1:=hrow.set (i:=k) hlt (v:=(lw N (k / 8):Int) / 2 ^ (k%8*8)%256) (u:=bf N k) (js N k);rw [J0] at h1;refine ⟨k+1,by omega,by go_num,h1.congr (fun j hj => ?_),hb.setCell (JW _) _,by simpa using hsz⟩;unfold bK
     by_cases e:j=k
     · rw [if_pos e,if_pos (by omega),e]
     · rw [if_neg e]
       show (if j<k then bf N j else 0)=_
       by_cases e2:j<k
       · rw [if_pos e2,if_pos (by omega)]
       · rw [if_neg e2,if_neg (by omega)]
    case measure=>simp [intOf];omega
  · clear hX
    go_wp2;go_ret;exact ⟨w.heap.size,rfl,JW _,hsz,hrow.congr (fun j hj=>by rw [if_pos (by omega)]),hb⟩
def nl (w:World):Prop:=∀ j,j<4→w.cell? ⟨2,j,none⟩=some (.int .u64 (Lw j))
theorem nl.lt {w:World} (h:nl w):2<w.heap.size:=block_lt_of_cell (h 0 (by decide))
theorem nl.below {B:Nat} {w w':World} (h:nl w) (hb:Below B w w') (hB:2<B):nl w':=fun j hj=>(hb.cell (p:=⟨2,j,none⟩) hB).trans (h j hj)
theorem nl.still {w w':World} (h:nl w) (hb:Below w.heap.size w w'):nl w':=h.below hb h.lt
theorem nl.out {g o n:Nat} {w w':World} (h:nl w) (hb:aT g o n w w') (hg:g≠2):nl w':=fun j hj=>(hb.cell' h.lt (Ne.symm hg)).trans (h j hj)
theorem nl.range {w:World} (h:nl w):w.rangeAt 2 0 (au .u64 4 Lw):=fun j v hv=>by
 have hj:j<4:=by have:=(List.getElem?_eq_some_iff.1 hv).1;rwa [ak] at this
 rw [bo _ _ _ j hj] at hv;rw [←hv,J0];exact h j hj
set_option maxRecDepth 20000 in
theorem GO (X:Nat→Nat) (k:Nat) (hk:k<4) (W:World):(Instr.index 72 (.agg (au .u64 4 X).toArray) (.int .i64 k)).run Tryz.prog W = .ok (.int .u64 (X k)) W:=by
 have h:k=0∨k=1∨k=2∨k=3:=by omega
 rcases h with rfl | rfl | rfl | rfl <;> rfl
set_option maxRecDepth 20000 in
set_option maxHeartbeats 2000000 in
theorem vl (g a q:Nat) (X:Nat→Nat) (ha:a≤4) (hq:q<18446744073709551616) (hX:∀ j,X j<18446744073709551616) (hV:q*oL≤pt X a 5) (w:World) (hrow0:ah .u64 w g 0 9 X) (hO:nl w) :
 Calls Tryz.prog 164 #[.pointer (some ⟨g,0,none⟩),.int .i64 a,.int .u64 q] w fun e w'=>e = .returned (.tuple #[])∧∃ Y,ah .u64 w' g 0 9 Y∧(∀ j,Y j<18446744073709551616)∧(∀ j,(j<a∨a+5≤j)→Y j=X j)∧pt Y a 5+q*oL=pt X a 5∧aT g 0 9 w w':=by
 have hi4:(Tryz.prog.info? 72).map (·.size)=some (au .u64 4 Lw).length:=by kernel_rfl
 have hOr:=hO.range;go_enter Tryz.func164,Tryz.ntmps164;go_wp2_with (refine wpList_load_mid rfl 72 _ rfl 2 0 rfl (au .u64 4 Lw) _ hOr Tryz.underlying72 rfl hi4 ?_);go_loopw [14,6,7] (fun i c b wr=>∃ (k C D:Nat) (Z:Nat→Nat),k≤4∧i = .int .i64 k∧c = .int .u64 C∧b = .int .u64 D∧C<18446744073709551616∧D≤1∧ah .u64 wr g 0 9 Z∧(∀ j,Z j<18446744073709551616)∧(∀ j,(j<a∨a+k≤j)→Z j=X j)∧pt Z a k+q*pt Lw 0 k=pt X a k+18446744073709551616 ^ k*(C+D)∧aT g 0 9 w wr) (fun i _ _ _=>4 - (intOf i).toNat)
 case atStart=>exact ⟨0,0,0,X,by decide,rfl,rfl,rfl,by decide,by decide,hrow0,hX,fun _ _=>rfl,by simp [pt],aT.refl _ _ _ _⟩
 case round =>
  clear hrow0 hOr;obtain ⟨k,C,D,Z,hk,rfl,rfl,rfl,hC,hD,hrow,hZ,hZX,hinv,hout⟩:=hrel
  by_cases hlt:k<4
  · obtain ⟨rk,rf⟩:=hrow (a+k) (by omega)
    rw [J0] at rk rf;obtain ⟨h0,l0,hh0,hl0,e0,r0⟩:=nM q (Lw k) hq (FJ k);obtain ⟨l1,k1,hl1,hk1,e1,r1⟩:=eI l0 C hl0 hC;obtain ⟨u,b',hu,hb',e2,r2⟩:=gK (Z (a+k)) l1 D (hZ _) hl1 hD;have r0':=r0 wr;have hstep:=Hid.mk' (zN hinv e0 e1 e2);have hix:=GO Lw k hlt
    have b1:h0+k1<18446744073709551616:=by omega
    have qw:IntKind.i64.wrap ((a:Int)+k)=(a:Int)+k:=by simp only [IntKind.wrap_i64];omega
    have q1:((a:Int)+k).toNat=a+k:=by omega
    have q2:(0:Int)≤(a:Int)+k∧(a:Int)+k<9:=by omega
    have HZX:=Hid.mk' hZX;clear e0 e1 e2 r0 hinv hV hZX
    go_wp2_with (first
     | (go_at_call 162;refine r0'.mono ?_;clear r0';rintro e w' ⟨rfl,rfl⟩)
     | rw [r1]
     | rw [hix])
    go_region_with (rw [r2]);go_wp2;go_roundw
    case rel =>
     have h1:=(hrow.set (i:=a+k) (by omega) (v:=(u:Int)) (u:=u) rfl).drew;rw [J0] at h1;have eZ:Z (a+k)=X (a+k):=HZX.out (a+k) (.inr (JW _));refine ⟨k+1,h0+k1,b',bK Z (a+k) u,by omega,by go_num,by go_num,rfl,b1,hb',h1,fun j => ?_,fun j hj => ?_,?_,hout.trans ((aT.setCell w' _ (by omega) (by omega)).trans (aT.drew _))⟩
     · unfold bK;split
       · exact hu
       · exact hZ j
     · unfold bK;rw [if_neg (by omega)];exact HZX.out j (by omega)
     · have hs:=hstep.out
       have e3:pt (bK Z (a+k) u) a k=pt Z a k:=gH k (fun j hj=>by unfold bK;rw [if_neg (by omega)])
       have e4:bK Z (a+k) u (a+k)=u:=by unfold bK;rw [if_pos rfl]
       rw [pt,pt,pt,e3,e4,Nat.pow_succ,←eZ,J0];exact hs
    case measure=>simp [intOf];omega
  · have hke:k=4:=by omega
    subst hke;obtain ⟨rk,rf⟩:=hrow (a+4) (by omega);rw [J0] at rk rf;have HZX:=Hid.mk' hZX;have hinv':=Hid.mk' hinv;have hVH:=Hid.mk' hV
    have qw:IntKind.i64.wrap ((a:Int)+4)=(a:Int)+4:=by simp only [IntKind.wrap_i64];omega
    have q1:((a:Int)+4).toNat=a+4:=by omega
    have q2:(0:Int)≤(a:Int)+4∧(a:Int)+4<9:=by omega
    clear hZX hinv hV
    have hCD:C+D≤Z (a+4):=by
     have h1:=hinv'.out;have h2:=hVH.out;have h3:=oz hZ a 4;rw [pt,←HZX.out (a+4) (.inr (JW _))] at h2;rw [EI] at h1;simp only [Nat.reducePow] at h1 h2 h3;generalize q*oL=T at h1 h2;omega
    have hZa:=hZ (a+4);have hfin:=(hrow.set (i:=a+4) (by omega) (v:=(Z (a+4):Int) - ((C:Int)+D)) (u:=Z (a+4) - (C+D)) (by omega)).drew;rw [J0] at hfin;have hfin':=Hid.mk' hfin;clear hfin;go_wp2;go_region;go_wp2;go_end0;refine ⟨rfl,bK Z (a+4) (Z (a+4) - (C+D)),hfin'.out,fun j => ?_,fun j hj => ?_,?_,hout.trans ((aT.setCell wr _ (by omega) (by omega)).trans (aT.drew _))⟩
    · unfold bK;split
      · omega
      · exact hZ j
    · unfold bK;rw [if_neg (by omega)];exact HZX.out j (by omega)
    · have h1:=hinv'.out
      have e3:pt (bK Z (a+4) (Z (a+4) - (C+D))) a 4=pt Z a 4:=gH 4 (fun j hj=>by unfold bK;rw [if_neg (by omega)])
      have e4:bK Z (a+4) (Z (a+4) - (C+D)) (a+4)=Z (a+4) - (C+D):=by unfold bK;rw [if_pos rfl]
      rw [Jm X,Jm,e3,e4,←HZX.out (a+4) (.inr (JW _))];rw [EI] at h1;simp only [Nat.reducePow] at h1 ⊢;generalize q*oL=T at h1 ⊢;omega
def ja (X:Nat→Nat) (a:Nat):Nat:=X (a+4)*16+X (a+3) / 1152921504606846976 - 1
theorem vP (T U:Nat) (hT:T≤1152921504606846976) (hU:U<18446744073709551616) (h0:¬(T=0∧U / 1152921504606846976=0)) (h1:T*16+U / 1152921504606846976≤18446744073709551616) :
 IntKind.u64.wrap (bits .or .u64 (IntKind.u64.wrap ((T:Int)*16)) ((U:Int) / 1152921504606846976) - 1)=((T*16+U / 1152921504606846976 - 1:Nat):Int):=by
 have e2:(U:Int) / 1152921504606846976=((U / 1152921504606846976:Nat):Int):=by omega
 have hl:U / 1152921504606846976<16:=by omega
 rw [e2];generalize U / 1152921504606846976=l at *
 by_cases hT2:T=1152921504606846976
 · have hl0:l=0:=by omega
   subst hT2 hl0;decide
 · have e1:IntKind.u64.wrap ((T:Int)*16)=((T*16:Nat):Int):=by rw [IntKind.wrap_u64];omega
   rw [e1,bits_or_u64_nat _ _ (by omega) (by omega)]
   have e3:T*16 ||| l=T*16+l:=by
    have:=Nat.two_pow_add_eq_or_of_lt (i:=4) (b:=l) (by omega) T;rw [Nat.mul_comm T 16];exact this.symm
   rw [e3,IntKind.wrap_u64];omega
set_option maxRecDepth 20000 in
set_option maxHeartbeats 2000000 in
theorem A9 (g a:Nat) (X:Nat→Nat) (ha:a≤4) (hX:∀ j,X j<18446744073709551616) (hT:X (a+4)≤1152921504606846976) (hg':X (a+4)*16+X (a+3) / 1152921504606846976≤18446744073709551616) (w:World) (hrow:ah .u64 w g 0 9 X) :
 Calls Tryz.prog 165 #[.pointer (some ⟨g,0,none⟩),.int .i64 a] w fun e w'=>e = .returned (.int .u64 (ja X a))∧Below w.heap.size w w':=by
 obtain ⟨r4,-⟩:=hrow (a+4) (by omega);obtain ⟨r3,-⟩:=hrow (a+3) (by omega);rw [J0] at r4 r3
 have qw:IntKind.i64.wrap ((a:Int)+4)=(a:Int)+4:=by simp only [IntKind.wrap_i64];omega
 have q1:((a:Int)+4).toNat=a+4:=by omega
 have q2:(0:Int)≤(a:Int)+4∧(a:Int)+4<9:=by omega
 have pw:IntKind.i64.wrap ((a:Int)+3)=(a:Int)+3:=by simp only [IntKind.wrap_i64];omega
 have p1:((a:Int)+3).toNat=a+3:=by omega
 have p2:(0:Int)≤(a:Int)+3∧(a:Int)+3<9:=by omega
 have hU:=hX (a+3)
 have key:=fun h0=>vP (X (a+4)) (X (a+3)) hT hU h0 hg'
 unfold ja;generalize X (a+4)=T at *;generalize X (a+3)=U at *;clear hX hrow
 by_cases hc:T=0
 · subst hc
   by_cases hd:U / 1152921504606846976=0
   · have hd':(U:Int) / 1152921504606846976=0:=by omega
     clear key
     have hret:Ending.returned (.int .u64 0)=Ending.returned (.int .u64 ((0*16+U / 1152921504606846976 - 1:Nat):Int)):=by rw [hd];rfl
     have hret':=Hid.mk' hret;clear hret hd;go_enter Tryz.func165,Tryz.ntmps165;go_wp2;go_region;go_wp2;go_ret;exact ⟨hret'.out,(Below.refl _ _).drew⟩
   · have hd':¬(U:Int) / 1152921504606846976=0:=by omega
     have key0:=key (fun h=>hd h.2);rw [show IntKind.u64.wrap (((0:Nat):Int)*16)=0 by decide] at key0;have key':=Hid.mk' key0;clear key key0 hd;go_enter Tryz.func165,Tryz.ntmps165;go_wp2;go_region;go_wp2;go_ret;exact ⟨eJ key'.out,(Below.refl _ _).drew⟩
 · have hc':¬(T:Int)=0:=by omega
   have key':=Hid.mk' (key (fun h=>hc h.1));clear key hc;go_enter Tryz.func165,Tryz.ntmps165;go_wp2;go_region;go_wp2;go_ret;exact ⟨eJ key'.out,(Below.refl _ _).drew⟩
theorem Jz (X:Nat→Nat) (a:Nat):pt X a 5=pt X a 3+X (a+3)*6277101735386680763835789423207666416102355444464034512896+X (a+4)*115792089237316195423570985008687907853269984665640564039457584007913129639936:=rfl
theorem xg (X:Nat→Nat) (a:Nat) (hX:∀ j,X j<18446744073709551616) (hV:pt X a 5<18446744073709551616*oL) :
 X (a+4)≤1152921504606846976∧X (a+4)*16+X (a+3) / 1152921504606846976≤18446744073709551616∧ja X a<18446744073709551616∧ja X a*oL≤pt X a 5∧pt X a 5<ja X a*oL+2*oL:=by
 have h3:=oz hX a 3;have hx3:=hX (a+3);have hx4:=hX (a+4);rw [Jz] at hV ⊢;unfold ja oL at *;simp only [Nat.reducePow] at h3;generalize pt X a 3=P at *;generalize X (a+3)=U at *;generalize X (a+4)=T at *;clear hX
 refine ⟨?_,?_,?_,?_,?_⟩ <;> omega
theorem DT {X Y:Nat→Nat} {a q:Nat} (ha:a≤4) (hout:∀ j,(j<a∨a+5≤j)→Y j=X j) (h:pt Y a 5+q*oL=pt X a 5):pt Y 0 9%oL=pt X 0 9%oL:=by
 have key:∀ Z,pt Z 0 9=pt Z 0 a+18446744073709551616 ^ a*(pt Z a 5+18446744073709551616 ^ 5*pt Z (a+5) (4 - a)):=fun Z=>by
  have h1:=gM Z 0 a (5+(4 - a));rw [show a+(5+(4 - a))=9 by omega,J0,gM Z a 5 (4 - a)] at h1;exact h1
 have e1:pt Y 0 a=pt X 0 a:=gH a (fun j hj=>hout _ (by omega));have e2:pt Y (a+5) (4 - a)=pt X (a+5) (4 - a):=gH _ (fun j hj=>hout _ (by omega));rw [key Y,key X,e1,e2,←h]
 have e3:pt X 0 a+18446744073709551616 ^ a*(pt Y a 5+q*oL+18446744073709551616 ^ 5*pt X (a+5) (4 - a))=(pt X 0 a+18446744073709551616 ^ a*(pt Y a 5+18446744073709551616 ^ 5*pt X (a+5) (4 - a)))+oL*(18446744073709551616 ^ a*q):=by
  rw [Nat.mul_add,Nat.mul_add,Nat.mul_add,Nat.mul_comm q oL,←Nat.mul_assoc,←Nat.mul_assoc oL,Nat.mul_comm oL,Nat.mul_assoc (18446744073709551616 ^ a) oL q];omega
 rw [e3,Nat.add_mul_mod_self_left]
theorem I8 {X:Nat→Nat} {a:Nat} (hX:∀ j,X j<18446744073709551616) {m:Nat} (hm:m<4) (heq:∀ k,m<k→k<4→X (a+k)=Lw k):(X (a+m)<Lw m→pt X a 4<oL)∧(Lw m<X (a+m)→oL≤pt X a 4):=by
 have e:∀ Z:Nat→Nat,pt Z a 4=pt Z a m+Z (a+m)*18446744073709551616 ^ m+18446744073709551616 ^ (m+1)*pt Z (a+(m+1)) (3 - m):=fun Z=>by
  have h1:=gM Z a (m+1) (3 - m);rw [show m+1+(3 - m)=4 by omega,pt] at h1;exact h1
 have e':oL=pt Lw 0 m+Lw m*18446744073709551616 ^ m+18446744073709551616 ^ (m+1)*pt Lw (m+1) (3 - m):=by
  have h1:=gM Lw 0 (m+1) (3 - m);rw [show m+1+(3 - m)=4 by omega,EI,pt,J0,J0] at h1;exact h1
 have e2:∀ n,n≤3 - m→pt X (a+(m+1)) n=pt Lw (m+1) n:=fun n=>by
  induction n with
  | zero=>intro _;rfl
  | succ n ih =>
   intro hn;rw [pt,pt,ih (by omega)];have:=heq (m+1+n) (by omega) (by omega);rw [show a+(m+1)+n=a+(m+1+n) by omega,this]
 have l1:=oz hX a m;have l2:=oz FJ 0 m;rw [e X,e',e2 _ (JW _)];generalize 18446744073709551616 ^ (m+1)*pt Lw (m+1) (3 - m)=H;generalize 18446744073709551616 ^ m=P at *
 constructor
 · intro h
   have:=Nat.mul_le_mul_right P (show X (a+m)+1≤Lw m by omega);rw [Nat.add_mul,Nat.one_mul] at this;omega
 · intro h
   have:=Nat.mul_le_mul_right P (show Lw m+1≤X (a+m) by omega);rw [Nat.add_mul,Nat.one_mul] at this;omega
theorem Ji {X:Nat→Nat} {a:Nat} (heq:∀ k,k<4→X (a+k)=Lw k):pt X a 4=oL:=by
 rw [←EI]
 have:∀ n,n≤4→pt X a n=pt Lw 0 n:=fun n=>by
  induction n with
  | zero=>intro _;rfl
  | succ n ih=>intro hn;rw [pt,pt,ih (by omega),heq n (by omega),J0]
 exact this 4 (JW _)
theorem uj {X:Nat→Nat} {a:Nat} (h:pt X a 5<2*oL):X (a+4)=0∧pt X a 4=pt X a 5:=by
 rw [Jm] at *;unfold oL at h;simp only [Nat.reducePow] at *;omega
theorem Ij {X:Nat→Nat} {a:Nat} (hX:∀ j,X j<18446744073709551616) (h:pt X (a+1) 4<oL):pt X a 5<18446744073709551616*oL:=by
 rw [EZ];have:=hX a;unfold oL at *;omega
theorem zg {X:Nat→Nat} (m:Nat):∀ k,(∀ j,m≤j→j<m+k→X j=0)→pt X 0 (m+k)=pt X 0 m
 | 0,_=>rfl
 | k+1,h=>by rw [←Nat.add_assoc,pt,zg m k (fun j h1 h2=>h j h1 (by omega)),J0,h (m+k) (by omega) (by omega),Nat.zero_mul,Nat.add_zero]
theorem CQ {X:Nat→Nat} (h:∀ j,4≤j→j<9→X j=0):pt X 0 9=pt X 0 4:=zg 4 5 h
theorem GQ {X:Nat→Nat} {N:Nat} (h:∀ j,4≤j→j<9→X j=0) (hl:pt X 0 4<oL) (hm:pt X 0 9%oL=N):N=pt X 0 9:=by
 have e:=CQ h;rw [e] at hm ⊢;rw [←hm];exact Nat.mod_eq_of_lt hl
theorem te {X Y:Nat→Nat} {a q N:Nat} (ha:a≤4) (hz:∀ j,a+1+4≤j→j<9→X j=0) (hm:pt X 0 9%oL=N) (hout:∀ j,(j<a∨a+5≤j)→Y j=X j) (h:pt Y a 5+q*oL=pt X a 5) :
 (∀ j,a+1+4≤j→j<9→Y j=0)∧pt Y 0 9%oL=N :=
 ⟨fun j h1 h2=>(hout j (by omega)).trans (hz j h1 h2),(DT ha hout h).trans hm⟩
theorem rI {Y:Nat→Nat} {a:Nat} (hz:∀ j,a+1+4≤j→j<9→Y j=0) (h:pt Y a 5<oL):(∀ j,a+4≤j→j<9→Y j=0)∧pt Y a 4<oL:=by
 obtain ⟨h1,h2⟩:=uj (X:=Y) (a:=a) (by omega);refine ⟨fun j hj h9 => ?_,by omega⟩
 by_cases e:j=a+4
 · rw [e];exact h1
 · exact hz j (by omega) h9
set_option maxRecDepth 20000 in
set_option maxHeartbeats 4000000 in
theorem nU (g:Nat) (X0:Nat→Nat) (hX0:∀ j,X0 j<18446744073709551616) (h8:X0 8=0) (w:World) (hrow0:ah .u64 w g 0 9 X0) (hO0:nl w) (hg:g≠2) :
 Calls Tryz.prog 101 #[.pointer (some ⟨g,0,none⟩)] w fun e w'=>∃ h,e = .returned (.slice (some ⟨h,0,none⟩) 32 32)∧w.heap.size≤h∧h<w'.heap.size∧ah .u8 w' h 0 32 (bf (pt X0 0 9%oL))∧aT g 0 9 w w':=by
 have hgl:g<w.heap.size:=block_lt_of_cell (hrow0 0 (by decide)).1
 have hst:pt X0 5 4<oL:=by
  have h1:=oz hX0 5 3;have h2:pt X0 5 4=pt X0 5 3+X0 8*18446744073709551616 ^ 3:=rfl;rw [h8] at h2;simp only [Nat.reducePow] at h1 h2;unfold oL;omega
 obtain ⟨N,hN⟩:∃ N,N=pt X0 0 9%oL:=⟨_,rfl⟩
 rw [←hN]
 have hNl:N<oL:=by rw [hN];exact Nat.mod_lt _ (by decide)
 go_enter Tryz.func101,Tryz.ntmps101;go_wp2;go_step3;go_wp2;go_step3;go_wp2;go_loopw [3] (fun i wr=>∃ (n:Nat) (X:Nat→Nat),n≤5∧i = .int .i64 ((n:Int) - 1)∧ah .u64 wr g 0 9 X∧(∀ j,X j<18446744073709551616)∧(∀ j,n+4≤j→j<9→X j=0)∧pt X n 4<oL∧pt X 0 9%oL=N∧nl wr∧aT g 0 9 w wr) (fun i _=>(intOf i+1).toNat)
 case atStart=>exact ⟨5,X0,by decide,rfl,hrow0,hX0,fun j h1 h2=>absurd h2 (by omega),hst,hN.symm,hO0,aT.refl _ _ _ _⟩
 case round =>
  clear hrow0 hX0 h8 hO0 hst hN;obtain ⟨n,X,hn,rfl,hrow,hX,hz,hlt,hmod,hO,hout⟩:=hrel
  by_cases h0:n=0
  · subst h0
    have hgw:g<wr.heap.size:=by have:=hout.size;omega
    have eN:N=pt X 0 9:=GQ (fun j h1 h2=>hz j (by omega) h2) hlt hmod
    have cb:=we g N wr hgw (fun j hj=>by
     have:=(hrow j (by omega)).1;rw [J0] at this
     rw [this,eN,Fw hX 9 j (by omega)])
    clear hz hmod eN hlt hX hrow hNl hO;go_wp2_with (go_at_call 166;refine cb.mono ?_;clear cb;rintro e w1 ⟨h,rfl,hh1,hh2,hr1,hb1⟩);rw [Exit.noGoto_ret];go_ret;exact ⟨h,rfl,by have:=hout.size;omega,hh2,hr1,hout.trans (aT.of_below hb1 hgw)⟩
  · obtain ⟨a,rfl⟩:∃ a,n=a+1:=⟨n - 1,by omega⟩
    have ea:(((a+1:Nat):Int) - 1)=(a:Int):=by omega
    rw [ea];have hV:=Ij hX hlt;obtain ⟨g1,g2,g3,g4,g5⟩:=xg X a hX hV;have cg:=A9 g a X (by omega) hX g1 g2 wr hrow
    have ct:=fun W (hr:ah .u64 W g 0 9 X) hOW=>vl g a (ja X a) X (by omega) g3 hX g4 W hr hOW
    generalize ja X a=q at *
    have hai:(a:Int)≥0:=by omega
    have HZ:=Hid.mk' hz;have HM:=Hid.mk' hmod;clear hz hmod
    go_wp2_with (first
     | (go_at_call 165;refine cg.mono ?_;clear cg;rintro e w1 ⟨rfl,hb1⟩;(have hr1:=hrow.below hb1 (by have:=hout.size;omega));(have hO1:=hO.still hb1);(have ho1:=hout.trans (aT.of_below hb1 (by have:=hout.size;omega)));replace ct:=ct w1 hr1 hO1)
     | (go_at_call 164;refine ct.mono ?_;clear ct;rintro e w2 ⟨rfl,Y,hr2,hY,hYX,hpt,ho2⟩;(have hO2:=hO1.out ho2 hg);(have ho:=ho1.trans ho2)))
    have hP2:pt Y a 5<2*oL:=by omega
    obtain ⟨hY4,hP4⟩:=uj hP2;have SY:=Hid.mk' (te (by omega) HZ.out HM.out hYX hpt)
    have ct2:=fun W (hr:ah .u64 W g 0 9 Y) hOW (h:oL≤pt Y a 4)=>vl g a 1 Y (by omega) (by decide) hY (by rw [Nat.one_mul,←hP4];exact h) W hr hOW
    have hP2':=Hid.mk' hP2;have hP4':=Hid.mk' hP4;clear hYX hpt hV hlt g1 g2 g3 g4 g5 hX hrow hO hout hr1 hO1 ho1 hb1 ho2 HZ HM hP2 hP4 hY4;go_loopw [4] (fun i wt=>∃ m:Nat,m≤4∧i = .int .i64 ((m:Int) - 1)∧(∀ k,m≤k→k<4→Y (a+k)=Lw k)∧ah .u64 wt g 0 9 Y∧nl wt∧aT g 0 9 w wt) (fun i _=>(intOf i+1).toNat)
    case atStart=>exact ⟨4,by decide,rfl,fun k h1 h2=>absurd h2 (by omega),hr2,hO2,ho⟩
    case round =>
     clear hr2 hO2 ho;obtain ⟨m,hm,rfl,heq,hr,hO,ho⟩:=hrel;have HE:=Hid.mk' heq;clear heq
     by_cases hm0:m=0
     · subst hm0
       have hge:oL≤pt Y a 4:=Nat.le_of_eq (Ji (fun k hk=>HE.out k (Nat.zero_le _) hk)).symm;replace ct2:=ct2 wr hr hO hge;clear hge;go_wp2_with (go_at_call 164;refine ct2.mono ?_;clear ct2;rintro e w3 ⟨rfl,Z,hr3,hZ,hZY,hptZ,ho3⟩;(have hO3:=hO.out ho3 hg);(have hoZ:=ho.trans ho3);(have HZY:=Hid.mk' hZY);(have HPZ:=Hid.mk' hptZ);clear hZY hptZ ho3);go_roundw
       case rel =>
        obtain ⟨s1,s2⟩:=te (by omega) SY.out.1 SY.out.2 HZY.out HPZ.out
        have hl:pt Z a 5<oL:=by have:=HPZ.out;have:=hP2'.out;omega
        obtain ⟨z1,z2⟩:=rI s1 hl;exact ⟨a,Z,by omega,by go_num,hr3,hZ,z1,z2,s2,hO3,hoZ⟩
       case measure=>simp [intOf]
     · obtain ⟨i,rfl⟩:∃ i,m=i+1:=⟨m - 1,by omega⟩
       have ei:(((i+1:Nat):Int) - 1)=(i:Int):=by omega
       rw [ei];obtain ⟨rg,-⟩:=hr (a+i) (by omega);rw [J0] at rg;have ro:=hO i (by omega)
       have qw:IntKind.i64.wrap ((a:Int)+i)=(a:Int)+i:=by simp only [IntKind.wrap_i64];omega
       have q1:((a:Int)+i).toNat=a+i:=by omega
       have q2:(0:Int)≤(a:Int)+i∧(a:Int)+i<9:=by omega
       have q3:(0:Int)≤(i:Int)∧(i:Int)<4:=by omega
       obtain ⟨c1,c2⟩:=I8 (m:=i) hY (by omega) (fun k h1 h2=>HE.out k (by omega) h2)
       rcases Nat.lt_trichotomy (Y (a+i)) (Lw i) with hc | hc | hc
       · have hl:=Hid.mk' (c1 hc)
         have hci:(Y (a+i):Int)<(Lw i:Int):=by omega
         clear c1 c2 hc ct2;go_wp2;go_region;go_wp2;obtain ⟨z1,z2⟩:=rI SY.out.1 (by rw [←hP4'.out];exact hl.out);exact ⟨⟨a,Y,by omega,rfl,hr.drew,hY,z1,z2,SY.out.2,fun j hj=>hO j hj,ho.trans (aT.drew _)⟩,by simp [intOf]⟩
       · have hci:¬(Y (a+i):Int)<(Lw i:Int):=by omega
         have hci2:¬(Lw i:Int)<(Y (a+i):Int):=by omega
         have hc':=Hid.mk' hc;clear c1 c2 hc ct2;go_wp2;go_region;go_wp2;go_region;go_wp2;go_roundw
         case rel =>
          refine ⟨i,by omega,by go_num,fun k h1 h2 => ?_,hr.drew.drew,fun j hj=>hO j hj,(ho.trans (aT.drew _)).trans (aT.drew _)⟩
          by_cases e:k=i
          · rw [e];exact hc'.out
          · exact HE.out k (by omega) h2
         case measure=>simp [intOf]
       · have hci:¬(Y (a+i):Int)<(Lw i:Int):=by omega
         have hci2:(Lw i:Int)<(Y (a+i):Int):=by omega
         replace ct2:=ct2 wr.drew.drew hr.drew.drew (fun j hj=>hO j hj) (c2 hc);clear c1 c2 hc
         have hO':nl wr.drew.drew:=fun j hj=>hO j hj
         have ho':aT g 0 9 w wr.drew.drew:=(ho.trans (aT.drew _)).trans (aT.drew _);go_wp2;go_region;go_wp2;go_region;go_wp2_with (go_at_call 164;refine ct2.mono ?_;clear ct2;rintro e w3 ⟨rfl,Z,hr3,hZ,hZY,hptZ,ho3⟩;(have hO3:=hO'.out ho3 hg);(have hoZ:=ho'.trans ho3);(have HZY:=Hid.mk' hZY);(have HPZ:=Hid.mk' hptZ);clear hZY hptZ ho3);go_roundw
         case rel =>
          obtain ⟨s1,s2⟩:=te (by omega) SY.out.1 SY.out.2 HZY.out HPZ.out
          have hl:pt Z a 5<oL:=by have:=HPZ.out;have:=hP2'.out;omega
          obtain ⟨z1,z2⟩:=rI s1 hl;exact ⟨a,Z,by omega,by go_num,hr3,hZ,z1,z2,s2,hO3,hoZ⟩
         case measure=>simp [intOf]
set_option maxRecDepth 20000 in
set_option maxHeartbeats 4000000 in
theorem CS (g ga gb:Nat) (X A B:Nat→Nat) (hga:g≠ga) (hgb:g≠gb) (hX:∀ j,X j<18446744073709551616) (hA:∀ j,A j<18446744073709551616) (hB:∀ j,B j<18446744073709551616) (hz:∀ j,4≤j→j<9→X j=0) (w:World) (hrow0:ah .u64 w g 0 9 X) (hra0:ah .u64 w ga 0 9 A) (hrb0:ah .u64 w gb 0 9 B) :
 Calls Tryz.prog 100 #[.pointer (some ⟨g,0,none⟩),.pointer (some ⟨ga,0,none⟩),.pointer (some ⟨gb,0,none⟩)] w fun e w'=>e = .returned (.tuple #[])∧∃ Y,ah .u64 w' g 0 9 Y∧(∀ j,Y j<18446744073709551616)∧Y 8=0∧pt Y 0 9=pt X 0 9+pt A 0 4*pt B 0 4∧aT g 0 9 w w':=by
 have hra:∀ W,aT g 0 9 w W→ah .u64 W ga 0 9 A:=fun W h=>h.row hra0 (Ne.symm hga)
 have hrb:∀ W,aT g 0 9 w W→ah .u64 W gb 0 9 B:=fun W h=>h.row hrb0 (Ne.symm hgb)
 clear hra0 hrb0;go_enter Tryz.func100,Tryz.ntmps100;go_wp2;go_loopw [18] (fun i wr=>∃ (k:Nat) (Z:Nat→Nat),k≤4∧i = .int .i64 k∧ah .u64 wr g 0 9 Z∧(∀ j,Z j<18446744073709551616)∧(∀ j,k+4≤j→j<9→Z j=0)∧pt Z 0 9=pt X 0 9+pt A 0 k*pt B 0 4∧aT g 0 9 w wr) (fun i _=>4 - (intOf i).toNat)
 case atStart=>exact ⟨0,X,by decide,rfl,hrow0,hX,fun j h1 h2=>hz j (by omega) h2,by rw [pt,Nat.zero_mul,Nat.add_zero],aT.refl _ _ _ _⟩
 case round =>
  clear hrow0 hX hz;obtain ⟨k,Z,hk,rfl,hrow,hZ,hz,hval,hout⟩:=hrel
  by_cases hlt:k<4
  · obtain ⟨ra,-⟩:=hra wr hout k (by omega)
    rw [J0] at ra;have hz':=Hid.mk' hz;have hval':=Hid.mk' hval
    have hki:(k:Int)<4:=by omega
    clear hz hval;go_wp2;go_loopw [27,8] (fun i c wt=>∃ (m C:Nat) (Y:Nat→Nat),m≤4∧i = .int .i64 m∧c = .int .u64 C∧C<18446744073709551616∧ah .u64 wt g 0 9 Y∧(∀ j,Y j<18446744073709551616)∧(∀ j,k+4≤j→j<9→Y j=0)∧pt Y 0 9+C*18446744073709551616 ^ (k+m)=pt Z 0 9+A k*pt B 0 m*18446744073709551616 ^ k∧aT g 0 9 w wt) (fun i _ _=>4 - (intOf i).toNat)
    case atStart=>exact ⟨0,0,Z,by decide,rfl,rfl,by decide,hrow,hZ,hz'.out,by rw [pt,Nat.mul_zero,Nat.zero_mul,Nat.zero_mul],hout⟩
    case round =>
     clear hrow hout ra;obtain ⟨m,C,Y,hm,rfl,rfl,hC,hrow,hY,hzY,hinv,hout⟩:=hrel
     by_cases hmt:m<4
     · obtain ⟨rb,-⟩:=hrb wr hout m (by omega)
       obtain ⟨rg,fg⟩:=hrow (k+m) (by omega);rw [J0] at rb rg fg;obtain ⟨h0,l0,hh0,hl0,e0,r0⟩:=nM (A k) (B m) (hA k) (hB m);obtain ⟨l1,k1,hl1,hk1,e1,r1⟩:=eI l0 (Y (k+m)) hl0 (hY _);obtain ⟨l2,k2,hl2,hk2,e2,r2⟩:=eI l1 C hl1 hC;have hpu:=vU Y (k+m) l2 0 9 (by omega);rw [J0] at hpu;have hstep:=Hid.mk' (Cg (Nat.pow_add 18446744073709551616 k m) hinv e0 e1 e2 hpu);have hxy:A k*B m≤18446744073709551615*18446744073709551615:=Nat.mul_le_mul (by have:=hA k;omega) (by have:=hB m;omega);have hYk:=hY (k+m)
       have b1:h0+k1<18446744073709551616:=by omega
       have b2:h0+k1+k2<18446744073709551616:=by
        generalize A k*B m=T at *;omega
       have hzY':=Hid.mk' hzY
       have qw:IntKind.i64.wrap ((k:Int)+m)=(k:Int)+m:=by simp only [IntKind.wrap_i64];omega
       have q1:((k:Int)+m).toNat=k+m:=by omega
       have q2:(0:Int)≤(k:Int)+m∧(k:Int)+m<9:=by omega
       have hmi:(m:Int)<4:=by omega
       have r0':=r0 wr;clear hra hrb hinv e0 e1 e2 hpu hxy hzY r0
       go_wp2_with (first
        | (go_at_call 162;refine r0'.mono ?_;clear r0';rintro e w' ⟨rfl,hw⟩;subst hw)
        | rw [r1])
       go_region_with (rw [r2]);go_wp2;have h1:=(hrow.set (i:=k+m) (by omega) (v:=(l2:Int)) (u:=l2) rfl).drew;rw [J0] at h1;refine ⟨⟨m+1,h0+k1+k2,bK Y (k+m) l2,by omega,by go_num,by go_num,b2,h1,fun j => ?_,fun j h1 h2 => ?_,?_,hout.trans ((aT.setCell w' _ (by omega) (by omega)).trans (aT.drew _))⟩,by simp [intOf];omega⟩
       · unfold bK;split
         · exact hl2
         · exact hY j
       · unfold bK;rw [if_neg (by omega)];exact hzY'.out j h1 h2
       · rw [←Nat.add_assoc,Nat.pow_succ,vD B m]
         exact hstep.out
     · have hme:m=4:=by omega
       subst hme;obtain ⟨rg,fg⟩:=hrow (k+4) (by omega);rw [J0] at rg fg;have hzk:=hzY (k+4) (by omega) (by omega);have hpu:=vU Y (k+4) C 0 9 (by omega);rw [J0,hzk,Nat.zero_mul,Nat.add_zero,hinv,hval'.out] at hpu
       have hpu':pt (bK Y (k+4) C) 0 9=pt X 0 9+pt A 0 (k+1)*pt B 0 4:=by
        rw [hpu,vD A k,Nat.add_mul,Nat.mul_right_comm,Nat.add_assoc]
       have HP:=Hid.mk' hpu';have hzY':=Hid.mk' hzY
       have qw:IntKind.i64.wrap ((k:Int)+4)=(k:Int)+4:=by simp only [IntKind.wrap_i64];omega
       have q1:((k:Int)+4).toNat=k+4:=by omega
       have q2:(0:Int)≤(k:Int)+4∧(k:Int)+4<9:=by omega
       clear hpu hpu' hinv hzY hra hrb hzk;go_wp2;go_roundw
       case rel =>
        have h1:=hrow.set (i:=k+4) (by omega) (v:=(C:Int)) (u:=C) rfl;rw [J0] at h1;refine ⟨k+1,bK Y (k+4) C,by omega,by go_num,h1,fun j => ?_,fun j h1 h2 => ?_,HP.out,hout.trans (aT.setCell wr _ (by omega) (by omega))⟩
        · unfold bK;split
          · exact hC
          · exact hY j
        · unfold bK;rw [if_neg (by omega)];exact hzY'.out j (by omega) h2
       case measure=>simp [intOf];omega
  · have hke:k=4:=by omega
    subst hke;have hz':=Hid.mk' hz;have hval':=Hid.mk' hval;clear hz hval hra hrb;go_wp2;go_end0;exact ⟨rfl,Z,hrow,hZ,hz'.out 8 (by decide) (by decide),hval'.out,hout⟩
theorem sy {N k j:Nat} (h:N<18446744073709551616 ^ k) (hj:k≤j):lw N j=0:=by
 unfold lw;rw [Nat.div_eq_of_lt (JX h (Nat.pow_le_pow_right (by decide) hj)),Nat.zero_mod]
theorem nP {N k:Nat} (h:N<18446744073709551616 ^ k):pt (lw N) 0 k=N:=by rw [Ge,Nat.mod_eq_of_lt h]
theorem Ca {bs:Nat→Nat} (hbs:∀ j,bs j<256) {n:Nat} (hn:n≤64):aK bs n<18446744073709551616 ^ 8:=by
 refine JX (dY bs hbs n) ?_;rw [show (18446744073709551616:Nat) ^ 8=256 ^ 64 by decide];exact Nat.pow_le_pow_right (by decide) hn
theorem ti {bs:Nat→Nat} (hbs:∀ j,bs j<256):aK bs 32<18446744073709551616 ^ 4:=by
 have:=dY bs hbs 32;rw [show (18446744073709551616:Nat) ^ 4=256 ^ 32 by decide];exact this
def qP (w:World) (X:Nat→Nat):World:=(w.alloc (.cells zW 123)).setCells w.heap.size 0 (au .u64 9 X)
theorem mN (w:World) (X:Nat→Nat):(w.alloc (.cells zW 123)).there w.heap.size 0 (au .u64 9 X).toArray.size:=by
 rw [fK];exact (ah.fresh (K := .u64) (X:=fun _=>0) (fun j hj=>vA j hj)).there
theorem qN (w:World) (X:Nat→Nat):ah .u64 (qP w X) w.heap.size 0 9 X:=by
 have h:=(ah.fresh (K := .u64) (w:=w) (cs:=zW) (t:=123) (X:=fun _=>0) (fun j hj=>vA j hj)).splice 0 9 X (by decide);refine h.congr (fun j hj => ?_);unfold over;rw [if_pos ⟨Nat.zero_le _,by omega⟩,Nat.sub_zero]
theorem fW (w:World) (X:Nat→Nat):Below w.heap.size w (qP w X):=ac (JW _) _ _ _ ((Below.refl _ _).alloc (JW _) _)
set_option maxRecDepth 20000 in
set_option maxHeartbeats 2000000 in
theorem uZ (v:Value) (n:Nat) (bs:Nat→Nat) (hbs:∀ j,bs j<256) (hn:n≤64) (w:World) (hO:nl w) (hv:ae w v n bs) :
 Calls Tryz.prog 89 #[v] w fun e w'=>∃ s,e = .returned (.tuple #[s,.int .i64 0])∧jS w w' s 32 (bf (aK bs n%oL))∧Below w.heap.size w w':=by
 have cl:=i6 v n bs hbs hn w hv;obtain ⟨xv,kv,rfl,-⟩:=hv.src;have hN:=Ca hbs hn
 have hni:¬(64:Int)<n:=by omega
 have cr:=fun W (hW:Below w.heap.size w W)=>nU W.heap.size (lw (aK bs n)) (fs _) (sy hN (JW _)) (qP W (lw (aK bs n))) (qN W _) ((hO.still hW).still (fW W _)) (by have:=hW.size;have:=hO.lt;omega)
 rw [nP (JX hN (Nat.pow_le_pow_right (by decide) (by decide)))] at cr
 obtain ⟨R,hR⟩:∃ R,R=aK bs n%oL:=⟨_,rfl⟩
 rw [←hR] at cr ⊢
 obtain ⟨X,hX⟩:∃ X,X=lw (aK bs n):=⟨_,rfl⟩
 rw [←hX] at cl cr;have hz:=x8;have hi2:=lT X;have ho:=AE X;unfold re at cl;clear hv hR hX hN hbs;go_enter Tryz.func89,Tryz.ntmps89
 go_wp2_with (first
  | (go_at_call 99;refine cl.mono ?_;clear cl;rintro e w1 ⟨rfl,hb1⟩;(have hth:=mN w1 X);replace cr:=cr w1 hb1)
  | (with_reducible (refine id (?_:wpList _ _ _ _ _ _));refine wpList_store_mid rfl 123 _ _ rfl w1.heap.size 0 (au .u64 9 X).toArray rfl rfl hth hi2 ho ?_)
  | (go_at_call 101;refine Calls.mono (show Calls _ _ _ (qP w1 X) _ from cr) ?_;clear cr;rintro e w3 ⟨h,rfl,hh1,hh2,hr,hout⟩))
 go_ret2;have hbl:=hb1.trans ((fW w1 X).mono hb1.size);have hb3:=hbl.trans (hout.below hb1.size hbl.size);exact ⟨_,rfl,⟨h,rfl,by have:=hbl.size;omega,hr⟩,hb3⟩
end Go.Proofs.YtibdhadbflfdpaaGreatDoor
