/- What the proof stands on: SgHash, SgCat, SApi2, SgSign, SApi3. -/
import Derived.Test.YtibdhadbflfdpaaGreatDoorD1RBM
import Derived.Test.YtibdhadbflfdpaaGreatDoorHHashMM
import Derived.Test.YtibdhadbflfdpaaGreatDoorHMixM
import Derived.Test.YtibdhadbflfdpaaGreatDoorHRefSmallM
import Derived.Test.YtibdhadbflfdpaaGreatDoorPtEM
import Derived.Test.YtibdhadbflfdpaaGreatDoorQAppM
import Derived.Test.YtibdhadbflfdpaaGreatDoorSLoadM
import Derived.Deep.Upon
namespace Go.Proofs.YtibdhadbflfdpaaGreatDoor
open Nat renaming le_refl → JW
open Nat renaming le_trans → JY
open Nat renaming zero_add → J0
open Go renaming wpList_store_mid → J2
open Go renaming block_lt_of_cell → J5
open Go.RowKit
set_option maxRecDepth 20000 in
set_option maxHeartbeats 4000000 in
theorem od (xo:Option Addr) (cnt cap:Nat) (pv:Nat→Value) (pn:Nat→Nat) (pb:Nat→Nat→Nat) (w:World) (hT:ep w aS aC) (hO:nl w) (hP:dp w xo cnt pv pn pb) (hcnt:cnt≤1000) (hsum:bG pn cnt<2305843009213693952) :
 Calls Tryz.prog 42 #[.slice xo cnt cap] w fun e w'=>∃ s,e = .returned s∧jS w w' s 32 (bf (hL (bG pn cnt) (fF pn pb cnt)))∧Below w.heap.size w w':=by
 have h3:=hT.size;have hn1:=wQ w hT (fun _=>0)
 have hhs:=fun (W:World) (gh:Nat) (hM:cH W gh (bG pn cnt) (fF pn pb cnt)) (hb:Below w.heap.size w W)=>ux gh (bG pn cnt) (fF pn pb cnt) W hM (hT.below hb h3) hsum
 have hre:=fun (W:World) (v:Value) (hb:Below w.heap.size w W) hv=>uZ v 64 (h5 (bG pn cnt) (fF pn pb cnt)) (rh _ _) (by decide) W (hO.still hb) hv
 have hY:eD 64 (du aA aS aC (bG pn cnt) (fF pn pb cnt))=h5 (bG pn cnt) (fF pn pb cnt):=rfl;have hZ:aK (h5 (bG pn cnt) (fF pn pb cnt)) 64%oL=hL (bG pn cnt) (fF pn pb cnt):=rfl;simp only [hY] at hhs;simp only [hZ] at hre;generalize h5 (bG pn cnt) (fF pn pb cnt)=Y at *;generalize hL (bG pn cnt) (fF pn pb cnt)=Z at *;clear hY hZ;go_enter Tryz.func42,Tryz.ntmps42;go_wp2_with (go_at_call 87;refine hn1.mono ?_;clear hn1;rintro e w1 ⟨gh,rfl,hgh,hMh,hb1⟩);go_loopw [11] (fun i wr=>∃ q:Nat,q≤cnt∧i = .int .i64 q∧cH wr gh (bG pn q) (fF pn pb q)∧Below w.heap.size w wr) (fun i _=>cnt - (intOf i).toNat)
 case atStart=>exact ⟨0,Nat.zero_le _,rfl,hMh,hb1⟩
 case round =>
  clear hMh hb1;obtain ⟨q,hq,rfl,hM,hbw⟩:=hrel
  by_cases hlt:q<cnt
  · obtain ⟨lb,lo,rfl,hcell⟩:=hP.cell q hlt
    have hBq:=hP.each q hlt;have hbyte:=hP.byte q
    obtain ⟨n,hn⟩:∃ n,n=pn q:=⟨_,rfl⟩
    obtain ⟨T,hTe⟩:∃ T,T=bG pn q:=⟨_,rfl⟩
    obtain ⟨A,hA⟩:∃ A,A=fF pn pb q:=⟨_,rfl⟩
    obtain ⟨pbq,hpbq⟩:∃ b,b=pb q:=⟨_,rfl⟩
    have hTn:T+n<2305843009213693952:=by
     have h1:bG pn (q+1)≤bG pn cnt:=kY pn hlt;have h2:bG pn (q+1)=bG pn q+pn q:=rfl;omega
    have HN:Hid (bG pn (q+1)=T+n∧fF pn pb (q+1)=bu T A pbq):=(⟨by rw [hTe,hn];rfl,by rw [hTe,hA,hpbq];rfl⟩:bG pn (q+1)=T+n∧fF pn pb (q+1)=bu T A pbq)
    rw [←hn,←hpbq] at hBq;rw [←hpbq] at hbyte;rw [←hTe,←hA] at hM;have hc0:=hcell q hlt;have hcl:lb<w.heap.size:=J5 hc0;obtain ⟨xp,cp,hpv,hxn,hncp,hsrc⟩:=hBq.src;rw [hpv] at hc0 hBq;have r0:wr.cell? ⟨lb,lo+q,none⟩=some (.slice xp n cp):=(hbw.cell (p:=⟨lb,lo+q,none⟩) hcl).trans hc0
    have hqi:(0:Int)≤(q:Int)∧(q:Int)<cnt:=by omega
    have hw:=pq gh T n (.slice xp n cp) A pbq hbyte wr hM (hT.below hbw h3) (by omega) (hBq.away hbw hgh) (by omega);have hd:decide ((q:Int)<(cnt:Int))=true:=decide_eq_true (by omega);clear hn hTe hA hpbq hpv hcell hc0 hre hhs;go_wp2_with (go_at_call 88;refine hw.mono ?_;clear hw;rintro e w2 ⟨rfl,hM2,hO2⟩);go_roundw
    case rel=>exact ⟨q+1,by omega,by go_num,by rw [HN.out.1,HN.out.2];exact hM2,hbw.trans (hO2.below hgh hbw.size)⟩
    case measure=>simp [intOf];omega
  · have hqe:q=cnt:=by omega
    subst hqe;have hs:=hhs wr gh hM hbw;clear hhs
    go_wp2_with (first
     | (go_at_call 90;refine hs.mono ?_;clear hs;rintro e w2 ⟨ga,rfl,hga,hra,hb2⟩;(have hb2w:=aa hbw hb2);(have hr2:=hre w2 (.slice (some ⟨ga,0,none⟩) 64 64) hb2w (.inr ⟨ga,0,64,rfl,J5 (hra 0 (by decide)).1,JW _,fun j hj=>(hra j hj).1⟩));clear hre)
     | (go_at_call 89;refine hr2.mono ?_;clear hr2;rintro e w3 ⟨s3,rfl,hn3,hb3⟩))
    go_ret;obtain ⟨g3,rfl,hg3,hr3⟩:=hn3;exact ⟨_,rfl,⟨g3,rfl,JY hb2w.size hg3,hr3⟩,aa hb2w hb3⟩
set_option maxRecDepth 20000 in
set_option maxHeartbeats 8000000 in
theorem xQ (xo:Option Addr) (cnt cap:Nat) (pv:Nat→Value) (pn:Nat→Nat) (pb:Nat→Nat→Nat) (w:World) (hP:dp w xo cnt pv pn pb) (hcnt:cnt≤1000) (hsum:bG pn cnt≤1000000) (h0:0<bG pn cnt) :
 Calls Tryz.prog 47 #[.slice xo cnt cap] w fun e w'=>∃ s,e = .returned s∧bx w.heap.size w' s (bG pn cnt) (fF pn pb cnt)∧Below w.heap.size w w':=by
 have hg:=u7 (bG pn cnt) h0 hsum w;go_enter Tryz.func47,Tryz.ntmps47;go_wp2;go_loopw [3,11] (fun s i wr=>∃ q:Nat,q≤cnt∧i = .int .i64 q∧s = .int .i64 (bG pn q:Nat)∧w=wr) (fun _ i _=>cnt - (intOf i).toNat)
 case atStart=>exact ⟨0,Nat.zero_le _,rfl,rfl,rfl⟩
 case round =>
  obtain ⟨q,hq,rfl,rfl,rfl⟩:=hrel
  by_cases hlt:q<cnt
  · obtain ⟨lb,lo,rfl,hcell⟩:=hP.cell q hlt
    have hBq:=hP.each q hlt
    obtain ⟨n,hn⟩:∃ n,n=pn q:=⟨_,rfl⟩
    obtain ⟨T,hTe⟩:∃ T,T=bG pn q:=⟨_,rfl⟩
    have hTn:T+n≤1000000:=by
     have h1:bG pn (q+1)≤bG pn cnt:=kY pn hlt;have h2:bG pn (q+1)=bG pn q+pn q:=rfl;omega
    have HN:Hid (bG pn (q+1)=T+n):=(by rw [hTe,hn];rfl:bG pn (q+1)=T+n)
    rw [←hn] at hBq;rw [←hTe];have r0:=hcell q hlt;obtain ⟨xp,cp,hpv,hxn,hncp,hsrc⟩:=hBq.src;rw [hpv] at r0
    have hqi:(0:Int)≤(q:Int)∧(q:Int)<cnt:=by omega
    have hd:decide ((q:Int)<(cnt:Int))=true:=decide_eq_true (by omega)
    have ew:IntKind.i64.wrap ((T:Int)+(n:Int))=(T:Int)+n:=by simp only [IntKind.wrap_i64];omega
    have en:¬((T:Int)+(n:Int)<0):=by omega
    clear hn hTe hpv hcell hsrc hBq hg;go_wp2;go_roundw
    case rel=>exact ⟨q+1,by omega,by go_num,by rw [HN.out];simp,by first | rfl | trivial⟩
    case measure=>simp [intOf];omega
  · have hqe:q=cnt:=by omega
    subst hqe;generalize hS:bG pn q=S at *;go_wp2_with (go_at_call 102;refine hg.mono ?_;clear hg;rintro e w1 ⟨g1,cap1,rfl,own1,hb1⟩);have hd0:decide ((q:Int)<(q:Int))=false:=decide_eq_false (by omega)
    try rw [hd0]
    clear hd0 hlt;subst hS;go_loopw [6,27] (fun ns i wr=>∃ r:Nat,r≤q∧i = .int .i64 r∧bx w.heap.size wr ns (bG pn r) (fF pn pb r)∧Below w.heap.size w wr) (fun _ i _=>q - (intOf i).toNat)
    case atStart=>exact ⟨0,Nat.zero_le _,rfl,own1,hb1⟩
    case round =>
     clear own1 hb1;obtain ⟨r,hr,rfl,own,hbw⟩:=hrel
     by_cases hlt:r<q
     · obtain ⟨lb,lo,rfl,hcell⟩:=hP.cell r hlt
       have hBq:=hP.each r hlt
       obtain ⟨n,hn⟩:∃ n,n=pn r:=⟨_,rfl⟩
       obtain ⟨T,hTe⟩:∃ T,T=bG pn r:=⟨_,rfl⟩
       obtain ⟨A,hA⟩:∃ A,A=fF pn pb r:=⟨_,rfl⟩
       obtain ⟨pbq,hpbq⟩:∃ b,b=pb r:=⟨_,rfl⟩
       have hTn:T+n≤1000000:=by
        have h1:bG pn (r+1)≤bG pn q:=kY pn hlt;have h2:bG pn (r+1)=bG pn r+pn r:=rfl;omega
       have HN:Hid (bG pn (r+1)=T+n∧fF pn pb (r+1)=bu T A pbq):=(⟨by rw [hTe,hn];rfl,by rw [hTe,hA,hpbq];rfl⟩:bG pn (r+1)=T+n∧fF pn pb (r+1)=bu T A pbq)
       rw [←hn,←hpbq] at hBq;rw [←hTe,←hA] at own;have hc0:=hcell r hlt;have hcl:lb<w.heap.size:=J5 hc0;obtain ⟨xp,cp,hpv,hxn,hncp,hsrc⟩:=hBq.src;rw [hpv] at hc0;have r0:wr.cell? ⟨lb,lo+r,none⟩=some (.slice xp n cp):=(hbw.cell (p:=⟨lb,lo+r,none⟩) hcl).trans hc0
       have hqi:(0:Int)≤(r:Int)∧(r:Int)<q:=by omega
       have hd:decide ((r:Int)<(q:Int))=true:=decide_eq_true (by omega);have src:=hsrc wr hbw;have hsz:=hbw.size;clear hn hTe hA hpbq hpv hcell hc0 hsrc;go_wp2_with (at_builtin;refine aR rfl (.tmp 31) (.tmp 32) rfl w.heap.size u6 T A rfl own xp n cp pbq rfl src hxn (by omega) hsz ?_;intro v6 w6 own6 grow6;(have hb6:Below w.heap.size w w6:=bx.grown hbw grow6 own (JW _) hsz));go_roundw
       case rel=>exact ⟨r+1,by omega,by go_num,by rw [HN.out.1,HN.out.2];exact own6,hb6⟩
       case measure=>simp [intOf];omega
     · have hqe:r=q:=by omega
       subst hqe;go_wp2;go_ret;exact ⟨_,rfl,own,hbw⟩
theorem ah.farCells {K:IntKind} {w:World} {b o n:Nat} {X:Nat→Nat} (h:ah K w b o n X) {k:Nat} (hk:b≠k) (p:Nat) (vs:List Value):ah K (w.setCells k p vs) b o n X:=fun j hj=>by
 have hb:(w.setCells k p vs).heap[b]? = w.heap[b]?:=aF k vs p w b hk;exact ⟨(World.cell?_of_block (w:=w) hb).trans (h j hj).1,(World.frozen?_of_block (w:=w) hb).trans (h j hj).2⟩
abbrev lQ (w:World):World:=((w.alloc (.cells zW 123)).alloc (.cells zW 123)).alloc (.cells zW 123)
theorem rT (w:World):Below w.heap.size w (lQ w):=(((Below.refl _ _).alloc (JW _) _).alloc (by simp) _).alloc (by simp;omega) _
theorem xR (w:World):ah .u64 (w.alloc (.cells zW 123)) w.heap.size 0 9 (fun _=>0):=ah.fresh (fun j hj=>vA j hj)
theorem mO (w:World):ah .u64 (lQ w) w.heap.size 0 9 (fun _=>0)∧ah .u64 (lQ w) (w.heap.size+1) 0 9 (fun _=>0)∧ah .u64 (lQ w) (w.heap.size+1+1) 0 9 (fun _=>0):=by
 have h2:=xR (w.alloc (.cells zW 123));have h3:=xR ((w.alloc (.cells zW 123)).alloc (.cells zW 123));rw [World.size_alloc] at h2 h3;rw [World.size_alloc] at h3;exact ⟨((xR w).alloc (by simp) _).alloc (by simp;omega) _,h2.alloc (by simp) _,h3⟩
theorem GX {w:World} {g:Nat} (h:ah .u64 w g 0 9 (fun _=>0)) (X:Nat→Nat):ah .u64 (w.setCells g 0 (au .u64 9 X)) g 0 9 X:=by
 refine (h.splice 0 9 X (by decide)).congr (fun j hj => ?_);unfold over;rw [if_pos ⟨Nat.zero_le _,by omega⟩,Nat.sub_zero]
abbrev FI (w:World) (A:Nat→Nat):World:=(lQ w).setCells w.heap.size 0 (au .u64 9 A)
abbrev Gi (w:World) (A B:Nat→Nat):World:=(FI w A).setCells (w.heap.size+1) 0 (au .u64 9 B)
def qO (w:World) (A B C:Nat→Nat):World:=(Gi w A B).setCells (w.heap.size+1+1) 0 (au .u64 9 C)
theorem um (w:World) (A B C:Nat→Nat):(lQ w).there w.heap.size 0 (au .u64 9 A).toArray.size∧(FI w A).there (w.heap.size+1) 0 (au .u64 9 B).toArray.size∧(Gi w A B).there (w.heap.size+1+1) 0 (au .u64 9 C).toArray.size:=by
 obtain ⟨h1,h2,h3⟩:=mO w;rw [fK,fK,fK];exact ⟨h1.there,(h2.farCells (by omega) _ _).there,((h3.farCells (by omega) _ _).farCells (by omega) _ _).there⟩
theorem jH (w:World) (A B C:Nat→Nat):ah .u64 (qO w A B C) w.heap.size 0 9 A∧ah .u64 (qO w A B C) (w.heap.size+1) 0 9 B∧ah .u64 (qO w A B C) (w.heap.size+1+1) 0 9 C:=by
 obtain ⟨h1,h2,h3⟩:=mO w;exact ⟨((GX h1 A).farCells (by omega) _ _).farCells (by omega) _ _,(GX (h2.farCells (by omega) _ _) B).farCells (by omega) _ _,GX ((h3.farCells (by omega) _ _).farCells (by omega) _ _) C⟩
theorem mX (w:World) (A B C:Nat→Nat):Below w.heap.size w (qO w A B C):=ac (by omega) _ _ _ (ac (by omega) _ _ _ (ac (JW _) _ _ _ (rT w)))
theorem Ei {p q r a b c N:Nat} (hp:p=a) (hq:q=b) (hr:r=c) (h:a+b*c=N):p+q*r=N:=by rw [hp,hq,hr];exact h
theorem GC (g ga gb:Nat) (X A B:Nat→Nat) (N:Nat) (hN:pt X 0 9+pt A 0 4*pt B 0 4=N) (hga:g≠ga) (hgb:g≠gb) (hX:∀ j,X j<18446744073709551616) (hA:∀ j,A j<18446744073709551616) (hB:∀ j,B j<18446744073709551616) (hz:∀ j,4≤j→j<9→X j=0) (w:World) (hrow0:ah .u64 w g 0 9 X) (hra0:ah .u64 w ga 0 9 A) (hrb0:ah .u64 w gb 0 9 B) :
 Calls Tryz.prog 100 #[.pointer (some ⟨g,0,none⟩),.pointer (some ⟨ga,0,none⟩),.pointer (some ⟨gb,0,none⟩)] w fun e w'=>e = .returned (.tuple #[])∧∃ Y,ah .u64 w' g 0 9 Y∧(∀ j,Y j<18446744073709551616)∧Y 8=0∧pt Y 0 9=N∧aT g 0 9 w w' :=
 (CS g ga gb X A B hga hgb hX hA hB hz w hrow0 hra0 hrb0).mono fun _ _ ⟨he,Y,h1,h2,h3,h4,h5⟩=>⟨he,Y,h1,h2,h3,h4.trans hN,h5⟩
set_option maxRecDepth 20000 in
set_option maxHeartbeats 4000000 in
theorem tV (va vb vc:Value) (ds bs cs:Nat→Nat) (hds:∀ j,ds j<256) (hbs:∀ j,bs j<256) (hcs:∀ j,cs j<256) (w:World) (hO:nl w) (ha:ae w va 32 ds) (hb:ae w vb 32 bs) (hc:ae w vc 32 cs) :
 Calls Tryz.prog 46 #[va,vb,vc] w fun e w'=>∃ s,e = .returned (.tuple #[s,.int .i64 0])∧jS w w' s 32 (bf ((aK cs 32+aK ds 32*aK bs 32)%oL))∧Below w.heap.size w w':=by
 have ca:=i6 va 32 ds hds (by decide) w ha
 have cb:=fun W (h:Below w.heap.size w W)=>i6 vb 32 bs hbs (by decide) W (hb.still h)
 have cc:=fun W (h:Below w.heap.size w W)=>i6 vc 32 cs hcs (by decide) W (hc.still h)
 have pA:=nP (ti hds);have pB:=nP (ti hbs);have pC:=nP (Nat.lt_of_lt_of_le (ti hcs) (Nat.pow_le_pow_right (n:=18446744073709551616) (by decide) (show 4≤9 by decide)))
 have zC:=fun j (h:4≤j) (_:j<9)=>sy (ti hcs) h
 obtain ⟨xa,ka,rfl,-⟩:=ha.src;obtain ⟨xb,kb,rfl,-⟩:=hb.src;obtain ⟨xc,kc,rfl,-⟩:=hc.src;have hA:=fs (aK ds 32);have hB:=fs (aK bs 32);have hC:=fs (aK cs 32);generalize hN:aK cs 32+aK ds 32*aK bs 32=N;have hN':=Hid.mk' (Ei pC pA pB hN)
 obtain ⟨A,hAe⟩:∃ X,X=lw (aK ds 32):=⟨_,rfl⟩
 obtain ⟨B,hBe⟩:∃ X,X=lw (aK bs 32):=⟨_,rfl⟩
 obtain ⟨C,hCe⟩:∃ X,X=lw (aK cs 32):=⟨_,rfl⟩
 rw [←hAe] at ca hA hN';rw [←hBe] at cb hB hN';rw [←hCe] at cc hC zC hN';unfold re at ca cb cc;clear pA pB pC hN hAe hBe hCe ha hb hc hds hbs hcs
 have cp:=fun (W:World)=>GC (W.heap.size+1+1) W.heap.size (W.heap.size+1) C A B N hN'.out (by omega) (by omega) hC hA hB zC (qO W A B C) (jH W A B C).2.2 (jH W A B C).1 (jH W A B C).2.1
 have cr:=fun (W:World) (X:Nat→Nat) g (hX:∀ j,X j<18446744073709551616) h8 hr hOW hg=>nU g X hX h8 W hr hOW hg
 have hz:=x8;have iA:=lT A;have iB:=lT B;have iC:=lT C;have oA:=AE A;have oB:=AE B;have oC:=AE C;clear hN' hA hB hC zC;go_enter Tryz.func46,Tryz.ntmps46
 go_wp2_with (first
  | (go_at_call 99;refine ca.mono ?_;clear ca;rintro e w1 ⟨rfl,hb1⟩;replace cb:=cb w1 hb1)
  | (go_at_call 99;refine cb.mono ?_;clear cb;rintro e w2 ⟨rfl,hb2⟩;(have hw2:=hb1.trans (hb2.mono hb1.size));replace cc:=cc w2 hw2)
  | (go_at_call 99;refine cc.mono ?_;clear cc;rintro e w3 ⟨rfl,hb3⟩;(have hw3:=hw2.trans (hb3.mono hw2.size));(obtain ⟨t1,t2,t3⟩:=um w3 A B C);replace cp:=cp w3;clear hb1 hb2 hw2 hb3)
  | (with_reducible (refine id (?_:wpList _ _ _ _ _ _));refine J2 rfl 123 _ _ rfl w3.heap.size 0 (au .u64 9 A).toArray rfl rfl t1 iA oA ?_;clear t1)
  | (with_reducible (refine id (?_:wpList _ _ _ _ _ _));refine J2 rfl 123 _ _ rfl (w3.heap.size+1) 0 (au .u64 9 B).toArray rfl rfl t2 iB oB ?_;clear t2)
  | (with_reducible (refine id (?_:wpList _ _ _ _ _ _));refine J2 rfl 123 _ _ rfl (w3.heap.size+1+1) 0 (au .u64 9 C).toArray rfl rfl t3 iC oC ?_;clear t3)
  | (go_at_call 100;refine Calls.mono (show Calls _ _ _ (qO w3 A B C) _ from cp) ?_;clear cp;rintro e w4 ⟨rfl,Y,hr4,hY,hY8,hval,ho4⟩;(have hb34:Below w3.heap.size w3 w4:=(mX w3 A B C).trans (ho4.below (by omega) (mX w3 A B C).size));(have hw4:=hw3.trans (hb34.mono hw3.size));(have HV:=Hid.mk' hval);clear hval;replace cr:=cr w4 Y (w3.heap.size+1+1) hY hY8 hr4 (hO.still hw4) (by have:=hO.lt;have:=hw3.size;omega))
  | (go_at_call 101;refine cr.mono ?_;clear cr;rintro e w5 ⟨h,rfl,hh1,hh2,hr5,ho5⟩))
 go_ret2;have hb5:=hw4.trans (ho5.below (B:=w.heap.size) (by have:=hw3.size;omega) hw4.size);rw [HV.out] at hr5;exact ⟨_,rfl,⟨h,rfl,by have:=hw4.size;omega,hr5⟩,hb5⟩
structure gi (G:World→Prop) (R:List Value→Fp × Fp→Prop):Prop where
 api:eB G R
 tab:∀ w,G w→ep w aS aC
 ord:∀ w,G w→nl w
theorem gi.sha {G:World→Prop} {R:List Value→Fp × Fp→Prop} (c:gi G R):I0 G:=fun v n bs w hbs hn hv hG=>by
 have h:=wa aS aC v n bs hbs w (c.tab w hG) hv hn;rw [j5 aS aC n _ (by decide)] at h;exact h
def fc {α:Type} (a b c:α) (i:Nat):α:=match i with | 0=>a | 1=>b | _=>c
theorem iH (w:World) (cs:Array Value) (t:TypeId) (j:Nat):(w.alloc (.cells cs t)).cell? ⟨w.heap.size,j,none⟩=cs[j]?:=by simp
theorem EU {G:World→Prop} {R:List Value→Fp × Fp→Prop} (cx:gi G R) {v1 v2:Value} {n1 n2:Nat} {b1 b2:Nat→Nat} (l1:∀ j,b1 j<256) (l2:∀ j,b2 j<256) (w:World) (h1:ae w v1 n1 b1) (h2:ae w v2 n2 b2) (hG:G w) (hn:n1+n2<2305843009213693952) :
 Calls Tryz.prog 42 #[.slice (some ⟨w.heap.size,0,none⟩) 2 2] (w.alloc (.cells #[v1,v2] 22)) fun e w'=>∃ g,e = .returned (.slice (some ⟨g,0,none⟩) 32 32)∧w.heap.size≤g∧ah .u8 w' g 0 32 (bf (hL (n1+n2) (bu n1 b1 b2)))∧Below w.heap.size w w':=by
 have b:Below w.heap.size w (w.alloc (.cells #[v1,v2] 22)):=(Below.refl _ _).alloc (JW _) _;have hG':=cx.api.keep _ _ hG b
 have hP:dp (w.alloc (.cells #[v1,v2] 22)) (some ⟨w.heap.size,0,none⟩) 2 (fc v1 v2 v2) (fc n1 n2 n2) (fc b1 b2 b2):=by
  refine ⟨fun q _=>⟨w.heap.size,0,rfl,fun i hi => ?_⟩,fun i hi => ?_,fun i j => ?_⟩
  · rw [J0,iH]
    rcases (show i=0∨i=1 by omega) with rfl | rfl <;> rfl
  · rcases (show i=0∨i=1 by omega) with rfl | rfl
    · exact h1.still b
    · exact h2.still b
  · match i with
    | 0=>exact l1 j
    | 1=>exact l2 j
    | k+2=>exact l2 j
 have hs:bG (fc n1 n2 n2) 2=n1+n2:=by show 0+n1+n2=n1+n2;omega
 have he:hL (bG (fc n1 n2 n2) 2) (fF (fc n1 n2 n2) (fc b1 b2 b2) 2)=hL (n1+n2) (bu n1 b1 b2):=by
  rw [hs]
  refine oM fun j _ => ?_
  show bu (0+n1) (bu 0 (fun _=>0) b1) b2 j=bu n1 b1 b2 j;rw [J0];rfl
 refine (od _ 2 2 _ _ _ _ (cx.tab _ hG') (cx.ord _ hG') hP (by decide) (by rw [hs];exact hn)).mono fun e w' ⟨s,hs',⟨g,hg,hgs,hr⟩,hb⟩ => ?_
 rw [he] at hr;subst hg;exact ⟨g,hs',JY b.size hgs,hr,aa b hb⟩
theorem yO {G:World→Prop} {R:List Value→Fp × Fp→Prop} (cx:gi G R) {v1 v2 v3:Value} {n1 n2 n3:Nat} {b1 b2 b3:Nat→Nat} (l1:∀ j,b1 j<256) (l2:∀ j,b2 j<256) (l3:∀ j,b3 j<256) (w:World) (h1:ae w v1 n1 b1) (h2:ae w v2 n2 b2) (h3:ae w v3 n3 b3) (hG:G w) (hn:n1+n2+n3<2305843009213693952) :
 Calls Tryz.prog 42 #[.slice (some ⟨w.heap.size,0,none⟩) 3 3] (w.alloc (.cells #[v1,v2,v3] 22)) fun e w'=>∃ g,e = .returned (.slice (some ⟨g,0,none⟩) 32 32)∧w.heap.size≤g∧ah .u8 w' g 0 32 (bf (hL (n1+n2+n3) (bu (n1+n2) (bu n1 b1 b2) b3)))∧Below w.heap.size w w':=by
 have b:Below w.heap.size w (w.alloc (.cells #[v1,v2,v3] 22)):=(Below.refl _ _).alloc (JW _) _;have hG':=cx.api.keep _ _ hG b
 have hP:dp (w.alloc (.cells #[v1,v2,v3] 22)) (some ⟨w.heap.size,0,none⟩) 3 (fc v1 v2 v3) (fc n1 n2 n3) (fc b1 b2 b3):=by
  refine ⟨fun q _=>⟨w.heap.size,0,rfl,fun i hi => ?_⟩,fun i hi => ?_,fun i j => ?_⟩
  · rw [J0,iH]
    rcases (show i=0∨i=1∨i=2 by omega) with rfl | rfl | rfl <;> rfl
  · rcases (show i=0∨i=1∨i=2 by omega) with rfl | rfl | rfl
    · exact h1.still b
    · exact h2.still b
    · exact h3.still b
  · match i with
    | 0=>exact l1 j
    | 1=>exact l2 j
    | k+2=>exact l3 j
 have hs:bG (fc n1 n2 n3) 3=n1+n2+n3:=by show 0+n1+n2+n3=n1+n2+n3;omega
 have he:hL (bG (fc n1 n2 n3) 3) (fF (fc n1 n2 n3) (fc b1 b2 b3) 3)=hL (n1+n2+n3) (bu (n1+n2) (bu n1 b1 b2) b3):=by
  rw [hs]
  refine oM fun j _ => ?_
  show bu (0+n1+n2) (bu (0+n1) (bu 0 (fun _=>0) b1) b2) b3 j=bu (n1+n2) (bu n1 b1 b2) b3 j;rw [J0];rfl
 refine (od _ 3 3 _ _ _ _ (cx.tab _ hG') (cx.ord _ hG') hP (by decide) (by rw [hs];exact hn)).mono fun e w' ⟨s,hs',⟨g,hg,hgs,hr⟩,hb⟩ => ?_
 rw [he] at hr;subst hg;exact ⟨g,hs',JY b.size hgs,hr,aa b hb⟩
theorem EY {v1 v2:Value} {b1 b2:Nat→Nat} (l1:∀ j,b1 j<256) (l2:∀ j,b2 j<256) (w:World) (h1:ae w v1 32 b1) (h2:ae w v2 32 b2) :
 Calls Tryz.prog 47 #[.slice (some ⟨w.heap.size,0,none⟩) 2 2] (w.alloc (.cells #[v1,v2] 22)) fun e w'=>∃ g cap,e = .returned (.slice (some ⟨g,0,none⟩) 64 cap)∧64≤cap∧w.heap.size≤g∧ah .u8 w' g 0 64 (bu 32 b1 b2)∧Below w.heap.size w w':=by
 have b:Below w.heap.size w (w.alloc (.cells #[v1,v2] 22)):=(Below.refl _ _).alloc (JW _) _
 have hP:dp (w.alloc (.cells #[v1,v2] 22)) (some ⟨w.heap.size,0,none⟩) 2 (fc v1 v2 v2) (fc 32 32 32) (fc b1 b2 b2):=by
  refine ⟨fun q _=>⟨w.heap.size,0,rfl,fun i hi => ?_⟩,fun i hi => ?_,fun i j => ?_⟩
  · rw [J0,iH]
    rcases (show i=0∨i=1 by omega) with rfl | rfl <;> rfl
  · rcases (show i=0∨i=1 by omega) with rfl | rfl
    · exact h1.still b
    · exact h2.still b
  · match i with
    | 0=>exact l1 j
    | 1=>exact l2 j
    | k+2=>exact l2 j
 refine (xQ _ 2 2 _ _ _ _ hP (by decide) (by decide) (by decide)).mono fun e w' ⟨s,hs',hown,hb⟩ => ?_
 have hown':bx (w.alloc (.cells #[v1,v2] 22)).heap.size w' s 64 (bu 32 b1 b2):=hown;obtain ⟨g,cap,rfl,hg,-,hcap,hr⟩:=hown'.form.resolve_left (fun h=>by omega);exact ⟨g,cap,hs',hcap,JY b.size hg,hr,aa b hb⟩
theorem yg (s:Nat→Nat) (n:Nat) (t:Nat→Nat):aK (bf (rN s n t)) 32=rN s n t:=yI (Gh _ _)
theorem yQ (R A:Nat→Nat) (n:Nat) (t:Nat→Nat):aK (bf (kN R A n t)) 32=kN R A n t:=yI (Gh _ _)
theorem hJ {w:World} {g o n m cap:Nat} {X:Nat→Nat} (h:ah .u8 w g o m X) (hn:n≤m) (h0:0<n) (hc:n≤cap):ae w (.slice (some ⟨g,o,none⟩) n cap) n X := .inr ⟨g,o,cap,rfl,J5 (h 0 (by omega)).1,hc,fun j hj=>(h j (by omega)).1⟩
theorem ah.stillB {K:IntKind} {w w':World} {b o n:Nat} {X:Nat→Nat} (h:ah K w b o n X) (hb:Below w.heap.size w w') (h0:0<n:=by decide):ah K w' b o n X:=h.below hb (J5 (h 0 h0).1)
set_option maxRecDepth 20000 in
set_option maxHeartbeats 4000000 in
theorem Dy (v t:Value) (n:Nat) (bs:Nat→Nat) (w:World) (hv:ae w v n bs) (hn:n≠32) :
 Calls Tryz.prog 22 #[v,t] w fun e w'=>e = .returned (.tuple #[.slice none 0 0,.int .i64 1])∧Below w.heap.size w w':=by
 have ck:=Ab v n bs w hv hn;have hz:=yM;obtain ⟨xo,c,rfl,hxn,hnc,hsrc⟩:=hv.src;clear hv hsrc;go_enter Tryz.func22,Tryz.ntmps22
 go_wp2_with (first
  | (go_at_call 39;refine ck.mono ?_;clear ck;rintro e w1 ⟨rfl,b⟩;(obtain ⟨V2,hV2,h2,b2,t2⟩:=GD w1 (kL (.slice none 0 0) (.slice none 0 0) (.slice none 0 0)) rfl);(have H2:=Hid.mk' hV2);clear hV2;(replace b:=aa b b2);clear b2)
  | (with_reducible (refine id (?_:wpList _ _ _ _ _ _));refine J2 rfl 66 _ _ rfl w1.heap.size 0 (kL (.slice none 0 0) (.slice none 0 0) (.slice none 0 0)).toArray rfl rfl t2 (sG _ _ _) (yV _ _ _ _ _ _ _ _ _) ?_;rw [List.toList_toArray,←H2.out];clear t2 H2))
 go_ret2;exact ⟨rfl,b⟩
set_option maxRecDepth 20000 in
set_option maxHeartbeats 8000000 in
theorem zF {G:World→Prop} {R:List Value→Fp × Fp→Prop} (cx:gi G R) (v t:Value) (n:Nat) (bs ts:Nat→Nat) (hbs:∀ j,bs j<256) (hts:∀ j,ts j<256) (hn:n<1152921504606846976) (w:World) (hv:ae w v 32 bs) (ht:ae w t n ts) (hG:G w) :
 Calls Tryz.prog 22 #[v,t] w fun e w'=>∃ g cap,e = .returned (.tuple #[.slice (some ⟨g,0,none⟩) 64 cap,.int .i64 0])∧64≤cap∧ah .u8 w' g 0 64 (zu bs n ts)∧Below w.heap.size w w':=by
 have ck:=wC cx.api cx.sha v bs hbs w hv hG;have hz:=yM;have kk:=cx.api.keep;obtain ⟨xo,c,rfl,hxn,hnc,hsrc⟩:=hv.src;obtain ⟨xt,ct,rfl,htn,htc,htsrc⟩:=ht.src;clear hv hsrc htsrc
 have c1:∀ W gh,ah .u8 W gh 32 32 (tc bs)→ae W (.slice xt n ct) n ts→G W→_:=fun W gh hr ht hG=>EU cx (yj bs) hts W (hJ (cap:=32) hr (JW _) (by decide) (by decide)) ht hG (by omega)
 have er:hL (32+n) (bu 32 (tc bs) ts)=rN bs n ts:=rfl;rw [er] at c1
 have ctm:=fun c hc W g (hr:ah .u8 W g 0 32 (bf (rN bs n ts))) hG=>j9 cx.api c iw hc (.slice (some ⟨g,0,none⟩) 32 32) (bf (rN bs n ts)) (dD _) W (hJ hr (JW _) (by decide) (by decide)) hG
 rw [yg] at ctm
 have ce:=fun c W hc hG=>cx.api.enc c (bP (rN bs n ts)) W hc hG
 have hRB:da (bP (rN bs n ts))=RB bs n ts:=rfl;rw [hRB] at ce;have hbP:cK dE (rN bs n ts) iw=bP (rN bs n ts):=rfl;rw [hbP] at ctm;clear er hRB hbP;go_enter Tryz.func22,Tryz.ntmps22
 go_upto_region 6 with (first
  | (go_at_call 39;refine ck.mono ?_;clear ck;rintro e w1 ⟨gn,gh,gp,cp,rfl,hrn,hrh,hrp,hcp,b⟩;(obtain ⟨V2,hV2,h2,b2,t2⟩:=GD w1 (kL (.slice (some ⟨gn,0,none⟩) 32 32) (.slice (some ⟨gh,32,none⟩) 32 32) (.slice (some ⟨gp,0,none⟩) 32 cp)) rfl);(have H2:=Hid.mk' hV2);clear hV2;(replace hrn:=hrn.stillB b2);(replace hrh:=hrh.stillB b2);(replace hrp:=hrp.stillB b2);(replace b:=aa b b2);clear b2;(replace ht:=ht.still b);(replace hG:=kk _ _ hG b);(have q1:V2.cell? ⟨w1.heap.size,1,none⟩=some (.slice (some ⟨gh,32,none⟩) 32 32):=h2.range 1 _ rfl);(have c1':=c1 V2 gh hrh ht hG);clear c1 hrh)
  | (with_reducible (refine id (?_:wpList _ _ _ _ _ _));refine J2 rfl 66 _ _ rfl w1.heap.size 0 (kL (.slice (some ⟨gn,0,none⟩) 32 32) (.slice (some ⟨gh,32,none⟩) 32 32) (.slice (some ⟨gp,0,none⟩) 32 cp)).toArray rfl rfl t2 (sG _ _ _) (yV _ _ _ _ _ _ _ _ _) ?_;rw [List.toList_toArray,←H2.out];clear t2 H2)
  | (go_at_call 42;refine c1'.mono ?_;clear c1' q1;rintro e w3 ⟨g3,rfl,hg3,hr3,hb3⟩;(replace hrn:=hrn.stillB hb3);(replace hrp:=hrp.stillB hb3);(replace b:=aa b hb3);(replace ht:=ht.still hb3);(replace hG:=kk _ _ hG hb3);(replace h2:=h2.still hb3);clear hb3;(have cb:=cx.api.base w3 hG))
  | (go_at_call 44;refine cb.mono ?_;clear cb;rintro e w4 ⟨c4,rfl,hc4,hb4⟩;(replace hrn:=hrn.stillB hb4);(replace hrp:=hrp.stillB hb4);(replace hr3:=hr3.stillB hb4);(replace b:=aa b hb4);(replace ht:=ht.still hb4);(replace hG:=kk _ _ hG hb4);(replace h2:=h2.still hb4);clear hb4;(have ctm':=ctm c4 hc4 w4 g3 hr3 hG);clear ctm)
  | (go_at_call 43;refine ctm'.mono ?_;clear ctm';rintro e w5 ⟨c5,rfl,hc5,hb5⟩;(replace hrn:=hrn.stillB hb5);(replace hrp:=hrp.stillB hb5);(replace hr3:=hr3.stillB hb5);(replace b:=aa b hb5);(replace ht:=ht.still hb5);(replace hG:=kk _ _ hG hb5);(replace h2:=h2.still hb5);clear hb5 hc4;(have ce':=ce c5 w5 hc5 hG);clear ce)
  | (go_at_call 45;refine ce'.mono ?_;clear ce';rintro e w6 ⟨s6,rfl,hn6,hb6⟩;(replace hrn:=hrn.stillB hb6);(replace hrp:=hrp.stillB hb6);(replace hr3:=hr3.stillB hb6);(replace b:=aa b hb6);(replace ht:=ht.still hb6);(replace hG:=kk _ _ hG hb6);(replace h2:=h2.still hb6);clear hb6 hc5;(obtain ⟨gr,cr,rfl,hcr,hgr,hrr⟩:=hn6);clear hgr))
 (try dsimp only [Act.put]);have hdrew:Below w6.heap.size w6 w6.drew:=(Below.refl _ _).drew;replace h2:=h2.still hdrew;replace hG:=kk _ _ hG hdrew;replace ht:=ht.still hdrew;replace hrn:=hrn.drew;replace hrp:=hrp.drew;replace hr3:=hr3.drew;replace hrr:=hrr.drew;replace b:=aa b hdrew;clear hdrew;generalize hgk:w1.heap.size=gk at *;clear hgk;refine wp_region_noPanic ?_;refine wp_region_held_drew (S:=fun w'=>Below w6.drew.heap.size w6.drew w') (by kernel_rfl) (Below.refl _ _) (fun hS => ?_);generalize w6.drew=V at *;refine tg 0 hS ?_;(try simp only [pS]);refine tg 1 hS ?_;(try simp only [pS]);refine tk 2 _ hS (hy := .inl ⟨by rfl,fun u hu=>by have q:=(h2.still hu).range 2 (.slice (some ⟨gp,0,none⟩) 32 cp) rfl;go_simp;try with_reducible rfl⟩) (h := ?_);(try simp only [pS]);refine tg 3 hS ?_;(try simp only [pS]);refine tg 6 hS ?_;(try simp only [pS]);refine tg 7 hS ?_;(try simp only [pS]);refine tk 8 _ hS (hy := .inl ⟨by rfl,fun u hu=>by have q:=(h2.still hu).range 0 (.slice (some ⟨gn,0,none⟩) 32 32) rfl;go_simp;try with_reducible rfl⟩) (h := ?_);(try simp only [pS]);refine tg 9 hS ?_;(try simp only [pS]);have c7:=yO cx (eS _) (eS _) hts V (hJ hrr (JW _) (by decide) hcr) (hJ hrp (JW _) (by decide) hcp) ht hG (by omega);have ek:hL (32+32+n) (bu (32+32) (bu 32 (da (bP (rN bs n ts))) (da (bP (aN bs)))) ts)=kN (RB bs n ts) (pR bs) n ts:=rfl;rw [ek] at c7;clear ek;refine wpAnyH_ready (rs:=[4]) (by kernel_rfl) (by simp) ?_;refine AllReadyH.cons (o:=oN 34 (Op.buildSlice 84 3 #[(0,oT 30),(1,oT 32),(2,oT 33)]) 84 "sign.go:32" #[jD 0,jD 2,jD 3]) rfl (fun K hK => ?_) AllReadyH.nil;go_simp;refine hK.out _ _ ((Below.refl _ _).alloc (JW _) _) (fun h => ?_);clear h hK K;(try simp only [pS]);refine cl 5 c7 ?_;rintro e w7 ⟨g7,rfl,hg7,hr7,hb7⟩;replace hS:=aa hS hb7;replace hrn:=hrn.stillB hb7;replace hr3:=hr3.stillB hb7;replace hrr:=hrr.stillB hb7;replace hG:=kk _ _ hG hb7;refine ⟨_,rfl,hS,?_⟩;(try simp only [pS]);have c8:=tV (.slice (some ⟨g7,0,none⟩) 32 32) (.slice (some ⟨gn,0,none⟩) 32 32) (.slice (some ⟨g3,0,none⟩) 32 32) (bf (kN (RB bs n ts) (pR bs) n ts)) (aB bs) (bf (rN bs n ts)) (dD _) (ye bs) (dD _) w7 (cx.ord _ hG) (hJ hr7 (JW _) (by decide) (by decide)) (hJ hrn (JW _) (by decide) (by decide)) (hJ hr3 (JW _) (by decide) (by decide));rw [yQ,yg] at c8;have es:(rN bs n ts+kN (RB bs n ts) (pR bs) n ts*aK (aB bs) 32)%oL=SN bs n ts:=rfl;rw [es] at c8;clear es hg7;refine cl 10 c8 ?_;rintro e w8 ⟨s8,rfl,⟨g8,rfl,hg8,hr8⟩,hb8⟩;replace hS:=aa hS hb8;replace hrr:=hrr.stillB hb8;refine ⟨_,rfl,hS,?_⟩;(try simp only [pS]);refine tg 11 hS ?_;(try simp only [pS]);refine tg 12 hS ?_;(try simp only [pS]);refine tg 13 hS ?_;(try simp only [pS]);refine tg 14 hS ?_;(try simp only [pS]);refine tg 15 hS ?_;(try simp only [pS]);refine wpAnyH_done (by kernel_rfl) ?_ _;refine NoPanic.normal ?_;replace b:=b.trans (hS.mono b.size);have c9:=EY (eS _) (dD _) w8 (hJ hrr (JW _) (by decide) hcr) (hJ (cap:=32) hr8 (JW _) (by decide) (by decide));have e9:bu 32 (da (bP (rN bs n ts))) (bf (SN bs n ts))=zu bs n ts:=rfl;rw [e9] at c9;clear e9 c8 c7 hb7 hb8;go_wp2_with (go_at_call 47;refine c9.mono ?_;clear c9;rintro e w9 ⟨g9,cap9,rfl,hc9,hg9,hr9,hb9⟩);go_ret2;exact ⟨g9,cap9,rfl,hc9,hr9,aa b hb9⟩
theorem xw (v u:Value) (S T:ByteArray) (b:Bool) (hb:(S.toList == T.toList)=b) (w:World) (hv:iL w v S) (hu:iL w u T):Calls Tryz.prog 113 #[v,u] w fun e w'=>e = .returned (.bool b)∧w'=w:=by
 have c1:=hv.conv w (Below.refl _ _);have c2:=hu.conv w (Below.refl _ _);obtain ⟨xv,n,kv,rfl⟩:=hv.form;obtain ⟨xu,m,ku,rfl⟩:=hu.form;clear hv hu;go_enter Tryz.func113,Tryz.ntmps113;go_wp2;go_ret;exact ⟨rfl,rfl⟩
def gA (bs:Nat→Nat):Bool:=decide (aK bs 32<oL)
theorem ql {bs:Nat→Nat} (hbs:∀ j,bs j<256):((bF 32 (bf (aK bs 32%oL))).toList == (bF 32 bs).toList)=gA bs:=by
 have hl:=dY bs hbs 32;unfold gA
 by_cases h:aK bs 32<oL
 · rw [decide_eq_true h,Nat.mod_eq_of_lt h,jM (n:=32) (a:=bf (aK bs 32)) (b:=bs) (fun j hj=>fD bs hbs 32 j hj)]
   exact beq_self_eq_true _
 · rw [decide_eq_false h,ByteArray.toList_eq,ByteArray.toList_eq]
   refine beq_false_of_ne (fun e=>h ?_);have e2:=(fY (bS _) hbs).1 (WideShapes.bytes_inj e);have e3:=dP 32 e2.2;have hm:aK bs 32%oL<oL:=Nat.mod_lt _ (by decide);rw [Aw _ (Nat.lt_trans hm (by unfold oL;decide))] at e3;omega
set_option maxRecDepth 20000 in
set_option maxHeartbeats 2000000 in
theorem iX (v:Value) (bs:Nat→Nat) (hbs:∀ j,bs j<256) (w:World) (hO:nl w) (hv:ae w v 32 bs) :
 Calls Tryz.prog 54 #[v] w fun e w'=>e = .returned (.bool (gA bs))∧Below w.heap.size w w':=by
 have cl:=i6 v 32 bs hbs (by decide) w hv;have hN:=Ca hbs (show 32≤64 by decide)
 have cr:=fun (W:World) (hW:Below w.heap.size w W)=>nU W.heap.size (lw (aK bs 32)) (fs _) (sy hN (JW _)) (qP W (lw (aK bs 32))) (qN W _) ((hO.still hW).still (fW W _)) (by have:=hW.size;have:=hO.lt;omega)
 rw [nP (Nat.lt_of_lt_of_le hN (Nat.pow_le_pow_right (by decide) (by decide)))] at cr
 have ceq:=fun (W:World) (u:Value) (hu:iL W u _) (hv:iL W v _)=>xw u v _ _ _ (ql hbs) W hu hv
 have sv:=iL.of hv hbs;obtain ⟨xv,kv,rfl,-⟩:=hv.src
 obtain ⟨R,hR⟩:∃ R,R=aK bs 32%oL:=⟨_,rfl⟩
 rw [←hR] at cr ceq
 obtain ⟨X,hX⟩:∃ X,X=lw (aK bs 32):=⟨_,rfl⟩
 rw [←hX] at cl cr
 obtain ⟨b,hb⟩:∃ b,b=gA bs:=⟨_,rfl⟩
 rw [←hb] at ceq ⊢;have hz:=x8;have hi2:=lT X;have ho:=AE X;unfold re at cl;clear hv hR hX hN hbs hb;go_enter Tryz.func54,Tryz.ntmps54
 go_wp2_with (first
  | (go_at_call 99;refine cl.mono ?_;clear cl;rintro e w1 ⟨rfl,hb1⟩;(have hth:=mN w1 X);replace cr:=cr w1 hb1)
  | (with_reducible (refine id (?_:wpList _ _ _ _ _ _));refine J2 rfl 123 _ _ rfl w1.heap.size 0 (au .u64 9 X).toArray rfl rfl hth hi2 ho ?_)
  | (go_at_call 101;refine Calls.mono (show Calls _ _ _ (qP w1 X) _ from cr) ?_;clear cr;rintro e w3 ⟨h,rfl,hh1,hh2,hr,hout⟩;(have hbl:=hb1.trans ((fW w1 X).mono hb1.size));(have hb3:=hbl.trans (hout.below hb1.size hbl.size));(have sh:iL w3 (.slice (some ⟨h,0,none⟩) 32 32) (bF 32 (bf R)):=iL.of (.inr ⟨h,0,32,rfl,hh2,JW _,fun j hj=>(hr j hj).1⟩) (bS R));replace ceq:=ceq w3 _ sh (sv.still hb3))
  | (go_at_call 113;refine ceq.mono ?_;clear ceq;rintro e w4 ⟨rfl,rfl⟩))
 go_ret;exact ⟨rfl,hb3⟩
end Go.Proofs.YtibdhadbflfdpaaGreatDoor
