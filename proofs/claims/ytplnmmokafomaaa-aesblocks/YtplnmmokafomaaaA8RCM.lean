/- What the proof stands on: A8RC, A8RBlk, A8RBck, A8LBk. -/
import Derived.Test.YtplnmmokafomaaaA8BckM
import Derived.Test.YtplnmmokafomaaaA8BlcM
namespace Go.Proofs.Ytplnmmokafomaaa
open Go.RowKit
def aC (M X:Nat→Nat) (c r:Nat):Nat→Nat
 | 0=>0
 | k+1=>aC M X c r k ^^^ gm (M ((k+4 - r)%4)) (X (4*c+k))
theorem aC_four (M X:Nat→Nat) (c r:Nat) (hr:r<4):aC M X c r 4=colN M X (4*c+r):=by
 unfold colN col1
 rw [show (4*c+r) / 4*4=4*c by omega,show (4*c+r)%4=r by omega]
 show (((0 ^^^ _) ^^^ _) ^^^ _) ^^^ _=_
 rw [Nat.zero_xor]
 rfl
theorem aC_lt {M X:Nat→Nat} (hM:∀ j,j<4→M j<256) (c r:Nat):∀ k,aC M X c r k<256
 | 0=>(by decide:0<256)
 | k+1=>xor_byte (aC_lt hM c r k) (gm_lt _ _ (hM _ (by omega)))
theorem i_mod (c k r:Nat) (hr:r<4) (hk:k<4) (hc:c<4):(((k:Int) - (r:Int))%4=(((k+4 - r)%4:Nat):Int)∧((k:Int) - (r:Int)+4).tmod 4=(((k+4 - r)%4:Nat):Int))∧(IntKind.i64.wrap (4*(c:Int))=4*(c:Int)∧IntKind.i64.wrap (4*(c:Int)+(r:Int))=4*(c:Int)+(r:Int)∧IntKind.i64.wrap (4*(c:Int)+(k:Int))=4*(c:Int)+(k:Int))∧IntKind.i64.wrap ((k:Int) - (r:Int))=(k:Int) - (r:Int)∧IntKind.i64.wrap ((k:Int) - (r:Int)+4)=(k:Int) - (r:Int)+4:=by
 refine ⟨⟨by omega,?_⟩,⟨?_,?_,?_⟩,?_,?_⟩
 · rw [Int.tmod_eq_emod_of_nonneg (by omega)];omega
 all_goals (simp only [IntKind.wrap_i64];omega)
set_option maxRecDepth 20000 in
set_option maxHeartbeats 8000000 in
theorem columns_any (v u:Value) (X M:Nat→Nat) (hX:B16 X) (hM:∀ j,j<4→M j<256) (w:World) (hv:RowS w v 16 X) (hu:RowS w u 4 M) :
 Calls Try.prog 34 #[v,u] w fun e w'=>∃ s,e = .returned s∧RowS w' s 16 (colN M X)∧Below w.heap.size w w':=by
 obtain ⟨bb,cb,rfl,hcb,hrow⟩:=hv
 obtain ⟨gm',cm,rfl,hcm,hrm⟩:=hu
 have hbb:bb<w.heap.size:=block_lt_of_cell (hrow 0 (by decide)).1
 have hgm:gm'<w.heap.size:=block_lt_of_cell (hrm 0 (by decide)).1
 have hmk:=make_bytes w 16 16 rfl (by decide)
 have hT0:=RowAt.zero w 16 5
 have hb1:Below w.heap.size w (w.alloc (.cells (zb 16) 5)):=(Below.refl _ _).alloc (Nat.le_refl _) _
 obtain ⟨Z,hZ⟩:∃ Z,Z=colN M X:=⟨_,rfl⟩
 obtain ⟨A,hA⟩:∃ A,A=aC M X:=⟨_,rfl⟩
 have hA4:∀ c r,r<4→A c r 4=Z (4*c+r):=fun c r hr=>by rw [hA,hZ];exact aC_four M X c r hr
 have hAl:∀ c r k,A c r k<256:=fun c r k=>by rw [hA];exact aC_lt hM c r k
 have hA0:∀ c r,A c r 0=0:=fun c r=>by rw [hA];rfl
 have hAs:∀ c r k,A c r k ^^^ gm (M ((k+4 - r)%4)) (X (4*c+k))=A c r (k+1):=fun c r k=>by rw [hA];rfl
 rw [←hZ]
 replace hrow:=hrow.still hb1
 replace hrm:=hrm.still hb1
 generalize w.alloc (.cells (zb 16) 5)=U at *
 clear hZ hA
 go_enter Try.func34,Try.ntmps34
 go_wp2_with (rw [hmk])
 go_loopw [6] (fun i wr=>∃ c:Nat,c≤4∧i = .int .i64 c∧RowAt .u8 wr w.heap.size 0 16 (pr Z (fun _=>0) (4*c))∧RowAt .u8 wr bb 0 16 X∧RowAt .u8 wr gm' 0 4 M∧Below w.heap.size w wr) (fun i _=>4 - (intOf i).toNat)
 case atStart=>exact ⟨0,Nat.zero_le _,rfl,hT0,hrow,hrm,hb1⟩
 case round =>
  clear hT0 hrow hb1 hmk hrm
  obtain ⟨c,hc,rfl,hT,hrow,hrm,b⟩:=hrel
  by_cases hlt:c<4
  · have hci:(c:Int)<4:=by omega
    go_wp2
    go_loopw [7] (fun i wq=>∃ r:Nat,r≤4∧i = .int .i64 r∧RowAt .u8 wq w.heap.size 0 16 (pr Z (fun _=>0) (4*c+r))∧RowAt .u8 wq bb 0 16 X∧RowAt .u8 wq gm' 0 4 M∧Below w.heap.size w wq) (fun i _=>4 - (intOf i).toNat)
    case atStart=>exact ⟨0,Nat.zero_le _,rfl,hT,hrow,hrm,b⟩
    case round =>
     clear hT hrow b hrm
     obtain ⟨r,hr,rfl,hT,hrow,hrm,b⟩:=hrel
     by_cases hlr:r<4
     · have hri:(r:Int)<4:=by omega
       have hTu:RowAt .u8 wr w.heap.size 0 16 (upd (pr Z (fun _=>0) (4*c+r)) (4*c+r) (A c r 0)):=hT.congr (fun j _=>by
        unfold upd
        by_cases e:j=4*c+r
        · rw [if_pos e,hA0,e,pr_at]
        · rw [if_neg e])
       clear hT
       go_wp2
       go_loopw [8] (fun i wq=>∃ k:Nat,k≤4∧i = .int .i64 k∧RowAt .u8 wq w.heap.size 0 16 (upd (pr Z (fun _=>0) (4*c+r)) (4*c+r) (A c r k))∧RowAt .u8 wq bb 0 16 X∧RowAt .u8 wq gm' 0 4 M∧Below w.heap.size w wq) (fun i _=>4 - (intOf i).toNat)
       case atStart=>exact ⟨0,Nat.zero_le _,rfl,hTu,hrow,hrm,b⟩
       case round =>
        clear hTu hrow b hrm
        obtain ⟨k,hk,rfl,hT,hrow,hrm,b⟩:=hrel
        by_cases hlk:k<4
        · obtain ⟨r1,f1⟩:=hT (4*c+r) (by omega)
          obtain ⟨r2,-⟩:=hrm ((k+4 - r)%4) (by omega)
          obtain ⟨r3,-⟩:=hrow (4*c+k) (by omega)
          rw [Nat.zero_add] at r1 f1 r2 r3
          rw [show upd (pr Z (fun _=>0) (4*c+r)) (4*c+r) (A c r k) (4*c+r)=A c r k from if_pos rfl] at r1
          have hm:=hM ((k+4 - r)%4) (by omega)
          have hx:=hX (4*c+k) (by omega)
          have ct:=rtimes_any (M ((k+4 - r)%4)) (X (4*c+k)) hm hx
          have hq:=u8_xor_nat (A c r k) (gm (M ((k+4 - r)%4)) (X (4*c+k))) (hAl c r k) (gm_lt _ _ hm)
          rw [hAs] at hq
          have hs:=hT.set (i:=4*c+r) (by omega) (v:=(A c r (k+1):Int)) (u:=A c r (k+1)) rfl
          rw [Nat.zero_add] at hs
          replace hs:RowAt .u8 (wr.setCell ⟨w.heap.size,4*c+r,none⟩ (.int .u8 (A c r (k+1):Int))) w.heap.size 0 16 (upd (pr Z (fun _=>0) (4*c+r)) (4*c+r) (A c r (k+1))):=hs.congr (fun j _=>by
           unfold upd
           by_cases e:j=4*c+r
           · rw [if_pos e,if_pos e]
           · rw [if_neg e,if_neg e,if_neg e])
          obtain ⟨⟨p0,p6⟩,⟨e1,e2,e3⟩,e4,e5⟩:=i_mod c k r hlr hlk hlt
          have p1:(4*(c:Int)+(r:Int)).toNat=4*c+r:=by omega
          have p2:(0:Int)≤4*(c:Int)+(r:Int)∧4*(c:Int)+(r:Int)<16:=by omega
          have p3:(4*(c:Int)+(k:Int)).toNat=4*c+k:=by omega
          have p4:(0:Int)≤4*(c:Int)+(k:Int)∧4*(c:Int)+(k:Int)<16:=by omega
          have p5:(0:Int)≤(((k+4 - r)%4:Nat):Int)∧(((k+4 - r)%4:Nat):Int)<4:=by omega
          have m1:k+1≤4:=by omega
          have n1:¬w.heap.size=bb:=by omega
          have n2:¬w.heap.size=gm':=by omega
          generalize (k+4 - r)%4=q at *
          generalize gm (M q) (X (4*c+k))=T at *
          generalize M q=mq at *
          generalize X (4*c+k)=xk at *
          obtain ⟨A1,hA1⟩:∃ A1,A1=A c r (k+1):=⟨_,rfl⟩
          rw [←hA1] at hq
          have HA1:=Hid.mk' hA1
          have Hs:=Hid.mk' hs
          clear hA1 hs
          generalize A c r k=A0 at *
          clear hA4 hAl hA0 hAs hX hM hT hm hx
          go_wp2
          go_region_with (go_at_call 41;refine (ct _).mono ?_;rintro e w1 ⟨rfl,hw1⟩;subst hw1)
          all_goals
           clear ct hq r1 f1 r2 r3 p0 p1 p2 p3 p4 p5 p6 e1 e2 e3 e4 e5
           go_wp2
           go_roundw
           case rel =>
            have eA:=HA1.out
            subst eA
            exact ⟨k+1,m1,by go_num,Hs.out.drew,(hrow.far (by show w.heap.size≠bb;omega) _).drew,(hrm.far (by show w.heap.size≠gm';omega) _).drew,(b.setCell (Nat.le_refl _) _).drew⟩
           case measure=>simp [intOf];omega
        · obtain rfl:k=4:=by omega
          have hT':RowAt .u8 wr w.heap.size 0 16 (pr Z (fun _=>0) (4*c+(r+1))):=hT.congr (fun j _=>by
           rw [hA4 c r hlr]
           exact pr_step Z _ (4*c+r) j)
          have m1:r+1≤4:=by omega
          clear hA4 hAl hA0 hAs hX hM hT
          go_wp2
          go_roundw
          case rel=>exact ⟨r+1,m1,by go_num,hT',hrow,hrm,b⟩
          case measure=>simp [intOf];omega
     · obtain rfl:r=4:=by omega
       have m1:c+1≤4:=by omega
       clear hA4 hAl hA0 hAs hX hM
       go_wp2
       go_roundw
       case rel=>exact ⟨c+1,m1,by go_num,hT,hrow,hrm,b⟩
       case measure=>simp [intOf];omega
  · obtain rfl:c=4:=by omega
    have hT':=hT.congr (fun j hj=>pr_full Z _ hj)
    clear hA4 hAl hA0 hAs hX hM hT
    go_wp2
    go_ret
    exact ⟨_,rfl,⟨w.heap.size,16,rfl,Nat.le_refl _,hT'⟩,b⟩
end Go.Proofs.Ytplnmmokafomaaa
namespace Go.Proofs.Ytplnmmokafomaaa
open Go.RowKit
theorem mT_lt (j:Nat) (hj:j<4):mT j<256:=by
 rcases (show j=0∨j=1∨j=2∨j=3 by omega) with rfl | rfl | rfl | rfl <;> decide
theorem mB_lt (j:Nat) (hj:j<4):mB j<256:=by
 rcases (show j=0∨j=1∨j=2∨j=3 by omega) with rfl | rfl | rfl | rfl <;> decide
theorem mT_row (w:World):RowS (w.alloc (.cells #[.int .u8 2,.int .u8 3,.int .u8 1,.int .u8 1] 5)) (.slice (some ⟨w.heap.size,0,none⟩) 4 4) 4 mT:=⟨w.heap.size,4,rfl,Nat.le_refl _,RowAt.fresh (fun j hj=>by
 rcases (show j=0∨j=1∨j=2∨j=3 by omega) with rfl | rfl | rfl | rfl <;> rfl)⟩
theorem mB_row (w:World):RowS (w.alloc (.cells #[.int .u8 14,.int .u8 11,.int .u8 13,.int .u8 9] 5)) (.slice (some ⟨w.heap.size,0,none⟩) 4 4) 4 mB:=⟨w.heap.size,4,rfl,Nat.le_refl _,RowAt.fresh (fun j hj=>by
 rcases (show j=0∨j=1∨j=2∨j=3 by omega) with rfl | rfl | rfl | rfl <;> rfl)⟩
set_option maxHeartbeats 1000000 in
theorem rBlock_bad (v u:Value) (n m:Nat) (ks bs:Nat→Nat) (w:World) (hv:BytesIn w v n ks) (hu:BytesIn w u m bs) (h:¬(n=16∧m=16)) :
 Calls Try.prog 17 #[v,u] w fun e w'=>e = .returned (.tuple #[.slice none 0 0,.int .i64 1])∧w'=w:=by
 obtain ⟨xk,ck,rfl,-,-,-⟩:=hv.src
 obtain ⟨xb,cb,rfl,-,-,-⟩:=hu.src
 clear hv hu
 by_cases hn:n=16
 · subst hn
   have hm':¬(m:Int)=16:=by omega
   clear h
   go_enter Try.func17,Try.ntmps17
   go_wp2
   go_ret2
   exact ⟨rfl,rfl⟩
 · have hn':¬(n:Int)=16:=by omega
   clear h hn
   go_enter Try.func17,Try.ntmps17
   go_wp2
   go_ret2
   exact ⟨rfl,rfl⟩
set_option maxRecDepth 20000 in
set_option maxHeartbeats 8000000 in
theorem rBlock_good (v u:Value) (ks bs:Nat→Nat) (hks:∀ j,ks j<256) (hbB:B16 bs) (w:World) (hv:BytesIn w v 16 ks) (hu:BytesIn w u 16 bs) :
 Calls Try.prog 17 #[v,u] w fun e w'=>∃ s,e = .returned (.tuple #[s,.int .i64 0])∧RowS w' s 16 (blkN (kyN ks) bs)∧Below w.heap.size w w':=by
 have hK:=kyN_lt hks
 have cb:=rboxes_any w
 have ck:=fun u W h hb=>rkeys_any v u ks hks W (hv.keep hb) h
 generalize kyN ks=K at *
 have ca:=fun s W hs hb=>add_any u s bs K 0 (by decide) hbB hK W (hu.keep hb) hs
 have hBB:∀ r,B16 (blkS K bs r):=blkS_B hbB hK
 have c1:=fun r v u W hv hu=>rthrough_any v u (blkS K bs r) boxN (hBB r) W hv hu
 have c2:=fun r v W hv=>rows1_any v (thrN boxN (blkS K bs r)) W hv
 have c3:=fun r v u W hv hu=>columns_any v u (rowN 1 (thrN boxN (blkS K bs r))) mT (rowN_B (box_B (hBB r)) 1) mT_lt W hv hu
 have c4:∀ r,r<9→∀ v u W,RowS W v 16 (colN mT (rowN 1 (thrN boxN (blkS K bs r))))→RowS W u 176 K→Calls Try.prog 31 #[v,u,.int .i64 ((r:Int)+1)] W fun e w'=>∃ s,e = .returned s∧RowS w' s 16 (blkS K bs (r+1))∧Below W.heap.size W w':=fun r hr v u W hv hu=>add_any v u _ K (r+1) (by omega) (colT_B (rowN_B (box_B (hBB r)) 1)) hK W (hv.bytes (by decide)) hu
 have c5:∀ v u W,RowS W v 16 (rowN 1 (thrN boxN (blkS K bs 9)))→RowS W u 176 K→Calls Try.prog 31 #[v,u,.int .i64 ((9:Nat)+1:Int)] W fun e w'=>∃ s,e = .returned s∧RowS w' s 16 (blkN K bs)∧Below W.heap.size W w':=fun v u W hv hu=>add_any v u _ K 10 (by decide) (rowN_B (box_B (hBB 9)) 1) hK W (hv.bytes (by decide)) hu
 have e0:addN K 0 bs=blkS K bs 0:=rfl
 rw [e0] at ca
 have hmT:=mT_row
 generalize hbl:blkN K bs=Z at *
 generalize blkS K bs=B at *
 obtain ⟨xk,ck',rfl,-,-,-⟩:=hv.src
 obtain ⟨xb,cb',rfl,-,-,-⟩:=hu.src
 clear hv hu hbB hK hBB e0 hks hbl
 go_enter Try.func17,Try.ntmps17
 go_wp2_with (first
  | (go_at_call 22;refine cb.mono ?_;clear cb;rintro e w1 ⟨v1,rfl,r1,b1⟩;(have ck1:=ck v1 w1 r1 b1);clear ck)
  | (go_at_call 25;refine ck1.mono ?_;clear ck1;rintro e w2 ⟨v2,rfl,r2,b2⟩;(replace r1:=r1.still b2);(replace b2:=below_next b1 b2);(have ca2:=ca v2 w2 r2 b2);clear ca b1)
  | (go_at_call 31;refine ca2.mono ?_;clear ca2;rintro e w3 ⟨v3,rfl,r3,b3⟩;(replace r1:=r1.still b3);(replace r2:=r2.still b3);(replace b3:=below_next b2 b3);clear b2))
 go_loopw [8,9] (fun x i wr=>∃ k:Nat,k≤10∧i = .int .i64 ((k:Int)+1)∧(k<10→RowS wr x 16 (B k))∧(k=10→RowS wr x 16 Z)∧RowS wr v1 256 boxN∧RowS wr v2 176 K∧Below w.heap.size w wr) (fun _ i _=>11 - (intOf i).toNat)
 case atStart=>exact ⟨0,by decide,rfl,fun _=>r3,fun h=>by omega,r1,r2,b3⟩
 case round =>
  clear r1 r2 r3 b3
  obtain ⟨k,hk,rfl,hx,hxz,r1,r2,b⟩:=hrel
  by_cases hlt:k<9
  · have hx0:=hx (by omega)
    have d1:=c1 k _ _ wr hx0 r1
    have d2:=c2 k
    have d3:=c3 k
    have d4:=c4 k hlt
    have q1:(k:Int)+1≤10:=by omega
    have q2:(k:Int)+1<10:=by omega
    have m1:k+1≤10:=by omega
    have m2:k+1<10:=by omega
    clear c1 c2 c3 c4 c5 hx hxz
    go_wp2_with (first
     | (go_at_call 33;refine d1.mono ?_;clear d1;rintro e w4 ⟨v4,rfl,r4,b4⟩;(replace r1:=r1.still b4);(replace r2:=r2.still b4);(replace b:=below_next b b4);(have d2':=d2 v4 w4 r4);clear d2 b4)
     | (go_at_call 32;refine d2'.mono ?_;clear d2';rintro e w5 ⟨v5,rfl,r5,b5⟩;(have bA:Below w5.heap.size w5 (w5.alloc (.cells #[.int .u8 2,.int .u8 3,.int .u8 1,.int .u8 1] 5)):=(Below.refl _ _).alloc (Nat.le_refl _) _);(replace r1:=(r1.still b5).still bA);(replace r2:=(r2.still b5).still bA);(replace b:=below_next (below_next b b5) bA);(have d3':=d3 v5 _ _ (r5.still bA) (hmT w5));clear d3 b5)
     | (go_at_call 34;refine d3'.mono ?_;clear d3';rintro e w6 ⟨v6,rfl,r6,b6⟩;(replace r1:=r1.still b6);(replace r2:=r2.still b6);(replace b:=below_next b b6);(have d4':=d4 v6 v2 w6 r6 r2);clear d4 b6)
     | (go_at_call 31;refine d4'.mono ?_;clear d4';rintro e w7 ⟨v7,rfl,r7,b7⟩;(replace r1:=r1.still b7);(replace r2:=r2.still b7);(replace b:=below_next b b7)))
    go_roundw
    case rel=>exact ⟨k+1,m1,by go_num,fun _=>r7,fun h=>by omega,r1,r2,b⟩
    case measure=>simp [intOf];omega
  · by_cases h9:k=9
    · subst h9
      have hx0:=hx (by decide)
      have d1:=c1 9 _ _ wr hx0 r1
      have d2:=c2 9
      clear c1 c2 c3 c4 hx hxz
      go_wp2_with (first
       | (go_at_call 33;refine d1.mono ?_;clear d1;rintro e w4 ⟨v4,rfl,r4,b4⟩;(replace r1:=r1.still b4);(replace r2:=r2.still b4);(replace b:=below_next b b4);(have d2':=d2 v4 w4 r4);clear d2 b4)
       | (go_at_call 32;refine d2'.mono ?_;clear d2';rintro e w5 ⟨v5,rfl,r5,b5⟩;(replace r1:=r1.still b5);(replace r2:=r2.still b5);(replace b:=below_next b b5);(have d5':=c5 v5 v2 w5 r5 r2);clear c5 b5)
       | (go_at_call 31;refine d5'.mono ?_;clear d5';rintro e w7 ⟨v7,rfl,r7,b7⟩;(replace r1:=r1.still b7);(replace r2:=r2.still b7);(replace b:=below_next b b7)))
      go_roundw
      case rel=>exact ⟨10,by decide,by go_num,fun h=>by omega,fun _=>r7,r1,r2,b⟩
      case measure=>simp [intOf]
    · obtain rfl:k=10:=by omega
      have hz:=hxz rfl
      clear c1 c2 c3 c4 c5 hx hxz
      go_wp2
      go_ret2
      exact ⟨_,rfl,hz,b⟩
end Go.Proofs.Ytplnmmokafomaaa
namespace Go.Proofs.Ytplnmmokafomaaa
open Go.RowKit
set_option maxHeartbeats 1000000 in
theorem rBack_bad (v u:Value) (n m:Nat) (ks bs:Nat→Nat) (w:World) (hv:BytesIn w v n ks) (hu:BytesIn w u m bs) (h:¬(n=16∧m=16)) :
 Calls Try.prog 19 #[v,u] w fun e w'=>e = .returned (.tuple #[.slice none 0 0,.int .i64 1])∧w'=w:=by
 obtain ⟨xk,ck,rfl,-,-,-⟩:=hv.src
 obtain ⟨xb,cb,rfl,-,-,-⟩:=hu.src
 clear hv hu
 by_cases hn:n=16
 · subst hn
   have hm':¬(m:Int)=16:=by omega
   clear h
   go_enter Try.func19,Try.ntmps19
   go_wp2
   go_ret2
   exact ⟨rfl,rfl⟩
 · have hn':¬(n:Int)=16:=by omega
   clear h hn
   go_enter Try.func19,Try.ntmps19
   go_wp2
   go_ret2
   exact ⟨rfl,rfl⟩
set_option maxRecDepth 20000 in
set_option maxHeartbeats 8000000 in
theorem rBack_good (v u:Value) (ks bs:Nat→Nat) (hks:∀ j,ks j<256) (hbB:B16 bs) (w:World) (hv:BytesIn w v 16 ks) (hu:BytesIn w u 16 bs) :
 Calls Try.prog 19 #[v,u] w fun e w'=>∃ s,e = .returned (.tuple #[s,.int .i64 0])∧RowS w' s 16 (bckN (kyN ks) bs)∧Below w.heap.size w w':=by
 have hK:=kyN_lt hks
 have cb:=rboxes_any w
 have ck:=fun u W h hb=>rkeys_any v u ks hks W (hv.keep hb) h
 generalize kyN ks=K at *
 have hBB:∀ r,B16 (bckS K bs r):=bckS_B hbB hK
 have c1:∀ r v u W,r≤10→RowS W v 16 (bckS K bs (10 - r))→RowS W u 176 K→Calls Try.prog 31 #[v,u,.int .i64 (r:Int)] W fun e w'=>∃ s,e = .returned s∧RowS w' s 16 (addN K r (bckS K bs (10 - r)))∧Below W.heap.size W w':=fun r v u W hr hv hu=>add_any v u _ K r hr (hBB _) hK W (hv.bytes (by decide)) hu
 have hA:=fun r=>addN_B (hBB (10 - r)) hK r
 have c2:=fun r v u W hv hu=>columns_any v u (addN K r (bckS K bs (10 - r))) mB (hA r) mB_lt W hv hu
 have c3:=fun X v W hv=>rows3_any v X W hv
 have c4:∀ r,1≤r→r<10→∀ v u W,RowS W v 16 (rowN 3 (colN mB (addN K r (bckS K bs (10 - r)))))→RowS W u 256 unN→Calls Try.prog 33 #[v,u] W fun e w'=>∃ s,e = .returned s∧RowS w' s 16 (bckS K bs (10 - r+1))∧Below W.heap.size W w':=fun r h1 hr v u W hv hu=>by
  have h:=rthrough_any v u _ unN (rowN_B (colB_B (hA r)) 3) W hv hu
  have e:bckS K bs (10 - r+1)=thrN unN (rowN 3 (colN mB (addN K r (bckS K bs (10 - r))))):=by
   show thrN unN (rowN 3 (if 10 - r=0 then addN K (10 - (10 - r)) (bckS K bs (10 - r)) else colN mB (addN K (10 - (10 - r)) (bckS K bs (10 - r)))))=_
   rw [if_neg (by omega),show 10 - (10 - r)=r by omega]
  rw [e];exact h
 have c5:∀ v u W,RowS W v 16 (rowN 3 (addN K 10 (bckS K bs (10 - 10))))→RowS W u 256 unN→Calls Try.prog 33 #[v,u] W fun e w'=>∃ s,e = .returned s∧RowS w' s 16 (bckS K bs 1)∧Below W.heap.size W w':=fun v u W hv hu=>rthrough_any v u _ unN (rowN_B (hA 10) 3) W hv hu
 have e0:bckS K bs 0=bs:=rfl
 have eZ:addN K 0 (bckS K bs (10 - 0))=bckN K bs:=rfl
 have hun:∀ x,unF (x+1)=upd (unF x) (boxN x) x:=fun _=>rfl
 have hu0:unF 0=fun _=>0:=rfl
 have hfin:=unF_all
 have hbx:∀ j,j<256→boxN j<256:=fun j hj=>(box_all j hj).2.2.1
 have hmB:=mB_row
 generalize hbl:bckN K bs=Z at *
 generalize bckS K bs=B at *
 generalize boxN=F at *
 generalize unF=U at *
 have HZ:=Hid.mk' eZ
 obtain ⟨xk,ck',rfl,-,-,-⟩:=hv.src
 obtain ⟨xb,cb',rfl,hxn,-,hsrc⟩:=hu.src
 clear hv hu hbB hK hBB hks hbl hA eZ
 go_enter Try.func19,Try.ntmps19
 go_upto_region 6 with (first
  | (go_at_call 22;refine cb.mono ?_;clear cb;rintro e w1 ⟨v1,rfl,r1,b1⟩;(have ck1:=ck v1 w1 r1 b1);clear ck)
  | (go_at_call 25;refine ck1.mono ?_;clear ck1;rintro e w2 ⟨v2,rfl,r2,b2⟩;(replace r1:=r1.still b2);(replace b2:=below_next b1 b2);clear b1;(have hmk:=make_bytes w2 256 256 rfl (by decide)))
  | rw [hmk])
 obtain ⟨gs,cs,rfl,hcs,hrs⟩:=r1
 obtain ⟨gk,ckk,rfl,hckk,hrk⟩:=r2
 have bA:Below w2.heap.size w2 (w2.alloc (.cells (zb 256) 5)):=(Below.refl _ _).alloc (Nat.le_refl _) _
 have hT0:=RowAt.zero w2 256 5
 rw [←hu0] at hT0
 have gsl:gs<w2.heap.size:=block_lt_of_cell (hrs 0 (by decide)).1
 have gkl:gk<w2.heap.size:=block_lt_of_cell (hrk 0 (by decide)).1
 have wG:=b2.size
 replace hrs:=hrs.still bA
 replace hrk:=hrk.still bA
 replace b2:=below_next b2 bA
 generalize w2.alloc (.cells (zb 256) 5)=V at *
 generalize w2.heap.size=G at *
 clear hmk hu0 bA
 go_wp2
 go_loopw [9] (fun i wr=>∃ k:Nat,k≤256∧i = .int .i64 k∧RowAt .u8 wr gs 0 256 F∧RowAt .u8 wr gk 0 176 K∧RowAt .u8 wr G 0 256 (U k)∧Below w.heap.size w wr) (fun i _=>256 - (intOf i).toNat)
 case atStart=>exact ⟨0,Nat.zero_le _,rfl,hrs,hrk,hT0,b2⟩
 case round =>
  clear hrs hrk hT0 b2
  obtain ⟨k,hk,rfl,hrs,hrk,hT,b⟩:=hrel
  by_cases hlt:k<256
  · obtain ⟨r1,-⟩:=hrs k hlt
    have hxk:=hbx k hlt
    obtain ⟨r3,f3⟩:=hT (F k) hxk
    rw [Nat.zero_add] at r1 r3 f3
    have hs:=hT.set (i:=F k) hxk (v:=(k:Int)) (u:=k) rfl
    rw [Nat.zero_add,←hun] at hs
    have kw:(k:Int)%256=k:=by omega
    have q1:(0:Int)≤(k:Int)∧(k:Int)<256:=by omega
    have q2:(0:Int)≤(F k:Int)∧(F k:Int)<256:=by omega
    have m1:k+1≤256:=by omega
    clear c1 c2 c3 c4 c5 hun hbx hfin hsrc
    go_wp2
    go_roundw
    case rel=>exact ⟨k+1,m1,by go_num,hrs.far (by show G≠gs;omega) _,hrk.far (by show G≠gk;omega) _,hs,b.setCell (by show w.heap.size≤G;omega) _⟩
    case measure=>simp [intOf];omega
  · obtain rfl:k=256:=by omega
    have hT':RowS wr (.slice (some ⟨G,0,none⟩) 256 256) 256 unN:=⟨G,256,rfl,Nat.le_refl _,hT.congr (fun j hj=>hfin j hj)⟩
    have hK':RowS wr (.slice (some ⟨gk,0,none⟩) 176 ckk) 176 K:=⟨gk,ckk,rfl,hckk,hrk⟩
    have bA:Below wr.heap.size wr (wr.alloc (.cells #[] 5)):=(Below.refl _ _).alloc (Nat.le_refl _) _
    have src0:=hsrc _ (below_next b bA)
    clear hT hrs hrk hun hbx hfin hsrc
    go_wp2_with (at_builtin;refine wpList_append_empty rfl (.tmp 37) (.tmp 38) rfl wr.heap.size bs _ rfl rfl xb 16 cb' rfl src0 hxn (by decide) (Nat.le_refl _) ?_;intro v3 w3 own3 hb3;(obtain ⟨g3,cap3,hv3,-,-,hcap3,hrow3⟩:=own3.form.resolve_left (fun h=>by omega));subst hv3;(replace hT':=hT'.still hb3);(replace hK':=hK'.still hb3);(replace b:=below_next b hb3);(have hX3:RowS w3 (.slice (some ⟨g3,0,none⟩) 16 cap3) 16 (B 0):=⟨g3,cap3,rfl,hcap3,by rw [e0];exact hrow3⟩);clear src0 own3 hrow3 hb3)
    go_loopw [10,11] (fun x i wq=>∃ r:Nat,r≤10∧i = .int .i64 r∧RowS wq x 16 (B (10 - r))∧RowS wq (.slice (some ⟨G,0,none⟩) 256 256) 256 unN∧RowS wq (.slice (some ⟨gk,0,none⟩) 176 ckk) 176 K∧Below w.heap.size w wq) (fun _ i _=>(intOf i).toNat)
    case atStart=>exact ⟨10,Nat.le_refl _,rfl,hX3,hT',hK',b⟩
    case round =>
     clear hX3 hT' hK' b
     obtain ⟨r,hr,rfl,hX,hT,hK,b⟩:=hrel
     by_cases h0:r=0
     · subst h0
       have d1:=c1 0 _ _ wr (by decide) hX hK
       have d1':Calls Try.prog 31 #[_,.slice (some ⟨gk,0,none⟩) 176 ckk,.int .i64 0] wr _:=d1
       rw [HZ.out] at d1'
       clear c1 c2 c3 c4 c5 d1
       go_wp2_with (go_at_call 31;refine d1'.mono ?_;clear d1';rintro e w7 ⟨v7,rfl,r7,b7⟩)
       go_ret2
       exact ⟨v7,rfl,r7,below_next b b7⟩
     · obtain ⟨m,rfl⟩:∃ m,r=m+1:=⟨r - 1,by omega⟩
       have d1:=c1 (m+1) _ _ wr hr hX hK
       have q1:(1:Int)≤((m+1:Nat):Int):=by omega
       by_cases h10:m=9
       · subst h10
         have d3:=c3 (addN K 10 (B (10 - 10)))
         have d5:=c5
         clear c1 c2 c3 c4 c5
         go_wp2_with (first
          | (go_at_call 31;refine d1.mono ?_;clear d1;rintro e w4 ⟨v4,rfl,r4,b4⟩;(replace hT:=hT.still b4);(replace hK:=hK.still b4);(replace b:=below_next b b4);(have d3':=d3 v4 w4 r4);clear d3 b4)
          | (go_at_call 32;refine d3'.mono ?_;clear d3';rintro e w5 ⟨v5,rfl,r5,b5⟩;(replace hT:=hT.still b5);(replace hK:=hK.still b5);(replace b:=below_next b b5);(have d5':=d5 v5 _ w5 r5 hT);clear d5 b5)
          | (go_at_call 33;refine d5'.mono ?_;clear d5';rintro e w6 ⟨v6,rfl,r6,b6⟩;(replace hT:=hT.still b6);(replace hK:=hK.still b6);(replace b:=below_next b b6);clear b6))
         go_roundw
         case rel=>exact ⟨9,by decide,by go_num,r6,hT,hK,b⟩
         case measure=>simp [intOf]
       · have m9:m+1<10:=by omega
         have q2:((m+1:Nat):Int)<10:=by omega
         have d2:=c2 (m+1)
         have d3:=c3 (colN mB (addN K (m+1) (B (10 - (m+1)))))
         have d4:=c4 (m+1) (by omega) m9
         rw [show 10 - (m+1)+1=10 - m by omega] at d4
         have m10:m≤10:=by omega
         clear c1 c2 c3 c4 c5
         go_wp2_with (first
          | (go_at_call 31;refine d1.mono ?_;clear d1;rintro e w4 ⟨v4,rfl,r4,b4⟩;(have bB:Below w4.heap.size w4 (w4.alloc (.cells #[.int .u8 14,.int .u8 11,.int .u8 13,.int .u8 9] 5)):=(Below.refl _ _).alloc (Nat.le_refl _) _);(replace hT:=(hT.still b4).still bB);(replace hK:=(hK.still b4).still bB);(replace b:=below_next (below_next b b4) bB);(have d2':=d2 v4 _ _ (r4.still bB) (hmB w4));clear d2 b4)
          | (go_at_call 34;refine d2'.mono ?_;clear d2';rintro e w5 ⟨v5,rfl,r5,b5⟩;(replace hT:=hT.still b5);(replace hK:=hK.still b5);(replace b:=below_next b b5);(have d3':=d3 v5 w5 r5);clear d3 b5)
          | (go_at_call 32;refine d3'.mono ?_;clear d3';rintro e w6 ⟨v6,rfl,r6,b6⟩;(replace hT:=hT.still b6);(replace hK:=hK.still b6);(replace b:=below_next b b6);(have d4':=d4 v6 _ w6 r6 hT);clear d4 b6)
          | (go_at_call 33;refine d4'.mono ?_;clear d4';rintro e w7 ⟨v7,rfl,r7,b7⟩;(replace hT:=hT.still b7);(replace hK:=hK.still b7);(replace b:=below_next b b7);clear b7))
         go_roundw
         case rel=>exact ⟨m,m10,by go_num,r7,hT,hK,b⟩
         case measure=>simp [intOf]
end Go.Proofs.Ytplnmmokafomaaa
namespace Go.Proofs.Ytplnmmokafomaaa
open Go.RowKit
set_option maxRecDepth 20000 in
set_option maxHeartbeats 8000000 in
theorem aesBlocks_any (v u:Value) (n m:Nat) (ks bs:Nat→Nat) (hks:∀ j,ks j<256) (hbs:∀ j,bs j<256) (w:World) (hv:BytesIn w v n ks) (hu:BytesIn w u m bs) (hn:n<140737488355000) (hm:m<140737488355000) :
 Calls Try.prog 5 #[v,u] w fun e w'=>e = .returned (.bool true)∧Below w.heap.size w w':=by
 have c1:=lent_any v n ks w hv hn
 have c2:=fun W hb=>lent_any u m bs W (hu.keep hb) hm
 have s1:=fun g cap W hc hr hb=>stays_any g cap n v ks hks W hn hc hr (hv.keep hb)
 have s2:=fun g cap W hc hr hb=>stays_any g cap m u bs hbs W hm hc hr (hu.keep hb)
 have ck:=knows8
 by_cases h16:n=16∧m=16
 · obtain ⟨rfl,rfl⟩:=h16
   have hbB:B16 bs:=fun j _=>hbs j
   have hw:=kyN_lt hks
   have hZ:=blkN_B hbB hw
   have hT:=bckN_B hbB hw
   have c3:=fun x y W hx hy=>block_good x y ks bs hks hbB W hx hy
   have c4:=fun W hb=>rBlock_good v u ks bs hks hbB W (hv.keep hb) (hu.keep hb)
   have c5:=fun x y W hx hy=>back_good x y ks bs hks hbB W hx hy
   have c6:=fun W hb=>rBack_good v u ks bs hks hbB W (hv.keep hb) (hu.keep hb)
   generalize blkN (kyN ks) bs=Z at *
   generalize bckN (kyN ks) bs=T at *
   have cz:=fun W g (h:RowAt .u8 W g 0 16 Z) c=>conv16 h hZ (W':=W) (Below.refl _ _) c
   have ct:=fun W g (h:RowAt .u8 W g 0 16 T) c=>conv16 h hT (W':=W) (Below.refl _ _) c
   generalize strB 16 Z=SZ at *
   generalize strB 16 T=ST at *
   obtain ⟨xk,ckk,rfl,-,-,-⟩:=hv.src
   obtain ⟨xb,cbb,rfl,-,-,-⟩:=hu.src
   clear hv hu hks hbs hbB hw hZ hT
   go_enter Try.func5,Try.ntmps5
   go_wp2_with (first
    | (go_at_call 11;refine c1.mono ?_;clear c1;rintro e w1 ⟨g1,k1,rfl,hk1,-,r1,b⟩;(have c2':=c2 w1 b);clear c2)
    | (go_at_call 11;refine c2'.mono ?_;clear c2';rintro e w2 ⟨g2,k2,rfl,hk2,-,r2,hb2⟩;(replace r1:=r1.still hb2);(replace b:=below_next b hb2);clear hb2;(have c3':=c3 _ _ w2 (lentB r1 hk1) (lentB r2 hk2));clear c3)
    | (go_at_call 16;refine c3'.mono ?_;clear c3';rintro e w3 ⟨g3,rfl,r3,hb3⟩;(replace r1:=r1.still hb3);(replace r2:=r2.still hb3);(replace b:=below_next b hb3);clear hb3;(have c4':=c4 w3 b);clear c4)
    | (go_at_call 17;refine c4'.mono ?_;clear c4';rintro e w4 ⟨s4,rfl,⟨g4,k4,hs4,hk4,r4⟩,hb4⟩;subst hs4;(replace r1:=r1.still hb4);(replace r2:=r2.still hb4);(replace r3:=r3.still hb4);(replace b:=below_next b hb4);clear hb4;(have c5':=c5 _ _ w4 (lentB r1 hk1) (lentB r2 hk2));clear c5)
    | (go_at_call 18;refine c5'.mono ?_;clear c5';rintro e w5 ⟨g5,rfl,r5,hb5⟩;(replace r1:=r1.still hb5);(replace r2:=r2.still hb5);(replace r3:=r3.still hb5);(replace r4:=r4.still hb5);(replace b:=below_next b hb5);clear hb5;(have c6':=c6 w5 b);clear c6)
    | (go_at_call 19;refine c6'.mono ?_;clear c6';rintro e w6 ⟨s6,rfl,⟨g6,k6,hs6,hk6,r6⟩,hb6⟩;subst hs6;(replace r1:=r1.still hb6);(replace r2:=r2.still hb6);(replace r3:=r3.still hb6);(replace r4:=r4.still hb6);(replace r5:=r5.still hb6);(replace b:=below_next b hb6);clear hb6;(have q1:=cz w6 g3 r3 16);(have q2:=cz w6 g4 r4 k4);(have q3:=ct w6 g5 r5 16);(have q4:=ct w6 g6 r6 k6);(have s1':=s1 g1 k1 w6 hk1 r1 b);clear cz ct s1 r3 r4 r5 r6)
    | (go_at_call 14;refine (num8_any _ _).mono ?_;rintro e wn ⟨rfl,hwn⟩;subst hwn)
    | rw [q1]
    | rw [q2]
    | rw [q3]
    | rw [q4]
    | (go_at_call 15;refine s1'.mono ?_;clear s1';rintro e w7 ⟨rfl,hb7⟩;(replace r2:=r2.still hb7);(replace b:=below_next b hb7);clear hb7;(have s2':=s2 g2 k2 w7 hk2 r2 b);clear s2)
    | (go_at_call 15;refine s2'.mono ?_;clear s2';rintro e w8 ⟨rfl,hb8⟩;(replace b:=below_next b hb8);clear hb8)
    | (go_at_call 10;refine (ck _).mono ?_;clear ck;rintro e w9 ⟨rfl,hb9⟩))
   go_ret
   exact ⟨rfl,below_next b hb9⟩
 · have c3:=fun x y W hx hy=>block_bad x y n m ks bs W hx hy h16
   have c4:=fun W hb=>rBlock_bad v u n m ks bs W (hv.keep hb) (hu.keep hb) h16
   have c5:=fun x y W hx hy=>back_bad x y n m ks bs W hx hy h16
   have c6:=fun W hb=>rBack_bad v u n m ks bs W (hv.keep hb) (hu.keep hb) h16
   have cv:=conv_nil8
   generalize strB 0 (fun _=>0)=S at *
   obtain ⟨xk,ckk,rfl,-,-,-⟩:=hv.src
   obtain ⟨xb,cbb,rfl,-,-,-⟩:=hu.src
   clear hv hu hks hbs h16
   go_enter Try.func5,Try.ntmps5
   go_wp2_with (first
    | (go_at_call 11;refine c1.mono ?_;clear c1;rintro e w1 ⟨g1,k1,rfl,hk1,-,r1,b⟩;(have c2':=c2 w1 b);clear c2)
    | (go_at_call 11;refine c2'.mono ?_;clear c2';rintro e w2 ⟨g2,k2,rfl,hk2,-,r2,hb2⟩;(replace r1:=r1.still hb2);(replace b:=below_next b hb2);clear hb2;(have c3':=c3 _ _ w2 (lentB r1 hk1) (lentB r2 hk2));(have c4':=c4 w2 b);(have c5':=c5 _ _ w2 (lentB r1 hk1) (lentB r2 hk2));(have c6':=c6 w2 b);(have q1:=cv w2);(have s1':=s1 g1 k1 w2 hk1 r1 b);clear c3 c4 c5 c6 cv s1)
    | (go_at_call 16;refine c3'.mono ?_;clear c3';rintro e w3 ⟨rfl,hw3⟩;subst hw3)
    | (go_at_call 17;refine c4'.mono ?_;clear c4';rintro e w4 ⟨rfl,hw4⟩;subst hw4)
    | (go_at_call 18;refine c5'.mono ?_;clear c5';rintro e w5 ⟨rfl,hw5⟩;subst hw5)
    | (go_at_call 19;refine c6'.mono ?_;clear c6';rintro e w6 ⟨rfl,hw6⟩;subst hw6)
    | (go_at_call 14;refine (num8_any _ _).mono ?_;rintro e wn ⟨rfl,hwn⟩;subst hwn)
    | rw [q1]
    | (go_at_call 15;refine s1'.mono ?_;clear s1';rintro e w7 ⟨rfl,hb7⟩;(replace r2:=r2.still hb7);(replace b:=below_next b hb7);clear hb7;(have s2':=s2 g2 k2 w7 hk2 r2 b);clear s2)
    | (go_at_call 15;refine s2'.mono ?_;clear s2';rintro e w8 ⟨rfl,hb8⟩;(replace b:=below_next b hb8);clear hb8)
    | (go_at_call 10;refine (ck _).mono ?_;clear ck;rintro e w9 ⟨rfl,hb9⟩))
   go_ret
   exact ⟨rfl,below_next b hb9⟩
end Go.Proofs.Ytplnmmokafomaaa
