/- What Block of the reference does in the model. -/
import Derived.Test.YtibdhadbflfdpaaGreatDoorA8RSM
namespace Go.Proofs.YtibdhadbflfdpaaGreatDoor
open Go.RowKit
theorem mT_lt (j:Nat) (hj:j<4):mT j<256:=by
 rcases (show j=0∨j=1∨j=2∨j=3 by omega) with rfl | rfl | rfl | rfl <;> decide
theorem mT_row (w:World):RowS (w.alloc (.cells #[.int .u8 2,.int .u8 3,.int .u8 1,.int .u8 1] 5)) (.slice (some ⟨w.heap.size,0,none⟩) 4 4) 4 mT:=⟨w.heap.size,4,rfl,Nat.le_refl _,RowAt.fresh (fun j hj=>by
 rcases (show j=0∨j=1∨j=2∨j=3 by omega) with rfl | rfl | rfl | rfl <;> rfl)⟩
set_option maxRecDepth 20000 in
set_option maxHeartbeats 8000000 in
theorem rBlock_fresh (v u:Value) (ks bs:Nat→Nat) (hks:∀ j,ks j<256) (hbB:B16 bs) (w:World) (hv:BytesIn w v 16 ks) (hu:BytesIn w u 16 bs) :
 Calls Tryz.prog 239 #[v,u] w fun e w'=>∃ s,e = .returned (.tuple #[s,.int .i64 0])∧RowF w.heap.size w' s 16 (blkN (kyN ks) bs)∧Below w.heap.size w w':=by
 have hK:=kyN_lt hks
 have cb:=rboxes_any w
 have ck:=fun u W h hb=>rkeys_any v u ks hks W (hv.keep hb) h
 generalize kyN ks=K at *
 have ca:=fun s W hs hb=>add_any u s bs K 0 (by decide) hbB hK W (hu.keep hb) hs
 have hBB:∀ r,B16 (blkS K bs r):=blkS_B hbB hK
 have c1:=fun r v u W hv hu=>rthrough_any v u (blkS K bs r) boxN (hBB r) W hv hu
 have c2:=fun r v W hv=>rows1_any v (thrN boxN (blkS K bs r)) W hv
 have c3:=fun r v u W hv hu=>columns_any v u (rowN 1 (thrN boxN (blkS K bs r))) mT (rowN_B (box_B (hBB r)) 1) mT_lt W hv hu
 have c4:∀ r,r<9→∀ v u W,RowS W v 16 (colN mT (rowN 1 (thrN boxN (blkS K bs r))))→RowS W u 176 K→Calls Tryz.prog 264 #[v,u,.int .i64 ((r:Int)+1)] W fun e w'=>∃ s,e = .returned s∧RowS w' s 16 (blkS K bs (r+1))∧Below W.heap.size W w':=fun r hr v u W hv hu=>add_any v u _ K (r+1) (by omega) (colT_B (rowN_B (box_B (hBB r)) 1)) hK W (hv.bytes (by decide)) hu
 have c5:∀ v u W,RowS W v 16 (rowN 1 (thrN boxN (blkS K bs 9)))→RowS W u 176 K→Calls Tryz.prog 264 #[v,u,.int .i64 ((9:Nat)+1:Int)] W fun e w'=>∃ s,e = .returned s∧RowF W.heap.size w' s 16 (blkN K bs)∧Below W.heap.size W w':=fun v u W hv hu=>add_fresh v u _ K 10 (by decide) (rowN_B (box_B (hBB 9)) 1) hK W (hv.bytes (by decide)) hu
 have e0:addN K 0 bs=blkS K bs 0:=rfl
 rw [e0] at ca
 have hmT:=mT_row
 generalize hbl:blkN K bs=Z at *
 generalize blkS K bs=B at *
 obtain ⟨xk,ck',rfl,-,-,-⟩:=hv.src
 obtain ⟨xb,cb',rfl,-,-,-⟩:=hu.src
 clear hv hu hbB hK hBB e0 hks hbl
 go_enter Tryz.func239,Tryz.ntmps239
 go_wp2_with (first
  | (go_at_call 262;refine cb.mono ?_;clear cb;rintro e w1 ⟨v1,rfl,r1,b1⟩;(have ck1:=ck v1 w1 r1 b1);clear ck)
  | (go_at_call 263;refine ck1.mono ?_;clear ck1;rintro e w2 ⟨v2,rfl,r2,b2⟩;(replace r1:=r1.still b2);(replace b2:=below_next b1 b2);(have ca2:=ca v2 w2 r2 b2);clear ca b1)
  | (go_at_call 264;refine ca2.mono ?_;clear ca2;rintro e w3 ⟨v3,rfl,r3,b3⟩;(replace r1:=r1.still b3);(replace r2:=r2.still b3);(replace b3:=below_next b2 b3);clear b2))
 go_loopw [8,9] (fun x i wr=>∃ k:Nat,k≤10∧i = .int .i64 ((k:Int)+1)∧(k<10→RowS wr x 16 (B k))∧(k=10→RowF w.heap.size wr x 16 Z)∧RowS wr v1 256 boxN∧RowS wr v2 176 K∧Below w.heap.size w wr) (fun _ i _=>11 - (intOf i).toNat)
 case atStart=>exact ⟨0,by decide,rfl,fun _=>r3,fun h=>by omega,r1,r2,b3⟩
 case round =>
  clear r1 r2 r3 b3
  obtain ⟨k,hk,rfl,hx,hxz,r1,r2,b⟩:=hrel
  by_cases hlt:k<9
  · have hx0:=hx (by omega)
    have d1:=c1 k _ _ wr hx0 r1
    have d2:=c2 k
    have d3:=c3 k
    have d4:=c4 k hlt
    have q1:(k:Int)+1≤10:=by omega
    have q2:(k:Int)+1<10:=by omega
    have m1:k+1≤10:=by omega
    have m2:k+1<10:=by omega
    clear c1 c2 c3 c4 c5 hx hxz
    go_wp2_with (first
     | (go_at_call 266;refine d1.mono ?_;clear d1;rintro e w4 ⟨v4,rfl,r4,b4⟩;(replace r1:=r1.still b4);(replace r2:=r2.still b4);(replace b:=below_next b b4);(have d2':=d2 v4 w4 r4);clear d2 b4)
     | (go_at_call 265;refine d2'.mono ?_;clear d2';rintro e w5 ⟨v5,rfl,r5,b5⟩;(have bA:Below w5.heap.size w5 (w5.alloc (.cells #[.int .u8 2,.int .u8 3,.int .u8 1,.int .u8 1] 5)):=(Below.refl _ _).alloc (Nat.le_refl _) _);(replace r1:=(r1.still b5).still bA);(replace r2:=(r2.still b5).still bA);(replace b:=below_next (below_next b b5) bA);(have d3':=d3 v5 _ _ (r5.still bA) (hmT w5));clear d3 b5)
     | (go_at_call 267;refine d3'.mono ?_;clear d3';rintro e w6 ⟨v6,rfl,r6,b6⟩;(replace r1:=r1.still b6);(replace r2:=r2.still b6);(replace b:=below_next b b6);(have d4':=d4 v6 v2 w6 r6 r2);clear d4 b6)
     | (go_at_call 264;refine d4'.mono ?_;clear d4';rintro e w7 ⟨v7,rfl,r7,b7⟩;(replace r1:=r1.still b7);(replace r2:=r2.still b7);(replace b:=below_next b b7)))
    go_roundw
    case rel=>exact ⟨k+1,m1,by go_num,fun _=>r7,fun h=>by omega,r1,r2,b⟩
    case measure=>simp [intOf];omega
  · by_cases h9:k=9
    · subst h9
      have hx0:=hx (by decide)
      have d1:=c1 9 _ _ wr hx0 r1
      have d2:=c2 9
      clear c1 c2 c3 c4 hx hxz
      go_wp2_with (first
       | (go_at_call 266;refine d1.mono ?_;clear d1;rintro e w4 ⟨v4,rfl,r4,b4⟩;(replace r1:=r1.still b4);(replace r2:=r2.still b4);(replace b:=below_next b b4);(have d2':=d2 v4 w4 r4);clear d2 b4)
       | (go_at_call 265;refine d2'.mono ?_;clear d2';rintro e w5 ⟨v5,rfl,r5,b5⟩;(replace r1:=r1.still b5);(replace r2:=r2.still b5);(replace b:=below_next b b5);(have d5':=c5 v5 v2 w5 r5 r2);(have hs5:=b.size);clear c5 b5)
       | (go_at_call 264;refine d5'.mono ?_;clear d5';rintro e w7 ⟨v7,rfl,r7,b7⟩;(replace r1:=r1.still b7);(replace r2:=r2.still b7);(replace b:=below_next b b7)))
      go_roundw
      case rel=>exact ⟨10,by decide,by go_num,fun h=>by omega,fun _=>r7.mono hs5,r1,r2,b⟩
      case measure=>simp [intOf]
    · obtain rfl:k=10:=by omega
      have hz:=hxz rfl
      clear c1 c2 c3 c4 c5 hx hxz
      go_wp2
      go_ret2
      exact ⟨_,rfl,hz,b⟩
theorem rBlock_good (v u:Value) (ks bs:Nat→Nat) (hks:∀ j,ks j<256) (hbB:B16 bs) (w:World) (hv:BytesIn w v 16 ks) (hu:BytesIn w u 16 bs) :
 Calls Tryz.prog 239 #[v,u] w fun e w'=>∃ s,e = .returned (.tuple #[s,.int .i64 0])∧RowS w' s 16 (blkN (kyN ks) bs)∧Below w.heap.size w w' :=
 (rBlock_fresh v u ks bs hks hbB w hv hu).mono fun _ _ ⟨s,he,hr,hb⟩=>⟨s,he,hr.row,hb⟩
end Go.Proofs.YtibdhadbflfdpaaGreatDoor
