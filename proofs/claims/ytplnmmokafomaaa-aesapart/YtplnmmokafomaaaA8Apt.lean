/- The law AesApart in the model. -/
import Derived.Test.YtplnmmokafomaaaA8UndoM
namespace Go.Proofs.Ytplnmmokafomaaa
open Go.RowKit
theorem strB_16 {X Y:Nat→Nat} (hX:B16 X) (hY:B16 Y) (h:strB 16 X=strB 16 Y):S16 X Y:=fun j hj=>by
 have e:∀ Z:Nat→Nat,B16 Z→strB 16 Z=strB 16 (fun j=>Z j%256):=fun Z hZ=>strB_congr (fun j hj=>(Nat.mod_eq_of_lt (hZ j hj)).symm)
 rw [e X hX,e Y hY,strB_eq (fun _=>Nat.mod_lt _ (by decide)) (fun _=>Nat.mod_lt _ (by decide))] at h
 have h2:=h.2 j hj
 rwa [Nat.mod_eq_of_lt (hX j hj),Nat.mod_eq_of_lt (hY j hj)] at h2
theorem blkS_S {w a b:Nat→Nat} (h:S16 a b):∀ r,S16 (blkS w a r) (blkS w b r)
 | 0=>addN_S h w 0
 | r+1=>addN_S (colN_S (rowN_S (thrN_S (blkS_S h r) boxN) 1) mT) w (r+1)
theorem blkN_S {w a b:Nat→Nat} (h:S16 a b):S16 (blkN w a) (blkN w b):=addN_S (rowN_S (thrN_S (blkS_S h 9) boxN) 1) w 10
theorem bckS_S {w a b:Nat→Nat} (h:S16 a b):∀ k,S16 (bckS w a k) (bckS w b k)
 | 0=>h
 | k+1=>by
  unfold bckS
  refine thrN_S (rowN_S ?_ 3) unN
  split
  · exact addN_S (bckS_S h k) w _
  · exact colN_S (addN_S (bckS_S h k) w _) mB
theorem bckN_S {w a b:Nat→Nat} (h:S16 a b):S16 (bckN w a) (bckN w b):=addN_S (bckS_S h 10) w 0
theorem apart {w a b:Nat→Nat} (hw:∀ j,w j<256) (ha:B16 a) (hb:B16 b):(strB 16 (blkN w a)=strB 16 (blkN w b)↔strB 16 a=strB 16 b)∧(strB 16 (bckN w a)=strB 16 (bckN w b)↔strB 16 a=strB 16 b):=by
 refine ⟨⟨fun h => ?_,fun h => ?_⟩,⟨fun h => ?_,fun h => ?_⟩⟩
 · exact strB_congr (((bck_blk ha hw).symm.trans (bckN_S (strB_16 (blkN_B ha hw) (blkN_B hb hw) h))).trans (bck_blk hb hw))
 · exact strB_congr (blkN_S (strB_16 ha hb h))
 · exact strB_congr (((blk_bck ha hw).symm.trans (blkN_S (strB_16 (bckN_B ha hw) (bckN_B hb hw) h))).trans (blk_bck hb hw))
 · exact strB_congr (bckN_S (strB_16 ha hb h))
set_option maxRecDepth 20000 in
set_option maxHeartbeats 8000000 in
theorem aesApart_any (v u t:Value) (n m l:Nat) (ks az bs:Nat→Nat) (hks:∀ j,ks j<256) (has:∀ j,az j<256) (hbs:∀ j,bs j<256) (w:World) (hv:BytesIn w v n ks) (hu:BytesIn w u m az) (ht:BytesIn w t l bs) :
 Calls Try.prog 7 #[v,u,t] w fun e w'=>e = .returned (.bool true)∧Below w.heap.size w w':=by
 have c1:=sixteen_any v n ks w hv
 have c2:=fun W hb=>sixteen_any u m az W (hu.keep hb)
 have c3:=fun W hb=>sixteen_any t l bs W (ht.keep hb)
 obtain ⟨xk,ck,rfl,-,-,-⟩:=hv.src
 obtain ⟨xa,ca,rfl,-,-,-⟩:=hu.src
 obtain ⟨xb,cb,rfl,-,-,-⟩:=ht.src
 have hK:=fit16_lt (n:=n) hks
 have hA:B16 (fit16 m az):=fun j _=>fit16_lt (n:=m) has j
 have hB:B16 (fit16 l bs):=fun j _=>fit16_lt (n:=l) hbs j
 generalize fit16 n ks=X at *
 generalize fit16 m az=A at *
 generalize fit16 l bs=B at *
 have hw:=kyN_lt hK
 obtain ⟨ap1,ap2⟩:=apart hw hA hB
 have k1:=fun a b W ha hb=>block_good a b X A hK hA W ha hb
 have k2:=fun a b W ha hb=>block_good a b X B hK hB W ha hb
 have k3:=fun a b W ha hb=>back_good a b X A hK hA W ha hb
 have k4:=fun a b W ha hb=>back_good a b X B hK hB W ha hb
 have ca1:=fun W g (h:RowAt .u8 W g 0 16 A) W' hb c=>conv16 h hA (W':=W') hb c
 have cb1:=fun W g (h:RowAt .u8 W g 0 16 B) W' hb c=>conv16 h hB (W':=W') hb c
 have cx:=fun W g (h:RowAt .u8 W g 0 16 (blkN (kyN X) A)) W' hb c=>conv16 h (blkN_B hA hw) (W':=W') hb c
 have cy:=fun W g (h:RowAt .u8 W g 0 16 (blkN (kyN X) B)) W' hb c=>conv16 h (blkN_B hB hw) (W':=W') hb c
 have cz:=fun W g (h:RowAt .u8 W g 0 16 (bckN (kyN X) A)) W' hb c=>conv16 h (bckN_B hA hw) (W':=W') hb c
 have cw:=fun W g (h:RowAt .u8 W g 0 16 (bckN (kyN X) B)) W' hb c=>conv16 h (bckN_B hB hw) (W':=W') hb c
 generalize strB 16 A=SA at *
 generalize strB 16 B=SB at *
 generalize strB 16 (blkN (kyN X) A)=SX at *
 generalize strB 16 (blkN (kyN X) B)=SY at *
 generalize strB 16 (bckN (kyN X) A)=SZ at *
 generalize strB 16 (bckN (kyN X) B)=SW at *
 generalize blkN (kyN X) A=x at *
 generalize blkN (kyN X) B=y at *
 generalize bckN (kyN X) A=z at *
 generalize bckN (kyN X) B=ww at *
 have w0:IntKind.i64.wrap 0=0:=by decide
 clear hK hA hB hw hv hu ht
 have hcase:(SA=SB∧SX=SY∧SZ=SW)∨(¬SA=SB∧¬SX=SY∧¬SZ=SW):=by
  by_cases h:SA=SB
  · exact .inl ⟨h,ap1.2 h,ap2.2 h⟩
  · exact .inr ⟨h,fun e=>h (ap1.1 e),fun e=>h (ap2.1 e)⟩
 clear ap1 ap2
 rcases hcase with ⟨h1,h2,h3⟩ | ⟨h1,h2,h3⟩
 · subst h1 h2 h3
   go_enter Try.func7,Try.ntmps7
   go_wp2_with (first
    | (go_at_call 20;refine c1.mono ?_;clear c1;rintro e w1 ⟨g1,rfl,r1,hb1⟩;(have c2':=c2 w1 hb1);clear c2)
    | (go_at_call 20;refine c2'.mono ?_;clear c2';rintro e w2 ⟨g2,rfl,r2,hb2⟩;(replace r1:=r1.still hb2);(have b2:=below_next hb1 hb2);clear hb1 hb2;(have c3':=c3 w2 b2);clear c3)
    | (go_at_call 20;refine c3'.mono ?_;clear c3';rintro e w3 ⟨g3,rfl,r3,hb3⟩;(replace r1:=r1.still hb3);(replace r2:=r2.still hb3);(have b3:=below_next b2 hb3);clear b2 hb3;(have d1:=k1 _ _ w3 (rowB r1 (by decide) (Nat.le_refl _)) (rowB r2 (by decide) (Nat.le_refl _)));clear k1)
    | (go_at_call 16;refine d1.mono ?_;clear d1;rintro e w4 ⟨g4,rfl,r4,hb4⟩;(replace r1:=r1.still hb4);(replace r2:=r2.still hb4);(replace r3:=r3.still hb4);(have b4:=below_next b3 hb4);clear b3 hb4;(have d2:=k2 _ _ w4 (rowB r1 (by decide) (Nat.le_refl _)) (rowB r3 (by decide) (Nat.le_refl _)));clear k2)
    | (go_at_call 16;refine d2.mono ?_;clear d2;rintro e w5 ⟨g5,rfl,r5,hb5⟩;(replace r1:=r1.still hb5);(replace r2:=r2.still hb5);(replace r3:=r3.still hb5);(replace r4:=r4.still hb5);(have b5:=below_next b4 hb5);clear b4 hb5;(have d3:=k3 _ _ w5 (rowB r1 (by decide) (Nat.le_refl _)) (rowB r2 (by decide) (Nat.le_refl _)));clear k3)
    | (go_at_call 18;refine d3.mono ?_;clear d3;rintro e w6 ⟨g6,rfl,r6,hb6⟩;(replace r1:=r1.still hb6);(replace r2:=r2.still hb6);(replace r3:=r3.still hb6);(replace r4:=r4.still hb6);(replace r5:=r5.still hb6);(have b6:=below_next b5 hb6);clear b5 hb6;(have d4:=k4 _ _ w6 (rowB r1 (by decide) (Nat.le_refl _)) (rowB r3 (by decide) (Nat.le_refl _)));clear k4)
    | (go_at_call 18;refine d4.mono ?_;clear d4;rintro e w7 ⟨g7,rfl,r7,hb7⟩;(replace r2:=r2.still hb7);(replace r3:=r3.still hb7);(replace r4:=r4.still hb7);(replace r5:=r5.still hb7);(replace r6:=r6.still hb7);(have b7:=below_next b6 hb7);clear b6 hb7 r1;(have q1:=ca1 w7 g2 r2 w7 (Below.refl _ _) 16);(have q2:=cb1 w7 g3 r3 w7 (Below.refl _ _) 16);(have q3:=cx w7 g4 r4 w7 (Below.refl _ _) 16);(have q4:=cy w7 g5 r5 w7 (Below.refl _ _) 16);(have q5:=cz w7 g6 r6 w7 (Below.refl _ _) 16);(have q6:=cw w7 g7 r7 w7 (Below.refl _ _) 16);clear ca1 cb1 cx cy cz cw r2 r3 r4 r5 r6 r7;(have dk:=knows8 w7))
    | (go_at_call 14;refine (num8_any _ _).mono ?_;rintro e wn ⟨rfl,hwn⟩;subst hwn)
    | rw [q1]
    | rw [q2]
    | rw [q3]
    | rw [q4]
    | rw [q5]
    | rw [q6]
    | (go_at_call 10;refine dk.mono ?_;clear dk;rintro e w8 ⟨rfl,hb8⟩))
   go_ret
   exact ⟨rfl,below_next b7 hb8⟩
 · have ne:∀ {a b:ByteArray},¬a=b→(a.toList == b.toList)=false:=fun h=>by simpa [ByteArray.toList_eq] using fun e=>h (WideShapes.bytes_inj e)
   have e1:=ne h1
   have e2:=ne h2
   have e3:=ne h3
   clear ne
   go_enter Try.func7,Try.ntmps7
   go_wp2_with (first
    | (go_at_call 20;refine c1.mono ?_;clear c1;rintro e w1 ⟨g1,rfl,r1,hb1⟩;(have c2':=c2 w1 hb1);clear c2)
    | (go_at_call 20;refine c2'.mono ?_;clear c2';rintro e w2 ⟨g2,rfl,r2,hb2⟩;(replace r1:=r1.still hb2);(have b2:=below_next hb1 hb2);clear hb1 hb2;(have c3':=c3 w2 b2);clear c3)
    | (go_at_call 20;refine c3'.mono ?_;clear c3';rintro e w3 ⟨g3,rfl,r3,hb3⟩;(replace r1:=r1.still hb3);(replace r2:=r2.still hb3);(have b3:=below_next b2 hb3);clear b2 hb3;(have d1:=k1 _ _ w3 (rowB r1 (by decide) (Nat.le_refl _)) (rowB r2 (by decide) (Nat.le_refl _)));clear k1)
    | (go_at_call 16;refine d1.mono ?_;clear d1;rintro e w4 ⟨g4,rfl,r4,hb4⟩;(replace r1:=r1.still hb4);(replace r2:=r2.still hb4);(replace r3:=r3.still hb4);(have b4:=below_next b3 hb4);clear b3 hb4;(have d2:=k2 _ _ w4 (rowB r1 (by decide) (Nat.le_refl _)) (rowB r3 (by decide) (Nat.le_refl _)));clear k2)
    | (go_at_call 16;refine d2.mono ?_;clear d2;rintro e w5 ⟨g5,rfl,r5,hb5⟩;(replace r1:=r1.still hb5);(replace r2:=r2.still hb5);(replace r3:=r3.still hb5);(replace r4:=r4.still hb5);(have b5:=below_next b4 hb5);clear b4 hb5;(have d3:=k3 _ _ w5 (rowB r1 (by decide) (Nat.le_refl _)) (rowB r2 (by decide) (Nat.le_refl _)));clear k3)
    | (go_at_call 18;refine d3.mono ?_;clear d3;rintro e w6 ⟨g6,rfl,r6,hb6⟩;(replace r1:=r1.still hb6);(replace r2:=r2.still hb6);(replace r3:=r3.still hb6);(replace r4:=r4.still hb6);(replace r5:=r5.still hb6);(have b6:=below_next b5 hb6);clear b5 hb6;(have d4:=k4 _ _ w6 (rowB r1 (by decide) (Nat.le_refl _)) (rowB r3 (by decide) (Nat.le_refl _)));clear k4)
    | (go_at_call 18;refine d4.mono ?_;clear d4;rintro e w7 ⟨g7,rfl,r7,hb7⟩;(replace r2:=r2.still hb7);(replace r3:=r3.still hb7);(replace r4:=r4.still hb7);(replace r5:=r5.still hb7);(replace r6:=r6.still hb7);(have b7:=below_next b6 hb7);clear b6 hb7 r1;(have q1:=ca1 w7 g2 r2 w7 (Below.refl _ _) 16);(have q2:=cb1 w7 g3 r3 w7 (Below.refl _ _) 16);(have q3:=cx w7 g4 r4 w7 (Below.refl _ _) 16);(have q4:=cy w7 g5 r5 w7 (Below.refl _ _) 16);(have q5:=cz w7 g6 r6 w7 (Below.refl _ _) 16);(have q6:=cw w7 g7 r7 w7 (Below.refl _ _) 16);clear ca1 cb1 cx cy cz cw r2 r3 r4 r5 r6 r7;(have dk:=knows8 w7))
    | (go_at_call 14;refine (num8_any _ _).mono ?_;rintro e wn ⟨rfl,hwn⟩;subst hwn)
    | rw [q1]
    | rw [q2]
    | rw [q3]
    | rw [q4]
    | rw [q5]
    | rw [q6]
    | (go_at_call 10;refine dk.mono ?_;clear dk;rintro e w8 ⟨rfl,hb8⟩))
   go_ret
   exact ⟨rfl,below_next b7 hb8⟩
end Go.Proofs.Ytplnmmokafomaaa
