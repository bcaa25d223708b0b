/- What Power of the reference does in the model, at the two exponents of a root. -/
import Derived.Test.YtibdhadbflfdpaaGreatDoorRefOneM
namespace Go.Proofs.YtibdhadbflfdpaaGreatDoor
open Nat renaming le_refl → JW
open Nat renaming lt_of_lt_of_le → JX
open Go renaming wpList_store_mid → J2
open Go renaming wpList_load_mid → J3
open Go.RowKit
theorem ws:(List.range 252).all (fun i=>decide (i<4∨7237005577332262213973186563042994240829374041602535252466099000494570602494 / 2 ^ i%2=1))=true:=by kernel_rfl
theorem Ba (i:Nat) (h:4≤i) (hi:i<252):7237005577332262213973186563042994240829374041602535252466099000494570602494 / 2 ^ i%2=1:=by
 have h1:=List.all_eq_true.1 ws i (List.mem_range.2 hi);have h2:=of_decide_eq_true h1;omega
set_option maxRecDepth 20000 in
set_option maxHeartbeats 4000000 in
theorem AN (A:Nat→Int) (a:Nat) (hA:Rep A a) (w:World) :
 Calls Tryz.prog 179 #[bZ A,.int .i64 252,.int .i64 14,.int .i64 4] w fun e w'=>∃ R,e = .returned (bZ R)∧Rep R (a ^ 7237005577332262213973186563042994240829374041602535252466099000494570602494)∧Below w.heap.size w w':=by
 have hz:=dC
 have c1:=fun W=>om W
 have hone:Rep (aq gu) (a ^ (7237005577332262213973186563042994240829374041602535252466099000494570602494 / 2 ^ 252)):=by rw [show 7237005577332262213973186563042994240829374041602535252466099000494570602494 / 2 ^ 252=0 by decide,Nat.pow_zero];exact se
 obtain ⟨O,hO⟩:∃ O,O=aq gu:=⟨_,rfl⟩
 rw [←hO] at c1 hone
 obtain ⟨EX,hEX⟩:∃ EX,EX=7237005577332262213973186563042994240829374041602535252466099000494570602494:=⟨_,rfl⟩
 have hbit:∀ i,4≤i→i<252→EX / 2 ^ i%2=1:=fun i h1 h2=>by rw [hEX];exact Ba i h1 h2
 have hbt0:EX / 2 ^ 0%2=0:=by rw [hEX]
 have hbt1:EX / 2 ^ 1%2=1:=by rw [hEX]
 have hbt2:EX / 2 ^ 2%2=1:=by rw [hEX]
 have hbt3:EX / 2 ^ 3%2=1:=by rw [hEX]
 have hE0:EX / 2 ^ 0=7237005577332262213973186563042994240829374041602535252466099000494570602494:=by rw [hEX,Nat.pow_zero,Nat.div_one]
 rw [←hEX] at hone;rw [←hE0]
 obtain ⟨W,hW⟩:∃ W,W=(w.alloc (.cells (af 16 A).toArray 92)).alloc (.cells zI 92):=⟨_,rfl⟩
 have HW:=Hid.mk' hW
 have hWs:W.heap.size=w.heap.size+1+1:=by rw [hW];simp
 have hbW:Below w.heap.size w W:=by rw [hW];exact ((Below.refl _ _).alloc (JW _) _).alloc (by simp) _
 have hAr0:ap W w.heap.size 16 A:=by rw [hW];exact (ap.box w 16 A _).below ((Below.refl _ _).alloc (JW _) _) (by simp)
 have hRr0:ap W (w.heap.size+1) 16 (fun _=>0):=by
  have:=ap.fresh (w.alloc (.cells (af 16 A).toArray 92)) zI 92 (n:=16) (L:=fun _=>0) (fun j hj=>dS j hj);rw [World.size_alloc] at this;rw [hW];exact this
 have c1':Calls Tryz.prog 119 #[.int .i64 1] W fun e w'=>e = .returned (.agg (af 16 O).toArray)∧Below W.heap.size W w':=c1 W
 have hsto:∀ w1:World,Below W.heap.size W w1→∃ V,V=(w1.alloc (.cells zI 92)).setCells w1.heap.size 0 (af 16 O).toArray.toList∧ap V w1.heap.size 16 O∧ap V w.heap.size 16 A∧ap V (w.heap.size+1) 16 (fun _=>0)∧Below w.heap.size w V∧w1.heap.size<V.heap.size∧(w1.alloc (.cells zI 92)).there w1.heap.size 0 (af 16 O).toArray.size∧w.heap.size+1<w1.heap.size:=fun w1 hb1=>by
  have hf:=ap.fresh w1 zI 92 (n:=16) (L:=fun _=>0) (fun j hj=>dS j hj);have hs:=hb1.size;have hba:Below w1.heap.size w1 (w1.alloc (.cells zI 92)):=(Below.refl _ _).alloc (JW _) _;refine ⟨_,rfl,?_,((hAr0.below hb1 (by omega)).below hba (by omega)).farCells (by omega) _ _,((hRr0.below hb1 (by omega)).below hba (by omega)).farCells (by omega) _ _,ac (by omega) _ _ _ ((hbW.trans (hb1.mono hbW.size)).trans (hba.mono (by omega))),?_,?_,by omega⟩
  · rw [List.toList_toArray];exact hf.stored
  · rw [(aj _ _ _ _).2.2.2];simp
  · rw [an];exact hf.there
 have hi2O:=bH O;have hoO:=eM O;unfold bZ;clear hW hO hEX c1 hE0;go_enter Tryz.func179,Tryz.ntmps179
 go_wp2_with (first
  | (go_at_call 119;rw [←HW.out];refine c1'.mono ?_;clear c1';rintro e w1 ⟨rfl,hb1⟩;(obtain ⟨V,hV,hNV,hAV,hRV,hbV,hsV,hthV,hsz⟩:=hsto w1 hb1);(have HV:=Hid.mk' hV);clear hV hsto)
  | (refine J2 rfl 92 _ _ rfl w1.heap.size 0 (af 16 O).toArray rfl rfl hthV hi2O hoO ?_;rw [←HV.out]))
 obtain ⟨g,hg⟩:∃ g,g=w1.heap.size:=⟨_,rfl⟩
 rw [←hg] at hNV hsV hsz ⊢;clear hg hthV HV hi2O hoO hAr0 hRr0 hb1;go_loopw [10] (fun i wr=>∃ (k:Nat) (L:Nat→Int),k≤252∧i = .int .i64 ((k:Int) - 1)∧ap wr g 16 L∧Rep L (a ^ (EX / 2 ^ k))∧ap wr w.heap.size 16 A∧ap wr (w.heap.size+1) 16 (fun _=>0)∧Below w.heap.size w wr∧g<wr.heap.size) (fun i _=>(intOf i+1).toNat)
 case atStart=>exact ⟨252,O,JW _,by go_num,hNV,hone,hAV,hRV,hbV,hsV⟩
 case round =>
  clear hNV hAV hRV hbV hsV hone hz;obtain ⟨k,L,hk,rfl,hN,hL,hAr,hRr,hb,hs⟩:=hrel
  by_cases hlt:0<k
  · have hsq:=fH hL hL
    have c1:=cZ L L hL.bd hL.bd wr
    obtain ⟨M,hM⟩:∃ M,M=bB L L:=⟨_,rfl⟩
    have c1':Calls Tryz.prog 120 #[.agg (af 16 L).toArray,.agg (af 16 L).toArray] wr fun e w'=>e = .returned (.agg (af 16 M).toArray)∧Below wr.heap.size wr w':=by rw [hM];exact c1
    rw [←hM] at hsq;have hmul:=fH hsq hA
    have c2:=fun W=>cZ M A hsq.bd hA.bd W
    obtain ⟨Q,hQ⟩:∃ Q,Q=bB M A:=⟨_,rfl⟩
    have c2':∀ W,Calls Tryz.prog 120 #[.agg (af 16 M).toArray,.agg (af 16 A).toArray] W fun e w'=>e = .returned (.agg (af 16 Q).toArray)∧Below W.heap.size W w':=by rw [hQ];exact c2
    rw [←hQ] at hmul
    have hp1:EX / 2 ^ (k - 1)%2=1→Rep Q (a ^ (EX / 2 ^ (k - 1))):=fun h=>by
     have:=jk a EX k hlt;rw [h] at this;rw [this,Nat.pow_one];exact hmul
    have hp0:EX / 2 ^ (k - 1)%2=0→Rep M (a ^ (EX / 2 ^ (k - 1))):=fun h=>by
     have:=jk a EX k hlt;rw [h] at this;rw [this,Nat.pow_zero,Nat.mul_one];exact hsq
    clear hM hQ c1 c2 hsq hmul hL;have hiL:=a8 L;have hiM:=a8 M;have hiA:=a8 A;have hi2M:=bH M;have hoM:=eM M;have hi2Q:=bH Q;have hoQ:=eM Q;have hNr:=hN.range
    by_cases hw:4<k
    · have hwi:¬(k:Int) - 1<4:=by omega
      have hwi2:(4:Int)≤(k:Int) - 1:=by omega
      go_wp2_with (first
       | (refine J3 rfl 92 _ rfl g 0 rfl (af 16 L) _ hNr Tryz.underlying92 rfl hiL ?_)
       | (go_at_call 120;refine c1'.mono ?_;clear c1' hNr;rintro e w1 ⟨rfl,hb1⟩;(have hN1:=hN.below hb1 hs);(have hth1:w1.there g 0 (af 16 M).toArray.size:=by rw [an];exact hN1.there);(have hAr1:=(hAr.below hb1 (by omega)).farCells (k:=g) (by omega) 0 (af 16 M).toArray.toList);(have hRr1:=(hRr.below hb1 (by omega)).farCells (k:=g) (by omega) 0 (af 16 M).toArray.toList);(have hN2:ap (w1.setCells g 0 (af 16 M).toArray.toList) g 16 M:=by rw [List.toList_toArray];exact hN1.stored);(have hbw1:Below w.heap.size w (w1.setCells g 0 (af 16 M).toArray.toList):=ac (by omega) _ _ _ (hb.trans (hb1.mono hb.size)));(have hs1:g<(w1.setCells g 0 (af 16 M).toArray.toList).heap.size:=by rw [(aj _ _ _ _).2.2.2];exact JX hs hb1.size);(obtain ⟨V1,hV1⟩:∃ V1,V1=w1.setCells g 0 (af 16 M).toArray.toList:=⟨_,rfl⟩);(have HV1:=Hid.mk' hV1);rw [←hV1] at hAr1 hRr1 hN2 hbw1 hs1;clear hV1;(have hNr2:=hN2.range);(have hAr2:=hAr1.range))
       | (refine J2 rfl 92 _ _ rfl g 0 (af 16 M).toArray rfl rfl hth1 hi2M hoM ?_;rw [←HV1.out];clear hth1)
       | (refine J3 rfl 92 _ rfl g 0 rfl (af 16 M) _ hNr2 Tryz.underlying92 rfl hiM ?_)
       | (refine J3 rfl 92 _ rfl w.heap.size 0 rfl (af 16 A) _ hAr2 Tryz.underlying92 rfl hiA ?_)
       | (go_at_call 120;refine (c2' _).mono ?_;clear c2' hNr2 hAr2;rintro e w2 ⟨rfl,hb2⟩;(have hN3:=hN2.below hb2 hs1);(have hth2:w2.there g 0 (af 16 Q).toArray.size:=by rw [an];exact hN3.there))
       | (with_reducible (refine id (?_:wpList _ _ _ _ _ _));refine J2 rfl 92 _ _ rfl g 0 (af 16 Q).toArray rfl rfl hth2 hi2Q hoQ ?_))
      go_roundw
      case rel =>
       refine ⟨k - 1,Q,by omega,by go_num,?_,hp1 (hbit (k - 1) (by omega) (by omega)),(hAr1.below hb2 (by omega)).farCells (by omega) _ _,(hRr1.below hb2 (by omega)).farCells (by omega) _ _,ac (by omega) _ _ _ (hbw1.trans (hb2.mono hbw1.size)),?_⟩
       · exact hN3.stored
       · rw [(aj _ _ _ _).2.2.2];exact JX hs1 hb2.size
      case measure=>simp [intOf];omega
    · have hcases:k=1∨k=2∨k=3∨k=4:=by omega
      rcases hcases with rfl | rfl | rfl | rfl
      · go_wp2_with (first
         | (refine J3 rfl 92 _ rfl g 0 rfl (af 16 L) _ hNr Tryz.underlying92 rfl hiL ?_)
         | (go_at_call 120;refine c1'.mono ?_;clear c1' hNr;rintro e w1 ⟨rfl,hb1⟩;(have hN1:=hN.below hb1 hs);(have hth1:w1.there g 0 (af 16 M).toArray.size:=by rw [an];exact hN1.there);(have hAr1:=(hAr.below hb1 (by omega)).farCells (k:=g) (by omega) 0 (af 16 M).toArray.toList);(have hRr1:=(hRr.below hb1 (by omega)).farCells (k:=g) (by omega) 0 (af 16 M).toArray.toList);(have hN2:ap (w1.setCells g 0 (af 16 M).toArray.toList) g 16 M:=by rw [List.toList_toArray];exact hN1.stored);(have hbw1:Below w.heap.size w (w1.setCells g 0 (af 16 M).toArray.toList):=ac (by omega) _ _ _ (hb.trans (hb1.mono hb.size)));(have hs1:g<(w1.setCells g 0 (af 16 M).toArray.toList).heap.size:=by rw [(aj _ _ _ _).2.2.2];exact JX hs hb1.size);(obtain ⟨V1,hV1⟩:∃ V1,V1=w1.setCells g 0 (af 16 M).toArray.toList:=⟨_,rfl⟩);(have HV1:=Hid.mk' hV1);rw [←hV1] at hAr1 hRr1 hN2 hbw1 hs1;clear hV1;(have hNr2:=hN2.range);(have hAr2:=hAr1.range))
         | (refine J2 rfl 92 _ _ rfl g 0 (af 16 M).toArray rfl rfl hth1 hi2M hoM ?_;rw [←HV1.out];clear hth1)
         | fail)
        go_roundw
        case rel=>exact ⟨0,M,by omega,by go_num,hN2,hp0 (hbt0),hAr1,hRr1,hbw1,hs1⟩
        case measure=>simp [intOf]
      · go_wp2_with (first
         | (refine J3 rfl 92 _ rfl g 0 rfl (af 16 L) _ hNr Tryz.underlying92 rfl hiL ?_)
         | (go_at_call 120;refine c1'.mono ?_;clear c1' hNr;rintro e w1 ⟨rfl,hb1⟩;(have hN1:=hN.below hb1 hs);(have hth1:w1.there g 0 (af 16 M).toArray.size:=by rw [an];exact hN1.there);(have hAr1:=(hAr.below hb1 (by omega)).farCells (k:=g) (by omega) 0 (af 16 M).toArray.toList);(have hRr1:=(hRr.below hb1 (by omega)).farCells (k:=g) (by omega) 0 (af 16 M).toArray.toList);(have hN2:ap (w1.setCells g 0 (af 16 M).toArray.toList) g 16 M:=by rw [List.toList_toArray];exact hN1.stored);(have hbw1:Below w.heap.size w (w1.setCells g 0 (af 16 M).toArray.toList):=ac (by omega) _ _ _ (hb.trans (hb1.mono hb.size)));(have hs1:g<(w1.setCells g 0 (af 16 M).toArray.toList).heap.size:=by rw [(aj _ _ _ _).2.2.2];exact JX hs hb1.size);(obtain ⟨V1,hV1⟩:∃ V1,V1=w1.setCells g 0 (af 16 M).toArray.toList:=⟨_,rfl⟩);(have HV1:=Hid.mk' hV1);rw [←hV1] at hAr1 hRr1 hN2 hbw1 hs1;clear hV1;(have hNr2:=hN2.range);(have hAr2:=hAr1.range))
         | (refine J2 rfl 92 _ _ rfl g 0 (af 16 M).toArray rfl rfl hth1 hi2M hoM ?_;rw [←HV1.out];clear hth1)
         | (refine J3 rfl 92 _ rfl g 0 rfl (af 16 M) _ hNr2 Tryz.underlying92 rfl hiM ?_)
         | (refine J3 rfl 92 _ rfl w.heap.size 0 rfl (af 16 A) _ hAr2 Tryz.underlying92 rfl hiA ?_)
         | (go_at_call 120;refine (c2' _).mono ?_;clear c2' hNr2 hAr2;rintro e w2 ⟨rfl,hb2⟩;(have hN3:=hN2.below hb2 hs1);(have hth2:w2.there g 0 (af 16 Q).toArray.size:=by rw [an];exact hN3.there))
         | (with_reducible (refine id (?_:wpList _ _ _ _ _ _));refine J2 rfl 92 _ _ rfl g 0 (af 16 Q).toArray rfl rfl hth2 hi2Q hoQ ?_))
        go_roundw
        case rel =>
         refine ⟨1,Q,by omega,by go_num,?_,hp1 (hbt1),(hAr1.below hb2 (by omega)).farCells (by omega) _ _,(hRr1.below hb2 (by omega)).farCells (by omega) _ _,ac (by omega) _ _ _ (hbw1.trans (hb2.mono hbw1.size)),?_⟩
         · exact hN3.stored
         · rw [(aj _ _ _ _).2.2.2];exact JX hs1 hb2.size
        case measure=>simp [intOf]
      · go_wp2_with (first
         | (refine J3 rfl 92 _ rfl g 0 rfl (af 16 L) _ hNr Tryz.underlying92 rfl hiL ?_)
         | (go_at_call 120;refine c1'.mono ?_;clear c1' hNr;rintro e w1 ⟨rfl,hb1⟩;(have hN1:=hN.below hb1 hs);(have hth1:w1.there g 0 (af 16 M).toArray.size:=by rw [an];exact hN1.there);(have hAr1:=(hAr.below hb1 (by omega)).farCells (k:=g) (by omega) 0 (af 16 M).toArray.toList);(have hRr1:=(hRr.below hb1 (by omega)).farCells (k:=g) (by omega) 0 (af 16 M).toArray.toList);(have hN2:ap (w1.setCells g 0 (af 16 M).toArray.toList) g 16 M:=by rw [List.toList_toArray];exact hN1.stored);(have hbw1:Below w.heap.size w (w1.setCells g 0 (af 16 M).toArray.toList):=ac (by omega) _ _ _ (hb.trans (hb1.mono hb.size)));(have hs1:g<(w1.setCells g 0 (af 16 M).toArray.toList).heap.size:=by rw [(aj _ _ _ _).2.2.2];exact JX hs hb1.size);(obtain ⟨V1,hV1⟩:∃ V1,V1=w1.setCells g 0 (af 16 M).toArray.toList:=⟨_,rfl⟩);(have HV1:=Hid.mk' hV1);rw [←hV1] at hAr1 hRr1 hN2 hbw1 hs1;clear hV1;(have hNr2:=hN2.range);(have hAr2:=hAr1.range))
         | (refine J2 rfl 92 _ _ rfl g 0 (af 16 M).toArray rfl rfl hth1 hi2M hoM ?_;rw [←HV1.out];clear hth1)
         | (refine J3 rfl 92 _ rfl g 0 rfl (af 16 M) _ hNr2 Tryz.underlying92 rfl hiM ?_)
         | (refine J3 rfl 92 _ rfl w.heap.size 0 rfl (af 16 A) _ hAr2 Tryz.underlying92 rfl hiA ?_)
         | (go_at_call 120;refine (c2' _).mono ?_;clear c2' hNr2 hAr2;rintro e w2 ⟨rfl,hb2⟩;(have hN3:=hN2.below hb2 hs1);(have hth2:w2.there g 0 (af 16 Q).toArray.size:=by rw [an];exact hN3.there))
         | (with_reducible (refine id (?_:wpList _ _ _ _ _ _));refine J2 rfl 92 _ _ rfl g 0 (af 16 Q).toArray rfl rfl hth2 hi2Q hoQ ?_))
        go_roundw
        case rel =>
         refine ⟨2,Q,by omega,by go_num,?_,hp1 (hbt2),(hAr1.below hb2 (by omega)).farCells (by omega) _ _,(hRr1.below hb2 (by omega)).farCells (by omega) _ _,ac (by omega) _ _ _ (hbw1.trans (hb2.mono hbw1.size)),?_⟩
         · exact hN3.stored
         · rw [(aj _ _ _ _).2.2.2];exact JX hs1 hb2.size
        case measure=>simp [intOf]
      · go_wp2_with (first
         | (refine J3 rfl 92 _ rfl g 0 rfl (af 16 L) _ hNr Tryz.underlying92 rfl hiL ?_)
         | (go_at_call 120;refine c1'.mono ?_;clear c1' hNr;rintro e w1 ⟨rfl,hb1⟩;(have hN1:=hN.below hb1 hs);(have hth1:w1.there g 0 (af 16 M).toArray.size:=by rw [an];exact hN1.there);(have hAr1:=(hAr.below hb1 (by omega)).farCells (k:=g) (by omega) 0 (af 16 M).toArray.toList);(have hRr1:=(hRr.below hb1 (by omega)).farCells (k:=g) (by omega) 0 (af 16 M).toArray.toList);(have hN2:ap (w1.setCells g 0 (af 16 M).toArray.toList) g 16 M:=by rw [List.toList_toArray];exact hN1.stored);(have hbw1:Below w.heap.size w (w1.setCells g 0 (af 16 M).toArray.toList):=ac (by omega) _ _ _ (hb.trans (hb1.mono hb.size)));(have hs1:g<(w1.setCells g 0 (af 16 M).toArray.toList).heap.size:=by rw [(aj _ _ _ _).2.2.2];exact JX hs hb1.size);(obtain ⟨V1,hV1⟩:∃ V1,V1=w1.setCells g 0 (af 16 M).toArray.toList:=⟨_,rfl⟩);(have HV1:=Hid.mk' hV1);rw [←hV1] at hAr1 hRr1 hN2 hbw1 hs1;clear hV1;(have hNr2:=hN2.range);(have hAr2:=hAr1.range))
         | (refine J2 rfl 92 _ _ rfl g 0 (af 16 M).toArray rfl rfl hth1 hi2M hoM ?_;rw [←HV1.out];clear hth1)
         | (refine J3 rfl 92 _ rfl g 0 rfl (af 16 M) _ hNr2 Tryz.underlying92 rfl hiM ?_)
         | (refine J3 rfl 92 _ rfl w.heap.size 0 rfl (af 16 A) _ hAr2 Tryz.underlying92 rfl hiA ?_)
         | (go_at_call 120;refine (c2' _).mono ?_;clear c2' hNr2 hAr2;rintro e w2 ⟨rfl,hb2⟩;(have hN3:=hN2.below hb2 hs1);(have hth2:w2.there g 0 (af 16 Q).toArray.size:=by rw [an];exact hN3.there))
         | (with_reducible (refine id (?_:wpList _ _ _ _ _ _));refine J2 rfl 92 _ _ rfl g 0 (af 16 Q).toArray rfl rfl hth2 hi2Q hoQ ?_))
        go_roundw
        case rel =>
         refine ⟨3,Q,by omega,by go_num,?_,hp1 (hbt3),(hAr1.below hb2 (by omega)).farCells (by omega) _ _,(hRr1.below hb2 (by omega)).farCells (by omega) _ _,ac (by omega) _ _ _ (hbw1.trans (hb2.mono hbw1.size)),?_⟩
         · exact hN3.stored
         · rw [(aj _ _ _ _).2.2.2];exact JX hs1 hb2.size
        case measure=>simp [intOf]
  · have hke:k=0:=by omega
    subst hke;have hiL:=a8 L;have hi2L:=bH L;have hoL:=eM L
    have hth:wr.there (w.heap.size+1) 0 (af 16 L).toArray.size:=by rw [an];exact hRr.there
    have hNr:=hN.range
    go_wp2_with (first
     | (refine J3 rfl 92 _ rfl g 0 rfl (af 16 L) _ hNr Tryz.underlying92 rfl hiL ?_)
     | (refine J2 rfl 92 _ _ rfl (w.heap.size+1) 0 (af 16 L).toArray rfl rfl hth hi2L hoL ?_))
    (try simp only [Exit.inBlock,Exit.then]);refine bodyPost_ret (ai Tryz.results179 _ _ (w.heap.size+1) 0 (af 16 L) _ rfl (World.rangeAt_setCells_same _ _ _ _ (by rw [bl];exact hRr.there)) Tryz.underlying92 rfl hiL) rfl ⟨L,rfl,hL,?_⟩;exact ac (by omega) _ _ _ hb
theorem xf:(List.range 253).all (fun i=>decide (i<3∨14474011154664524427946373126085988481658748083205070504932198000989141204987 / 2 ^ i%2=1))=true:=by kernel_rfl
theorem A8 (i:Nat) (h:3≤i) (hi:i<253):14474011154664524427946373126085988481658748083205070504932198000989141204987 / 2 ^ i%2=1:=by
 have h1:=List.all_eq_true.1 xf i (List.mem_range.2 hi);have h2:=of_decide_eq_true h1;omega
set_option maxRecDepth 20000 in
set_option maxHeartbeats 4000000 in
theorem AM (A:Nat→Int) (a:Nat) (hA:Rep A a) (w:World) :
 Calls Tryz.prog 179 #[bZ A,.int .i64 253,.int .i64 3,.int .i64 3] w fun e w'=>∃ R,e = .returned (bZ R)∧Rep R (a ^ 14474011154664524427946373126085988481658748083205070504932198000989141204987)∧Below w.heap.size w w':=by
 have hz:=dC
 have c1:=fun W=>om W
 have hone:Rep (aq gu) (a ^ (14474011154664524427946373126085988481658748083205070504932198000989141204987 / 2 ^ 253)):=by rw [show 14474011154664524427946373126085988481658748083205070504932198000989141204987 / 2 ^ 253=0 by decide,Nat.pow_zero];exact se
 obtain ⟨O,hO⟩:∃ O,O=aq gu:=⟨_,rfl⟩
 rw [←hO] at c1 hone
 obtain ⟨EX,hEX⟩:∃ EX,EX=14474011154664524427946373126085988481658748083205070504932198000989141204987:=⟨_,rfl⟩
 have hbit:∀ i,3≤i→i<253→EX / 2 ^ i%2=1:=fun i h1 h2=>by rw [hEX];exact A8 i h1 h2
 have hbt0:EX / 2 ^ 0%2=1:=by rw [hEX]
 have hbt1:EX / 2 ^ 1%2=1:=by rw [hEX]
 have hbt2:EX / 2 ^ 2%2=0:=by rw [hEX]
 have hE0:EX / 2 ^ 0=14474011154664524427946373126085988481658748083205070504932198000989141204987:=by rw [hEX,Nat.pow_zero,Nat.div_one]
 rw [←hEX] at hone;rw [←hE0]
 obtain ⟨W,hW⟩:∃ W,W=(w.alloc (.cells (af 16 A).toArray 92)).alloc (.cells zI 92):=⟨_,rfl⟩
 have HW:=Hid.mk' hW
 have hWs:W.heap.size=w.heap.size+1+1:=by rw [hW];simp
 have hbW:Below w.heap.size w W:=by rw [hW];exact ((Below.refl _ _).alloc (JW _) _).alloc (by simp) _
 have hAr0:ap W w.heap.size 16 A:=by rw [hW];exact (ap.box w 16 A _).below ((Below.refl _ _).alloc (JW _) _) (by simp)
 have hRr0:ap W (w.heap.size+1) 16 (fun _=>0):=by
  have:=ap.fresh (w.alloc (.cells (af 16 A).toArray 92)) zI 92 (n:=16) (L:=fun _=>0) (fun j hj=>dS j hj);rw [World.size_alloc] at this;rw [hW];exact this
 have c1':Calls Tryz.prog 119 #[.int .i64 1] W fun e w'=>e = .returned (.agg (af 16 O).toArray)∧Below W.heap.size W w':=c1 W
 have hsto:∀ w1:World,Below W.heap.size W w1→∃ V,V=(w1.alloc (.cells zI 92)).setCells w1.heap.size 0 (af 16 O).toArray.toList∧ap V w1.heap.size 16 O∧ap V w.heap.size 16 A∧ap V (w.heap.size+1) 16 (fun _=>0)∧Below w.heap.size w V∧w1.heap.size<V.heap.size∧(w1.alloc (.cells zI 92)).there w1.heap.size 0 (af 16 O).toArray.size∧w.heap.size+1<w1.heap.size:=fun w1 hb1=>by
  have hf:=ap.fresh w1 zI 92 (n:=16) (L:=fun _=>0) (fun j hj=>dS j hj);have hs:=hb1.size;have hba:Below w1.heap.size w1 (w1.alloc (.cells zI 92)):=(Below.refl _ _).alloc (JW _) _;refine ⟨_,rfl,?_,((hAr0.below hb1 (by omega)).below hba (by omega)).farCells (by omega) _ _,((hRr0.below hb1 (by omega)).below hba (by omega)).farCells (by omega) _ _,ac (by omega) _ _ _ ((hbW.trans (hb1.mono hbW.size)).trans (hba.mono (by omega))),?_,?_,by omega⟩
  · rw [List.toList_toArray];exact hf.stored
  · rw [(aj _ _ _ _).2.2.2];simp
  · rw [an];exact hf.there
 have hi2O:=bH O;have hoO:=eM O;unfold bZ;clear hW hO hEX c1 hE0;go_enter Tryz.func179,Tryz.ntmps179
 go_wp2_with (first
  | (go_at_call 119;rw [←HW.out];refine c1'.mono ?_;clear c1';rintro e w1 ⟨rfl,hb1⟩;(obtain ⟨V,hV,hNV,hAV,hRV,hbV,hsV,hthV,hsz⟩:=hsto w1 hb1);(have HV:=Hid.mk' hV);clear hV hsto)
  | (refine J2 rfl 92 _ _ rfl w1.heap.size 0 (af 16 O).toArray rfl rfl hthV hi2O hoO ?_;rw [←HV.out]))
 obtain ⟨g,hg⟩:∃ g,g=w1.heap.size:=⟨_,rfl⟩
 rw [←hg] at hNV hsV hsz ⊢;clear hg hthV HV hi2O hoO hAr0 hRr0 hb1;go_loopw [10] (fun i wr=>∃ (k:Nat) (L:Nat→Int),k≤253∧i = .int .i64 ((k:Int) - 1)∧ap wr g 16 L∧Rep L (a ^ (EX / 2 ^ k))∧ap wr w.heap.size 16 A∧ap wr (w.heap.size+1) 16 (fun _=>0)∧Below w.heap.size w wr∧g<wr.heap.size) (fun i _=>(intOf i+1).toNat)
 case atStart=>exact ⟨253,O,JW _,by go_num,hNV,hone,hAV,hRV,hbV,hsV⟩
 case round =>
  clear hNV hAV hRV hbV hsV hone hz;obtain ⟨k,L,hk,rfl,hN,hL,hAr,hRr,hb,hs⟩:=hrel
  by_cases hlt:0<k
  · have hsq:=fH hL hL
    have c1:=cZ L L hL.bd hL.bd wr
    obtain ⟨M,hM⟩:∃ M,M=bB L L:=⟨_,rfl⟩
    have c1':Calls Tryz.prog 120 #[.agg (af 16 L).toArray,.agg (af 16 L).toArray] wr fun e w'=>e = .returned (.agg (af 16 M).toArray)∧Below wr.heap.size wr w':=by rw [hM];exact c1
    rw [←hM] at hsq;have hmul:=fH hsq hA
    have c2:=fun W=>cZ M A hsq.bd hA.bd W
    obtain ⟨Q,hQ⟩:∃ Q,Q=bB M A:=⟨_,rfl⟩
    have c2':∀ W,Calls Tryz.prog 120 #[.agg (af 16 M).toArray,.agg (af 16 A).toArray] W fun e w'=>e = .returned (.agg (af 16 Q).toArray)∧Below W.heap.size W w':=by rw [hQ];exact c2
    rw [←hQ] at hmul
    have hp1:EX / 2 ^ (k - 1)%2=1→Rep Q (a ^ (EX / 2 ^ (k - 1))):=fun h=>by
     have:=jk a EX k hlt;rw [h] at this;rw [this,Nat.pow_one];exact hmul
    have hp0:EX / 2 ^ (k - 1)%2=0→Rep M (a ^ (EX / 2 ^ (k - 1))):=fun h=>by
     have:=jk a EX k hlt;rw [h] at this;rw [this,Nat.pow_zero,Nat.mul_one];exact hsq
    clear hM hQ c1 c2 hsq hmul hL;have hiL:=a8 L;have hiM:=a8 M;have hiA:=a8 A;have hi2M:=bH M;have hoM:=eM M;have hi2Q:=bH Q;have hoQ:=eM Q;have hNr:=hN.range
    by_cases hw:3<k
    · have hwi:¬(k:Int) - 1<3:=by omega
      have hwi2:(3:Int)≤(k:Int) - 1:=by omega
      go_wp2_with (first
       | (refine J3 rfl 92 _ rfl g 0 rfl (af 16 L) _ hNr Tryz.underlying92 rfl hiL ?_)
       | (go_at_call 120;refine c1'.mono ?_;clear c1' hNr;rintro e w1 ⟨rfl,hb1⟩;(have hN1:=hN.below hb1 hs);(have hth1:w1.there g 0 (af 16 M).toArray.size:=by rw [an];exact hN1.there);(have hAr1:=(hAr.below hb1 (by omega)).farCells (k:=g) (by omega) 0 (af 16 M).toArray.toList);(have hRr1:=(hRr.below hb1 (by omega)).farCells (k:=g) (by omega) 0 (af 16 M).toArray.toList);(have hN2:ap (w1.setCells g 0 (af 16 M).toArray.toList) g 16 M:=by rw [List.toList_toArray];exact hN1.stored);(have hbw1:Below w.heap.size w (w1.setCells g 0 (af 16 M).toArray.toList):=ac (by omega) _ _ _ (hb.trans (hb1.mono hb.size)));(have hs1:g<(w1.setCells g 0 (af 16 M).toArray.toList).heap.size:=by rw [(aj _ _ _ _).2.2.2];exact JX hs hb1.size);(obtain ⟨V1,hV1⟩:∃ V1,V1=w1.setCells g 0 (af 16 M).toArray.toList:=⟨_,rfl⟩);(have HV1:=Hid.mk' hV1);rw [←hV1] at hAr1 hRr1 hN2 hbw1 hs1;clear hV1;(have hNr2:=hN2.range);(have hAr2:=hAr1.range))
       | (refine J2 rfl 92 _ _ rfl g 0 (af 16 M).toArray rfl rfl hth1 hi2M hoM ?_;rw [←HV1.out];clear hth1)
       | (refine J3 rfl 92 _ rfl g 0 rfl (af 16 M) _ hNr2 Tryz.underlying92 rfl hiM ?_)
       | (refine J3 rfl 92 _ rfl w.heap.size 0 rfl (af 16 A) _ hAr2 Tryz.underlying92 rfl hiA ?_)
       | (go_at_call 120;refine (c2' _).mono ?_;clear c2' hNr2 hAr2;rintro e w2 ⟨rfl,hb2⟩;(have hN3:=hN2.below hb2 hs1);(have hth2:w2.there g 0 (af 16 Q).toArray.size:=by rw [an];exact hN3.there))
       | (with_reducible (refine id (?_:wpList _ _ _ _ _ _));refine J2 rfl 92 _ _ rfl g 0 (af 16 Q).toArray rfl rfl hth2 hi2Q hoQ ?_))
      go_roundw
      case rel =>
       refine ⟨k - 1,Q,by omega,by go_num,?_,hp1 (hbit (k - 1) (by omega) (by omega)),(hAr1.below hb2 (by omega)).farCells (by omega) _ _,(hRr1.below hb2 (by omega)).farCells (by omega) _ _,ac (by omega) _ _ _ (hbw1.trans (hb2.mono hbw1.size)),?_⟩
       · exact hN3.stored
       · rw [(aj _ _ _ _).2.2.2];exact JX hs1 hb2.size
      case measure=>simp [intOf];omega
    · have hcases:k=1∨k=2∨k=3:=by omega
      rcases hcases with rfl | rfl | rfl
      · go_wp2_with (first
         | (refine J3 rfl 92 _ rfl g 0 rfl (af 16 L) _ hNr Tryz.underlying92 rfl hiL ?_)
         | (go_at_call 120;refine c1'.mono ?_;clear c1' hNr;rintro e w1 ⟨rfl,hb1⟩;(have hN1:=hN.below hb1 hs);(have hth1:w1.there g 0 (af 16 M).toArray.size:=by rw [an];exact hN1.there);(have hAr1:=(hAr.below hb1 (by omega)).farCells (k:=g) (by omega) 0 (af 16 M).toArray.toList);(have hRr1:=(hRr.below hb1 (by omega)).farCells (k:=g) (by omega) 0 (af 16 M).toArray.toList);(have hN2:ap (w1.setCells g 0 (af 16 M).toArray.toList) g 16 M:=by rw [List.toList_toArray];exact hN1.stored);(have hbw1:Below w.heap.size w (w1.setCells g 0 (af 16 M).toArray.toList):=ac (by omega) _ _ _ (hb.trans (hb1.mono hb.size)));(have hs1:g<(w1.setCells g 0 (af 16 M).toArray.toList).heap.size:=by rw [(aj _ _ _ _).2.2.2];exact JX hs hb1.size);(obtain ⟨V1,hV1⟩:∃ V1,V1=w1.setCells g 0 (af 16 M).toArray.toList:=⟨_,rfl⟩);(have HV1:=Hid.mk' hV1);rw [←hV1] at hAr1 hRr1 hN2 hbw1 hs1;clear hV1;(have hNr2:=hN2.range);(have hAr2:=hAr1.range))
         | (refine J2 rfl 92 _ _ rfl g 0 (af 16 M).toArray rfl rfl hth1 hi2M hoM ?_;rw [←HV1.out];clear hth1)
         | (refine J3 rfl 92 _ rfl g 0 rfl (af 16 M) _ hNr2 Tryz.underlying92 rfl hiM ?_)
         | (refine J3 rfl 92 _ rfl w.heap.size 0 rfl (af 16 A) _ hAr2 Tryz.underlying92 rfl hiA ?_)
         | (go_at_call 120;refine (c2' _).mono ?_;clear c2' hNr2 hAr2;rintro e w2 ⟨rfl,hb2⟩;(have hN3:=hN2.below hb2 hs1);(have hth2:w2.there g 0 (af 16 Q).toArray.size:=by rw [an];exact hN3.there))
         | (with_reducible (refine id (?_:wpList _ _ _ _ _ _));refine J2 rfl 92 _ _ rfl g 0 (af 16 Q).toArray rfl rfl hth2 hi2Q hoQ ?_))
        go_roundw
        case rel =>
         refine ⟨0,Q,by omega,by go_num,?_,hp1 (hbt0),(hAr1.below hb2 (by omega)).farCells (by omega) _ _,(hRr1.below hb2 (by omega)).farCells (by omega) _ _,ac (by omega) _ _ _ (hbw1.trans (hb2.mono hbw1.size)),?_⟩
         · exact hN3.stored
         · rw [(aj _ _ _ _).2.2.2];exact JX hs1 hb2.size
        case measure=>simp [intOf]
      · go_wp2_with (first
         | (refine J3 rfl 92 _ rfl g 0 rfl (af 16 L) _ hNr Tryz.underlying92 rfl hiL ?_)
         | (go_at_call 120;refine c1'.mono ?_;clear c1' hNr;rintro e w1 ⟨rfl,hb1⟩;(have hN1:=hN.below hb1 hs);(have hth1:w1.there g 0 (af 16 M).toArray.size:=by rw [an];exact hN1.there);(have hAr1:=(hAr.below hb1 (by omega)).farCells (k:=g) (by omega) 0 (af 16 M).toArray.toList);(have hRr1:=(hRr.below hb1 (by omega)).farCells (k:=g) (by omega) 0 (af 16 M).toArray.toList);(have hN2:ap (w1.setCells g 0 (af 16 M).toArray.toList) g 16 M:=by rw [List.toList_toArray];exact hN1.stored);(have hbw1:Below w.heap.size w (w1.setCells g 0 (af 16 M).toArray.toList):=ac (by omega) _ _ _ (hb.trans (hb1.mono hb.size)));(have hs1:g<(w1.setCells g 0 (af 16 M).toArray.toList).heap.size:=by rw [(aj _ _ _ _).2.2.2];exact JX hs hb1.size);(obtain ⟨V1,hV1⟩:∃ V1,V1=w1.setCells g 0 (af 16 M).toArray.toList:=⟨_,rfl⟩);(have HV1:=Hid.mk' hV1);rw [←hV1] at hAr1 hRr1 hN2 hbw1 hs1;clear hV1;(have hNr2:=hN2.range);(have hAr2:=hAr1.range))
         | (refine J2 rfl 92 _ _ rfl g 0 (af 16 M).toArray rfl rfl hth1 hi2M hoM ?_;rw [←HV1.out];clear hth1)
         | (refine J3 rfl 92 _ rfl g 0 rfl (af 16 M) _ hNr2 Tryz.underlying92 rfl hiM ?_)
         | (refine J3 rfl 92 _ rfl w.heap.size 0 rfl (af 16 A) _ hAr2 Tryz.underlying92 rfl hiA ?_)
         | (go_at_call 120;refine (c2' _).mono ?_;clear c2' hNr2 hAr2;rintro e w2 ⟨rfl,hb2⟩;(have hN3:=hN2.below hb2 hs1);(have hth2:w2.there g 0 (af 16 Q).toArray.size:=by rw [an];exact hN3.there))
         | (with_reducible (refine id (?_:wpList _ _ _ _ _ _));refine J2 rfl 92 _ _ rfl g 0 (af 16 Q).toArray rfl rfl hth2 hi2Q hoQ ?_))
        go_roundw
        case rel =>
         refine ⟨1,Q,by omega,by go_num,?_,hp1 (hbt1),(hAr1.below hb2 (by omega)).farCells (by omega) _ _,(hRr1.below hb2 (by omega)).farCells (by omega) _ _,ac (by omega) _ _ _ (hbw1.trans (hb2.mono hbw1.size)),?_⟩
         · exact hN3.stored
         · rw [(aj _ _ _ _).2.2.2];exact JX hs1 hb2.size
        case measure=>simp [intOf]
      · go_wp2_with (first
         | (refine J3 rfl 92 _ rfl g 0 rfl (af 16 L) _ hNr Tryz.underlying92 rfl hiL ?_)
         | (go_at_call 120;refine c1'.mono ?_;clear c1' hNr;rintro e w1 ⟨rfl,hb1⟩;(have hN1:=hN.below hb1 hs);(have hth1:w1.there g 0 (af 16 M).toArray.size:=by rw [an];exact hN1.there);(have hAr1:=(hAr.below hb1 (by omega)).farCells (k:=g) (by omega) 0 (af 16 M).toArray.toList);(have hRr1:=(hRr.below hb1 (by omega)).farCells (k:=g) (by omega) 0 (af 16 M).toArray.toList);(have hN2:ap (w1.setCells g 0 (af 16 M).toArray.toList) g 16 M:=by rw [List.toList_toArray];exact hN1.stored);(have hbw1:Below w.heap.size w (w1.setCells g 0 (af 16 M).toArray.toList):=ac (by omega) _ _ _ (hb.trans (hb1.mono hb.size)));(have hs1:g<(w1.setCells g 0 (af 16 M).toArray.toList).heap.size:=by rw [(aj _ _ _ _).2.2.2];exact JX hs hb1.size);(obtain ⟨V1,hV1⟩:∃ V1,V1=w1.setCells g 0 (af 16 M).toArray.toList:=⟨_,rfl⟩);(have HV1:=Hid.mk' hV1);rw [←hV1] at hAr1 hRr1 hN2 hbw1 hs1;clear hV1;(have hNr2:=hN2.range);(have hAr2:=hAr1.range))
         | (refine J2 rfl 92 _ _ rfl g 0 (af 16 M).toArray rfl rfl hth1 hi2M hoM ?_;rw [←HV1.out];clear hth1)
         | fail)
        go_roundw
        case rel=>exact ⟨2,M,by omega,by go_num,hN2,hp0 (hbt2),hAr1,hRr1,hbw1,hs1⟩
        case measure=>simp [intOf]
  · have hke:k=0:=by omega
    subst hke;have hiL:=a8 L;have hi2L:=bH L;have hoL:=eM L
    have hth:wr.there (w.heap.size+1) 0 (af 16 L).toArray.size:=by rw [an];exact hRr.there
    have hNr:=hN.range
    go_wp2_with (first
     | (refine J3 rfl 92 _ rfl g 0 rfl (af 16 L) _ hNr Tryz.underlying92 rfl hiL ?_)
     | (refine J2 rfl 92 _ _ rfl (w.heap.size+1) 0 (af 16 L).toArray rfl rfl hth hi2L hoL ?_))
    (try simp only [Exit.inBlock,Exit.then]);refine bodyPost_ret (ai Tryz.results179 _ _ (w.heap.size+1) 0 (af 16 L) _ rfl (World.rangeAt_setCells_same _ _ _ _ (by rw [bl];exact hRr.there)) Tryz.underlying92 rfl hiL) rfl ⟨L,rfl,hL,?_⟩;exact ac (by omega) _ _ _ hb
end Go.Proofs.YtibdhadbflfdpaaGreatDoor
