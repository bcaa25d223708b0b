/- What the proof stands on: RefPow, RefSmall2, Limbs, Number, Both, Then, Ones, Inverse, FSmall, LRow. -/
import Derived.Test.YtcgkajlehdgpoaaGreatDoorBaseM
import Derived.Test.YtcgkajlehdgpoaaGreatDoorHRefHmacM
import Derived.Test.YtcgkajlehdgpoaaGreatDoorHRefSmallM
import Derived.Test.YtcgkajlehdgpoaaGreatDoorRefCarryM
namespace Go.Proofs.YtcgkajlehdgpoaaGreatDoor
open Go.RowKit
def timesL (L M:Nat→Int):Nat→Int:=carryL (carryL (foldT (tP L M 15 16) 16))
structure Rep (L:Nat→Int) (x:Nat):Prop where
 dig:Dig 65573 L
 val:valR L 16%(pF:Int)=((x%pF:Nat):Int)
theorem Rep.bd {L:Nat→Int} {x:Nat} (h:Rep L x):∀ j,j<16→-131072≤L j∧L j≤131072:=fun j hj=>by have:=h.dig.all (by decide) j hj;omega
theorem rep_times {L M:Nat→Int} {x y:Nat} (hL:Rep L x) (hM:Rep M y):Rep (timesL L M) (x*y):=by
 have hbd:=tP_bd L M hL.bd hM.bd 15 16 (by decide) (Nat.le_refl _)
 have hF:∀ j,j<16→-171523813933056≤foldT (tP L M 15 16) 16 j∧foldT (tP L M 15 16) 16 j≤171523813933056:=fun j hj=>by
  have h1:=hbd j
  have h2:=hbd (j+16)
  unfold foldT
  rw [if_pos hj]
  split <;> omega
 refine ⟨(carry_fine _ ((carry_dig _ 171523813933056 (by decide) hF).mono (by decide))).1,?_⟩
 unfold timesL
 rw [valR_carry,valR_carry,foldT_val,tP_all,show ∀ a b c d P:Int,a - 2*P*d - b*2*P - c*2*P=a+P*(-(2*d) - b*2 - c*2) from fun a b c d P=>by
  rw [Int.mul_sub,Int.mul_sub,Int.mul_neg,Int.mul_comm P (b*2),Int.mul_comm P (c*2),Int.mul_comm 2 P,Int.mul_assoc P 2 d];omega,Int.add_mul_emod_self_left,Int.mul_emod,hL.val,hM.val,←Int.natCast_mul,nat_mod,←Nat.mul_mod]
theorem rep_one:Rep (carryL oneL) 1:=by
 have h:∀ j,j<16→-2≤oneL j∧oneL j≤2:=fun j _=>by unfold oneL;split <;> decide
 refine ⟨(carry_dig oneL 2 (by decide) h).mono (by decide),?_⟩
 rw [valR_carry,show ∀ a b P:Int,a - b*2*P=a+P*(-(b*2)) from fun a b P=>by rw [Int.mul_neg,Int.mul_comm P];omega,Int.add_mul_emod_self_left]
 decide
theorem pow_bit (a E k:Nat) (hk:0<k):a ^ (E / 2 ^ (k - 1))=a ^ (E / 2 ^ k)*a ^ (E / 2 ^ k)*a ^ (E / 2 ^ (k - 1)%2):=by
 have e:E / 2 ^ k=E / 2 ^ (k - 1) / 2:=by
  rw [Nat.div_div_eq_div_mul,←Nat.pow_succ]
  congr 2;omega
 rw [e,←Nat.pow_add,←Nat.pow_add]
 congr 1;omega
theorem rep_from (bs:Nat→Nat) (hb:∀ j,bs j<256):Rep (fromL bs) (ofB bs 32):=⟨(from_dig bs hb).mono (by decide),by rw [valR_from,nat_mod]⟩
theorem rpowInv_bits:(List.range 255).all (fun i=>decide (i<5∨57896044618658097711785492504343953926634992332820282019728792003956564819947 / 2 ^ i%2=1))=true:=by kernel_rfl
theorem rpowInv_bit (i:Nat) (h:5≤i) (hi:i<255):57896044618658097711785492504343953926634992332820282019728792003956564819947 / 2 ^ i%2=1:=by
 have h1:=List.all_eq_true.1 rpowInv_bits i (List.mem_range.2 hi)
 have h2:=of_decide_eq_true h1
 omega
set_option maxRecDepth 20000 in
set_option maxHeartbeats 4000000 in
theorem rpowInv_gen (A:Nat→Int) (a:Nat) (hAb:∀ j,j<16→-131072≤A j∧A j≤131072) (hAm:∀ M m,Rep M m→Rep (timesL M A) (m*a)) (w:World) :
 Calls Tryz.prog 111 #[refV A,.int .i64 255,.int .i64 11,.int .i64 5] w fun e w'=>∃ R,e = .returned (refV R)∧Rep R (a ^ 57896044618658097711785492504343953926634992332820282019728792003956564819947)∧Below w.heap.size w w':=by
 have hz:=zeroR
 have c1:=fun W=>rone_any W
 have hone:Rep (carryL oneL) (a ^ (57896044618658097711785492504343953926634992332820282019728792003956564819947 / 2 ^ 255)):=by rw [show 57896044618658097711785492504343953926634992332820282019728792003956564819947 / 2 ^ 255=0 by decide,Nat.pow_zero];exact rep_one
 obtain ⟨O,hO⟩:∃ O,O=carryL oneL:=⟨_,rfl⟩
 rw [←hO] at c1 hone
 obtain ⟨EX,hEX⟩:∃ EX,EX=57896044618658097711785492504343953926634992332820282019728792003956564819947:=⟨_,rfl⟩
 have hbit:∀ i,5≤i→i<255→EX / 2 ^ i%2=1:=fun i h1 h2=>by rw [hEX];exact rpowInv_bit i h1 h2
 have hbt0:EX / 2 ^ 0%2=1:=by rw [hEX]
 have hbt1:EX / 2 ^ 1%2=1:=by rw [hEX]
 have hbt2:EX / 2 ^ 2%2=0:=by rw [hEX]
 have hbt3:EX / 2 ^ 3%2=1:=by rw [hEX]
 have hbt4:EX / 2 ^ 4%2=0:=by rw [hEX]
 have hE0:EX / 2 ^ 0=57896044618658097711785492504343953926634992332820282019728792003956564819947:=by rw [hEX,Nat.pow_zero,Nat.div_one]
 rw [←hEX] at hone
 rw [←hE0]
 obtain ⟨W,hW⟩:∃ W,W=(w.alloc (.cells (intsI 16 A).toArray 114)).alloc (.cells zI 114):=⟨_,rfl⟩
 have HW:=Hid.mk' hW
 have hWs:W.heap.size=w.heap.size+1+1:=by rw [hW];simp
 have hbW:Below w.heap.size w W:=by rw [hW];exact ((Below.refl _ _).alloc (Nat.le_refl _) _).alloc (by simp) _
 have hAr0:IRow W w.heap.size 16 A:=by rw [hW];exact (IRow.box w 16 A _).below ((Below.refl _ _).alloc (Nat.le_refl _) _) (by simp)
 have hRr0:IRow W (w.heap.size+1) 16 (fun _=>0):=by
  have:=IRow.fresh (w.alloc (.cells (intsI 16 A).toArray 114)) zI 114 (n:=16) (L:=fun _=>0) (fun j hj=>zI_at j hj)
  rw [World.size_alloc] at this
  rw [hW];exact this
 have c1':Calls Tryz.prog 81 #[.int .i64 1] W fun e w'=>e = .returned (.agg (intsI 16 O).toArray)∧Below W.heap.size W w':=c1 W
 have hsto:∀ w1:World,Below W.heap.size W w1→∃ V,V=(w1.alloc (.cells zI 114)).setCells w1.heap.size 0 (intsI 16 O).toArray.toList∧IRow V w1.heap.size 16 O∧IRow V w.heap.size 16 A∧IRow V (w.heap.size+1) 16 (fun _=>0)∧Below w.heap.size w V∧w1.heap.size<V.heap.size∧(w1.alloc (.cells zI 114)).there w1.heap.size 0 (intsI 16 O).toArray.size∧w.heap.size+1<w1.heap.size:=fun w1 hb1=>by
  have hf:=IRow.fresh w1 zI 114 (n:=16) (L:=fun _=>0) (fun j hj=>zI_at j hj)
  have hs:=hb1.size
  have hba:Below w1.heap.size w1 (w1.alloc (.cells zI 114)):=(Below.refl _ _).alloc (Nat.le_refl _) _
  refine ⟨_,rfl,?_,((hAr0.below hb1 (by omega)).below hba (by omega)).farCells (by omega) _ _,((hRr0.below hb1 (by omega)).below hba (by omega)).farCells (by omega) _ _,below_setCells (by omega) _ _ _ ((hbW.trans (hb1.mono hbW.size)).trans (hba.mono (by omega))),?_,?_,by omega⟩
  · rw [List.toList_toArray];exact hf.stored
  · rw [(setCells_same _ _ _ _).2.2.2];simp
  · rw [intsI_size];exact hf.there
 have hi2O:=infoRA O
 have hoO:=oneR O
 unfold refV
 clear hW hO hEX c1 hE0
 go_enter Tryz.func111,Tryz.ntmps111
 go_wp2_with (first
  | (go_at_call 81;rw [←HW.out];refine c1'.mono ?_;clear c1';rintro e w1 ⟨rfl,hb1⟩;(obtain ⟨V,hV,hNV,hAV,hRV,hbV,hsV,hthV,hsz⟩:=hsto w1 hb1);(have HV:=Hid.mk' hV);clear hV hsto)
  | (refine wpList_store_mid rfl 114 _ _ rfl w1.heap.size 0 (intsI 16 O).toArray rfl rfl hthV hi2O hoO ?_;rw [←HV.out]))
 obtain ⟨g,hg⟩:∃ g,g=w1.heap.size:=⟨_,rfl⟩
 rw [←hg] at hNV hsV hsz ⊢
 clear hg hthV HV hi2O hoO hAr0 hRr0 hb1
 go_loopw [10] (fun i wr=>∃ (k:Nat) (L:Nat→Int),k≤255∧i = .int .i64 ((k:Int) - 1)∧IRow wr g 16 L∧Rep L (a ^ (EX / 2 ^ k))∧IRow wr w.heap.size 16 A∧IRow wr (w.heap.size+1) 16 (fun _=>0)∧Below w.heap.size w wr∧g<wr.heap.size) (fun i _=>(intOf i+1).toNat)
 case atStart=>exact ⟨255,O,Nat.le_refl _,by go_num,hNV,hone,hAV,hRV,hbV,hsV⟩
 case round =>
  clear hNV hAV hRV hbV hsV hone hz
  obtain ⟨k,L,hk,rfl,hN,hL,hAr,hRr,hb,hs⟩:=hrel
  by_cases hlt:0<k
  · have hsq:=rep_times hL hL
    have c1:=rtimes_any L L hL.bd hL.bd wr
    obtain ⟨M,hM⟩:∃ M,M=timesL L L:=⟨_,rfl⟩
    have c1':Calls Tryz.prog 84 #[.agg (intsI 16 L).toArray,.agg (intsI 16 L).toArray] wr fun e w'=>e = .returned (.agg (intsI 16 M).toArray)∧Below wr.heap.size wr w':=by rw [hM];exact c1
    rw [←hM] at hsq
    have hmul:=hAm _ _ hsq
    have c2:=fun W=>rtimes_any M A hsq.bd hAb W
    obtain ⟨Q,hQ⟩:∃ Q,Q=timesL M A:=⟨_,rfl⟩
    have c2':∀ W,Calls Tryz.prog 84 #[.agg (intsI 16 M).toArray,.agg (intsI 16 A).toArray] W fun e w'=>e = .returned (.agg (intsI 16 Q).toArray)∧Below W.heap.size W w':=by rw [hQ];exact c2
    rw [←hQ] at hmul
    have hp1:EX / 2 ^ (k - 1)%2=1→Rep Q (a ^ (EX / 2 ^ (k - 1))):=fun h=>by
     have:=pow_bit a EX k hlt
     rw [h] at this
     rw [this,Nat.pow_one];exact hmul
    have hp0:EX / 2 ^ (k - 1)%2=0→Rep M (a ^ (EX / 2 ^ (k - 1))):=fun h=>by
     have:=pow_bit a EX k hlt
     rw [h] at this
     rw [this,Nat.pow_zero,Nat.mul_one];exact hsq
    clear hM hQ c1 c2 hsq hmul hL
    have hiL:=infoRL L
    have hiM:=infoRL M
    have hiA:=infoRL A
    have hi2M:=infoRA M
    have hoM:=oneR M
    have hi2Q:=infoRA Q
    have hoQ:=oneR Q
    have hNr:=hN.range
    by_cases hw:5<k
    · have hwi:¬(k:Int) - 1<5:=by omega
      have hwi2:(5:Int)≤(k:Int) - 1:=by omega
      go_wp2_with (first
       | (refine wpList_load_mid rfl 114 _ rfl g 0 rfl (intsI 16 L) _ hNr Tryz.underlying114 rfl hiL ?_)
       | (go_at_call 84;refine c1'.mono ?_;clear c1' hNr;rintro e w1 ⟨rfl,hb1⟩;(have hN1:=hN.below hb1 hs);(have hth1:w1.there g 0 (intsI 16 M).toArray.size:=by rw [intsI_size];exact hN1.there);(have hAr1:=(hAr.below hb1 (by omega)).farCells (k:=g) (by omega) 0 (intsI 16 M).toArray.toList);(have hRr1:=(hRr.below hb1 (by omega)).farCells (k:=g) (by omega) 0 (intsI 16 M).toArray.toList);(have hN2:IRow (w1.setCells g 0 (intsI 16 M).toArray.toList) g 16 M:=by rw [List.toList_toArray];exact hN1.stored);(have hbw1:Below w.heap.size w (w1.setCells g 0 (intsI 16 M).toArray.toList):=below_setCells (by omega) _ _ _ (hb.trans (hb1.mono hb.size)));(have hs1:g<(w1.setCells g 0 (intsI 16 M).toArray.toList).heap.size:=by rw [(setCells_same _ _ _ _).2.2.2];exact Nat.lt_of_lt_of_le hs hb1.size);(obtain ⟨V1,hV1⟩:∃ V1,V1=w1.setCells g 0 (intsI 16 M).toArray.toList:=⟨_,rfl⟩);(have HV1:=Hid.mk' hV1);rw [←hV1] at hAr1 hRr1 hN2 hbw1 hs1;clear hV1;(have hNr2:=hN2.range);(have hAr2:=hAr1.range))
       | (refine wpList_store_mid rfl 114 _ _ rfl g 0 (intsI 16 M).toArray rfl rfl hth1 hi2M hoM ?_;rw [←HV1.out];clear hth1)
       | (refine wpList_load_mid rfl 114 _ rfl g 0 rfl (intsI 16 M) _ hNr2 Tryz.underlying114 rfl hiM ?_)
       | (refine wpList_load_mid rfl 114 _ rfl w.heap.size 0 rfl (intsI 16 A) _ hAr2 Tryz.underlying114 rfl hiA ?_)
       | (go_at_call 84;refine (c2' _).mono ?_;clear c2' hNr2 hAr2;rintro e w2 ⟨rfl,hb2⟩;(have hN3:=hN2.below hb2 hs1);(have hth2:w2.there g 0 (intsI 16 Q).toArray.size:=by rw [intsI_size];exact hN3.there))
       | (with_reducible (refine id (?_:wpList _ _ _ _ _ _));refine wpList_store_mid rfl 114 _ _ rfl g 0 (intsI 16 Q).toArray rfl rfl hth2 hi2Q hoQ ?_))
      go_roundw
      case rel =>
       refine ⟨k - 1,Q,by omega,by go_num,?_,hp1 (hbit (k - 1) (by omega) (by omega)),(hAr1.below hb2 (by omega)).farCells (by omega) _ _,(hRr1.below hb2 (by omega)).farCells (by omega) _ _,below_setCells (by omega) _ _ _ (hbw1.trans (hb2.mono hbw1.size)),?_⟩
       · exact hN3.stored
       · rw [(setCells_same _ _ _ _).2.2.2];exact Nat.lt_of_lt_of_le hs1 hb2.size
      case measure=>simp [intOf];omega
    · have hcases:k=1∨k=2∨k=3∨k=4∨k=5:=by omega
      rcases hcases with rfl | rfl | rfl | rfl | rfl
      · go_wp2_with (first
         | (refine wpList_load_mid rfl 114 _ rfl g 0 rfl (intsI 16 L) _ hNr Tryz.underlying114 rfl hiL ?_)
         | (go_at_call 84;refine c1'.mono ?_;clear c1' hNr;rintro e w1 ⟨rfl,hb1⟩;(have hN1:=hN.below hb1 hs);(have hth1:w1.there g 0 (intsI 16 M).toArray.size:=by rw [intsI_size];exact hN1.there);(have hAr1:=(hAr.below hb1 (by omega)).farCells (k:=g) (by omega) 0 (intsI 16 M).toArray.toList);(have hRr1:=(hRr.below hb1 (by omega)).farCells (k:=g) (by omega) 0 (intsI 16 M).toArray.toList);(have hN2:IRow (w1.setCells g 0 (intsI 16 M).toArray.toList) g 16 M:=by rw [List.toList_toArray];exact hN1.stored);(have hbw1:Below w.heap.size w (w1.setCells g 0 (intsI 16 M).toArray.toList):=below_setCells (by omega) _ _ _ (hb.trans (hb1.mono hb.size)));(have hs1:g<(w1.setCells g 0 (intsI 16 M).toArray.toList).heap.size:=by rw [(setCells_same _ _ _ _).2.2.2];exact Nat.lt_of_lt_of_le hs hb1.size);(obtain ⟨V1,hV1⟩:∃ V1,V1=w1.setCells g 0 (intsI 16 M).toArray.toList:=⟨_,rfl⟩);(have HV1:=Hid.mk' hV1);rw [←hV1] at hAr1 hRr1 hN2 hbw1 hs1;clear hV1;(have hNr2:=hN2.range);(have hAr2:=hAr1.range))
         | (refine wpList_store_mid rfl 114 _ _ rfl g 0 (intsI 16 M).toArray rfl rfl hth1 hi2M hoM ?_;rw [←HV1.out];clear hth1)
         | (refine wpList_load_mid rfl 114 _ rfl g 0 rfl (intsI 16 M) _ hNr2 Tryz.underlying114 rfl hiM ?_)
         | (refine wpList_load_mid rfl 114 _ rfl w.heap.size 0 rfl (intsI 16 A) _ hAr2 Tryz.underlying114 rfl hiA ?_)
         | (go_at_call 84;refine (c2' _).mono ?_;clear c2' hNr2 hAr2;rintro e w2 ⟨rfl,hb2⟩;(have hN3:=hN2.below hb2 hs1);(have hth2:w2.there g 0 (intsI 16 Q).toArray.size:=by rw [intsI_size];exact hN3.there))
         | (with_reducible (refine id (?_:wpList _ _ _ _ _ _));refine wpList_store_mid rfl 114 _ _ rfl g 0 (intsI 16 Q).toArray rfl rfl hth2 hi2Q hoQ ?_))
        go_roundw
        case rel =>
         refine ⟨0,Q,by omega,by go_num,?_,hp1 (hbt0),(hAr1.below hb2 (by omega)).farCells (by omega) _ _,(hRr1.below hb2 (by omega)).farCells (by omega) _ _,below_setCells (by omega) _ _ _ (hbw1.trans (hb2.mono hbw1.size)),?_⟩
         · exact hN3.stored
         · rw [(setCells_same _ _ _ _).2.2.2];exact Nat.lt_of_lt_of_le hs1 hb2.size
        case measure=>simp [intOf]
      · go_wp2_with (first
         | (refine wpList_load_mid rfl 114 _ rfl g 0 rfl (intsI 16 L) _ hNr Tryz.underlying114 rfl hiL ?_)
         | (go_at_call 84;refine c1'.mono ?_;clear c1' hNr;rintro e w1 ⟨rfl,hb1⟩;(have hN1:=hN.below hb1 hs);(have hth1:w1.there g 0 (intsI 16 M).toArray.size:=by rw [intsI_size];exact hN1.there);(have hAr1:=(hAr.below hb1 (by omega)).farCells (k:=g) (by omega) 0 (intsI 16 M).toArray.toList);(have hRr1:=(hRr.below hb1 (by omega)).farCells (k:=g) (by omega) 0 (intsI 16 M).toArray.toList);(have hN2:IRow (w1.setCells g 0 (intsI 16 M).toArray.toList) g 16 M:=by rw [List.toList_toArray];exact hN1.stored);(have hbw1:Below w.heap.size w (w1.setCells g 0 (intsI 16 M).toArray.toList):=below_setCells (by omega) _ _ _ (hb.trans (hb1.mono hb.size)));(have hs1:g<(w1.setCells g 0 (intsI 16 M).toArray.toList).heap.size:=by rw [(setCells_same _ _ _ _).2.2.2];exact Nat.lt_of_lt_of_le hs hb1.size);(obtain ⟨V1,hV1⟩:∃ V1,V1=w1.setCells g 0 (intsI 16 M).toArray.toList:=⟨_,rfl⟩);(have HV1:=Hid.mk' hV1);rw [←hV1] at hAr1 hRr1 hN2 hbw1 hs1;clear hV1;(have hNr2:=hN2.range);(have hAr2:=hAr1.range))
         | (refine wpList_store_mid rfl 114 _ _ rfl g 0 (intsI 16 M).toArray rfl rfl hth1 hi2M hoM ?_;rw [←HV1.out];clear hth1)
         | (refine wpList_load_mid rfl 114 _ rfl g 0 rfl (intsI 16 M) _ hNr2 Tryz.underlying114 rfl hiM ?_)
         | (refine wpList_load_mid rfl 114 _ rfl w.heap.size 0 rfl (intsI 16 A) _ hAr2 Tryz.underlying114 rfl hiA ?_)
         | (go_at_call 84;refine (c2' _).mono ?_;clear c2' hNr2 hAr2;rintro e w2 ⟨rfl,hb2⟩;(have hN3:=hN2.below hb2 hs1);(have hth2:w2.there g 0 (intsI 16 Q).toArray.size:=by rw [intsI_size];exact hN3.there))
         | (with_reducible (refine id (?_:wpList _ _ _ _ _ _));refine wpList_store_mid rfl 114 _ _ rfl g 0 (intsI 16 Q).toArray rfl rfl hth2 hi2Q hoQ ?_))
        go_roundw
        case rel =>
         refine ⟨1,Q,by omega,by go_num,?_,hp1 (hbt1),(hAr1.below hb2 (by omega)).farCells (by omega) _ _,(hRr1.below hb2 (by omega)).farCells (by omega) _ _,below_setCells (by omega) _ _ _ (hbw1.trans (hb2.mono hbw1.size)),?_⟩
         · exact hN3.stored
         · rw [(setCells_same _ _ _ _).2.2.2];exact Nat.lt_of_lt_of_le hs1 hb2.size
        case measure=>simp [intOf]
      · go_wp2_with (first
         | (refine wpList_load_mid rfl 114 _ rfl g 0 rfl (intsI 16 L) _ hNr Tryz.underlying114 rfl hiL ?_)
         | (go_at_call 84;refine c1'.mono ?_;clear c1' hNr;rintro e w1 ⟨rfl,hb1⟩;(have hN1:=hN.below hb1 hs);(have hth1:w1.there g 0 (intsI 16 M).toArray.size:=by rw [intsI_size];exact hN1.there);(have hAr1:=(hAr.below hb1 (by omega)).farCells (k:=g) (by omega) 0 (intsI 16 M).toArray.toList);(have hRr1:=(hRr.below hb1 (by omega)).farCells (k:=g) (by omega) 0 (intsI 16 M).toArray.toList);(have hN2:IRow (w1.setCells g 0 (intsI 16 M).toArray.toList) g 16 M:=by rw [List.toList_toArray];exact hN1.stored);(have hbw1:Below w.heap.size w (w1.setCells g 0 (intsI 16 M).toArray.toList):=below_setCells (by omega) _ _ _ (hb.trans (hb1.mono hb.size)));(have hs1:g<(w1.setCells g 0 (intsI 16 M).toArray.toList).heap.size:=by rw [(setCells_same _ _ _ _).2.2.2];exact Nat.lt_of_lt_of_le hs hb1.size);(obtain ⟨V1,hV1⟩:∃ V1,V1=w1.setCells g 0 (intsI 16 M).toArray.toList:=⟨_,rfl⟩);(have HV1:=Hid.mk' hV1);rw [←hV1] at hAr1 hRr1 hN2 hbw1 hs1;clear hV1;(have hNr2:=hN2.range);(have hAr2:=hAr1.range))
         | (refine wpList_store_mid rfl 114 _ _ rfl g 0 (intsI 16 M).toArray rfl rfl hth1 hi2M hoM ?_;rw [←HV1.out];clear hth1)
         | fail)
        go_roundw
        case rel=>exact ⟨2,M,by omega,by go_num,hN2,hp0 (hbt2),hAr1,hRr1,hbw1,hs1⟩
        case measure=>simp [intOf]
      · go_wp2_with (first
         | (refine wpList_load_mid rfl 114 _ rfl g 0 rfl (intsI 16 L) _ hNr Tryz.underlying114 rfl hiL ?_)
         | (go_at_call 84;refine c1'.mono ?_;clear c1' hNr;rintro e w1 ⟨rfl,hb1⟩;(have hN1:=hN.below hb1 hs);(have hth1:w1.there g 0 (intsI 16 M).toArray.size:=by rw [intsI_size];exact hN1.there);(have hAr1:=(hAr.below hb1 (by omega)).farCells (k:=g) (by omega) 0 (intsI 16 M).toArray.toList);(have hRr1:=(hRr.below hb1 (by omega)).farCells (k:=g) (by omega) 0 (intsI 16 M).toArray.toList);(have hN2:IRow (w1.setCells g 0 (intsI 16 M).toArray.toList) g 16 M:=by rw [List.toList_toArray];exact hN1.stored);(have hbw1:Below w.heap.size w (w1.setCells g 0 (intsI 16 M).toArray.toList):=below_setCells (by omega) _ _ _ (hb.trans (hb1.mono hb.size)));(have hs1:g<(w1.setCells g 0 (intsI 16 M).toArray.toList).heap.size:=by rw [(setCells_same _ _ _ _).2.2.2];exact Nat.lt_of_lt_of_le hs hb1.size);(obtain ⟨V1,hV1⟩:∃ V1,V1=w1.setCells g 0 (intsI 16 M).toArray.toList:=⟨_,rfl⟩);(have HV1:=Hid.mk' hV1);rw [←hV1] at hAr1 hRr1 hN2 hbw1 hs1;clear hV1;(have hNr2:=hN2.range);(have hAr2:=hAr1.range))
         | (refine wpList_store_mid rfl 114 _ _ rfl g 0 (intsI 16 M).toArray rfl rfl hth1 hi2M hoM ?_;rw [←HV1.out];clear hth1)
         | (refine wpList_load_mid rfl 114 _ rfl g 0 rfl (intsI 16 M) _ hNr2 Tryz.underlying114 rfl hiM ?_)
         | (refine wpList_load_mid rfl 114 _ rfl w.heap.size 0 rfl (intsI 16 A) _ hAr2 Tryz.underlying114 rfl hiA ?_)
         | (go_at_call 84;refine (c2' _).mono ?_;clear c2' hNr2 hAr2;rintro e w2 ⟨rfl,hb2⟩;(have hN3:=hN2.below hb2 hs1);(have hth2:w2.there g 0 (intsI 16 Q).toArray.size:=by rw [intsI_size];exact hN3.there))
         | (with_reducible (refine id (?_:wpList _ _ _ _ _ _));refine wpList_store_mid rfl 114 _ _ rfl g 0 (intsI 16 Q).toArray rfl rfl hth2 hi2Q hoQ ?_))
        go_roundw
        case rel =>
         refine ⟨3,Q,by omega,by go_num,?_,hp1 (hbt3),(hAr1.below hb2 (by omega)).farCells (by omega) _ _,(hRr1.below hb2 (by omega)).farCells (by omega) _ _,below_setCells (by omega) _ _ _ (hbw1.trans (hb2.mono hbw1.size)),?_⟩
         · exact hN3.stored
         · rw [(setCells_same _ _ _ _).2.2.2];exact Nat.lt_of_lt_of_le hs1 hb2.size
        case measure=>simp [intOf]
      · go_wp2_with (first
         | (refine wpList_load_mid rfl 114 _ rfl g 0 rfl (intsI 16 L) _ hNr Tryz.underlying114 rfl hiL ?_)
         | (go_at_call 84;refine c1'.mono ?_;clear c1' hNr;rintro e w1 ⟨rfl,hb1⟩;(have hN1:=hN.below hb1 hs);(have hth1:w1.there g 0 (intsI 16 M).toArray.size:=by rw [intsI_size];exact hN1.there);(have hAr1:=(hAr.below hb1 (by omega)).farCells (k:=g) (by omega) 0 (intsI 16 M).toArray.toList);(have hRr1:=(hRr.below hb1 (by omega)).farCells (k:=g) (by omega) 0 (intsI 16 M).toArray.toList);(have hN2:IRow (w1.setCells g 0 (intsI 16 M).toArray.toList) g 16 M:=by rw [List.toList_toArray];exact hN1.stored);(have hbw1:Below w.heap.size w (w1.setCells g 0 (intsI 16 M).toArray.toList):=below_setCells (by omega) _ _ _ (hb.trans (hb1.mono hb.size)));(have hs1:g<(w1.setCells g 0 (intsI 16 M).toArray.toList).heap.size:=by rw [(setCells_same _ _ _ _).2.2.2];exact Nat.lt_of_lt_of_le hs hb1.size);(obtain ⟨V1,hV1⟩:∃ V1,V1=w1.setCells g 0 (intsI 16 M).toArray.toList:=⟨_,rfl⟩);(have HV1:=Hid.mk' hV1);rw [←hV1] at hAr1 hRr1 hN2 hbw1 hs1;clear hV1;(have hNr2:=hN2.range);(have hAr2:=hAr1.range))
         | (refine wpList_store_mid rfl 114 _ _ rfl g 0 (intsI 16 M).toArray rfl rfl hth1 hi2M hoM ?_;rw [←HV1.out];clear hth1)
         | fail)
        go_roundw
        case rel=>exact ⟨4,M,by omega,by go_num,hN2,hp0 (hbt4),hAr1,hRr1,hbw1,hs1⟩
        case measure=>simp [intOf]
  · have hke:k=0:=by omega
    subst hke
    have hiL:=infoRL L
    have hi2L:=infoRA L
    have hoL:=oneR L
    have hth:wr.there (w.heap.size+1) 0 (intsI 16 L).toArray.size:=by rw [intsI_size];exact hRr.there
    have hNr:=hN.range
    go_wp2_with (first
     | (refine wpList_load_mid rfl 114 _ rfl g 0 rfl (intsI 16 L) _ hNr Tryz.underlying114 rfl hiL ?_)
     | (refine wpList_store_mid rfl 114 _ _ rfl (w.heap.size+1) 0 (intsI 16 L).toArray rfl rfl hth hi2L hoL ?_))
    (try simp only [Exit.inBlock,Exit.then])
    refine bodyPost_ret (results_cell_mid Tryz.results111 _ _ (w.heap.size+1) 0 (intsI 16 L) _ rfl (World.rangeAt_setCells_same _ _ _ _ (by rw [intsI_len];exact hRr.there)) Tryz.underlying114 rfl hiL) rfl ⟨L,rfl,hL,?_⟩
    exact below_setCells (by omega) _ _ _ hb
set_option maxRecDepth 20000 in
set_option maxHeartbeats 2000000 in
theorem rinverse_gen (A:Nat→Int) (a:Nat) (hAb:∀ j,j<16→-131072≤A j∧A j≤131072) (hAm:∀ M m,Rep M m→Rep (timesL M A) (m*a)) (w:World) :
 Calls Tryz.prog 85 #[refV A] w fun e w'=>∃ R,e = .returned (refV R)∧Rep R (a ^ 57896044618658097711785492504343953926634992332820282019728792003956564819947)∧Below w.heap.size w w':=by
 have hz:=zeroR
 obtain ⟨W,hW⟩:∃ W,W=(w.alloc (.cells (intsI 16 A).toArray 114)).alloc (.cells zI 114):=⟨_,rfl⟩
 have HW:=Hid.mk' hW
 have hWs:W.heap.size=w.heap.size+1+1:=by rw [hW];simp
 have hbW:Below w.heap.size w W:=by rw [hW];exact ((Below.refl _ _).alloc (Nat.le_refl _) _).alloc (by simp) _
 have hAr0:IRow W w.heap.size 16 A:=by rw [hW];exact (IRow.box w 16 A _).below ((Below.refl _ _).alloc (Nat.le_refl _) _) (by simp)
 have hRr0:IRow W (w.heap.size+1) 16 (fun _=>0):=by
  have:=IRow.fresh (w.alloc (.cells (intsI 16 A).toArray 114)) zI 114 (n:=16) (L:=fun _=>0) (fun j hj=>zI_at j hj)
  rw [World.size_alloc] at this
  rw [hW];exact this
 obtain ⟨EX,hEX⟩:∃ EX,EX=a ^ 57896044618658097711785492504343953926634992332820282019728792003956564819947:=⟨_,rfl⟩
 have c1:=rpowInv_gen A a hAb hAm W
 rw [←hEX] at c1 ⊢
 have c1':Calls Tryz.prog 111 #[.agg (intsI 16 A).toArray,.int .i64 255,.int .i64 11,.int .i64 5] W fun e w'=>∃ R,e = .returned (.agg (intsI 16 R).toArray)∧Rep R EX∧Below W.heap.size W w':=c1
 have hiA:=infoRL A
 have hAr:=hAr0.range
 have hi2:=infoRA
 have hoX:=oneR
 have hiX:=infoRL
 unfold refV
 clear hW hEX c1
 go_enter Tryz.func85,Tryz.ntmps85
 go_wp2_with (first
  | (rw [←HW.out];refine wpList_load_mid rfl 114 _ rfl w.heap.size 0 rfl (intsI 16 A) _ hAr Tryz.underlying114 rfl hiA ?_)
  | (go_at_call 111;refine c1'.mono ?_;clear c1' hAr;rintro e w1 ⟨R,rfl,hR,hb1⟩;(have hC1:=hRr0.below hb1 (by omega));(have hth:w1.there (w.heap.size+1) 0 (intsI 16 R).toArray.size:=by rw [intsI_size];exact hC1.there))
  | (with_reducible (refine id (?_:wpList _ _ _ _ _ _));refine wpList_store_mid rfl 114 _ _ rfl (w.heap.size+1) 0 (intsI 16 R).toArray rfl rfl hth (hi2 R) (hoX R) ?_))
 (try simp only [Exit.inBlock,Exit.then])
 refine bodyPost_ret (results_cell_mid Tryz.results85 _ _ (w.heap.size+1) 0 (intsI 16 R) _ rfl (World.rangeAt_setCells_same _ _ _ _ (by rw [intsI_len];exact hC1.there)) Tryz.underlying114 rfl (hiX R)) rfl ⟨R,rfl,hR,?_⟩
 exact below_setCells (by omega) _ _ _ (hbW.trans (hb1.mono hbW.size))
theorem rinverse_any (A:Nat→Int) (a:Nat) (hA:Rep A a) (w:World) :
 Calls Tryz.prog 85 #[refV A] w fun e w'=>∃ R,e = .returned (refV R)∧Rep R (a ^ 57896044618658097711785492504343953926634992332820282019728792003956564819947)∧Below w.heap.size w w' :=
 rinverse_gen A a hA.bd (fun _ _ h=>rep_times h hA) w
end Go.Proofs.YtcgkajlehdgpoaaGreatDoor
namespace Go.Proofs.YtcgkajlehdgpoaaGreatDoor
open Go.RowKit
theorem sm_cr (x:Int) (h1:-9223372036854775808≤x) (h2:x≤9223372036854775807):∀ i,i≤16→(i<4→cr (smL x) i=0)∧(4≤i→-1≤cr (smL x) i∧cr (smL x) i≤0):=by
 have e3:-32768≤smL x 3∧smL x 3≤32767:=by
  have:smL x 3=x / 281474976710656:=rfl
  rw [this];omega
 have el:∀ j,j<3→0≤smL x j∧smL x j≤65535:=fun j hj=>by unfold smL;rw [if_pos hj];omega
 have eh:∀ j,4≤j→smL x j=0:=fun j h=>by unfold smL;rw [if_neg (by omega),if_neg (by omega)]
 intro i
 induction i with
 | zero=>intro _;exact ⟨fun _=>rfl,fun h=>by omega⟩
 | succ i ih =>
  intro hi
  have h:=ih (by omega)
  rw [cr]
  refine ⟨fun h4 => ?_,fun h4 => ?_⟩
  · rw [h.1 (by omega)]
    have:=el i (by omega)
    omega
  · by_cases e:i=3
    · subst e;rw [h.1 (by decide)];omega
    · have hi4:=h.2 (by omega)
      rw [eh i (by omega)];omega
theorem rep_int (x:Int) (h1:-9223372036854775808≤x) (h2:x≤9223372036854775807) (N:Nat) (hN:x%(pF:Int)=((N%pF:Nat):Int)):Rep (carryL (smL x)) N:=by
 refine ⟨⟨?_,fun j h0 hj => ?_⟩,?_⟩
 · have:=(sm_cr x h1 h2 16 (Nat.le_refl _)).2 (by decide)
   unfold carryL;rw [if_pos rfl];omega
 · unfold carryL;rw [if_neg (by omega)];omega
 · rw [valR_carry,smL_val,show ∀ a b P:Int,a - b*2*P=a+P*(-(b*2)) from fun a b P=>by rw [Int.mul_neg,Int.mul_comm P];omega,Int.add_mul_emod_self_left,hN]
end Go.Proofs.YtcgkajlehdgpoaaGreatDoor
namespace Go.Proofs.YtcgkajlehdgpoaaGreatDoor
open Go.RowKit
structure NumAt (w:World) (b n:Nat):Prop where
 c0:w.cell? ⟨b,0,none⟩=some (.int .u64 (lw n 0))
 c1:w.cell? ⟨b,1,none⟩=some (.int .u64 (lw n 1))
 c2:w.cell? ⟨b,2,none⟩=some (.int .u64 (lw n 2))
 c3:w.cell? ⟨b,3,none⟩=some (.int .u64 (lw n 3))
theorem NumAt.lt {w:World} {b n:Nat} (h:NumAt w b n):b<w.heap.size:=block_lt_of_cell h.c0
theorem NumAt.below {w w':World} {b n B:Nat} (h:NumAt w b n) (hb:Below B w w') (hB:b<B):NumAt w' b n :=
 ⟨(hb.cell (p:=⟨b,0,none⟩) hB).trans h.c0,(hb.cell (p:=⟨b,1,none⟩) hB).trans h.c1,(hb.cell (p:=⟨b,2,none⟩) hB).trans h.c2,(hb.cell (p:=⟨b,3,none⟩) hB).trans h.c3⟩
theorem NumAt.ex {w:World} {b n:Nat} (h:NumAt w b n) (hn:n<pF):∃ x0 x1 x2 x3:Nat,x0<18446744073709551616∧x1<18446744073709551616∧x2<18446744073709551616∧x3<18446744073709551616∧val4 x0 x1 x2 x3=n∧w.cell? ⟨b,0,none⟩=some (.int .u64 x0)∧w.cell? ⟨b,1,none⟩=some (.int .u64 x1)∧w.cell? ⟨b,2,none⟩=some (.int .u64 x2)∧w.cell? ⟨b,3,none⟩=some (.int .u64 x3) :=
 ⟨lw n 0,lw n 1,lw n 2,lw n 3,lw_lt _ _,lw_lt _ _,lw_lt _ _,lw_lt _ _,lw_val n (by unfold pF at hn;omega),h.c0,h.c1,h.c2,h.c3⟩
theorem numV_ex (n:Nat):∃ x0 x1 x2 x3:Nat,numV n = .agg #[.int .u64 x0,.int .u64 x1,.int .u64 x2,.int .u64 x3]:=⟨_,_,_,_,rfl⟩
theorem there_below {W w1:World} {b o n:Nat} (h:W.there b o n) (hb:Below W.heap.size W w1) (hl:b<W.heap.size):w1.there b o n:=fun j hj=>by
 rw [hb.cell (p:=⟨b,o+j,none⟩) hl,hb.frozen (p:=⟨b,o+j,none⟩) hl];exact h j hj
theorem there_fresh4 (w:World) (a b c d:Value) (t:TypeId):(w.alloc (.cells #[a,b,c,d] t)).there w.heap.size 0 4:=fun j hj=>by
 match j,hj with
 | 0,_=>simp
 | 1,_=>simp
 | 2,_=>simp
 | 3,_=>simp
theorem behind {w w1:World} {a b c d:Value} {t:TypeId} {n:Nat} (h:Below ((w.alloc (.cells #[a,b,c,d] t)).drewN n).heap.size ((w.alloc (.cells #[a,b,c,d] t)).drewN n) w1):w1.there w.heap.size 0 4∧Below w.heap.size w w1 ∧
 (w1.cell? ⟨w.heap.size,0,none⟩=some a∧w1.cell? ⟨w.heap.size,1,none⟩=some b∧w1.cell? ⟨w.heap.size,2,none⟩=some c∧w1.cell? ⟨w.heap.size,3,none⟩=some d)∧∀ j,j<4→w1.frozen? ⟨w.heap.size,j,none⟩=false:=by
 have hs:w.heap.size<((w.alloc (.cells #[a,b,c,d] t)).drewN n).heap.size:=by simp
 have ht:=there_below (W:=(w.alloc (.cells #[a,b,c,d] t)).drewN n) (fun j hj=>there_fresh4 w a b c d t j hj) h hs
 have hr:=range_fresh4 w a b c d t
 refine ⟨ht,(below_drewN ((Below.refl w.heap.size w).alloc (Nat.le_refl _) (.cells #[a,b,c,d] t)) n).trans (h.mono (Nat.le_of_lt hs)),⟨?_,?_,?_,?_⟩,fun j hj=>by have:=(ht j hj).2;rwa [Nat.zero_add] at this⟩
 · exact (h.cell (p:=⟨w.heap.size,0,none⟩) hs).trans (hr 0 a rfl)
 · exact (h.cell (p:=⟨w.heap.size,1,none⟩) hs).trans (hr 1 b rfl)
 · exact (h.cell (p:=⟨w.heap.size,2,none⟩) hs).trans (hr 2 c rfl)
 · exact (h.cell (p:=⟨w.heap.size,3,none⟩) hs).trans (hr 3 d rfl)
theorem behind' {w w1:World} {a b c d:Value} {t:TypeId} (h:Below (w.alloc (.cells #[a,b,c,d] t)).heap.size (w.alloc (.cells #[a,b,c,d] t)) w1):w1.there w.heap.size 0 4∧Below w.heap.size w w1 ∧
 (w1.cell? ⟨w.heap.size,0,none⟩=some a∧w1.cell? ⟨w.heap.size,1,none⟩=some b∧w1.cell? ⟨w.heap.size,2,none⟩=some c∧w1.cell? ⟨w.heap.size,3,none⟩=some d)∧∀ j,j<4→w1.frozen? ⟨w.heap.size,j,none⟩=false:=behind (n:=0) h
theorem results_set4 {P:Program} {fn:Func} {p:Tmp} {ty:TypeId} (h:fn.results=#[.cell p ty]) (tmps:Array Value) (w:World) (g:Nat) (a b c d:Value) {D:TypeDesc} (ht:w.there g 0 4)
 (hp:tmps.getD p undef = .pointer (some ⟨g,0,none⟩)) (hu:P.underlying ty=some D) (hd:D.isRow=true) (hi:(P.info? ty).map (·.size)=some 4) :
 (results fn tmps).run P ((((w.setCell ⟨g,0,none⟩ a).setCell ⟨g,1,none⟩ b).setCell ⟨g,2,none⟩ c).setCell ⟨g,3,none⟩ d) = .ok (.agg #[a,b,c,d]) ((((w.setCell ⟨g,0,none⟩ a).setCell ⟨g,1,none⟩ b).setCell ⟨g,2,none⟩ c).setCell ⟨g,3,none⟩ d) :=
 results_cell_mid h tmps _ g 0 [a,b,c,d] D hp (World.rangeAt_setCells_same w g 0 [a,b,c,d] ht) hu hd hi
theorem below_set4 {B:Nat} {u w:World} {g:Nat} (h:Below B u w) (hg:B≤g) (a b c d:Value):Below B u ((((w.setCell ⟨g,0,none⟩ a).setCell ⟨g,1,none⟩ b).setCell ⟨g,2,none⟩ c).setCell ⟨g,3,none⟩ d) :=
 (((h.setCell hg a).setCell hg b).setCell hg c).setCell hg d
set_option maxRecDepth 20000 in
set_option maxHeartbeats 2000000 in
theorem sum_any (p q x y:Nat) (hx:x<pF) (hy:y<pF) (w:World) (hp:NumAt w p x) (hq:NumAt w q y) :
 Calls Tryz.prog 177 #[.pointer (some ⟨p,0,none⟩),.pointer (some ⟨q,0,none⟩)] w fun e w'=>e = .returned (numV ((x+y)%pF))∧Below w.heap.size w w':=by
 have hpl:=hp.lt
 have hql:=hq.lt
 obtain ⟨x0,x1,x2,x3,hx0,hx1,hx2,hx3,ex,p0,p1,p2,p3⟩:=hp.ex hx
 obtain ⟨y0,y1,y2,y3,hy0,hy1,hy2,hy3,ey,q0,q1,q2,q3⟩:=hq.ex hy
 obtain ⟨s0,k0,hs0,hk0,e0,r0⟩:=add64_ex0 x0 y0 hx0 hy0
 obtain ⟨s1,k1,hs1,hk1,e1,r1⟩:=add64_ex x1 y1 k0 hx1 hy1 hk0
 obtain ⟨s2,k2,hs2,hk2,e2,r2⟩:=add64_ex x2 y2 k1 hx2 hy2 hk1
 obtain ⟨s3,k3,hs3,hk3,e3,r3⟩:=add64_ex x3 y3 k2 hx3 hy3 hk2
 have hv:val4 s0 s1 s2 s3+115792089237316195423570985008687907853269984665640564039457584007913129639936*k3=x+y:=by
  rw [←ex,←ey];unfold val4;omega
 have hset:=fun W=>settle_any s0 s1 s2 s3 k3 hs0 hs1 hs2 hs3 (by omega) W
 rw [hv] at hset
 obtain ⟨N,hN⟩:∃ N,N=(x+y)%pF:=⟨_,rfl⟩
 rw [←hN] at hset ⊢
 obtain ⟨z0,z1,z2,z3,hz⟩:=numV_ex N
 rw [hz] at hset ⊢
 clear ex ey hp hq e0 e1 e2 e3 hv hN hz
 go_enter Tryz.func177,Tryz.ntmps177
 go_wp2
 go_quiet (first | rw [r0])
 go_wp2
 go_quiet (first | rw [r1])
 go_wp2
 go_quiet (first | rw [r2])
 go_wp2
 go_quiet (first | rw [r3])
 go_wp2_with (go_at_call 122;refine (hset _).mono ?_;clear hset;rintro e w1 ⟨rfl,hb1⟩;(obtain ⟨ht1,hbw,⟨t0,t1,t2,t3⟩,hf⟩:=behind hb1);(have f0:=hf 0 (by decide));(have f1:=hf 1 (by decide));(have f2:=hf 2 (by decide));(have f3:=hf 3 (by decide));clear hb1 hf)
 (try simp only [Exit.inBlock,Exit.then])
 exact bodyPost_ret (results_set4 Tryz.results177 _ _ _ _ _ _ _ ht1 rfl Tryz.underlying86 rfl (by kernel_rfl)) rfl ⟨rfl,below_set4 hbw (Nat.le_refl _) _ _ _ _⟩
theorem diff_val (x y D E k u:Nat) (hx:x<pF) (hy:y<pF) (hk:k≤1) (_hu:u≤1) (hD:D+y=x+115792089237316195423570985008687907853269984665640564039457584007913129639936*k) (hDl:D<115792089237316195423570985008687907853269984665640564039457584007913129639936) (hE:E+19*k=D+115792089237316195423570985008687907853269984665640564039457584007913129639936*u) (_hEl:E<115792089237316195423570985008687907853269984665640564039457584007913129639936) :
 E%57896044618658097711785492504343953926634992332820282019728792003956564819968=(x+pF - y)%pF:=by
 unfold pF at *
 have h:k=0∨k=1:=by omega
 rcases h with rfl | rfl <;> omega
theorem val4_mask (a b c d:Nat) (ha:a<18446744073709551616) (hb:b<18446744073709551616) (hc:c<18446744073709551616):val4 a b c (d%9223372036854775808)=val4 a b c d%57896044618658097711785492504343953926634992332820282019728792003956564819968:=by
 unfold val4;omega
set_option maxRecDepth 20000 in
set_option maxHeartbeats 2000000 in
theorem difference_any (p q x y:Nat) (hx:x<pF) (hy:y<pF) (w:World) (hp:NumAt w p x) (hq:NumAt w q y) :
 Calls Tryz.prog 105 #[.pointer (some ⟨p,0,none⟩),.pointer (some ⟨q,0,none⟩)] w fun e w'=>e = .returned (numV ((x+pF - y)%pF))∧Below w.heap.size w w':=by
 have hpl:=hp.lt
 have hql:=hq.lt
 obtain ⟨x0,x1,x2,x3,hx0,hx1,hx2,hx3,ex,p0,p1,p2,p3⟩:=hp.ex hx
 obtain ⟨y0,y1,y2,y3,hy0,hy1,hy2,hy3,ey,q0,q1,q2,q3⟩:=hq.ex hy
 obtain ⟨s0,k0,hs0,hk0,e0,r0⟩:=sub64_ex0 x0 y0 hx0 hy0
 obtain ⟨s1,k1,hs1,hk1,e1,r1⟩:=sub64_ex x1 y1 k0 hx1 hy1 hk0
 obtain ⟨s2,k2,hs2,hk2,e2,r2⟩:=sub64_ex x2 y2 k1 hx2 hy2 hk1
 obtain ⟨s3,k3,hs3,hk3,e3,r3⟩:=sub64_ex x3 y3 k2 hx3 hy3 hk2
 obtain ⟨kk,hkk⟩:∃ kk,kk=19*k3:=⟨_,rfl⟩
 have okk:(19:Int)*(k3:Int)=(kk:Int):=by omega
 obtain ⟨u0,j0,hu0,hj0,g0,r4⟩:=sub64_ex0 s0 kk hs0 (by omega)
 obtain ⟨u1,j1,hu1,hj1,g1,r5⟩:=sub64_exz s1 j0 hs1 hj0
 obtain ⟨u2,j2,hu2,hj2,g2,r6⟩:=sub64_exz s2 j1 hs2 hj1
 obtain ⟨u3,j3,hu3,hj3,g3,r7⟩:=sub64_exz s3 j2 hs3 hj2
 have hv:=diff_val x y (val4 s0 s1 s2 s3) (val4 u0 u1 u2 u3) k3 j3 hx hy hk3 hj3 (by rw [←ex,←ey];unfold val4;omega) (val4_lt _ _ _ _ hs0 hs1 hs2 hs3) (by unfold val4;omega) (val4_lt _ _ _ _ hu0 hu1 hu2 hu3)
 rw [←val4_mask _ _ _ _ hu0 hu1 hu2] at hv
 have o3:=mask63 u3 hu3
 obtain ⟨ml,hml⟩:∃ ml,ml=u3%9223372036854775808:=⟨_,rfl⟩
 rw [←hml] at o3 hv
 have fin:=Hid.mk' (numV_of ((x+pF - y)%pF) u0 u1 u2 ml hu0 hu1 hu2 (by omega) hv)
 obtain ⟨N,hN⟩:∃ N,N=(x+pF - y)%pF:=⟨_,rfl⟩
 rw [←hN] at fin ⊢
 clear ex ey hp hq e0 e1 e2 e3 g0 g1 g2 g3 hv hN hml hkk
 go_enter Tryz.func105,Tryz.ntmps105
 go_wp2
 go_quiet (first | rw [r0])
 go_wp2
 go_quiet (first | rw [r1])
 go_wp2
 go_quiet (first | rw [r2])
 go_wp2
 go_quiet (first | rw [r3])
 go_wp2_with (first | rw [r4] | rw [r5] | rw [r6] | rw [r7])
 (try simp only [Exit.inBlock,Exit.then])
 exact bodyPost_ret (results_set4 Tryz.results105 _ _ _ _ _ _ _ (fun j hj=>there_fresh4 w _ _ _ _ _ j hj) rfl Tryz.underlying86 rfl (by kernel_rfl)) rfl ⟨by rw [fin.out],below_set4 (below_drewN ((Below.refl w.heap.size w).alloc (Nat.le_refl _) _) _) (Nat.le_refl _) _ _ _ _⟩
theorem row_mul (x a b c d:Nat):x*val4 a b c d=x*a+18446744073709551616*(x*b)+340282366920938463463374607431768211456*(x*c)+6277101735386680763835789423207666416102355444464034512896*(x*d):=by
 unfold val4
 rw [Nat.mul_add,Nat.mul_add,Nat.mul_add,Nat.mul_left_comm x,Nat.mul_left_comm x,Nat.mul_left_comm x]
set_option maxRecDepth 20000 in
set_option maxHeartbeats 2000000 in
theorem addRow_any (t0 t1 t2 t3 x y0 y1 y2 y3:Nat) (ht0:t0<18446744073709551616) (ht1:t1<18446744073709551616) (ht2:t2<18446744073709551616) (ht3:t3<18446744073709551616) (hx:x<18446744073709551616) (hy0:y0<18446744073709551616) (hy1:y1<18446744073709551616) (hy2:y2<18446744073709551616) (hy3:y3<18446744073709551616) :
 ∃ r0 r1 r2 r3 r4:Nat,r0<18446744073709551616∧r1<18446744073709551616∧r2<18446744073709551616∧r3<18446744073709551616∧r4<18446744073709551616∧r0+18446744073709551616*val4 r1 r2 r3 r4=val4 t0 t1 t2 t3+x*val4 y0 y1 y2 y3 ∧
 ∀ (w:World) (q:Nat),w.cell? ⟨q,0,none⟩=some (.int .u64 y0)→w.cell? ⟨q,1,none⟩=some (.int .u64 y1)→w.cell? ⟨q,2,none⟩=some (.int .u64 y2)→w.cell? ⟨q,3,none⟩=some (.int .u64 y3) →
  Calls Tryz.prog 178 #[.int .u64 t0,.int .u64 t1,.int .u64 t2,.int .u64 t3,.int .u64 x,.pointer (some ⟨q,0,none⟩)] w fun e w'=>e = .returned (.tuple #[.int .u64 r0,.int .u64 r1,.int .u64 r2,.int .u64 r3,.int .u64 r4])∧w'=w:=by
 obtain ⟨l0,h0,hl0,hh0,e0,r0⟩:=addProduct_any t0 x y0 0 ht0 hx hy0 (by decide)
 obtain ⟨l1,h1,hl1,hh1,e1,r1⟩:=addProduct_any t1 x y1 h0 ht1 hx hy1 hh0
 obtain ⟨l2,h2,hl2,hh2,e2,r2⟩:=addProduct_any t2 x y2 h1 ht2 hx hy2 hh1
 obtain ⟨l3,h3,hl3,hh3,e3,r3⟩:=addProduct_any t3 x y3 h2 ht3 hx hy3 hh2
 refine ⟨l0,l1,l2,l3,h3,hl0,hl1,hl2,hl3,hh3,by rw [row_mul x];unfold val4;omega,fun w q q0 q1 q2 q3 => ?_⟩
 have c0:Calls Tryz.prog 179 #[.int .u64 t0,.int .u64 x,.int .u64 y0,.int .u64 0] w fun e w'=>e = .returned (.tuple #[.int .u64 l0,.int .u64 h0])∧w'=w:=r0 w
 have c1:=r1 w
 have c2:=r2 w
 have c3:=r3 w
 clear e0 e1 e2 e3 r0 r1 r2 r3
 go_enter Tryz.func178,Tryz.ntmps178
 go_wp2_with (first
  | (go_at_call 179;refine c0.mono ?_;clear c0;rintro e w' ⟨rfl,hw⟩;subst hw)
  | (go_at_call 179;refine c1.mono ?_;clear c1;rintro e w' ⟨rfl,hw⟩;subst hw)
  | (go_at_call 179;refine c2.mono ?_;clear c2;rintro e w' ⟨rfl,hw⟩;subst hw)
  | (go_at_call 179;refine c3.mono ?_;clear c3;rintro e w' ⟨rfl,hw⟩;subst hw))
 (try simp only [Exit.inBlock,Exit.then])
 exact bodyPost_ret (results_tmp5 Tryz.results178 _ _ _) rfl ⟨rfl,rfl⟩
theorem prod_val (X Y a0 a1 a2 a3:Nat) (hX:val4 a0 a1 a2 a3=X) (w0 w1 w2 w3 A B C H:Nat) (e0:w0+18446744073709551616*A=a0*Y) (e1:w1+18446744073709551616*B=A+a1*Y) (e2:w2+18446744073709551616*C=B+a2*Y) (e3:w3+18446744073709551616*H=C+a3*Y) :
 val4 w0 w1 w2 w3+115792089237316195423570985008687907853269984665640564039457584007913129639936*H=X*Y:=by
 have h:X*Y=a0*Y+18446744073709551616*(a1*Y)+340282366920938463463374607431768211456*(a2*Y)+6277101735386680763835789423207666416102355444464034512896*(a3*Y):=by
  rw [←hX];unfold val4
  rw [Nat.add_mul,Nat.add_mul,Nat.add_mul,Nat.mul_assoc,Nat.mul_assoc,Nat.mul_assoc]
 rw [h];unfold val4;omega
theorem fold_val (W H V c XY:Nat) (h:W+115792089237316195423570985008687907853269984665640564039457584007913129639936*H=XY) (hv:V+115792089237316195423570985008687907853269984665640564039457584007913129639936*c=W+38*H) :
 (V+115792089237316195423570985008687907853269984665640564039457584007913129639936*c)%pF=XY%pF:=by
 have e:XY=W+38*H+pF*(2*H):=by unfold pF;omega
 rw [hv,e,Nat.add_mul_mod_self_left]
set_option maxRecDepth 20000 in
set_option maxHeartbeats 2000000 in
theorem product_any (p q x y:Nat) (hx:x<pF) (hy:y<pF) (w:World) (hp:NumAt w p x) (hq:NumAt w q y) :
 Calls Tryz.prog 155 #[.pointer (some ⟨p,0,none⟩),.pointer (some ⟨q,0,none⟩)] w fun e w'=>e = .returned (numV (x*y%pF))∧Below w.heap.size w w':=by
 have hpl:=hp.lt
 have hql:=hq.lt
 obtain ⟨x0,x1,x2,x3,hx0,hx1,hx2,hx3,ex,p0,p1,p2,p3⟩:=hp.ex hx
 obtain ⟨y0,y1,y2,y3,hy0,hy1,hy2,hy3,ey,q0,q1,q2,q3⟩:=hq.ex hy
 obtain ⟨w0,a0,a1,a2,a3,hw0,ha0,ha1,ha2,ha3,e0,r0⟩:=addRow_any 0 0 0 0 x0 y0 y1 y2 y3 (by decide) (by decide) (by decide) (by decide) hx0 hy0 hy1 hy2 hy3
 obtain ⟨w1,b0,b1,b2,b3,hw1,hb0,hb1,hb2,hb3,e1,r1⟩:=addRow_any a0 a1 a2 a3 x1 y0 y1 y2 y3 ha0 ha1 ha2 ha3 hx1 hy0 hy1 hy2 hy3
 obtain ⟨w2,c0,c1,c2,c3,hw2,hc0,hc1,hc2,hc3,e2,r2⟩:=addRow_any b0 b1 b2 b3 x2 y0 y1 y2 y3 hb0 hb1 hb2 hb3 hx2 hy0 hy1 hy2 hy3
 obtain ⟨w3,d0,d1,d2,d3,hw3,hd0,hd1,hd2,hd3,e3,r3⟩:=addRow_any c0 c1 c2 c3 x3 y0 y1 y2 y3 hc0 hc1 hc2 hc3 hx3 hy0 hy1 hy2 hy3
 obtain ⟨v0,k0,hv0,hk0,g0,r4⟩:=addProduct_any w0 d0 38 0 hw0 hd0 (by decide) (by decide)
 obtain ⟨v1,k1,hv1,hk1,g1,r5⟩:=addProduct_any w1 d1 38 k0 hw1 hd1 (by decide) hk0
 obtain ⟨v2,k2,hv2,hk2,g2,r6⟩:=addProduct_any w2 d2 38 k1 hw2 hd2 (by decide) hk1
 obtain ⟨v3,k3,hv3,hk3,g3,r7⟩:=addProduct_any w3 d3 38 k2 hw3 hd3 (by decide) hk2
 rw [ey] at e0 e1 e2 e3
 have hz:val4 0 0 0 0=0:=rfl
 rw [hz,Nat.zero_add] at e0
 have hprod:=prod_val x y x0 x1 x2 x3 ex w0 w1 w2 w3 _ _ _ _ e0 e1 e2 e3
 have hfold:val4 v0 v1 v2 v3+115792089237316195423570985008687907853269984665640564039457584007913129639936*k3=val4 w0 w1 w2 w3+38*val4 d0 d1 d2 d3:=by unfold val4;omega
 have hk38:k3≤38:=by
  have h1:=val4_lt w0 w1 w2 w3 hw0 hw1 hw2 hw3
  have h2:=val4_lt d0 d1 d2 d3 hd0 hd1 hd2 hd3
  omega
 have hset:=fun W=>settle_any v0 v1 v2 v3 k3 hv0 hv1 hv2 hv3 hk38 W
 rw [fold_val _ _ _ _ _ hprod hfold] at hset
 obtain ⟨N,hN⟩:∃ N,N=x*y%pF:=⟨_,rfl⟩
 rw [←hN] at hset ⊢
 obtain ⟨z0,z1,z2,z3,hz⟩:=numV_ex N
 rw [hz] at hset ⊢
 have m0:∀ W:World,W.cell? ⟨q,0,none⟩=some (.int .u64 y0)→W.cell? ⟨q,1,none⟩=some (.int .u64 y1)→W.cell? ⟨q,2,none⟩=some (.int .u64 y2)→W.cell? ⟨q,3,none⟩=some (.int .u64 y3)→Calls Tryz.prog 178 #[.int .u64 0,.int .u64 0,.int .u64 0,.int .u64 0,.int .u64 x0,.pointer (some ⟨q,0,none⟩)] W fun e w'=>e = .returned (.tuple #[.int .u64 w0,.int .u64 a0,.int .u64 a1,.int .u64 a2,.int .u64 a3])∧w'=W:=fun W=>r0 W q
 have m4:∀ W:World,Calls Tryz.prog 179 #[.int .u64 w0,.int .u64 d0,.int .u64 38,.int .u64 0] W fun e w'=>e = .returned (.tuple #[.int .u64 v0,.int .u64 k0])∧w'=W:=fun W=>r4 W
 have m5:∀ W:World,Calls Tryz.prog 179 #[.int .u64 w1,.int .u64 d1,.int .u64 38,.int .u64 k0] W fun e w'=>e = .returned (.tuple #[.int .u64 v1,.int .u64 k1])∧w'=W:=fun W=>r5 W
 have m6:∀ W:World,Calls Tryz.prog 179 #[.int .u64 w2,.int .u64 d2,.int .u64 38,.int .u64 k1] W fun e w'=>e = .returned (.tuple #[.int .u64 v2,.int .u64 k2])∧w'=W:=fun W=>r6 W
 have m7:∀ W:World,Calls Tryz.prog 179 #[.int .u64 w3,.int .u64 d3,.int .u64 38,.int .u64 k2] W fun e w'=>e = .returned (.tuple #[.int .u64 v3,.int .u64 k3])∧w'=W:=fun W=>r7 W
 obtain ⟨W,hW⟩:∃ W,W=w.alloc (.cells #[.int .u64 0,.int .u64 0,.int .u64 0,.int .u64 0] 86):=⟨_,rfl⟩
 have HW:=Hid.mk' hW
 have hbw:Below w.heap.size w W:=by rw [hW];exact (Below.refl _ _).alloc (Nat.le_refl _) _
 have Q0:=(hbw.cell (p:=⟨q,0,none⟩) hql).trans q0
 have Q1:=(hbw.cell (p:=⟨q,1,none⟩) hql).trans q1
 have Q2:=(hbw.cell (p:=⟨q,2,none⟩) hql).trans q2
 have Q3:=(hbw.cell (p:=⟨q,3,none⟩) hql).trans q3
 have P0:=(hbw.cell (p:=⟨p,0,none⟩) hpl).trans p0
 have P1:=(hbw.cell (p:=⟨p,1,none⟩) hpl).trans p1
 have P2:=(hbw.cell (p:=⟨p,2,none⟩) hpl).trans p2
 have P3:=(hbw.cell (p:=⟨p,3,none⟩) hpl).trans p3
 replace m0:=m0 W Q0 Q1 Q2 Q3
 have m1:=r1 W q Q0 Q1 Q2 Q3
 have m2:=r2 W q Q0 Q1 Q2 Q3
 have m3:=r3 W q Q0 Q1 Q2 Q3
 clear ex ey hp hq e0 e1 e2 e3 g0 g1 g2 g3 hprod hfold hN hz r0 r1 r2 r3 r4 r5 r6 r7 p1 p2 p3 q0 q1 q2 q3 P0 hW
 go_enter Tryz.func155,Tryz.ntmps155
 go_wp2_with (first
  | (go_at_call 178;rw [←HW.out];refine m0.mono ?_;clear m0;rintro e w' ⟨rfl,hw⟩;subst hw)
  | (go_at_call 178;refine m1.mono ?_;clear m1;rintro e w' ⟨rfl,hw⟩;subst hw)
  | (go_at_call 178;refine m2.mono ?_;clear m2;rintro e w' ⟨rfl,hw⟩;subst hw)
  | (go_at_call 178;refine m3.mono ?_;clear m3;rintro e w' ⟨rfl,hw⟩;subst hw)
  | (go_at_call 179;refine (m4 _).mono ?_;clear m4;rintro e w' ⟨rfl,hw⟩;subst hw)
  | (go_at_call 179;refine (m5 _).mono ?_;clear m5;rintro e w' ⟨rfl,hw⟩;subst hw)
  | (go_at_call 179;refine (m6 _).mono ?_;clear m6;rintro e w' ⟨rfl,hw⟩;subst hw)
  | (go_at_call 179;refine (m7 _).mono ?_;clear m7;rintro e w' ⟨rfl,hw⟩;subst hw)
  | (go_at_call 122;refine (hset _).mono ?_;clear hset;rintro e w9 ⟨rfl,hb9⟩;rw [HW.out] at hb9;(obtain ⟨ht1,hbw9,⟨t0,t1,t2,t3⟩,hf⟩:=behind' hb9);(have f0:=hf 0 (by decide));(have f1:=hf 1 (by decide));(have f2:=hf 2 (by decide));(have f3:=hf 3 (by decide));clear hb9 hf))
 (try simp only [Exit.inBlock,Exit.then])
 exact bodyPost_ret (results_set4 Tryz.results155 _ _ _ _ _ _ _ ht1 rfl Tryz.underlying86 rfl (by kernel_rfl)) rfl ⟨rfl,below_set4 hbw9 (Nat.le_refl _) _ _ _ _⟩
end Go.Proofs.YtcgkajlehdgpoaaGreatDoor
namespace Go.Proofs.YtcgkajlehdgpoaaGreatDoor
open Go.RowKit
theorem behind3 {w w1:World} {A B:Obj} {a b c d:Value} {t:TypeId} (h:Below (((w.alloc A).alloc B).alloc (.cells #[a,b,c,d] t)).heap.size (((w.alloc A).alloc B).alloc (.cells #[a,b,c,d] t)) w1):w1.there (w.heap.size+1+1) 0 4∧Below w.heap.size w w1 ∧
 (w1.cell? ⟨w.heap.size+1+1,0,none⟩=some a∧w1.cell? ⟨w.heap.size+1+1,1,none⟩=some b∧w1.cell? ⟨w.heap.size+1+1,2,none⟩=some c∧w1.cell? ⟨w.heap.size+1+1,3,none⟩=some d)∧∀ j,j<4→w1.frozen? ⟨w.heap.size+1+1,j,none⟩=false:=by
 have hs:((w.alloc A).alloc B).heap.size=w.heap.size+1+1:=by simp
 have:=behind' h
 rw [hs] at this
 obtain ⟨h1,h2,h3,h4⟩:=this
 exact ⟨h1,(((Below.refl w.heap.size w).alloc (Nat.le_refl _) A).alloc (by simp) B).trans (h2.mono (by omega)),h3,h4⟩
theorem numAt_boxes (w:World) (x y:Nat) (C:Obj) (t:TypeId):NumAt (((w.alloc (.cells #[.int .u64 (lw x 0),.int .u64 (lw x 1),.int .u64 (lw x 2),.int .u64 (lw x 3)] t)).alloc (.cells #[.int .u64 (lw y 0),.int .u64 (lw y 1),.int .u64 (lw y 2),.int .u64 (lw y 3)] t)).alloc C) w.heap.size x∧NumAt (((w.alloc (.cells #[.int .u64 (lw x 0),.int .u64 (lw x 1),.int .u64 (lw x 2),.int .u64 (lw x 3)] t)).alloc (.cells #[.int .u64 (lw y 0),.int .u64 (lw y 1),.int .u64 (lw y 2),.int .u64 (lw y 3)] t)).alloc C) (w.heap.size+1) y:=by
 have h1:∀ (u:World) (n:Nat),NumAt (u.alloc (.cells #[.int .u64 (lw n 0),.int .u64 (lw n 1),.int .u64 (lw n 2),.int .u64 (lw n 3)] t)) u.heap.size n:=fun u n=>by constructor <;> simp
 refine ⟨((h1 w x).below ((Below.refl _ _).alloc (Nat.le_refl _) _) (by simp)).below ((Below.refl _ _).alloc (Nat.le_refl _) _) (by simp;omega),?_⟩
 have h2:=h1 (w.alloc (.cells #[.int .u64 (lw x 0),.int .u64 (lw x 1),.int .u64 (lw x 2),.int .u64 (lw x 3)] t)) y
 have hs:(w.alloc (.cells #[.int .u64 (lw x 0),.int .u64 (lw x 1),.int .u64 (lw x 2),.int .u64 (lw x 3)] t)).heap.size=w.heap.size+1:=by simp
 rw [hs] at h2
 exact h2.below ((Below.refl _ _).alloc (Nat.le_refl _) C) (by simp)
set_option maxRecDepth 20000 in
set_option maxHeartbeats 2000000 in
theorem plus_any (x y:Nat) (hx:x<pF) (hy:y<pF) (w:World) :
 Calls Tryz.prog 154 #[numV x,numV y] w fun e w'=>e = .returned (numV ((x+y)%pF))∧Below w.heap.size w w':=by
 obtain ⟨hX,hY⟩:=numAt_boxes w x y (.cells #[.int .u64 0,.int .u64 0,.int .u64 0,.int .u64 0] 88) 88
 have hs:=sum_any w.heap.size (w.heap.size+1) x y hx hy _ hX hY
 obtain ⟨N,hN⟩:∃ N,N=(x+y)%pF:=⟨_,rfl⟩
 rw [←hN] at hs ⊢
 obtain ⟨z0,z1,z2,z3,hz⟩:=numV_ex N
 rw [hz] at hs ⊢
 unfold numV
 clear hX hY hN hz
 go_enter Tryz.func154,Tryz.ntmps154
 go_wp2_with (go_at_call 177;refine hs.mono ?_;clear hs;rintro e w1 ⟨rfl,hb1⟩;(obtain ⟨ht1,hbw,⟨t0,t1,t2,t3⟩,hf⟩:=behind3 hb1);(have f0:=hf 0 (by decide));(have f1:=hf 1 (by decide));(have f2:=hf 2 (by decide));(have f3:=hf 3 (by decide));clear hb1 hf)
 (try simp only [Exit.inBlock,Exit.then])
 exact bodyPost_ret (results_set4 Tryz.results154 _ _ _ _ _ _ _ ht1 rfl Tryz.underlying88 rfl (by kernel_rfl)) rfl ⟨rfl,below_set4 hbw (by omega) _ _ _ _⟩
set_option maxRecDepth 20000 in
set_option maxHeartbeats 2000000 in
theorem minus_any (x y:Nat) (hx:x<pF) (hy:y<pF) (w:World) :
 Calls Tryz.prog 77 #[numV x,numV y] w fun e w'=>e = .returned (numV ((x+pF - y)%pF))∧Below w.heap.size w w':=by
 obtain ⟨hX,hY⟩:=numAt_boxes w x y (.cells #[.int .u64 0,.int .u64 0,.int .u64 0,.int .u64 0] 88) 88
 have hs:=difference_any w.heap.size (w.heap.size+1) x y hx hy _ hX hY
 obtain ⟨N,hN⟩:∃ N,N=(x+pF - y)%pF:=⟨_,rfl⟩
 rw [←hN] at hs ⊢
 obtain ⟨z0,z1,z2,z3,hz⟩:=numV_ex N
 rw [hz] at hs ⊢
 unfold numV
 clear hX hY hN hz
 go_enter Tryz.func77,Tryz.ntmps77
 go_wp2_with (go_at_call 105;refine hs.mono ?_;clear hs;rintro e w1 ⟨rfl,hb1⟩;(obtain ⟨ht1,hbw,⟨t0,t1,t2,t3⟩,hf⟩:=behind3 hb1);(have f0:=hf 0 (by decide));(have f1:=hf 1 (by decide));(have f2:=hf 2 (by decide));(have f3:=hf 3 (by decide));clear hb1 hf)
 (try simp only [Exit.inBlock,Exit.then])
 exact bodyPost_ret (results_set4 Tryz.results77 _ _ _ _ _ _ _ ht1 rfl Tryz.underlying88 rfl (by kernel_rfl)) rfl ⟨rfl,below_set4 hbw (by omega) _ _ _ _⟩
set_option maxRecDepth 20000 in
set_option maxHeartbeats 2000000 in
theorem times_any (x y:Nat) (hx:x<pF) (hy:y<pF) (w:World) :
 Calls Tryz.prog 126 #[numV x,numV y] w fun e w'=>e = .returned (numV (x*y%pF))∧Below w.heap.size w w':=by
 obtain ⟨hX,hY⟩:=numAt_boxes w x y (.cells #[.int .u64 0,.int .u64 0,.int .u64 0,.int .u64 0] 88) 88
 have hs:=product_any w.heap.size (w.heap.size+1) x y hx hy _ hX hY
 obtain ⟨N,hN⟩:∃ N,N=x*y%pF:=⟨_,rfl⟩
 rw [←hN] at hs ⊢
 obtain ⟨z0,z1,z2,z3,hz⟩:=numV_ex N
 rw [hz] at hs ⊢
 unfold numV
 clear hX hY hN hz
 go_enter Tryz.func126,Tryz.ntmps126
 go_wp2_with (go_at_call 155;refine hs.mono ?_;clear hs;rintro e w1 ⟨rfl,hb1⟩;(obtain ⟨ht1,hbw,⟨t0,t1,t2,t3⟩,hf⟩:=behind3 hb1);(have f0:=hf 0 (by decide));(have f1:=hf 1 (by decide));(have f2:=hf 2 (by decide));(have f3:=hf 3 (by decide));clear hb1 hf)
 (try simp only [Exit.inBlock,Exit.then])
 exact bodyPost_ret (results_set4 Tryz.results126 _ _ _ _ _ _ _ ht1 rfl Tryz.underlying88 rfl (by kernel_rfl)) rfl ⟨rfl,below_set4 hbw (by omega) _ _ _ _⟩
set_option maxRecDepth 20000 in
set_option maxHeartbeats 2000000 in
theorem bytes_any (n:Nat) (w:World) :
 Calls Tryz.prog 55 #[numV n] w fun e w'=>∃ g,e = .returned (.slice (some ⟨g,0,none⟩) 32 32)∧w.heap.size≤g∧RowAt .u8 w' g 0 32 (byt n)∧Below w.heap.size w w':=by
 obtain ⟨W,hW⟩:∃ W,W=w.alloc (.cells #[.int .u64 (lw n 0),.int .u64 (lw n 1),.int .u64 (lw n 2),.int .u64 (lw n 3)] 88):=⟨_,rfl⟩
 have hN:NumAt W w.heap.size n:=by rw [hW];constructor <;> simp
 have hWs:W.heap.size=w.heap.size+1:=by rw [hW];simp
 have hbW:Below w.heap.size w W:=by rw [hW];exact (Below.refl _ _).alloc (Nat.le_refl _) _
 have hlw:∀ (wr:World),Below (w.heap.size+1) W wr→∀ a,a<4→wr.cell? ⟨w.heap.size,a,none⟩=some (.int .u64 (lw n a)):=fun wr hb a ha=>by
  have h:=hN.below hb (by omega)
  match a,ha with
  | 0,_=>exact h.c0
  | 1,_=>exact h.c1
  | 2,_=>exact h.c2
  | 3,_=>exact h.c3
 have hmk:=make_bytes W 32 32 rfl (by decide)
 have HW:=Hid.mk' hW
 have hb0:Below (w.heap.size+1) W (W.alloc (.cells (zb 32) 5)):=(Below.refl _ _).alloc (by omega) _
 have hrow0:RowAt .u8 (W.alloc (.cells (zb 32) 5)) (w.heap.size+1) 0 32 (fun _=>0):=by rw [←hWs];exact RowAt.fresh (fun j hj=>zb_at 32 j hj)
 unfold numV
 clear hW hN
 go_enter Tryz.func55,Tryz.ntmps55
 go_wp2_with (rw [←HW.out];rw [hmk])
 go_loopw [8] (fun i wr=>∃ k:Nat,k≤32∧i = .int .i64 k∧RowAt .u8 wr (w.heap.size+1) 0 32 (fun j=>if j<k then byt n j else 0)∧Below (w.heap.size+1) W wr) (fun i _=>32 - (intOf i).toNat)
 case atStart=>exact ⟨0,Nat.zero_le _,rfl,hrow0.congr (fun j _=>by simp),hb0⟩
 case round =>
  clear hrow0 hb0 hmk
  obtain ⟨k,hk,rfl,hrow,hb⟩:=hrel
  by_cases hlt:k<32
  · obtain ⟨rk,rf⟩:=hrow k hlt
    rw [Nat.zero_add] at rk rf
    have hc:=hlw wr hb (k / 8) (by omega)
    have rk0:wr.cell? ⟨w.heap.size+1,k,none⟩=some (.int .u8 0):=by simpa using rk
    clear hlw rk
    go_wp2
    go_roundw
    case rel =>
     have h1:=hrow.set (i:=k) hlt (v:=(lw n (k / 8):Int) / 2 ^ (k%8*8)%256) (u:=byt n k) (word_byte_int n k)
     rw [Nat.zero_add] at h1
     refine ⟨k+1,by omega,by go_num,h1.congr (fun j hj => ?_),hb.setCell (Nat.le_refl _) _⟩
     unfold upd
     by_cases e:j=k
     · rw [if_pos e,if_pos (by omega),e]
     · rw [if_neg e]
       show (if j<k then byt n j else 0)=_
       by_cases e2:j<k
       · rw [if_pos e2,if_pos (by omega)]
       · rw [if_neg e2,if_neg (by omega)]
    case measure=>simp [intOf];omega
  · go_wp2
    go_ret
    exact ⟨w.heap.size+1,rfl,by omega,hrow.congr (fun j hj=>by rw [if_pos (by omega)]),hbW.trans (hb.mono (by omega))⟩
theorem results_cell_tmp {P:Program} {fn:Func} {p q:Tmp} {ty:TypeId} (h:fn.results=#[.cell p ty,.tmp q]) (tmps:Array Value) (w:World) (g o:Nat) (cs:List Value) (d:TypeDesc)
 (hp:tmps.getD p undef = .pointer (some ⟨g,o,none⟩)) (hc:w.rangeAt g o cs)
 (hu:P.underlying ty=some d) (hd:d.isRow=true) (hi:(P.info? ty).map (·.size)=some cs.length) :
 (results fn tmps).run P w = .ok (.tuple #[.agg cs.toArray,tmps.getD q undef]) w:=by
 have hp':tmps[p]?.getD undef = .pointer (some ⟨g,o,none⟩):=by simpa using hp
 simp [results,h,hp',asAddr,run_loadVar_mid w g o ty cs d hc hu hd hi]
theorem numV_zero:numV 0 = .agg #[.int .u64 0,.int .u64 0,.int .u64 0,.int .u64 0]:=by kernel_rfl
set_option maxRecDepth 20000 in
set_option maxHeartbeats 2000000 in
theorem from_other (xo:Option Addr) (n c:Nat) (hn:n≠32) (w:World) :
 Calls Tryz.prog 100 #[.slice xo n c] w fun e w'=>e = .returned (.tuple #[numV 0,.int .i64 1])∧Below w.heap.size w w':=by
 have hni:¬(n:Int)=32:=by omega
 rw [numV_zero]
 go_enter Tryz.func100,Tryz.ntmps100
 go_wp2
 (try simp only [Exit.inBlock,Exit.then])
 exact bodyPost_ret (results_cell_tmp Tryz.results100 _ _ w.heap.size 0 [.int .u64 0,.int .u64 0,.int .u64 0,.int .u64 0] _ rfl (range_fresh4 w _ _ _ _ _) Tryz.underlying88 rfl (by kernel_rfl)) rfl ⟨rfl,(Below.refl _ _).alloc (Nat.le_refl _) _⟩
set_option maxRecDepth 20000 in
set_option maxHeartbeats 2000000 in
theorem from_32 (bb ob c:Nat) (bs:Nat→Nat) (hbs:∀ j,bs j<256) (w:World) (hbl:bb<w.heap.size) (hc:∀ j,j<32→w.cell? ⟨bb,ob+j,none⟩=some (.int .u8 (bs j))) :
 Calls Tryz.prog 100 #[.slice (some ⟨bb,ob,none⟩) 32 c] w fun e w'=>e = .returned (.tuple #[numV (ofB bs 32%pF),.int .i64 0])∧Below w.heap.size w w':=by
 obtain ⟨W,hW⟩:∃ W,W=w.alloc (.cells #[.int .u64 0,.int .u64 0,.int .u64 0,.int .u64 0] 88):=⟨_,rfl⟩
 have hWs:W.heap.size=w.heap.size+1:=by rw [hW];simp
 have hbW:Below w.heap.size w W:=by rw [hW];exact (Below.refl _ _).alloc (Nat.le_refl _) _
 have HW:=Hid.mk' hW
 have hrow0:RowAt .u64 (W.alloc (.cells #[.int .u64 0,.int .u64 0,.int .u64 0,.int .u64 0] 86)) (w.heap.size+1) 0 4 (lw (ofB bs 0)):=by
  rw [←hWs]
  have hz:∀ a,lw (ofB bs 0) a=0:=fun a=>by unfold lw ofB;rw [Nat.zero_div,Nat.zero_mod]
  exact RowAt.fresh (fun j hj=>by rw [hz];exact match j,hj with | 0,_=>rfl | 1,_=>rfl | 2,_=>rfl | 3,_=>rfl)
 have hb0:Below (w.heap.size+1) W (W.alloc (.cells #[.int .u64 0,.int .u64 0,.int .u64 0,.int .u64 0] 86)):=(Below.refl _ _).alloc (by omega) _
 have hset:∀ W',Calls Tryz.prog 122 #[.int .u64 (lw (ofB bs 32) 0),.int .u64 (lw (ofB bs 32) 1),.int .u64 (lw (ofB bs 32) 2),.int .u64 (lw (ofB bs 32) 3),.int .u64 0] W' fun e w'=>e = .returned (numV (ofB bs 32%pF))∧Below W'.heap.size W' w':=fun W'=>by
  have:=settle_any (lw (ofB bs 32) 0) (lw (ofB bs 32) 1) (lw (ofB bs 32) 2) (lw (ofB bs 32) 3) 0 (lw_lt _ _) (lw_lt _ _) (lw_lt _ _) (lw_lt _ _) (by decide) W'
  rw [lw_val _ (ofB_lt bs hbs 32),Nat.mul_zero,Nat.add_zero] at this
  exact this
 obtain ⟨N,hN⟩:∃ N,N=ofB bs 32%pF:=⟨_,rfl⟩
 rw [←hN] at hset ⊢
 obtain ⟨z0,z1,z2,z3,hz⟩:=numV_ex N
 rw [hz] at hset ⊢
 clear hW hN hz
 go_enter Tryz.func100,Tryz.ntmps100
 go_wp2
 rw [←HW.out]
 go_loopw [13] (fun i wr=>∃ k:Nat,k≤32∧i = .int .i64 k∧RowAt .u64 wr (w.heap.size+1) 0 4 (lw (ofB bs k))∧Below (w.heap.size+1) W wr) (fun i _=>32 - (intOf i).toNat)
 case atStart=>exact ⟨0,Nat.zero_le _,rfl,hrow0,hb0⟩
 case round =>
  clear hrow0 hb0
  obtain ⟨k,hk,rfl,hrow,hb⟩:=hrel
  by_cases hlt:k<32
  · obtain ⟨rk,rf⟩:=hrow (k / 8) (by omega)
    rw [Nat.zero_add] at rk rf
    have hck:wr.cell? ⟨bb,ob+k,none⟩=some (.int .u8 (bs k)):=((hbW.trans (hb.mono (by omega))).cell (p:=⟨bb,ob+k,none⟩) hbl).trans (hc k hlt)
    have hor:=or_byte (lw (ofB bs k) (k / 8)) (bs k) k (lw_lt _ _) (hbs k)
    have hbk:=hbs k
    clear hc hset
    go_wp2
    go_roundw
    case rel =>
     have h1:=hrow.set (i:=k / 8) (by omega) (v:=((lw (ofB bs k) (k / 8) ||| bs k*2 ^ (k%8*8):Nat):Int)) rfl
     rw [Nat.zero_add] at h1
     refine ⟨k+1,by omega,by go_num,h1.congr (fun j hj => ?_),hb.setCell (Nat.le_refl _) _⟩
     rw [word_more bs hbs k j]
     unfold upd
     by_cases e:j=k / 8
     · rw [if_pos e,if_pos e,e]
     · rw [if_neg e,if_neg e]
    case measure=>simp [intOf];omega
  · have hke:k=32:=by omega
    rw [hke] at hrow
    have d0:=(hrow 0 (by decide)).1
    have d1:=(hrow 1 (by decide)).1
    have d2:=(hrow 2 (by decide)).1
    have d3:=(hrow 3 (by decide)).1
    rw [Nat.zero_add] at d0 d1 d2 d3
    have hsr:=hset wr
    obtain ⟨v0,hv0⟩:∃ v,v=lw (ofB bs 32) 0:=⟨_,rfl⟩
    obtain ⟨v1,hv1⟩:∃ v,v=lw (ofB bs 32) 1:=⟨_,rfl⟩
    obtain ⟨v2,hv2⟩:∃ v,v=lw (ofB bs 32) 2:=⟨_,rfl⟩
    obtain ⟨v3,hv3⟩:∃ v,v=lw (ofB bs 32) 3:=⟨_,rfl⟩
    rw [←hv0] at d0
    rw [←hv1] at d1
    rw [←hv2] at d2
    rw [←hv3] at d3
    rw [←hv0,←hv1,←hv2,←hv3] at hsr
    clear hset hrow hc hke hv0 hv1 hv2 hv3
    have hbr:Below (w.heap.size+1) (w.alloc (.cells #[.int .u64 0,.int .u64 0,.int .u64 0,.int .u64 0] 88)) wr:=by rw [←HW.out];exact hb
    go_wp2_with (go_at_call 122;refine hsr.mono ?_;clear hsr;rintro e w1 ⟨rfl,hb1⟩;(obtain ⟨ht1,hbw,⟨t0,t1,t2,t3⟩,hf⟩:=behind' (w:=w) (by rw [World.size_alloc];exact hbr.trans (hb1.mono (by have:=hbr.size;rw [World.size_alloc] at this;exact this)));(have f0:=hf 0 (by decide));(have f1:=hf 1 (by decide));(have f2:=hf 2 (by decide));(have f3:=hf 3 (by decide));clear hb1 hf))
    (try simp only [Exit.inBlock,Exit.then])
    exact bodyPost_ret (results_cell_tmp Tryz.results100 _ _ w.heap.size 0 [.int .u64 z0,.int .u64 z1,.int .u64 z2,.int .u64 z3] _ rfl (World.rangeAt_setCells_same w1 w.heap.size 0 [.int .u64 z0,.int .u64 z1,.int .u64 z2,.int .u64 z3] ht1) Tryz.underlying88 rfl (by kernel_rfl)) rfl ⟨rfl,below_set4 hbw (Nat.le_refl _) _ _ _ _⟩
end Go.Proofs.YtcgkajlehdgpoaaGreatDoor
namespace Go.Proofs.YtcgkajlehdgpoaaGreatDoor
open Go.RowKit
structure FourAt (w:World) (g:Nat) (a b c d:Value):Prop where
 c0:w.cell? ⟨g,0,none⟩=some a
 c1:w.cell? ⟨g,1,none⟩=some b
 c2:w.cell? ⟨g,2,none⟩=some c
 c3:w.cell? ⟨g,3,none⟩=some d
 f0:w.frozen? ⟨g,0,none⟩=false
 f1:w.frozen? ⟨g,1,none⟩=false
 f2:w.frozen? ⟨g,2,none⟩=false
 f3:w.frozen? ⟨g,3,none⟩=false
theorem FourAt.below {w w':World} {g B:Nat} {a b c d:Value} (h:FourAt w g a b c d) (hb:Below B w w') (hB:g<B):FourAt w' g a b c d :=
 ⟨(hb.cell (p:=⟨g,0,none⟩) hB).trans h.c0,(hb.cell (p:=⟨g,1,none⟩) hB).trans h.c1,(hb.cell (p:=⟨g,2,none⟩) hB).trans h.c2,(hb.cell (p:=⟨g,3,none⟩) hB).trans h.c3,(hb.frozen (p:=⟨g,0,none⟩) hB).trans h.f0,(hb.frozen (p:=⟨g,1,none⟩) hB).trans h.f1,(hb.frozen (p:=⟨g,2,none⟩) hB).trans h.f2,(hb.frozen (p:=⟨g,3,none⟩) hB).trans h.f3⟩
theorem FourAt.there {w:World} {g:Nat} {a b c d:Value} (h:FourAt w g a b c d):w.there g 0 4:=fun j hj=>by
 match j,hj with
 | 0,_=>exact ⟨by rw [h.c0];rfl,h.f0⟩
 | 1,_=>exact ⟨by rw [show (0+1:Nat)=1 from rfl,h.c1];rfl,h.f1⟩
 | 2,_=>exact ⟨by rw [show (0+2:Nat)=2 from rfl,h.c2];rfl,h.f2⟩
 | 3,_=>exact ⟨by rw [show (0+3:Nat)=3 from rfl,h.c3];rfl,h.f3⟩
theorem FourAt.range {w:World} {g:Nat} {a b c d:Value} (h:FourAt w g a b c d):w.rangeAt g 0 [a,b,c,d]:=fun j v hv=>by
 match j,hv with
 | 0,hv=>cases hv;exact h.c0
 | 1,hv=>cases hv;exact h.c1
 | 2,hv=>cases hv;exact h.c2
 | 3,hv=>cases hv;exact h.c3
theorem FourAt.drew {w:World} {g:Nat} {a b c d:Value} (h:FourAt w g a b c d):FourAt w.drew g a b c d:=⟨h.c0,h.c1,h.c2,h.c3,h.f0,h.f1,h.f2,h.f3⟩
theorem four_fresh (w:World) (a b c d:Value) (t:TypeId):FourAt (w.alloc (.cells #[a,b,c,d] t)) w.heap.size a b c d:=by constructor <;> simp
def set4 (w:World) (g:Nat) (a b c d:Value):World:=(((w.setCell ⟨g,0,none⟩ a).setCell ⟨g,1,none⟩ b).setCell ⟨g,2,none⟩ c).setCell ⟨g,3,none⟩ d
theorem FourAt.set {w:World} {g:Nat} {a b c d:Value} (h:FourAt w g a b c d) (a' b' c' d':Value):FourAt (set4 w g a' b' c' d') g a' b' c' d':=by
 have hr:=World.rangeAt_setCells_same w g 0 [a',b',c',d'] h.there
 have hf:∀ j,(set4 w g a' b' c' d').frozen? ⟨g,j,none⟩=w.frozen? ⟨g,j,none⟩:=fun j=>World.frozen?_setCells g [a',b',c',d'] 0 w _
 exact ⟨hr 0 _ rfl,hr 1 _ rfl,hr 2 _ rfl,hr 3 _ rfl,(hf 0).trans h.f0,(hf 1).trans h.f1,(hf 2).trans h.f2,(hf 3).trans h.f3⟩
theorem set4_other {w:World} {g k:Nat} (hk:k≠g) (a b c d:Value):(set4 w g a b c d).heap[k]? = w.heap[k]?:=heap_setCells_other g [a,b,c,d] 0 w k hk
theorem FourAt.far {w:World} {g k:Nat} {a b c d:Value} (h:FourAt w g a b c d) (hk:g≠k) (a' b' c' d':Value):FourAt (set4 w k a' b' c' d') g a b c d:=by
 have hc:∀ j,(set4 w k a' b' c' d').cell? ⟨g,j,none⟩=w.cell? ⟨g,j,none⟩:=fun j=>World.cell?_of_block (w:=w) (set4_other hk a' b' c' d')
 have hf:∀ j,(set4 w k a' b' c' d').frozen? ⟨g,j,none⟩=w.frozen? ⟨g,j,none⟩:=fun j=>World.frozen?_of_block (w:=w) (set4_other hk a' b' c' d')
 exact ⟨(hc 0).trans h.c0,(hc 1).trans h.c1,(hc 2).trans h.c2,(hc 3).trans h.c3,(hf 0).trans h.f0,(hf 1).trans h.f1,(hf 2).trans h.f2,(hf 3).trans h.f3⟩
theorem below_set4' {B:Nat} {u w:World} {g:Nat} (h:Below B u w) (hg:B≤g) (a b c d:Value):Below B u (set4 w g a b c d):=below_set4 h hg a b c d
theorem size_set4 (w:World) (g:Nat) (a b c d:Value):(set4 w g a b c d).heap.size=w.heap.size:=(setCells_same g [a,b,c,d] 0 w).2.2.2
def fromN (n:Nat) (bs:Nat→Nat):Nat:=if n=32 then ofB bs 32%pF else 0
def fromE (n:Nat):Nat:=if n=32 then 0 else 1
theorem from_any (v:Value) (n:Nat) (bs:Nat→Nat) (hbs:∀ j,bs j<256) (w:World) (hv:BytesIn w v n bs) :
 Calls Tryz.prog 100 #[v] w fun e w'=>e = .returned (.tuple #[numV (fromN n bs),.int .i64 (fromE n)])∧Below w.heap.size w w':=by
 unfold fromN fromE
 by_cases h:n=32
 · subst h
   rw [if_pos rfl,if_pos rfl]
   rcases hv with ⟨_,_,h0⟩ | ⟨bb,ob,cap,rfl,h1,h2,h3⟩
   · omega
   · exact from_32 bb ob cap bs hbs w h1 h3
 · rw [if_neg h,if_neg h]
   obtain ⟨xo,c,rfl,-⟩:=hv.src
   exact from_other xo n c h w
end Go.Proofs.YtcgkajlehdgpoaaGreatDoor
namespace Go.Proofs.YtcgkajlehdgpoaaGreatDoor
open Go.RowKit
theorem pF_pos:0<pF:=by decide
def sqN (n k:Nat):Nat:=n ^ (2 ^ k)%pF
theorem sqN_lt (n k:Nat):sqN n k<pF:=Nat.mod_lt _ pF_pos
theorem sqN_zero (n:Nat) (h:n<pF):sqN n 0=n:=by unfold sqN;rw [Nat.pow_zero,Nat.pow_one,Nat.mod_eq_of_lt h]
theorem sqN_step (n k:Nat):sqN n k*sqN n k%pF=sqN n (k+1):=by
 unfold sqN
 rw [←Nat.mul_mod,←Nat.pow_add,Nat.pow_succ,Nat.mul_two]
def NumW (w:World) (g n:Nat):Prop:=FourAt w g (.int .u64 (lw n 0)) (.int .u64 (lw n 1)) (.int .u64 (lw n 2)) (.int .u64 (lw n 3))
theorem NumW.ex {w:World} {g n:Nat} (h:NumW w g n):∃ x0 x1 x2 x3:Nat,numV n = .agg #[.int .u64 x0,.int .u64 x1,.int .u64 x2,.int .u64 x3]∧FourAt w g (.int .u64 x0) (.int .u64 x1) (.int .u64 x2) (.int .u64 x3):=⟨_,_,_,_,rfl,h⟩
set_option maxRecDepth 20000 in
set_option maxHeartbeats 2000000 in
theorem then_any (n m k:Nat) (hn:n<pF) (hm:m<pF) (hk:k<1000) (w:World) :
 Calls Tryz.prog 157 #[numV n,.int .i64 k,.func (.func 126) #[numV m] #[]] w fun e w'=>e = .returned (numV (m*sqN n k%pF))∧Below w.heap.size w w':=by
 have ct:=fun W=>times_any m (sqN n k) hm (sqN_lt n k) W
 obtain ⟨R,hR⟩:∃ R,R=m*sqN n k%pF:=⟨_,rfl⟩
 rw [←hR] at ct ⊢
 obtain ⟨z0,z1,z2,z3,hz⟩:=numV_ex R
 obtain ⟨m0,m1,m2,m3,hmv⟩:=numV_ex m
 rw [hz] at ct ⊢
 rw [hmv] at ct ⊢
 obtain ⟨W,hW⟩:∃ W,W=(w.alloc (.cells #[.int .u64 (lw n 0),.int .u64 (lw n 1),.int .u64 (lw n 2),.int .u64 (lw n 3)] 88)).alloc (.cells #[.int .u64 0,.int .u64 0,.int .u64 0,.int .u64 0] 88):=⟨_,rfl⟩
 have HW:=Hid.mk' hW
 have hWs:W.heap.size=w.heap.size+1+1:=by rw [hW];simp
 have hbW:Below w.heap.size w W:=by rw [hW];exact ((Below.refl _ _).alloc (Nat.le_refl _) _).alloc (by simp) _
 have hA:NumW W w.heap.size (sqN n 0):=by rw [sqN_zero n hn,hW];exact (four_fresh w _ _ _ _ _).below ((Below.refl _ _).alloc (Nat.le_refl _) _) (by simp)
 have hB:FourAt W (w.heap.size+1) (.int .u64 0) (.int .u64 0) (.int .u64 0) (.int .u64 0):=by
  have:=four_fresh (w.alloc (.cells #[.int .u64 (lw n 0),.int .u64 (lw n 1),.int .u64 (lw n 2),.int .u64 (lw n 3)] 88)) (.int .u64 0) (.int .u64 0) (.int .u64 0) (.int .u64 0) 88
  rw [World.size_alloc] at this
  rw [hW];exact this
 unfold numV
 clear hW hR hz hmv
 go_enter Tryz.func157,Tryz.ntmps157
 go_wp2
 rw [←HW.out]
 go_loopw [8] (fun i wr=>∃ q:Nat,q≤k∧i = .int .i64 q∧NumW wr w.heap.size (sqN n q)∧FourAt wr (w.heap.size+1) (.int .u64 0) (.int .u64 0) (.int .u64 0) (.int .u64 0)∧Below w.heap.size w wr∧w.heap.size+1<wr.heap.size) (fun i _=>k - (intOf i).toNat)
 case atStart=>exact ⟨0,Nat.zero_le _,rfl,hA,hB,hbW,by omega⟩
 case round =>
  clear hA hB hbW
  obtain ⟨q,hq,rfl,hA,hB,hb,hs⟩:=hrel
  by_cases hlt:q<k
  · have cs:=times_any (sqN n q) (sqN n q) (sqN_lt n q) (sqN_lt n q) wr
    rw [sqN_step] at cs
    obtain ⟨x0,x1,x2,x3,hx,hA'⟩:=hA.ex
    have hy:∃ y0 y1 y2 y3:Nat,numV (sqN n (q+1)) = .agg #[.int .u64 y0,.int .u64 y1,.int .u64 y2,.int .u64 y3]∧∀ W,FourAt W w.heap.size (.int .u64 y0) (.int .u64 y1) (.int .u64 y2) (.int .u64 y3)→NumW W w.heap.size (sqN n (q+1)):=⟨_,_,_,_,rfl,fun _ h=>h⟩
    obtain ⟨y0,y1,y2,y3,hye,hyn⟩:=hy
    rw [hx,hye] at cs
    obtain ⟨c0,c1,c2,c3,f0,f1,f2,f3⟩:=id hA'
    clear ct hx hye hA
    go_wp2_with (go_at_call 126;refine cs.mono ?_;clear cs;rintro e w1 ⟨rfl,hb1⟩;(have A1:=hA'.below hb1 (by omega));clear c0 c1 c2 c3 f0 f1 f2 f3;obtain ⟨c0,c1,c2,c3,f0,f1,f2,f3⟩:=id A1)
    go_roundw
    case rel =>
     refine ⟨q+1,by omega,by go_num,hyn _ (A1.set _ _ _ _),(hB.below hb1 (by omega)).far (by omega) _ _ _ _,below_set4' (hb.trans (hb1.mono hb.size)) (Nat.le_refl _) _ _ _ _,?_⟩
     show w.heap.size+1<(set4 _ _ _ _ _ _).heap.size
     rw [size_set4];have:=hb1.size;omega
    case measure=>simp [intOf];omega
  · have hqe:q=k:=by omega
    rw [hqe] at hA
    obtain ⟨x0,x1,x2,x3,hx,hA'⟩:=hA.ex
    have ct':=ct wr
    rw [hx] at ct'
    obtain ⟨c0,c1,c2,c3,f0,f1,f2,f3⟩:=id hA'
    clear ct hx hA
    go_wp2_with (go_at_call 126;refine ct'.mono ?_;clear ct';rintro e w1 ⟨rfl,hb1⟩;(have B1:=hB.below hb1 (by omega));(have ht1:=B1.there);clear c0 c1 c2 c3 f0 f1 f2 f3;obtain ⟨c0,c1,c2,c3,f0,f1,f2,f3⟩:=B1)
    (try simp only [Exit.inBlock,Exit.then])
    exact bodyPost_ret (results_set4 Tryz.results157 _ _ _ _ _ _ _ ht1 rfl Tryz.underlying88 rfl (by kernel_rfl)) rfl ⟨rfl,below_set4 (hb.trans (hb1.mono hb.size)) (by omega) _ _ _ _⟩
end Go.Proofs.YtcgkajlehdgpoaaGreatDoor
namespace Go.Proofs.YtcgkajlehdgpoaaGreatDoor
open Go.RowKit
theorem then_pow (x a b k e:Nat) (he:b+a*2 ^ k=e) (hk:k<1000) (w:World) :
 Calls Tryz.prog 157 #[numV (x ^ a%pF),.int .i64 k,.func (.func 126) #[numV (x ^ b%pF)] #[]] w fun e' w'=>e' = .returned (numV (x ^ e%pF))∧Below w.heap.size w w':=by
 have h:=then_any (x ^ a%pF) (x ^ b%pF) k (Nat.mod_lt _ pF_pos) (Nat.mod_lt _ pF_pos) hk w
 have e1:x ^ b%pF*sqN (x ^ a%pF) k%pF=x ^ e%pF:=by
  unfold sqN
  rw [←Nat.pow_mod,←Nat.mul_mod,←Nat.pow_mul,←Nat.pow_add,he]
 rw [e1] at h
 exact h
set_option maxRecDepth 20000 in
set_option maxHeartbeats 4000000 in
theorem ones250_any (x:Nat) (w:World) :
 Calls Tryz.prog 156 #[numV (x ^ 1%pF)] w fun e w'=>e = .returned (numV (x ^ 1809251394333065553493296640760748560207343510400633813116524750123642650623%pF))∧Below w.heap.size w w':=by
 have cc0:=fun W=>then_pow x 1 1 1 3 (by decide) (by decide) W
 have cc1:=fun W=>then_pow x 3 3 2 15 (by decide) (by decide) W
 have cc2:=fun W=>then_pow x 15 1 1 31 (by decide) (by decide) W
 have cc3:=fun W=>then_pow x 31 31 5 1023 (by decide) (by decide) W
 have cc4:=fun W=>then_pow x 1023 1023 10 1048575 (by decide) (by decide) W
 have cc5:=fun W=>then_pow x 1048575 1048575 20 1099511627775 (by decide) (by decide) W
 have cc6:=fun W=>then_pow x 1099511627775 1023 10 1125899906842623 (by decide) (by decide) W
 have cc7:=fun W=>then_pow x 1125899906842623 1125899906842623 50 1267650600228229401496703205375 (by decide) (by decide) W
 have cc8:=fun W=>then_pow x 1267650600228229401496703205375 1267650600228229401496703205375 100 1606938044258990275541962092341162602522202993782792835301375 (by decide) (by decide) W
 have cc9:=fun W=>then_pow x 1606938044258990275541962092341162602522202993782792835301375 1125899906842623 50 1809251394333065553493296640760748560207343510400633813116524750123642650623 (by decide) (by decide) W
 obtain ⟨va0,va1,va2,va3,hva⟩:=numV_ex (x ^ 1%pF)
 obtain ⟨vb0,vb1,vb2,vb3,hvb⟩:=numV_ex (x ^ 3%pF)
 obtain ⟨vc0,vc1,vc2,vc3,hvc⟩:=numV_ex (x ^ 15%pF)
 obtain ⟨vd0,vd1,vd2,vd3,hvd⟩:=numV_ex (x ^ 31%pF)
 obtain ⟨ve0,ve1,ve2,ve3,hve⟩:=numV_ex (x ^ 1023%pF)
 obtain ⟨vf0,vf1,vf2,vf3,hvf⟩:=numV_ex (x ^ 1048575%pF)
 obtain ⟨vg0,vg1,vg2,vg3,hvg⟩:=numV_ex (x ^ 1099511627775%pF)
 obtain ⟨vh0,vh1,vh2,vh3,hvh⟩:=numV_ex (x ^ 1125899906842623%pF)
 obtain ⟨vi0,vi1,vi2,vi3,hvi⟩:=numV_ex (x ^ 1267650600228229401496703205375%pF)
 obtain ⟨vj0,vj1,vj2,vj3,hvj⟩:=numV_ex (x ^ 1606938044258990275541962092341162602522202993782792835301375%pF)
 obtain ⟨vk0,vk1,vk2,vk3,hvk⟩:=numV_ex (x ^ 1809251394333065553493296640760748560207343510400633813116524750123642650623%pF)
 rw [hva,hvb] at cc0
 rw [hvb,hvc] at cc1
 rw [hvc,hva,hvd] at cc2
 rw [hvd,hve] at cc3
 rw [hve,hvf] at cc4
 rw [hvf,hvg] at cc5
 rw [hvg,hve,hvh] at cc6
 rw [hvh,hvi] at cc7
 rw [hvi,hvj] at cc8
 rw [hvj,hvh,hvk] at cc9
 rw [hva,hvk]
 have dd0:∀ W,Calls Tryz.prog 157 #[.agg #[.int .u64 va0,.int .u64 va1,.int .u64 va2,.int .u64 va3],.int .i64 1,.func (.func 126) #[.agg #[.int .u64 va0,.int .u64 va1,.int .u64 va2,.int .u64 va3]] #[]] W fun e w'=>e = .returned (.agg #[.int .u64 vb0,.int .u64 vb1,.int .u64 vb2,.int .u64 vb3])∧Below W.heap.size W w':=cc0
 have dd1:∀ W,Calls Tryz.prog 157 #[.agg #[.int .u64 vb0,.int .u64 vb1,.int .u64 vb2,.int .u64 vb3],.int .i64 2,.func (.func 126) #[.agg #[.int .u64 vb0,.int .u64 vb1,.int .u64 vb2,.int .u64 vb3]] #[]] W fun e w'=>e = .returned (.agg #[.int .u64 vc0,.int .u64 vc1,.int .u64 vc2,.int .u64 vc3])∧Below W.heap.size W w':=cc1
 have dd2:∀ W,Calls Tryz.prog 157 #[.agg #[.int .u64 vc0,.int .u64 vc1,.int .u64 vc2,.int .u64 vc3],.int .i64 1,.func (.func 126) #[.agg #[.int .u64 va0,.int .u64 va1,.int .u64 va2,.int .u64 va3]] #[]] W fun e w'=>e = .returned (.agg #[.int .u64 vd0,.int .u64 vd1,.int .u64 vd2,.int .u64 vd3])∧Below W.heap.size W w':=cc2
 have dd3:∀ W,Calls Tryz.prog 157 #[.agg #[.int .u64 vd0,.int .u64 vd1,.int .u64 vd2,.int .u64 vd3],.int .i64 5,.func (.func 126) #[.agg #[.int .u64 vd0,.int .u64 vd1,.int .u64 vd2,.int .u64 vd3]] #[]] W fun e w'=>e = .returned (.agg #[.int .u64 ve0,.int .u64 ve1,.int .u64 ve2,.int .u64 ve3])∧Below W.heap.size W w':=cc3
 have dd4:∀ W,Calls Tryz.prog 157 #[.agg #[.int .u64 ve0,.int .u64 ve1,.int .u64 ve2,.int .u64 ve3],.int .i64 10,.func (.func 126) #[.agg #[.int .u64 ve0,.int .u64 ve1,.int .u64 ve2,.int .u64 ve3]] #[]] W fun e w'=>e = .returned (.agg #[.int .u64 vf0,.int .u64 vf1,.int .u64 vf2,.int .u64 vf3])∧Below W.heap.size W w':=cc4
 have dd5:∀ W,Calls Tryz.prog 157 #[.agg #[.int .u64 vf0,.int .u64 vf1,.int .u64 vf2,.int .u64 vf3],.int .i64 20,.func (.func 126) #[.agg #[.int .u64 vf0,.int .u64 vf1,.int .u64 vf2,.int .u64 vf3]] #[]] W fun e w'=>e = .returned (.agg #[.int .u64 vg0,.int .u64 vg1,.int .u64 vg2,.int .u64 vg3])∧Below W.heap.size W w':=cc5
 have dd6:∀ W,Calls Tryz.prog 157 #[.agg #[.int .u64 vg0,.int .u64 vg1,.int .u64 vg2,.int .u64 vg3],.int .i64 10,.func (.func 126) #[.agg #[.int .u64 ve0,.int .u64 ve1,.int .u64 ve2,.int .u64 ve3]] #[]] W fun e w'=>e = .returned (.agg #[.int .u64 vh0,.int .u64 vh1,.int .u64 vh2,.int .u64 vh3])∧Below W.heap.size W w':=cc6
 have dd7:∀ W,Calls Tryz.prog 157 #[.agg #[.int .u64 vh0,.int .u64 vh1,.int .u64 vh2,.int .u64 vh3],.int .i64 50,.func (.func 126) #[.agg #[.int .u64 vh0,.int .u64 vh1,.int .u64 vh2,.int .u64 vh3]] #[]] W fun e w'=>e = .returned (.agg #[.int .u64 vi0,.int .u64 vi1,.int .u64 vi2,.int .u64 vi3])∧Below W.heap.size W w':=cc7
 have dd8:∀ W,Calls Tryz.prog 157 #[.agg #[.int .u64 vi0,.int .u64 vi1,.int .u64 vi2,.int .u64 vi3],.int .i64 100,.func (.func 126) #[.agg #[.int .u64 vi0,.int .u64 vi1,.int .u64 vi2,.int .u64 vi3]] #[]] W fun e w'=>e = .returned (.agg #[.int .u64 vj0,.int .u64 vj1,.int .u64 vj2,.int .u64 vj3])∧Below W.heap.size W w':=cc8
 have dd9:∀ W,Calls Tryz.prog 157 #[.agg #[.int .u64 vj0,.int .u64 vj1,.int .u64 vj2,.int .u64 vj3],.int .i64 50,.func (.func 126) #[.agg #[.int .u64 vh0,.int .u64 vh1,.int .u64 vh2,.int .u64 vh3]] #[]] W fun e w'=>e = .returned (.agg #[.int .u64 vk0,.int .u64 vk1,.int .u64 vk2,.int .u64 vk3])∧Below W.heap.size W w':=cc9
 clear cc0 cc1 cc2 cc3 cc4 cc5 cc6 cc7 cc8 cc9 hva hvb hvc hvd hve hvf hvg hvh hvi hvj hvk
 obtain ⟨W,hW⟩:∃ W,W=(w.alloc (.cells #[.int .u64 va0,.int .u64 va1,.int .u64 va2,.int .u64 va3] 88)).alloc (.cells #[.int .u64 0,.int .u64 0,.int .u64 0,.int .u64 0] 88):=⟨_,rfl⟩
 have HW:=Hid.mk' hW
 have hWs:W.heap.size=w.heap.size+1+1:=by rw [hW];simp
 have hbW:Below w.heap.size w W:=by rw [hW];exact ((Below.refl _ _).alloc (Nat.le_refl _) _).alloc (by simp) _
 have N0:FourAt W w.heap.size (.int .u64 va0) (.int .u64 va1) (.int .u64 va2) (.int .u64 va3):=by rw [hW];exact (four_fresh w _ _ _ _ _).below ((Below.refl _ _).alloc (Nat.le_refl _) _) (by simp)
 have R0:FourAt W (w.heap.size+1) (.int .u64 0) (.int .u64 0) (.int .u64 0) (.int .u64 0):=by
  have:=four_fresh (w.alloc (.cells #[.int .u64 va0,.int .u64 va1,.int .u64 va2,.int .u64 va3] 88)) (.int .u64 0) (.int .u64 0) (.int .u64 0) (.int .u64 0) 88
  rw [World.size_alloc] at this
  rw [hW];exact this
 clear hW
 go_enter Tryz.func156,Tryz.ntmps156
 go_wp2_with (first
  | (go_at_call 157;rw [←HW.out];refine (dd0 _).mono ?_;clear dd0;rintro e w1 ⟨rfl,bel1⟩;(have N1:=N0.below bel1 (by omega));(have R1:=R0.below bel1 (by omega));(have zz1:w.heap.size+1+1≤w1.heap.size:=by have:=bel1.size;omega);(have hw1:Below w.heap.size w w1:=hbW.trans (bel1.mono (by omega))))
  | (go_at_call 157;refine (dd1 _).mono ?_;clear dd1;rintro e w2 ⟨rfl,bel2⟩;(have sz2:w1.heap.size+1≤w2.heap.size:=by have:=bel2.size;rw [World.size_alloc] at this;exact this);(have tb2:Below w1.heap.size w1 w2:=((Below.refl w1.heap.size w1).alloc (Nat.le_refl _) _).trans (bel2.mono (by rw [World.size_alloc];omega)));(have zz2:w.heap.size+1+1≤w2.heap.size:=by omega);(have hw2:Below w.heap.size w w2:=hw1.trans (tb2.mono (by omega)));(have R2:=R1.below tb2 (by omega));(have N2:=N1.below tb2 (by omega));(have q2:w.heap.size<w2.heap.size:=by omega);(obtain ⟨n0,n1,n2,n3,-,-,-,-⟩:=id N2))
  | (go_at_call 157;refine (dd2 _).mono ?_;clear dd2;rintro e w3 ⟨rfl,bel3⟩;(have sz3:w2.heap.size+1≤w3.heap.size:=by have:=bel3.size;rw [World.size_alloc] at this;exact this);(have tb3:Below w2.heap.size w2 w3:=((Below.refl w2.heap.size w2).alloc (Nat.le_refl _) _).trans (bel3.mono (by rw [World.size_alloc];omega)));(have zz3:w.heap.size+1+1≤w3.heap.size:=by omega);(have hw3:Below w.heap.size w w3:=hw2.trans (tb3.mono (by omega)));(have R3:=R2.below tb3 (by omega)))
  | (go_at_call 157;refine (dd3 _).mono ?_;clear dd3;rintro e w4 ⟨rfl,bel4⟩;(have sz4:w3.heap.size+1≤w4.heap.size:=by have:=bel4.size;rw [World.size_alloc] at this;exact this);(have tb4:Below w3.heap.size w3 w4:=((Below.refl w3.heap.size w3).alloc (Nat.le_refl _) _).trans (bel4.mono (by rw [World.size_alloc];omega)));(have zz4:w.heap.size+1+1≤w4.heap.size:=by omega);(have hw4:Below w.heap.size w w4:=hw3.trans (tb4.mono (by omega)));(have R4:=R3.below tb4 (by omega)))
  | (go_at_call 157;refine (dd4 _).mono ?_;clear dd4;rintro e w5 ⟨rfl,bel5⟩;(have sz5:w4.heap.size+1≤w5.heap.size:=by have:=bel5.size;rw [World.size_alloc] at this;exact this);(have tb5:Below w4.heap.size w4 w5:=((Below.refl w4.heap.size w4).alloc (Nat.le_refl _) _).trans (bel5.mono (by rw [World.size_alloc];omega)));(have zz5:w.heap.size+1+1≤w5.heap.size:=by omega);(have hw5:Below w.heap.size w w5:=hw4.trans (tb5.mono (by omega)));(have R5:=R4.below tb5 (by omega));(have T5:=(four_fresh w4 (.int .u64 ve0) (.int .u64 ve1) (.int .u64 ve2) (.int .u64 ve3) 88).below bel5 (by simp));(have q5:w4.heap.size<w5.heap.size:=by omega))
  | (go_at_call 157;refine (dd5 _).mono ?_;clear dd5;rintro e w6 ⟨rfl,bel6⟩;(have sz6:w5.heap.size+1≤w6.heap.size:=by have:=bel6.size;rw [World.size_alloc] at this;exact this);(have tb6:Below w5.heap.size w5 w6:=((Below.refl w5.heap.size w5).alloc (Nat.le_refl _) _).trans (bel6.mono (by rw [World.size_alloc];omega)));(have zz6:w.heap.size+1+1≤w6.heap.size:=by omega);(have hw6:Below w.heap.size w w6:=hw5.trans (tb6.mono (by omega)));(have R6:=R5.below tb6 (by omega));(have T6:=T5.below tb6 (by omega));(have q6:w4.heap.size<w6.heap.size:=by omega);(obtain ⟨m0,m1,m2,m3,-,-,-,-⟩:=id T6))
  | (go_at_call 157;refine (dd6 _).mono ?_;clear dd6;rintro e w7 ⟨rfl,bel7⟩;(have sz7:w6.heap.size+1≤w7.heap.size:=by have:=bel7.size;rw [World.size_alloc] at this;exact this);(have tb7:Below w6.heap.size w6 w7:=((Below.refl w6.heap.size w6).alloc (Nat.le_refl _) _).trans (bel7.mono (by rw [World.size_alloc];omega)));(have zz7:w.heap.size+1+1≤w7.heap.size:=by omega);(have hw7:Below w.heap.size w w7:=hw6.trans (tb7.mono (by omega)));(have R7:=R6.below tb7 (by omega)))
  | (go_at_call 157;refine (dd7 _).mono ?_;clear dd7;rintro e w8 ⟨rfl,bel8⟩;(have sz8:w7.heap.size+1≤w8.heap.size:=by have:=bel8.size;rw [World.size_alloc] at this;exact this);(have tb8:Below w7.heap.size w7 w8:=((Below.refl w7.heap.size w7).alloc (Nat.le_refl _) _).trans (bel8.mono (by rw [World.size_alloc];omega)));(have zz8:w.heap.size+1+1≤w8.heap.size:=by omega);(have hw8:Below w.heap.size w w8:=hw7.trans (tb8.mono (by omega)));(have R8:=R7.below tb8 (by omega));(have F8:=(four_fresh w7 (.int .u64 vh0) (.int .u64 vh1) (.int .u64 vh2) (.int .u64 vh3) 88).below bel8 (by simp));(have q8:w7.heap.size<w8.heap.size:=by omega))
  | (go_at_call 157;refine (dd8 _).mono ?_;clear dd8;rintro e w9 ⟨rfl,bel9⟩;(have sz9:w8.heap.size+1≤w9.heap.size:=by have:=bel9.size;rw [World.size_alloc] at this;exact this);(have tb9:Below w8.heap.size w8 w9:=((Below.refl w8.heap.size w8).alloc (Nat.le_refl _) _).trans (bel9.mono (by rw [World.size_alloc];omega)));(have zz9:w.heap.size+1+1≤w9.heap.size:=by omega);(have hw9:Below w.heap.size w w9:=hw8.trans (tb9.mono (by omega)));(have R9:=R8.below tb9 (by omega));(have F9:=F8.below tb9 (by omega));(have q9:w7.heap.size<w9.heap.size:=by omega);(obtain ⟨p0,p1,p2,p3,-,-,-,-⟩:=id F9))
  | (go_at_call 157;refine (dd9 _).mono ?_;clear dd9;rintro e w10 ⟨rfl,bel10⟩;(have sz10:w9.heap.size+1≤w10.heap.size:=by have:=bel10.size;rw [World.size_alloc] at this;exact this);(have tb10:Below w9.heap.size w9 w10:=((Below.refl w9.heap.size w9).alloc (Nat.le_refl _) _).trans (bel10.mono (by rw [World.size_alloc];omega)));(have zz10:w.heap.size+1+1≤w10.heap.size:=by omega);(have hw10:Below w.heap.size w w10:=hw9.trans (tb10.mono (by omega)));(have R10:=R9.below tb10 (by omega));(have ht:=R10.there);(obtain ⟨r0,r1,r2,r3,f0,f1,f2,f3⟩:=id R10)))
 (try simp only [Exit.inBlock,Exit.then])
 exact bodyPost_ret (results_set4 Tryz.results156 _ _ _ _ _ _ _ ht rfl Tryz.underlying88 rfl (by kernel_rfl)) rfl ⟨rfl,below_set4 hw10 (by omega) _ _ _ _⟩
end Go.Proofs.YtcgkajlehdgpoaaGreatDoor
namespace Go.Proofs.YtcgkajlehdgpoaaGreatDoor
open Go.RowKit
set_option maxRecDepth 20000 in
set_option maxHeartbeats 4000000 in
theorem inverse_pow (x:Nat) (w:World) :
 Calls Tryz.prog 127 #[numV (x ^ 1%pF)] w fun e w'=>e = .returned (numV (x ^ 57896044618658097711785492504343953926634992332820282019728792003956564819947%pF))∧Below w.heap.size w w':=by
 have cc0:=fun W=>ones250_any x W
 have cc1:=fun W=>then_pow x 1809251394333065553493296640760748560207343510400633813116524750123642650623 1 2 7237005577332262213973186563042994240829374041602535252466099000494570602493 (by decide) (by decide) W
 have cc2:=fun W=>then_pow x 7237005577332262213973186563042994240829374041602535252466099000494570602493 1 2 28948022309329048855892746252171976963317496166410141009864396001978282409973 (by decide) (by decide) W
 have cc3:=fun W=>then_pow x 28948022309329048855892746252171976963317496166410141009864396001978282409973 1 1 57896044618658097711785492504343953926634992332820282019728792003956564819947 (by decide) (by decide) W
 obtain ⟨va0,va1,va2,va3,hva⟩:=numV_ex (x ^ 1%pF)
 obtain ⟨vb0,vb1,vb2,vb3,hvb⟩:=numV_ex (x ^ 1809251394333065553493296640760748560207343510400633813116524750123642650623%pF)
 obtain ⟨vc0,vc1,vc2,vc3,hvc⟩:=numV_ex (x ^ 7237005577332262213973186563042994240829374041602535252466099000494570602493%pF)
 obtain ⟨vd0,vd1,vd2,vd3,hvd⟩:=numV_ex (x ^ 28948022309329048855892746252171976963317496166410141009864396001978282409973%pF)
 obtain ⟨ve0,ve1,ve2,ve3,hve⟩:=numV_ex (x ^ 57896044618658097711785492504343953926634992332820282019728792003956564819947%pF)
 rw [hva,hvb] at cc0
 rw [hvb,hva,hvc] at cc1
 rw [hvc,hva,hvd] at cc2
 rw [hvd,hva,hve] at cc3
 rw [hva,hve]
 have dd1:∀ W,Calls Tryz.prog 157 #[.agg #[.int .u64 vb0,.int .u64 vb1,.int .u64 vb2,.int .u64 vb3],.int .i64 2,.func (.func 126) #[.agg #[.int .u64 va0,.int .u64 va1,.int .u64 va2,.int .u64 va3]] #[]] W fun e w'=>e = .returned (.agg #[.int .u64 vc0,.int .u64 vc1,.int .u64 vc2,.int .u64 vc3])∧Below W.heap.size W w':=cc1
 have dd2:∀ W,Calls Tryz.prog 157 #[.agg #[.int .u64 vc0,.int .u64 vc1,.int .u64 vc2,.int .u64 vc3],.int .i64 2,.func (.func 126) #[.agg #[.int .u64 va0,.int .u64 va1,.int .u64 va2,.int .u64 va3]] #[]] W fun e w'=>e = .returned (.agg #[.int .u64 vd0,.int .u64 vd1,.int .u64 vd2,.int .u64 vd3])∧Below W.heap.size W w':=cc2
 have dd3:∀ W,Calls Tryz.prog 157 #[.agg #[.int .u64 vd0,.int .u64 vd1,.int .u64 vd2,.int .u64 vd3],.int .i64 1,.func (.func 126) #[.agg #[.int .u64 va0,.int .u64 va1,.int .u64 va2,.int .u64 va3]] #[]] W fun e w'=>e = .returned (.agg #[.int .u64 ve0,.int .u64 ve1,.int .u64 ve2,.int .u64 ve3])∧Below W.heap.size W w':=cc3
 clear cc1 cc2 cc3 hva hvb hvc hvd hve
 obtain ⟨W,hW⟩:∃ W,W=(w.alloc (.cells #[.int .u64 va0,.int .u64 va1,.int .u64 va2,.int .u64 va3] 88)).alloc (.cells #[.int .u64 0,.int .u64 0,.int .u64 0,.int .u64 0] 88):=⟨_,rfl⟩
 have HW:=Hid.mk' hW
 have hWs:W.heap.size=w.heap.size+1+1:=by rw [hW];simp
 have hbW:Below w.heap.size w W:=by rw [hW];exact ((Below.refl _ _).alloc (Nat.le_refl _) _).alloc (by simp) _
 have N0:FourAt W w.heap.size (.int .u64 va0) (.int .u64 va1) (.int .u64 va2) (.int .u64 va3):=by rw [hW];exact (four_fresh w _ _ _ _ _).below ((Below.refl _ _).alloc (Nat.le_refl _) _) (by simp)
 have R0:FourAt W (w.heap.size+1) (.int .u64 0) (.int .u64 0) (.int .u64 0) (.int .u64 0):=by
  have:=four_fresh (w.alloc (.cells #[.int .u64 va0,.int .u64 va1,.int .u64 va2,.int .u64 va3] 88)) (.int .u64 0) (.int .u64 0) (.int .u64 0) (.int .u64 0) 88
  rw [World.size_alloc] at this
  rw [hW];exact this
 have hr:∀ w':World,Below (w.heap.size+1) W w'→w'.rangeAt w.heap.size 0 [.int .u64 va0,.int .u64 va1,.int .u64 va2,.int .u64 va3]:=fun w' h=>(N0.below h (by omega)).range
 have hi':(Tryz.prog.info? 88).map (·.size)=some 4:=by kernel_rfl
 have hb0:Below (w.heap.size+1) W W.drew:=(Below.refl _ _).drew
 clear hW
 go_enter Tryz.func127,Tryz.ntmps127
 go_wp2
 rw [←HW.out]
 refine wp_region_held_drew (S:=fun w2=>Below (w.heap.size+1) W w2) (by kernel_rfl) hb0 (fun hHeld => ?_)
 refine wpAnyH_take (i:=0) (v := .agg #[.int .u64 va0,.int .u64 va1,.int .u64 va2,.int .u64 va3]) rfl (by kernel_rfl) (by kernel_rfl) (by kernel_rfl) (fun _ _ _ h=>h) (yieldsIf_load_mid (by rfl) 88 _ rfl w.heap.size 0 rfl [.int .u64 va0,.int .u64 va1,.int .u64 va2,.int .u64 va3] _ hr Tryz.underlying88 rfl hi') hHeld ?_
 refine wpAnyH_take (i:=2) (v := .agg #[.int .u64 va0,.int .u64 va1,.int .u64 va2,.int .u64 va3]) rfl (by kernel_rfl) (by kernel_rfl) (by kernel_rfl) (fun _ _ _ h=>h) (yieldsIf_load_mid (by rfl) 88 _ rfl w.heap.size 0 rfl [.int .u64 va0,.int .u64 va1,.int .u64 va2,.int .u64 va3] _ hr Tryz.underlying88 rfl hi') hHeld ?_
 refine wpAnyH_take (i:=5) (v := .agg #[.int .u64 va0,.int .u64 va1,.int .u64 va2,.int .u64 va3]) rfl (by kernel_rfl) (by kernel_rfl) (by kernel_rfl) (fun _ _ _ h=>h) (yieldsIf_load_mid (by rfl) 88 _ rfl w.heap.size 0 rfl [.int .u64 va0,.int .u64 va1,.int .u64 va2,.int .u64 va3] _ hr Tryz.underlying88 rfl hi') hHeld ?_
 refine wpAnyH_take (i:=8) (v := .agg #[.int .u64 va0,.int .u64 va1,.int .u64 va2,.int .u64 va3]) rfl (by kernel_rfl) (by kernel_rfl) (by kernel_rfl) (fun _ _ _ h=>h) (yieldsIf_load_mid (by rfl) 88 _ rfl w.heap.size 0 rfl [.int .u64 va0,.int .u64 va1,.int .u64 va2,.int .u64 va3] _ hr Tryz.underlying88 rfl hi') hHeld ?_
 refine wpAnyH_take (i:=3) (v := .func (.func 126) #[.agg #[.int .u64 va0,.int .u64 va1,.int .u64 va2,.int .u64 va3]] #[]) rfl (by kernel_rfl) (by kernel_rfl) (by kernel_rfl) (fun _ _ _ h=>h) (Or.inl ⟨by rfl,fun w2 _=>by go_simp⟩) hHeld ?_
 refine wpAnyH_take (i:=6) (v := .func (.func 126) #[.agg #[.int .u64 va0,.int .u64 va1,.int .u64 va2,.int .u64 va3]] #[]) rfl (by kernel_rfl) (by kernel_rfl) (by kernel_rfl) (fun _ _ _ h=>h) (Or.inl ⟨by rfl,fun w2 _=>by go_simp⟩) hHeld ?_
 refine wpAnyH_take (i:=9) (v := .func (.func 126) #[.agg #[.int .u64 va0,.int .u64 va1,.int .u64 va2,.int .u64 va3]] #[]) rfl (by kernel_rfl) (by kernel_rfl) (by kernel_rfl) (fun _ _ _ h=>h) (Or.inl ⟨by rfl,fun w2 _=>by go_simp⟩) hHeld ?_
 refine wpAnyH_ready (rs:=[1]) (by kernel_rfl) (by simp) ?_
 refine AllReadyH.cons rfl (fun K hK => ?_) AllReadyH.nil
 go_simp
 go_at_call 156
 refine (cc0 _).mono ?_
 clear cc0
 rintro e w1 ⟨rfl,bel_w1⟩
 have S_w1:Below (w.heap.size+1) W w1:=hb0.trans (bel_w1.mono (by have:=hb0.size;omega))
 go_simp
 refine hK.out _ _ S_w1 (fun h1 => ?_)
 clear hK K
 refine wpAnyH_ready (rs:=[4]) (by kernel_rfl) (by simp) ?_
 refine AllReadyH.cons rfl (fun K hK => ?_) AllReadyH.nil
 go_simp
 go_at_call 157
 refine (dd1 _).mono ?_
 clear dd1
 rintro e w2 ⟨rfl,bel_w2⟩
 have S_w2:Below (w.heap.size+1) W w2:=S_w1.trans (bel_w2.mono (by have:=S_w1.size;omega))
 go_simp
 refine hK.out _ _ S_w2 (fun h2 => ?_)
 clear hK K
 refine wpAnyH_ready (rs:=[7]) (by kernel_rfl) (by simp) ?_
 refine AllReadyH.cons rfl (fun K hK => ?_) AllReadyH.nil
 go_simp
 go_at_call 157
 refine (dd2 _).mono ?_
 clear dd2
 rintro e w3 ⟨rfl,bel_w3⟩
 have S_w3:Below (w.heap.size+1) W w3:=S_w2.trans (bel_w3.mono (by have:=S_w2.size;omega))
 go_simp
 refine hK.out _ _ S_w3 (fun h3 => ?_)
 clear hK K
 refine wpAnyH_ready (rs:=[10]) (by kernel_rfl) (by simp) ?_
 refine AllReadyH.cons rfl (fun K hK => ?_) AllReadyH.nil
 go_simp
 go_at_call 157
 refine (dd3 _).mono ?_
 clear dd3
 rintro e w4 ⟨rfl,bel_w4⟩
 have S_w4:Below (w.heap.size+1) W w4:=S_w3.trans (bel_w4.mono (by have:=S_w3.size;omega))
 go_simp
 refine hK.out _ _ S_w4 (fun h4 => ?_)
 clear hK K
 have z1:=bel_w1.size
 have z2:=bel_w2.size
 have z3:=bel_w3.size
 have zd:W.drew.heap.size=w.heap.size+1+1:=hWs
 have R4:=(((R0.drew.below bel_w1 (by omega)).below bel_w2 (by omega)).below bel_w3 (by omega)).below bel_w4 (by omega)
 have ht:=R4.there
 have S5:Below (w.heap.size+1) W (set4 w4 (w.heap.size+1) (.int .u64 ve0) (.int .u64 ve1) (.int .u64 ve2) (.int .u64 ve3)):=below_set4' S_w4 (Nat.le_refl _) _ _ _ _
 have hbw4:Below w.heap.size w w4:=hbW.trans (S_w4.mono (by omega))
 obtain ⟨r0,r1,r2,r3,f0,f1,f2,f3⟩:=R4
 refine wpAnyH_ready (rs:=[11]) (by kernel_rfl) (by simp) ?_
 refine AllReadyH.cons rfl (fun K hK => ?_) AllReadyH.nil
 go_simp
 refine hK.out _ _ S5 (fun h5 => ?_)
 clear hK K
 refine wpAnyH_done (by kernel_rfl) ?_ _
 go_simp
 go_wp2
 (try simp only [Exit.inBlock,Exit.then])
 exact bodyPost_ret (results_set4 Tryz.results127 _ _ _ _ _ _ _ ht rfl Tryz.underlying88 rfl (by kernel_rfl)) rfl ⟨rfl,below_set4 hbw4 (by omega) _ _ _ _⟩
theorem inverse_any (x:Nat) (hx:x<pF) (w:World) :
 Calls Tryz.prog 127 #[numV x] w fun e w'=>e = .returned (numV (x ^ (pF - 2)%pF))∧Below w.heap.size w w':=by
 have h:=inverse_pow x w
 rw [Nat.pow_one,Nat.mod_eq_of_lt hx] at h
 have e:57896044618658097711785492504343953926634992332820282019728792003956564819947=pF - 2:=by decide
 rw [e] at h
 exact h
end Go.Proofs.YtcgkajlehdgpoaaGreatDoor
namespace Go.Proofs.YtcgkajlehdgpoaaGreatDoor
open Go.RowKit
theorem numV_small (n:Nat) (h:n<18446744073709551616):(Value.agg #[.int .u64 n,.int .u64 0,.int .u64 0,.int .u64 0]:Value)=numV n :=
 numV_of n n 0 0 0 h (by decide) (by decide) (by decide) (by unfold val4;omega)
set_option maxRecDepth 20000 in
set_option maxHeartbeats 2000000 in
theorem fsmall_pos (n:Nat) (h:n≤9223372036854775807) (w:World):Calls Tryz.prog 54 #[.int .i64 n] w fun e w'=>e = .returned (numV n)∧Below w.heap.size w w':=by
 have fin:=Hid.mk' (numV_small n (by omega))
 have hni:¬(n:Int)<0:=by omega
 go_enter Tryz.func54,Tryz.ntmps54
 go_wp2
 (try simp only [Exit.inBlock,Exit.then])
 exact bodyPost_ret (results_fresh4 Tryz.results54 _ _ _ _ _ _ _ rfl Tryz.underlying88 rfl (by kernel_rfl)) rfl ⟨by rw [fin.out],(Below.refl _ _).alloc (Nat.le_refl _) _⟩
end Go.Proofs.YtcgkajlehdgpoaaGreatDoor
namespace Go.Proofs.YtcgkajlehdgpoaaGreatDoor
open Go.RowKit
def c4 (n:Nat):List Value:=[.int .u64 (lw n 0),.int .u64 (lw n 1),.int .u64 (lw n 2),.int .u64 (lw n 3)]
def c8 (x z:Nat):List Value:=c4 x ++ c4 z
def ratV (x z:Nat):Value := .agg (c8 x z).toArray
theorem c4_zero:c4 0=[.int .u64 0,.int .u64 0,.int .u64 0,.int .u64 0]:=by kernel_rfl
theorem fresh4 (w:World):∃ w' g,w.alloc (.cells #[.int .u64 0,.int .u64 0,.int .u64 0,.int .u64 0] 88)=w'∧w.heap.size=g∧Below w.heap.size w w'∧RW w' g 0 (c4 0):=by
 refine ⟨_,_,rfl,rfl,(Below.refl _ _).alloc (Nat.le_refl _) _,?_⟩
 rw [c4_zero];exact RW.fresh w _ _
theorem info4:(Tryz.prog.info? 88).map (·.size)=some 4:=by kernel_rfl
theorem info8:(Tryz.prog.info? 146).map (·.size)=some 8:=by kernel_rfl
theorem one4 (n:Nat):(c4 n).toArray.all (·.oneCell')=true:=by simp [c4,Value.oneCell']
theorem one8 (x z:Nat):(c8 x z).toArray.all (·.oneCell')=true:=by simp [c8,c4,Value.oneCell']
end Go.Proofs.YtcgkajlehdgpoaaGreatDoor
