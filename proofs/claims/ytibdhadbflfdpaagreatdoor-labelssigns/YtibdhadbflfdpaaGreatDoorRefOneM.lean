/- What the proof stands on: RefOne, RefPow, RefSmall2, RNum. -/
import Derived.Test.YtibdhadbflfdpaaGreatDoorD1RBM
import Derived.Test.YtibdhadbflfdpaaGreatDoorRefBytesM
import Derived.Test.YtibdhadbflfdpaaGreatDoorRefCarryM
namespace Go.Proofs.YtibdhadbflfdpaaGreatDoor
open Nat renaming le_refl → JW
open Nat renaming lt_of_lt_of_le → JX
open Go renaming wpList_store_mid → J2
open Go renaming wpList_load_mid → J3
open Go.RowKit
def gu:Nat→Int:=fun j=>if j=0 then 1 else 0
def xd (k:Nat):Nat→Int:=fun j=>if j=0∧0<k then 1 else 0
set_option maxRecDepth 20000 in
set_option maxHeartbeats 2000000 in
theorem om (w:World) :
 Calls Tryz.prog 119 #[.int .i64 1] w fun e w'=>e = .returned (bZ (aq gu))∧Below w.heap.size w w':=by
 have hz:=dC
 have hcar:=fun W=>dK gu (fun j _=>by unfold gu;split <;> decide) W
 obtain ⟨W,hW⟩:∃ W,W=(w.alloc (.cells zI 92)).alloc (.cells zI 92):=⟨_,rfl⟩
 have HW:=Hid.mk' hW
 have hWs:W.heap.size=w.heap.size+1+1:=by rw [hW];simp
 have hbW:Below w.heap.size w W:=by rw [hW];exact ((Below.refl _ _).alloc (JW _) _).alloc (by simp) _
 have hres:ap W w.heap.size 16 (fun _=>0):=by rw [hW];exact (ap.fresh w zI _ (fun j hj=>dS j hj)).below ((Below.refl _ _).alloc (JW _) _) (by simp)
 have hrow0:ap W (w.heap.size+1) 16 (xd 0):=by
  have:=ap.fresh (w.alloc (.cells zI 92)) zI 92 (n:=16) (L:=fun _=>0) (fun j hj=>dS j hj);rw [World.size_alloc] at this;rw [hW];exact this.congr (fun j _=>by unfold xd;rw [if_neg (by omega)])
 obtain ⟨X,hX⟩:∃ X,X=aq gu:=⟨_,rfl⟩
 rw [←hX] at hcar ⊢;unfold bZ at hcar ⊢;clear hW hX;go_enter Tryz.func119,Tryz.ntmps119;go_wp2;rw [←HW.out];go_loopw [0,4] (fun x i wr=>∃ k:Nat,k≤3∧x = .int .i64 (if k=0 then 1 else 0)∧i = .int .i64 k∧ap wr (w.heap.size+1) 16 (xd k)∧ap wr w.heap.size 16 (fun _=>0)∧Below w.heap.size w wr∧w.heap.size+1<wr.heap.size) (fun _ i _=>3 - (intOf i).toNat)
 case atStart=>exact ⟨0,Nat.zero_le _,rfl,rfl,hrow0,hres,hbW,by omega⟩
 case round =>
  clear hrow0 hres hbW hz;obtain ⟨k,hk,rfl,rfl,hrow,hre,hb,hs⟩:=hrel
  have hsim:∀ (k:Nat) (v:Int) (wr:World),k<3→ap wr (w.heap.size+1) 16 (xd k)→v=(if k=0 then 1 else 0)→ap (wr.setCell ⟨w.heap.size+1,k,none⟩ (.int .i64 v)) (w.heap.size+1) 16 (xd (k+1)):=fun k v wr hk h hv=>(h.set (i:=k) (by omega) v).congr (fun j hj=>by
   unfold ef xd
   by_cases e:j=k
   · rw [if_pos e,hv]
     by_cases e0:k=0
     · rw [if_pos e0,if_pos ⟨by omega,by omega⟩]
     · rw [if_neg e0,if_neg (by omega)]
   · rw [if_neg e]
     by_cases e1:j=0∧0<k
     · rw [if_pos e1,if_pos ⟨e1.1,by omega⟩]
     · rw [if_neg e1,if_neg (by omega)])
  by_cases hlt:k<3
  · obtain ⟨rk,fk⟩:=hrow k (by omega)
    have h3:k=0∨k=1∨k=2:=by omega
    rcases h3 with rfl | rfl | rfl
    all_goals
     clear hcar;go_wp2;go_roundw
     case rel=>exact ⟨_,by decide,rfl,by go_num,hsim _ _ wr (by decide) hrow (by decide),hre.far (by show w.heap.size+1≠w.heap.size;omega) _,hb.setCell (by show _≤w.heap.size+1;omega) _,by simpa using hs⟩
     case measure=>simp [intOf]
  · have hke:k=3:=by omega
    subst hke
    have hrow2:ap wr (w.heap.size+1) 16 gu:=hrow.congr (fun j hj=>by
     unfold xd gu
     by_cases e:j=0
     · rw [if_pos ⟨e,by decide⟩,if_pos e]
     · rw [if_neg (by omega),if_neg e])
    obtain ⟨rk,fk⟩:=hrow2 3 (by decide);have rk0:wr.cell? ⟨w.heap.size+1,3,none⟩=some (.int .i64 0):=rk
    have hst:ap (wr.setCell ⟨w.heap.size+1,3,none⟩ (.int .i64 0)) (w.heap.size+1) 16 gu:=(hrow2.set (i:=3) (by decide) 0).congr (fun j hj=>by
     unfold ef gu
     by_cases e:j=3
     · rw [if_pos e,if_neg (by omega)]
     · rw [if_neg e])
    have hre2:ap (wr.setCell ⟨w.heap.size+1,3,none⟩ (.int .i64 0)) w.heap.size 16 (fun _=>0):=hre.far (by show w.heap.size+1≠w.heap.size;omega) _;have hb2:Below w.heap.size w (wr.setCell ⟨w.heap.size+1,3,none⟩ (.int .i64 0)):=hb.setCell (by show _≤w.heap.size+1;omega) _
    have hs2:w.heap.size+1<(wr.setCell ⟨w.heap.size+1,3,none⟩ (.int .i64 0)).heap.size:=by simpa using hs
    obtain ⟨V,hV⟩:∃ V,V=wr.setCell ⟨w.heap.size+1,3,none⟩ (.int .i64 0):=⟨_,rfl⟩
    have HV:=Hid.mk' hV;rw [←hV] at hst hre2 hb2 hs2;have hcr:=hcar V;have hi1:=a8 gu;have hj1:=a8 X;have hi2:=bH X;have ho:=eM X;have hstr:=hst.range;clear hV hcar rk hrow hrow2 hsim hre hb
    go_wp2_with (first
     | (rw [←HV.out];refine J3 rfl 92 _ rfl (w.heap.size+1) 0 rfl (af 16 gu) _ hstr Tryz.underlying92 rfl hi1 ?_)
     | (go_at_call 178;refine hcr.mono ?_;clear hcr;rintro e w1 ⟨rfl,hb1⟩;(have hC1:=hre2.below hb1 (by omega));(have hth:w1.there w.heap.size 0 (af 16 X).toArray.size:=by rw [an];exact hC1.there);(have hbw1:Below w.heap.size w w1:=hb2.trans (hb1.mono hb2.size)))
     | (refine J2 rfl 92 _ _ rfl w.heap.size 0 (af 16 X).toArray rfl rfl hth hi2 ho ?_))
    (try simp only [Exit.inBlock,Exit.then]);refine bodyPost_ret (ai Tryz.results119 _ _ w.heap.size 0 (af 16 X) _ rfl (World.rangeAt_setCells_same _ _ _ _ (by rw [bl];exact hC1.there)) Tryz.underlying92 rfl hj1) rfl ⟨rfl,?_⟩;exact ac (JW _) _ _ _ hbw1
def bB (L M:Nat→Int):Nat→Int:=aq (aq (dh (tP L M 15 16) 16))
structure Rep (L:Nat→Int) (x:Nat):Prop where
 dig:tI 65573 L
 val:aQ L 16%(pF:Int)=((x%pF:Nat):Int)
theorem Rep.bd {L:Nat→Int} {x:Nat} (h:Rep L x):∀ j,j<16→-131072≤L j∧L j≤131072:=fun j hj=>by have:=h.dig.all (by decide) j hj;omega
theorem fH {L M:Nat→Int} {x y:Nat} (hL:Rep L x) (hM:Rep M y):Rep (bB L M) (x*y):=by
 have hbd:=Du L M hL.bd hM.bd 15 16 (by decide) (JW _)
 have hF:∀ j,j<16→-171523813933056≤dh (tP L M 15 16) 16 j∧dh (tP L M 15 16) 16 j≤171523813933056:=fun j hj=>by
  have h1:=hbd j;have h2:=hbd (j+16);unfold dh;rw [if_pos hj]
  split <;> omega
 refine ⟨(fM _ ((eL _ 171523813933056 (by decide) hF).mono (by decide))).1,?_⟩;unfold bB
 rw [bI,bI,qQ,Ci,show ∀ a b c d P:Int,a - 2*P*d - b*2*P - c*2*P=a+P*(-(2*d) - b*2 - c*2) from fun a b c d P=>by
  rw [Int.mul_sub,Int.mul_sub,Int.mul_neg,Int.mul_comm P (b*2),Int.mul_comm P (c*2),Int.mul_comm 2 P,Int.mul_assoc P 2 d];omega,Int.add_mul_emod_self_left,Int.mul_emod,hL.val,hM.val,←Int.natCast_mul,dI,←Nat.mul_mod]
theorem se:Rep (aq gu) 1:=by
 have h:∀ j,j<16→-2≤gu j∧gu j≤2:=fun j _=>by unfold gu;split <;> decide
 refine ⟨(eL gu 2 (by decide) h).mono (by decide),?_⟩;rw [bI,show ∀ a b P:Int,a - b*2*P=a+P*(-(b*2)) from fun a b P=>by rw [Int.mul_neg,Int.mul_comm P];omega,Int.add_mul_emod_self_left];decide
theorem jk (a E k:Nat) (hk:0<k):a ^ (E / 2 ^ (k - 1))=a ^ (E / 2 ^ k)*a ^ (E / 2 ^ k)*a ^ (E / 2 ^ (k - 1)%2):=by
 have e:E / 2 ^ k=E / 2 ^ (k - 1) / 2:=by
  rw [Nat.div_div_eq_div_mul,←Nat.pow_succ];congr 2;omega
 rw [e,←Nat.pow_add,←Nat.pow_add];congr 1;omega
theorem Co (bs:Nat→Nat) (hb:∀ j,bs j<256):Rep (dw bs) (aK bs 32):=⟨(CZ bs hb).mono (by decide),by rw [lX,dI]⟩
theorem sA:(List.range 255).all (fun i=>decide (i<5∨57896044618658097711785492504343953926634992332820282019728792003956564819947 / 2 ^ i%2=1))=true:=by kernel_rfl
theorem uH (i:Nat) (h:5≤i) (hi:i<255):57896044618658097711785492504343953926634992332820282019728792003956564819947 / 2 ^ i%2=1:=by
 have h1:=List.all_eq_true.1 sA i (List.mem_range.2 hi);have h2:=of_decide_eq_true h1;omega
set_option maxRecDepth 20000 in
set_option maxHeartbeats 4000000 in
theorem uz (A:Nat→Int) (a:Nat) (hAb:∀ j,j<16→-131072≤A j∧A j≤131072) (hAm:∀ M m,Rep M m→Rep (bB M A) (m*a)) (w:World) :
 Calls Tryz.prog 179 #[bZ A,.int .i64 255,.int .i64 11,.int .i64 5] w fun e w'=>∃ R,e = .returned (bZ R)∧Rep R (a ^ 57896044618658097711785492504343953926634992332820282019728792003956564819947)∧Below w.heap.size w w':=by
 have hz:=dC
 have c1:=fun W=>om W
 have hone:Rep (aq gu) (a ^ (57896044618658097711785492504343953926634992332820282019728792003956564819947 / 2 ^ 255)):=by rw [show 57896044618658097711785492504343953926634992332820282019728792003956564819947 / 2 ^ 255=0 by decide,Nat.pow_zero];exact se
 obtain ⟨O,hO⟩:∃ O,O=aq gu:=⟨_,rfl⟩
 rw [←hO] at c1 hone
 obtain ⟨EX,hEX⟩:∃ EX,EX=57896044618658097711785492504343953926634992332820282019728792003956564819947:=⟨_,rfl⟩
 have hbit:∀ i,5≤i→i<255→EX / 2 ^ i%2=1:=fun i h1 h2=>by rw [hEX];exact uH i h1 h2
 have hbt0:EX / 2 ^ 0%2=1:=by rw [hEX]
 have hbt1:EX / 2 ^ 1%2=1:=by rw [hEX]
 have hbt2:EX / 2 ^ 2%2=0:=by rw [hEX]
 have hbt3:EX / 2 ^ 3%2=1:=by rw [hEX]
 have hbt4:EX / 2 ^ 4%2=0:=by rw [hEX]
 have hE0:EX / 2 ^ 0=57896044618658097711785492504343953926634992332820282019728792003956564819947:=by rw [hEX,Nat.pow_zero,Nat.div_one]
 rw [←hEX] at hone;rw [←hE0]
 obtain ⟨W,hW⟩:∃ W,W=(w.alloc (.cells (af 16 A).toArray 92)).alloc (.cells zI 92):=⟨_,rfl⟩
 have HW:=Hid.mk' hW
 have hWs:W.heap.size=w.heap.size+1+1:=by rw [hW];simp
 have hbW:Below w.heap.size w W:=by rw [hW];exact ((Below.refl _ _).alloc (JW _) _).alloc (by simp) _
 have hAr0:ap W w.heap.size 16 A:=by rw [hW];exact (ap.box w 16 A _).below ((Below.refl _ _).alloc (JW _) _) (by simp)
 have hRr0:ap W (w.heap.size+1) 16 (fun _=>0):=by
  have:=ap.fresh (w.alloc (.cells (af 16 A).toArray 92)) zI 92 (n:=16) (L:=fun _=>0) (fun j hj=>dS j hj);rw [World.size_alloc] at this;rw [hW];exact this
 have c1':Calls Tryz.prog 119 #[.int .i64 1] W fun e w'=>e = .returned (.agg (af 16 O).toArray)∧Below W.heap.size W w':=c1 W
 have hsto:∀ w1:World,Below W.heap.size W w1→∃ V,V=(w1.alloc (.cells zI 92)).setCells w1.heap.size 0 (af 16 O).toArray.toList∧ap V w1.heap.size 16 O∧ap V w.heap.size 16 A∧ap V (w.heap.size+1) 16 (fun _=>0)∧Below w.heap.size w V∧w1.heap.size<V.heap.size∧(w1.alloc (.cells zI 92)).there w1.heap.size 0 (af 16 O).toArray.size∧w.heap.size+1<w1.heap.size:=fun w1 hb1=>by
  have hf:=ap.fresh w1 zI 92 (n:=16) (L:=fun _=>0) (fun j hj=>dS j hj);have hs:=hb1.size;have hba:Below w1.heap.size w1 (w1.alloc (.cells zI 92)):=(Below.refl _ _).alloc (JW _) _;refine ⟨_,rfl,?_,((hAr0.below hb1 (by omega)).below hba (by omega)).farCells (by omega) _ _,((hRr0.below hb1 (by omega)).below hba (by omega)).farCells (by omega) _ _,ac (by omega) _ _ _ ((hbW.trans (hb1.mono hbW.size)).trans (hba.mono (by omega))),?_,?_,by omega⟩
  · rw [List.toList_toArray];exact hf.stored
  · rw [(aj _ _ _ _).2.2.2];simp
  · rw [an];exact hf.there
 have hi2O:=bH O;have hoO:=eM O;unfold bZ;clear hW hO hEX c1 hE0;go_enter Tryz.func179,Tryz.ntmps179
 go_wp2_with (first
  | (go_at_call 119;rw [←HW.out];refine c1'.mono ?_;clear c1';rintro e w1 ⟨rfl,hb1⟩;(obtain ⟨V,hV,hNV,hAV,hRV,hbV,hsV,hthV,hsz⟩:=hsto w1 hb1);(have HV:=Hid.mk' hV);clear hV hsto)
  | (refine J2 rfl 92 _ _ rfl w1.heap.size 0 (af 16 O).toArray rfl rfl hthV hi2O hoO ?_;rw [←HV.out]))
 obtain ⟨g,hg⟩:∃ g,g=w1.heap.size:=⟨_,rfl⟩
 rw [←hg] at hNV hsV hsz ⊢;clear hg hthV HV hi2O hoO hAr0 hRr0 hb1;go_loopw [10] (fun i wr=>∃ (k:Nat) (L:Nat→Int),k≤255∧i = .int .i64 ((k:Int) - 1)∧ap wr g 16 L∧Rep L (a ^ (EX / 2 ^ k))∧ap wr w.heap.size 16 A∧ap wr (w.heap.size+1) 16 (fun _=>0)∧Below w.heap.size w wr∧g<wr.heap.size) (fun i _=>(intOf i+1).toNat)
 case atStart=>exact ⟨255,O,JW _,by go_num,hNV,hone,hAV,hRV,hbV,hsV⟩
 case round =>
  clear hNV hAV hRV hbV hsV hone hz;obtain ⟨k,L,hk,rfl,hN,hL,hAr,hRr,hb,hs⟩:=hrel
  by_cases hlt:0<k
  · have hsq:=fH hL hL
    have c1:=cZ L L hL.bd hL.bd wr
    obtain ⟨M,hM⟩:∃ M,M=bB L L:=⟨_,rfl⟩
    have c1':Calls Tryz.prog 120 #[.agg (af 16 L).toArray,.agg (af 16 L).toArray] wr fun e w'=>e = .returned (.agg (af 16 M).toArray)∧Below wr.heap.size wr w':=by rw [hM];exact c1
    rw [←hM] at hsq;have hmul:=hAm _ _ hsq
    have c2:=fun W=>cZ M A hsq.bd hAb W
    obtain ⟨Q,hQ⟩:∃ Q,Q=bB M A:=⟨_,rfl⟩
    have c2':∀ W,Calls Tryz.prog 120 #[.agg (af 16 M).toArray,.agg (af 16 A).toArray] W fun e w'=>e = .returned (.agg (af 16 Q).toArray)∧Below W.heap.size W w':=by rw [hQ];exact c2
    rw [←hQ] at hmul
    have hp1:EX / 2 ^ (k - 1)%2=1→Rep Q (a ^ (EX / 2 ^ (k - 1))):=fun h=>by
     have:=jk a EX k hlt;rw [h] at this;rw [this,Nat.pow_one];exact hmul
    have hp0:EX / 2 ^ (k - 1)%2=0→Rep M (a ^ (EX / 2 ^ (k - 1))):=fun h=>by
     have:=jk a EX k hlt;rw [h] at this;rw [this,Nat.pow_zero,Nat.mul_one];exact hsq
    clear hM hQ c1 c2 hsq hmul hL;have hiL:=a8 L;have hiM:=a8 M;have hiA:=a8 A;have hi2M:=bH M;have hoM:=eM M;have hi2Q:=bH Q;have hoQ:=eM Q;have hNr:=hN.range
    by_cases hw:5<k
    · have hwi:¬(k:Int) - 1<5:=by omega
      have hwi2:(5:Int)≤(k:Int) - 1:=by omega
      go_wp2_with (first
       | (refine J3 rfl 92 _ rfl g 0 rfl (af 16 L) _ hNr Tryz.underlying92 rfl hiL ?_)
       | (go_at_call 120;refine c1'.mono ?_;clear c1' hNr;rintro e w1 ⟨rfl,hb1⟩;(have hN1:=hN.below hb1 hs);(have hth1:w1.there g 0 (af 16 M).toArray.size:=by rw [an];exact hN1.there);(have hAr1:=(hAr.below hb1 (by omega)).farCells (k:=g) (by omega) 0 (af 16 M).toArray.toList);(have hRr1:=(hRr.below hb1 (by omega)).farCells (k:=g) (by omega) 0 (af 16 M).toArray.toList);(have hN2:ap (w1.setCells g 0 (af 16 M).toArray.toList) g 16 M:=by rw [List.toList_toArray];exact hN1.stored);(have hbw1:Below w.heap.size w (w1.setCells g 0 (af 16 M).toArray.toList):=ac (by omega) _ _ _ (hb.trans (hb1.mono hb.size)));(have hs1:g<(w1.setCells g 0 (af 16 M).toArray.toList).heap.size:=by rw [(aj _ _ _ _).2.2.2];exact JX hs hb1.size);(obtain ⟨V1,hV1⟩:∃ V1,V1=w1.setCells g 0 (af 16 M).toArray.toList:=⟨_,rfl⟩);(have HV1:=Hid.mk' hV1);rw [←hV1] at hAr1 hRr1 hN2 hbw1 hs1;clear hV1;(have hNr2:=hN2.range);(have hAr2:=hAr1.range))
       | (refine J2 rfl 92 _ _ rfl g 0 (af 16 M).toArray rfl rfl hth1 hi2M hoM ?_;rw [←HV1.out];clear hth1)
       | (refine J3 rfl 92 _ rfl g 0 rfl (af 16 M) _ hNr2 Tryz.underlying92 rfl hiM ?_)
       | (refine J3 rfl 92 _ rfl w.heap.size 0 rfl (af 16 A) _ hAr2 Tryz.underlying92 rfl hiA ?_)
       | (go_at_call 120;refine (c2' _).mono ?_;clear c2' hNr2 hAr2;rintro e w2 ⟨rfl,hb2⟩;(have hN3:=hN2.below hb2 hs1);(have hth2:w2.there g 0 (af 16 Q).toArray.size:=by rw [an];exact hN3.there))
       | (with_reducible (refine id (?_:wpList _ _ _ _ _ _));refine J2 rfl 92 _ _ rfl g 0 (af 16 Q).toArray rfl rfl hth2 hi2Q hoQ ?_))
      go_roundw
      case rel =>
       refine ⟨k - 1,Q,by omega,by go_num,?_,hp1 (hbit (k - 1) (by omega) (by omega)),(hAr1.below hb2 (by omega)).farCells (by omega) _ _,(hRr1.below hb2 (by omega)).farCells (by omega) _ _,ac (by omega) _ _ _ (hbw1.trans (hb2.mono hbw1.size)),?_⟩
       · exact hN3.stored
       · rw [(aj _ _ _ _).2.2.2];exact JX hs1 hb2.size
      case measure=>simp [intOf];omega
    · have hcases:k=1∨k=2∨k=3∨k=4∨k=5:=by omega
      rcases hcases with rfl | rfl | rfl | rfl | rfl
      · go_wp2_with (first
         | (refine J3 rfl 92 _ rfl g 0 rfl (af 16 L) _ hNr Tryz.underlying92 rfl hiL ?_)
         | (go_at_call 120;refine c1'.mono ?_;clear c1' hNr;rintro e w1 ⟨rfl,hb1⟩;(have hN1:=hN.below hb1 hs);(have hth1:w1.there g 0 (af 16 M).toArray.size:=by rw [an];exact hN1.there);(have hAr1:=(hAr.below hb1 (by omega)).farCells (k:=g) (by omega) 0 (af 16 M).toArray.toList);(have hRr1:=(hRr.below hb1 (by omega)).farCells (k:=g) (by omega) 0 (af 16 M).toArray.toList);(have hN2:ap (w1.setCells g 0 (af 16 M).toArray.toList) g 16 M:=by rw [List.toList_toArray];exact hN1.stored);(have hbw1:Below w.heap.size w (w1.setCells g 0 (af 16 M).toArray.toList):=ac (by omega) _ _ _ (hb.trans (hb1.mono hb.size)));(have hs1:g<(w1.setCells g 0 (af 16 M).toArray.toList).heap.size:=by rw [(aj _ _ _ _).2.2.2];exact JX hs hb1.size);(obtain ⟨V1,hV1⟩:∃ V1,V1=w1.setCells g 0 (af 16 M).toArray.toList:=⟨_,rfl⟩);(have HV1:=Hid.mk' hV1);rw [←hV1] at hAr1 hRr1 hN2 hbw1 hs1;clear hV1;(have hNr2:=hN2.range);(have hAr2:=hAr1.range))
         | (refine J2 rfl 92 _ _ rfl g 0 (af 16 M).toArray rfl rfl hth1 hi2M hoM ?_;rw [←HV1.out];clear hth1)
         | (refine J3 rfl 92 _ rfl g 0 rfl (af 16 M) _ hNr2 Tryz.underlying92 rfl hiM ?_)
         | (refine J3 rfl 92 _ rfl w.heap.size 0 rfl (af 16 A) _ hAr2 Tryz.underlying92 rfl hiA ?_)
         | (go_at_call 120;refine (c2' _).mono ?_;clear c2' hNr2 hAr2;rintro e w2 ⟨rfl,hb2⟩;(have hN3:=hN2.below hb2 hs1);(have hth2:w2.there g 0 (af 16 Q).toArray.size:=by rw [an];exact hN3.there))
         | (with_reducible (refine id (?_:wpList _ _ _ _ _ _));refine J2 rfl 92 _ _ rfl g 0 (af 16 Q).toArray rfl rfl hth2 hi2Q hoQ ?_))
        go_roundw
        case rel =>
         refine ⟨0,Q,by omega,by go_num,?_,hp1 (hbt0),(hAr1.below hb2 (by omega)).farCells (by omega) _ _,(hRr1.below hb2 (by omega)).farCells (by omega) _ _,ac (by omega) _ _ _ (hbw1.trans (hb2.mono hbw1.size)),?_⟩
         · exact hN3.stored
         · rw [(aj _ _ _ _).2.2.2];exact JX hs1 hb2.size
        case measure=>simp [intOf]
      · go_wp2_with (first
         | (refine J3 rfl 92 _ rfl g 0 rfl (af 16 L) _ hNr Tryz.underlying92 rfl hiL ?_)
         | (go_at_call 120;refine c1'.mono ?_;clear c1' hNr;rintro e w1 ⟨rfl,hb1⟩;(have hN1:=hN.below hb1 hs);(have hth1:w1.there g 0 (af 16 M).toArray.size:=by rw [an];exact hN1.there);(have hAr1:=(hAr.below hb1 (by omega)).farCells (k:=g) (by omega) 0 (af 16 M).toArray.toList);(have hRr1:=(hRr.below hb1 (by omega)).farCells (k:=g) (by omega) 0 (af 16 M).toArray.toList);(have hN2:ap (w1.setCells g 0 (af 16 M).toArray.toList) g 16 M:=by rw [List.toList_toArray];exact hN1.stored);(have hbw1:Below w.heap.size w (w1.setCells g 0 (af 16 M).toArray.toList):=ac (by omega) _ _ _ (hb.trans (hb1.mono hb.size)));(have hs1:g<(w1.setCells g 0 (af 16 M).toArray.toList).heap.size:=by rw [(aj _ _ _ _).2.2.2];exact JX hs hb1.size);(obtain ⟨V1,hV1⟩:∃ V1,V1=w1.setCells g 0 (af 16 M).toArray.toList:=⟨_,rfl⟩);(have HV1:=Hid.mk' hV1);rw [←hV1] at hAr1 hRr1 hN2 hbw1 hs1;clear hV1;(have hNr2:=hN2.range);(have hAr2:=hAr1.range))
         | (refine J2 rfl 92 _ _ rfl g 0 (af 16 M).toArray rfl rfl hth1 hi2M hoM ?_;rw [←HV1.out];clear hth1)
         | (refine J3 rfl 92 _ rfl g 0 rfl (af 16 M) _ hNr2 Tryz.underlying92 rfl hiM ?_)
         | (refine J3 rfl 92 _ rfl w.heap.size 0 rfl (af 16 A) _ hAr2 Tryz.underlying92 rfl hiA ?_)
         | (go_at_call 120;refine (c2' _).mono ?_;clear c2' hNr2 hAr2;rintro e w2 ⟨rfl,hb2⟩;(have hN3:=hN2.below hb2 hs1);(have hth2:w2.there g 0 (af 16 Q).toArray.size:=by rw [an];exact hN3.there))
         | (with_reducible (refine id (?_:wpList _ _ _ _ _ _));refine J2 rfl 92 _ _ rfl g 0 (af 16 Q).toArray rfl rfl hth2 hi2Q hoQ ?_))
        go_roundw
        case rel =>
         refine ⟨1,Q,by omega,by go_num,?_,hp1 (hbt1),(hAr1.below hb2 (by omega)).farCells (by omega) _ _,(hRr1.below hb2 (by omega)).farCells (by omega) _ _,ac (by omega) _ _ _ (hbw1.trans (hb2.mono hbw1.size)),?_⟩
         · exact hN3.stored
         · rw [(aj _ _ _ _).2.2.2];exact JX hs1 hb2.size
        case measure=>simp [intOf]
      · go_wp2_with (first
         | (refine J3 rfl 92 _ rfl g 0 rfl (af 16 L) _ hNr Tryz.underlying92 rfl hiL ?_)
         | (go_at_call 120;refine c1'.mono ?_;clear c1' hNr;rintro e w1 ⟨rfl,hb1⟩;(have hN1:=hN.below hb1 hs);(have hth1:w1.there g 0 (af 16 M).toArray.size:=by rw [an];exact hN1.there);(have hAr1:=(hAr.below hb1 (by omega)).farCells (k:=g) (by omega) 0 (af 16 M).toArray.toList);(have hRr1:=(hRr.below hb1 (by omega)).farCells (k:=g) (by omega) 0 (af 16 M).toArray.toList);(have hN2:ap (w1.setCells g 0 (af 16 M).toArray.toList) g 16 M:=by rw [List.toList_toArray];exact hN1.stored);(have hbw1:Below w.heap.size w (w1.setCells g 0 (af 16 M).toArray.toList):=ac (by omega) _ _ _ (hb.trans (hb1.mono hb.size)));(have hs1:g<(w1.setCells g 0 (af 16 M).toArray.toList).heap.size:=by rw [(aj _ _ _ _).2.2.2];exact JX hs hb1.size);(obtain ⟨V1,hV1⟩:∃ V1,V1=w1.setCells g 0 (af 16 M).toArray.toList:=⟨_,rfl⟩);(have HV1:=Hid.mk' hV1);rw [←hV1] at hAr1 hRr1 hN2 hbw1 hs1;clear hV1;(have hNr2:=hN2.range);(have hAr2:=hAr1.range))
         | (refine J2 rfl 92 _ _ rfl g 0 (af 16 M).toArray rfl rfl hth1 hi2M hoM ?_;rw [←HV1.out];clear hth1)
         | fail)
        go_roundw
        case rel=>exact ⟨2,M,by omega,by go_num,hN2,hp0 (hbt2),hAr1,hRr1,hbw1,hs1⟩
        case measure=>simp [intOf]
      · go_wp2_with (first
         | (refine J3 rfl 92 _ rfl g 0 rfl (af 16 L) _ hNr Tryz.underlying92 rfl hiL ?_)
         | (go_at_call 120;refine c1'.mono ?_;clear c1' hNr;rintro e w1 ⟨rfl,hb1⟩;(have hN1:=hN.below hb1 hs);(have hth1:w1.there g 0 (af 16 M).toArray.size:=by rw [an];exact hN1.there);(have hAr1:=(hAr.below hb1 (by omega)).farCells (k:=g) (by omega) 0 (af 16 M).toArray.toList);(have hRr1:=(hRr.below hb1 (by omega)).farCells (k:=g) (by omega) 0 (af 16 M).toArray.toList);(have hN2:ap (w1.setCells g 0 (af 16 M).toArray.toList) g 16 M:=by rw [List.toList_toArray];exact hN1.stored);(have hbw1:Below w.heap.size w (w1.setCells g 0 (af 16 M).toArray.toList):=ac (by omega) _ _ _ (hb.trans (hb1.mono hb.size)));(have hs1:g<(w1.setCells g 0 (af 16 M).toArray.toList).heap.size:=by rw [(aj _ _ _ _).2.2.2];exact JX hs hb1.size);(obtain ⟨V1,hV1⟩:∃ V1,V1=w1.setCells g 0 (af 16 M).toArray.toList:=⟨_,rfl⟩);(have HV1:=Hid.mk' hV1);rw [←hV1] at hAr1 hRr1 hN2 hbw1 hs1;clear hV1;(have hNr2:=hN2.range);(have hAr2:=hAr1.range))
         | (refine J2 rfl 92 _ _ rfl g 0 (af 16 M).toArray rfl rfl hth1 hi2M hoM ?_;rw [←HV1.out];clear hth1)
         | (refine J3 rfl 92 _ rfl g 0 rfl (af 16 M) _ hNr2 Tryz.underlying92 rfl hiM ?_)
         | (refine J3 rfl 92 _ rfl w.heap.size 0 rfl (af 16 A) _ hAr2 Tryz.underlying92 rfl hiA ?_)
         | (go_at_call 120;refine (c2' _).mono ?_;clear c2' hNr2 hAr2;rintro e w2 ⟨rfl,hb2⟩;(have hN3:=hN2.below hb2 hs1);(have hth2:w2.there g 0 (af 16 Q).toArray.size:=by rw [an];exact hN3.there))
         | (with_reducible (refine id (?_:wpList _ _ _ _ _ _));refine J2 rfl 92 _ _ rfl g 0 (af 16 Q).toArray rfl rfl hth2 hi2Q hoQ ?_))
        go_roundw
        case rel =>
         refine ⟨3,Q,by omega,by go_num,?_,hp1 (hbt3),(hAr1.below hb2 (by omega)).farCells (by omega) _ _,(hRr1.below hb2 (by omega)).farCells (by omega) _ _,ac (by omega) _ _ _ (hbw1.trans (hb2.mono hbw1.size)),?_⟩
         · exact hN3.stored
         · rw [(aj _ _ _ _).2.2.2];exact JX hs1 hb2.size
        case measure=>simp [intOf]
      · go_wp2_with (first
         | (refine J3 rfl 92 _ rfl g 0 rfl (af 16 L) _ hNr Tryz.underlying92 rfl hiL ?_)
         | (go_at_call 120;refine c1'.mono ?_;clear c1' hNr;rintro e w1 ⟨rfl,hb1⟩;(have hN1:=hN.below hb1 hs);(have hth1:w1.there g 0 (af 16 M).toArray.size:=by rw [an];exact hN1.there);(have hAr1:=(hAr.below hb1 (by omega)).farCells (k:=g) (by omega) 0 (af 16 M).toArray.toList);(have hRr1:=(hRr.below hb1 (by omega)).farCells (k:=g) (by omega) 0 (af 16 M).toArray.toList);(have hN2:ap (w1.setCells g 0 (af 16 M).toArray.toList) g 16 M:=by rw [List.toList_toArray];exact hN1.stored);(have hbw1:Below w.heap.size w (w1.setCells g 0 (af 16 M).toArray.toList):=ac (by omega) _ _ _ (hb.trans (hb1.mono hb.size)));(have hs1:g<(w1.setCells g 0 (af 16 M).toArray.toList).heap.size:=by rw [(aj _ _ _ _).2.2.2];exact JX hs hb1.size);(obtain ⟨V1,hV1⟩:∃ V1,V1=w1.setCells g 0 (af 16 M).toArray.toList:=⟨_,rfl⟩);(have HV1:=Hid.mk' hV1);rw [←hV1] at hAr1 hRr1 hN2 hbw1 hs1;clear hV1;(have hNr2:=hN2.range);(have hAr2:=hAr1.range))
         | (refine J2 rfl 92 _ _ rfl g 0 (af 16 M).toArray rfl rfl hth1 hi2M hoM ?_;rw [←HV1.out];clear hth1)
         | fail)
        go_roundw
        case rel=>exact ⟨4,M,by omega,by go_num,hN2,hp0 (hbt4),hAr1,hRr1,hbw1,hs1⟩
        case measure=>simp [intOf]
  · have hke:k=0:=by omega
    subst hke;have hiL:=a8 L;have hi2L:=bH L;have hoL:=eM L
    have hth:wr.there (w.heap.size+1) 0 (af 16 L).toArray.size:=by rw [an];exact hRr.there
    have hNr:=hN.range
    go_wp2_with (first
     | (refine J3 rfl 92 _ rfl g 0 rfl (af 16 L) _ hNr Tryz.underlying92 rfl hiL ?_)
     | (refine J2 rfl 92 _ _ rfl (w.heap.size+1) 0 (af 16 L).toArray rfl rfl hth hi2L hoL ?_))
    (try simp only [Exit.inBlock,Exit.then]);refine bodyPost_ret (ai Tryz.results179 _ _ (w.heap.size+1) 0 (af 16 L) _ rfl (World.rangeAt_setCells_same _ _ _ _ (by rw [bl];exact hRr.there)) Tryz.underlying92 rfl hiL) rfl ⟨L,rfl,hL,?_⟩;exact ac (by omega) _ _ _ hb
set_option maxRecDepth 20000 in
set_option maxHeartbeats 2000000 in
theorem li (A:Nat→Int) (a:Nat) (hAb:∀ j,j<16→-131072≤A j∧A j≤131072) (hAm:∀ M m,Rep M m→Rep (bB M A) (m*a)) (w:World) :
 Calls Tryz.prog 126 #[bZ A] w fun e w'=>∃ R,e = .returned (bZ R)∧Rep R (a ^ 57896044618658097711785492504343953926634992332820282019728792003956564819947)∧Below w.heap.size w w':=by
 have hz:=dC
 obtain ⟨W,hW⟩:∃ W,W=(w.alloc (.cells (af 16 A).toArray 92)).alloc (.cells zI 92):=⟨_,rfl⟩
 have HW:=Hid.mk' hW
 have hWs:W.heap.size=w.heap.size+1+1:=by rw [hW];simp
 have hbW:Below w.heap.size w W:=by rw [hW];exact ((Below.refl _ _).alloc (JW _) _).alloc (by simp) _
 have hAr0:ap W w.heap.size 16 A:=by rw [hW];exact (ap.box w 16 A _).below ((Below.refl _ _).alloc (JW _) _) (by simp)
 have hRr0:ap W (w.heap.size+1) 16 (fun _=>0):=by
  have:=ap.fresh (w.alloc (.cells (af 16 A).toArray 92)) zI 92 (n:=16) (L:=fun _=>0) (fun j hj=>dS j hj);rw [World.size_alloc] at this;rw [hW];exact this
 obtain ⟨EX,hEX⟩:∃ EX,EX=a ^ 57896044618658097711785492504343953926634992332820282019728792003956564819947:=⟨_,rfl⟩
 have c1:=uz A a hAb hAm W;rw [←hEX] at c1 ⊢
 have c1':Calls Tryz.prog 179 #[.agg (af 16 A).toArray,.int .i64 255,.int .i64 11,.int .i64 5] W fun e w'=>∃ R,e = .returned (.agg (af 16 R).toArray)∧Rep R EX∧Below W.heap.size W w':=c1
 have hiA:=a8 A;have hAr:=hAr0.range;have hi2:=bH;have hoX:=eM;have hiX:=a8;unfold bZ;clear hW hEX c1;go_enter Tryz.func126,Tryz.ntmps126
 go_wp2_with (first
  | (rw [←HW.out];refine J3 rfl 92 _ rfl w.heap.size 0 rfl (af 16 A) _ hAr Tryz.underlying92 rfl hiA ?_)
  | (go_at_call 179;refine c1'.mono ?_;clear c1' hAr;rintro e w1 ⟨R,rfl,hR,hb1⟩;(have hC1:=hRr0.below hb1 (by omega));(have hth:w1.there (w.heap.size+1) 0 (af 16 R).toArray.size:=by rw [an];exact hC1.there))
  | (with_reducible (refine id (?_:wpList _ _ _ _ _ _));refine J2 rfl 92 _ _ rfl (w.heap.size+1) 0 (af 16 R).toArray rfl rfl hth (hi2 R) (hoX R) ?_))
 (try simp only [Exit.inBlock,Exit.then]);refine bodyPost_ret (ai Tryz.results126 _ _ (w.heap.size+1) 0 (af 16 R) _ rfl (World.rangeAt_setCells_same _ _ _ _ (by rw [bl];exact hC1.there)) Tryz.underlying92 rfl (hiX R)) rfl ⟨R,rfl,hR,?_⟩;exact ac (by omega) _ _ _ (hbW.trans (hb1.mono hbW.size))
theorem IC (x:Int) (h1:-9223372036854775808≤x) (h2:x≤9223372036854775807):∀ i,i≤16→(i<4→cr (kg x) i=0)∧(4≤i→-1≤cr (kg x) i∧cr (kg x) i≤0):=by
 have e3:-32768≤kg x 3∧kg x 3≤32767:=by
  have:kg x 3=x / 281474976710656:=rfl;rw [this];omega
 have el:∀ j,j<3→0≤kg x j∧kg x j≤65535:=fun j hj=>by unfold kg;rw [if_pos hj];omega
 have eh:∀ j,4≤j→kg x j=0:=fun j h=>by unfold kg;rw [if_neg (by omega),if_neg (by omega)]
 intro i
 induction i with
 | zero=>intro _;exact ⟨fun _=>rfl,fun h=>by omega⟩
 | succ i ih =>
  intro hi;have h:=ih (by omega);rw [cr];refine ⟨fun h4 => ?_,fun h4 => ?_⟩
  · rw [h.1 (by omega)]
    have:=el i (by omega);omega
  · by_cases e:i=3
    · subst e;rw [h.1 (by decide)];omega
    · have hi4:=h.2 (by omega)
      rw [eh i (by omega)];omega
theorem yF (x:Int) (h1:-9223372036854775808≤x) (h2:x≤9223372036854775807) (N:Nat) (hN:x%(pF:Int)=((N%pF:Nat):Int)):Rep (aq (kg x)) N:=by
 refine ⟨⟨?_,fun j h0 hj => ?_⟩,?_⟩
 · have:=(IC x h1 h2 16 (JW _)).2 (by decide)
   unfold aq;rw [if_pos rfl];omega
 · unfold aq;rw [if_neg (by omega)];omega
 · rw [bI,ze,show ∀ a b P:Int,a - b*2*P=a+P*(-(b*2)) from fun a b P=>by rw [Int.mul_neg,Int.mul_comm P];omega,Int.add_mul_emod_self_left,hN]
def fj (a b:Nat):Nat:=(a+b)%pF
def cj (a b:Nat):Nat:=(a+pF - b)%pF
def av (a b:Nat):Nat:=a*b%pF
def de (a:Nat):Nat:=a ^ (pF - 2)%pF
theorem eb (a b:Nat):fj a b<pF:=Nat.mod_lt _ (by decide)
theorem dn (a b:Nat):cj a b<pF:=Nat.mod_lt _ (by decide)
theorem aJ (a b:Nat):av a b<pF:=Nat.mod_lt _ (by decide)
theorem tw (a:Nat):de a<pF:=Nat.mod_lt _ (by decide)
theorem Rep.cast {L:Nat→Int} {x y:Nat} (h:Rep L x) (e:x%pF=y%pF):Rep L y:=⟨h.dig,by rw [h.val,e]⟩
structure Rw (L:Nat→Int) (x:Nat):Prop where
 dig:tI 65725 L
 val:aQ L 16%(pF:Int)=((x%pF:Nat):Int)
theorem Rep.wide {L:Nat→Int} {x:Nat} (h:Rep L x):Rw L x:=⟨h.dig.mono (by decide),h.val⟩
theorem Rw.bd {L:Nat→Int} {x:Nat} (h:Rw L x):∀ j,j<16→-131072≤L j∧L j≤131072:=fun j hj=>by have:=h.dig.all (by decide) j hj;omega
theorem Rw.cast {L:Nat→Int} {x y:Nat} (h:Rw L x) (e:x%pF=y%pF):Rw L y:=⟨h.dig,by rw [h.val,e]⟩
theorem je {L M:Nat→Int} {x y:Nat} (hL:Rw L x) (hM:Rw M y):Rep (bB L M) (av x y):=by
 have hbd:=Du L M hL.bd hM.bd 15 16 (by decide) (JW _)
 have hF:∀ j,j<16→-171523813933056≤dh (tP L M 15 16) 16 j∧dh (tP L M 15 16) 16 j≤171523813933056:=fun j hj=>by
  have h1:=hbd j;have h2:=hbd (j+16);unfold dh;rw [if_pos hj]
  split <;> omega
 refine ⟨(fM _ ((eL _ 171523813933056 (by decide) hF).mono (by decide))).1,?_⟩;unfold bB av
 rw [bI,bI,qQ,Ci,show ∀ a b c d P:Int,a - 2*P*d - b*2*P - c*2*P=a+P*(-(2*d) - b*2 - c*2) from fun a b c d P=>by
  rw [Int.mul_sub,Int.mul_sub,Int.mul_neg,Int.mul_comm P (b*2),Int.mul_comm P (c*2),Int.mul_comm 2 P,Int.mul_assoc P 2 d];omega,Int.add_mul_emod_self_left,Int.mul_emod,hL.val,hM.val,←Int.natCast_mul,dI,←Nat.mul_mod,Nat.mod_mod]
def yH (L M:Nat→Int):Nat→Int:=aq (fun j=>L j+M j)
def bC (L M:Nat→Int):Nat→Int:=aq (fun j=>L j - M j)
theorem Ar {L M:Nat→Int} {x y:Nat} (hL:Rep L x) (hM:Rep M y) (hy:y<pF):Rw (bC L M) (cj x y):=by
 have hb:∀ j,j<16→-131146≤L j - M j∧L j - M j≤131146:=fun j hj=>by
  have h1:=hL.dig.all (by decide) j hj;have h2:=hM.dig.all (by decide) j hj;omega
 refine ⟨(eL _ 131146 (by decide) hb).mono (by decide),?_⟩
 have e:aQ (fun j=>L j - M j) 16=aQ L 16 - aQ M 16:=by
  have:=jb L M (-1) 16;simp only [Int.neg_mul,Int.one_mul,←Int.sub_eq_add_neg] at this;exact this
 unfold bC cj;rw [bI,e,show ∀ a b P:Int,a - b*2*P=a+P*(-(b*2)) from fun a b P=>by rw [Int.mul_neg,Int.mul_comm P];omega,Int.add_mul_emod_self_left,Int.sub_emod,hL.val,hM.val,←dI,←dI,←Int.sub_emod,Nat.mod_mod,←dI,show ((x+pF - y:Nat):Int)=((x:Int) - (y:Int))+(pF:Int)*1 by omega,Int.add_mul_emod_self_left]
def aD (L:Nat→Int):List Value:=af 16 L
def rV (L:Nat→Int):Value := .agg (aD L).toArray
theorem ao (L:Nat→Int):(aD L).length=16:=bl 16 L
theorem FW:zI=(aD (fun _=>0)).toArray:=by kernel_rfl
theorem dj (w:World):∃ w' g,w.alloc (.cells zI 92)=w'∧w.heap.size=g∧Below w.heap.size w w'∧RW w' g 0 (aD (fun _=>0)):=by
 refine ⟨_,_,rfl,rfl,(Below.refl _ _).alloc (JW _) _,?_⟩;rw [FW];exact RW.fresh w _ _
theorem aG (L:Nat→Int):(Tryz.prog.info? 92).map (·.size)=some (aD L).length:=a8 L
theorem bQ (L:Nat→Int):(Tryz.prog.info? 92).map (·.size)=some (aD L).toArray.size:=bH L
theorem fC (L:Nat→Int):(aD L).toArray.all (·.oneCell')=true:=eM L
theorem bp {o:Oper} {a:Act} {cur V:World} {K:Act→World→Prop} {Q:Exit→Act→World→Prop} (x y:Operand) (ho:o.op = .store 92 x y) (g:Nat) (M L:Nat→Int) (hx:a.eval x = .pointer (some ⟨g,0,none⟩)) (hy:a.eval y=rV L) (r:RW cur g 0 (aD M)) (S:Below V.heap.size V cur) (G:V.heap.size≤g)
 (h:∀ W1,RW W1 g 0 (aD L)→Below V.heap.size V W1→K (a.put o.dst undef) W1):o.wp Tryz.prog a cur K Q :=
 wp_store_mid 92 x y ho g 0 (aD L).toArray hx hy (by rw [List.size_toArray,ao];have:=r.there;rwa [ao] at this) (bQ L) (fC L) (h _ (r.stored (aD L) (by rw [ao,ao])) (ac G _ _ _ S))
theorem dx (w:World):RW (w.alloc (.cells zI 92)) w.heap.size 0 (aD (fun _=>0)):=by rw [FW];exact RW.fresh w _ _
theorem dH (w:World) (L:Nat→Int):(w.alloc (.cells zI 92)).there w.heap.size 0 (aD L).toArray.size:=by
 have h:=(dx w).there;rw [ao] at h
 have e:(aD L).toArray.size=16:=by rw [List.size_toArray];exact ao L
 rw [e];exact h
end Go.Proofs.YtibdhadbflfdpaaGreatDoor
