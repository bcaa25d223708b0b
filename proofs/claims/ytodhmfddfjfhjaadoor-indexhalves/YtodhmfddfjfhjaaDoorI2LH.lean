/- The law IndexHalves. -/
import Derived.Test.YtodhmfddfjfhjaaDoorI2AtM
namespace Go.Proofs.YtodhmfddfjfhjaaDoor
open Go.RowKit
def cntN (y:Nat):Nat→Nat
 | 0=>0
 | k+1=>cntN y k+if belB (y:Int) (k:Int) then 1 else 0
theorem cntN_le (y:Nat):∀ k,cntN y k≤k
 | 0=>Nat.le_refl _
 | k+1=>by
  have:=cntN_le y k
  show cntN y k+(if belB (y:Int) (k:Int) then 1 else 0)≤k+1
  split <;> omega
theorem halves_tab:∀ y,y<127→(cntN y 64=2 ^ levN y)∧(y%2=1→∀ i:Nat,i<64→belB (y:Int) (i:Int)=(belB (lftN y:Int) (i:Int) || belB (rgtN y:Int) (i:Int))∧(belB (lftN y:Int) (i:Int) && belB (rgtN y:Int) (i:Int))=false):=by
 have h1:(List.range 127).all (fun y=>cntN y 64 == 2 ^ levN y)=true:=by kernel_rfl
 have h2:(List.range 127).all (fun y=>y%2 == 0 || (List.range 64).all fun i=>(belB (y:Int) (i:Int) == (belB (lftN y:Int) (i:Int) || belB (rgtN y:Int) (i:Int))) && !(belB (lftN y:Int) (i:Int) && belB (rgtN y:Int) (i:Int)))=true:=by kernel_rfl
 intro y hy
 refine ⟨by simpa using List.all_eq_true.1 h1 y (List.mem_range.2 hy),fun ho i hi => ?_⟩
 have h3:=List.all_eq_true.1 h2 y (List.mem_range.2 hy)
 rw [show (y%2 == 0)=false by simp [ho],Bool.false_or] at h3
 have h4:=List.all_eq_true.1 h3 i (List.mem_range.2 hi)
 simp only [Bool.and_eq_true,beq_iff_eq,Bool.not_eq_true'] at h4
 exact h4
theorem norm_place (x:Int) (m:Nat) (hm:0<m) (hm2:m<1000):∃ y:Nat,y<m∧Int.tmod (wrap64 (Int.tmod x (m:Int)+(m:Int))) (m:Int)=(y:Int):=by
 have h1:=Int.tmod_lt_of_pos x (show (0:Int)<(m:Int) by omega)
 have h2:=Int.lt_tmod_of_pos x (show (0:Int)<(m:Int) by omega)
 have e1:wrap64 (Int.tmod x (m:Int)+(m:Int))=Int.tmod x (m:Int)+(m:Int):=by unfold wrap64;omega
 rw [e1]
 have h3:=Int.tmod_nonneg (m:Int) (show 0≤Int.tmod x (m:Int)+(m:Int) by omega)
 have h4:=Int.tmod_lt_of_pos (Int.tmod x (m:Int)+(m:Int)) (show (0:Int)<(m:Int) by omega)
 exact ⟨(Int.tmod (Int.tmod x (m:Int)+(m:Int)) (m:Int)).toNat,by omega,by omega⟩
set_option maxRecDepth 20000 in
set_option maxHeartbeats 8000000 in
theorem indexHalves_any (x:Int) (w:World) (hT:DbT w):Calls Tryd.prog 7 #[.int .i64 x] w fun e w'=>e = .returned (.bool true)∧Below w.heap.size w w':=by
 obtain ⟨y,hy,hxy⟩:=norm_place x 127 (by decide) (by decide)
 replace hxy:Int.tmod (wrap64 (Int.tmod x 127+127)) 127=(y:Int):=hxy
 obtain ⟨hcnt,hhalf⟩:=halves_tab y hy
 obtain ⟨el,er⟩:=lr_at hy
 have cl:=iLeft_any (y:Int)
 have cr:=iRight_any (y:Int)
 rw [el] at cl
 rw [er] at cr
 have cv:=jLevel_any (y:Int) (by omega)
 have e9:levA (y:Int)=(levN y:Int):=by unfold levA;rw [if_neg (by omega),Int.toNat_natCast]
 rw [e9] at cv
 have h6:=lev_le6 hy
 have cA:=fun i=>iBelow_any (y:Int) i
 have Hcnt:=Hid.mk' hcnt
 clear el er e9 hcnt
 have B0:Below w.heap.size w w:=Below.refl _ _
 by_cases ho:y%2=1
 · rw [if_pos ho] at cl cr
   have hh:=hhalf ho
   have cL:=fun i=>iBelow_any (lftN y:Int) i
   have cR:=fun i=>iBelow_any (rgtN y:Int) i
   have t7:Int.tmod (y:Int) 2=1:=by rw [Int.tmod_eq_emod_of_nonneg (by omega)];omega
   obtain ⟨a,ha⟩:∃ a:Int,a=(lftN y:Int):=⟨_,rfl⟩
   obtain ⟨b,hb⟩:∃ b:Int,b=(rgtN y:Int):=⟨_,rfl⟩
   rw [←ha] at cl cL
   rw [←hb] at cr cR
   rw [←ha,←hb] at hh
   have HHf:=Hid.mk' hh
   obtain ⟨yi,hyi⟩:∃ z:Int,z=(y:Int):=⟨_,rfl⟩
   rw [←hyi] at cl cr cv cA hxy t7
   have HY:=Hid.mk' hyi
   dsimp only at cl cr
   clear ha hb hhalf hh ho hyi
   go_enter Tryd.func7,Tryd.ntmps7
   go_wp2_with (first
    | (go_at_call 8;refine (cl _ (hT.keep B0)).mono ?_;clear cl;rintro e w1 ⟨rfl,b1⟩;(replace B0:=below_next B0 b1);clear b1)
    | (go_at_call 10;refine (cr _ (hT.keep B0)).mono ?_;clear cr;rintro e w2 ⟨rfl,b2⟩;(replace B0:=below_next B0 b2);clear b2))
   go_loopw [7,8] (fun n i wr=>∃ q:Nat,q≤64∧i = .int .i64 (q:Int)∧(∃ k:Nat,n = .int .i64 (k:Int)∧Hid (k=cntN y q))∧Below w.heap.size w wr) (fun _ i _=>64 - (intOf i).toNat)
   case atStart=>exact ⟨0,by decide,rfl,⟨0,rfl,Hid.mk' rfl⟩,B0⟩
   case round =>
    clear B0
    obtain ⟨q,hq,rfl,⟨k,rfl,HK⟩,B⟩:=hrel
    by_cases hlt:q<64
    · obtain ⟨g1,g2⟩:=HHf.out q hlt
      have cA:=cA (q:Int)
      have cL:=cL (q:Int)
      have cR:=cR (q:Int)
      have hstep:cntN y (q+1)=cntN y q+if belB (y:Int) (q:Int) then 1 else 0:=rfl
      have hkl:k≤64:=by rw [HK.out];have:=cntN_le y q;omega
      rw [←HY.out] at g1 hstep
      have t0:(q:Int)<64:=by omega
      have t8:IntKind.i64.wrap ((k:Int)+1)=(k:Int)+1:=by simp only [IntKind.wrap_i64];omega
      have t9:IntKind.i64.wrap ((q:Int)+1)=(q:Int)+1:=by simp only [IntKind.wrap_i64];omega
      rw [HY.out] at hstep
      have HS:Hid (cntN y (q+1)=cntN y q+if belB yi (q:Int) then 1 else 0):=by rw [HY.out];exact hstep
      clear hstep
      generalize belB yi (q:Int)=A at *
      generalize belB a (q:Int)=L at *
      generalize belB b (q:Int)=R at *
      subst g1
      cases L <;> cases R <;> first
       | (exact absurd g2 (by decide))
       | (clear g2
          go_wp2_with (first
           | (go_at_call 30;with_reducible refine (cA _ (hT.keep B)).mono ?_;rintro e w3 ⟨rfl,b3⟩;(replace B:=below_next B b3);clear b3)
           | (go_at_call 30;with_reducible refine (cL _ (hT.keep B)).mono ?_;rintro e w3 ⟨rfl,b3⟩;(replace B:=below_next B b3);clear b3)
           | (go_at_call 30;with_reducible refine (cR _ (hT.keep B)).mono ?_;rintro e w3 ⟨rfl,b3⟩;(replace B:=below_next B b3);clear b3))
          go_roundw
          case rel=>exact ⟨q+1,hlt,by go_num,⟨_,rfl,by rw [HS.out,←HK.out];rfl⟩,B⟩
          case measure=>simp [intOf];omega)
    · obtain rfl:q=64:=by omega
      have hk:k=2 ^ levN y:=by rw [HK.out,Hcnt.out]
      subst hk
      generalize levN y=n at *
      clear HK HHf cA cL cR
      rcases (show n=0∨n=1∨n=2∨n=3∨n=4∨n=5∨n=6 by omega) with rfl | rfl | rfl | rfl | rfl | rfl | rfl <;>
      · go_wp2_with (first
         | (go_at_call 20;refine (cv _ (hT.keep B)).mono ?_;clear cv;rintro e w4 ⟨rfl,b4⟩;(replace B:=below_next B b4);clear b4)
         | (go_at_call 22;refine (knows12 _ (hT.keep B)).mono ?_;rintro e w99 ⟨rfl,b99⟩))
        go_ret
        exact ⟨rfl,below_next B b99⟩
 · rw [if_neg ho] at cl cr
   have t7:Int.tmod (y:Int) 2=0:=by rw [Int.tmod_eq_emod_of_nonneg (by omega)];omega
   obtain ⟨yi,hyi⟩:∃ z:Int,z=(y:Int):=⟨_,rfl⟩
   rw [←hyi] at cl cr cv cA hxy t7
   have HY:=Hid.mk' hyi
   dsimp only at cl cr
   clear hhalf ho hyi
   go_enter Tryd.func7,Tryd.ntmps7
   go_wp2_with (first
    | (go_at_call 8;refine (cl _ (hT.keep B0)).mono ?_;clear cl;rintro e w1 ⟨rfl,b1⟩;(replace B0:=below_next B0 b1);clear b1)
    | (go_at_call 10;refine (cr _ (hT.keep B0)).mono ?_;clear cr;rintro e w2 ⟨rfl,b2⟩;(replace B0:=below_next B0 b2);clear b2))
   go_loopw [7,8] (fun n i wr=>∃ q:Nat,q≤64∧i = .int .i64 (q:Int)∧(∃ k:Nat,n = .int .i64 (k:Int)∧Hid (k=cntN y q))∧Below w.heap.size w wr) (fun _ i _=>64 - (intOf i).toNat)
   case atStart=>exact ⟨0,by decide,rfl,⟨0,rfl,Hid.mk' rfl⟩,B0⟩
   case round =>
    clear B0
    obtain ⟨q,hq,rfl,⟨k,rfl,HK⟩,B⟩:=hrel
    by_cases hlt:q<64
    · have cA:=cA (q:Int)
      have hstep:cntN y (q+1)=cntN y q+if belB (y:Int) (q:Int) then 1 else 0:=rfl
      have hkl:k≤64:=by rw [HK.out];have:=cntN_le y q;omega
      rw [←HY.out] at hstep
      have t0:(q:Int)<64:=by omega
      have t8:IntKind.i64.wrap ((k:Int)+1)=(k:Int)+1:=by simp only [IntKind.wrap_i64];omega
      have t9:IntKind.i64.wrap ((q:Int)+1)=(q:Int)+1:=by simp only [IntKind.wrap_i64];omega
      rw [HY.out] at hstep
      have HS:Hid (cntN y (q+1)=cntN y q+if belB yi (q:Int) then 1 else 0):=by rw [HY.out];exact hstep
      clear hstep
      generalize belB yi (q:Int)=A at *
      cases A <;>
      · go_wp2_with (go_at_call 30;with_reducible refine (cA _ (hT.keep B)).mono ?_;rintro e w3 ⟨rfl,b3⟩;(replace B:=below_next B b3);clear b3)
        go_roundw
        case rel=>exact ⟨q+1,hlt,by go_num,⟨_,rfl,by rw [HS.out,←HK.out];rfl⟩,B⟩
        case measure=>simp [intOf];omega
    · obtain rfl:q=64:=by omega
      have hk:k=2 ^ levN y:=by rw [HK.out,Hcnt.out]
      subst hk
      generalize levN y=n at *
      clear HK cA
      rcases (show n=0∨n=1∨n=2∨n=3∨n=4∨n=5∨n=6 by omega) with rfl | rfl | rfl | rfl | rfl | rfl | rfl <;>
      · go_wp2_with (first
         | (go_at_call 20;refine (cv _ (hT.keep B)).mono ?_;clear cv;rintro e w4 ⟨rfl,b4⟩;(replace B:=below_next B b4);clear b4)
         | (go_at_call 22;refine (knows12 _ (hT.keep B)).mono ?_;rintro e w99 ⟨rfl,b99⟩))
        go_ret
        exact ⟨rfl,below_next B b99⟩
end Go.Proofs.YtodhmfddfjfhjaaDoor
