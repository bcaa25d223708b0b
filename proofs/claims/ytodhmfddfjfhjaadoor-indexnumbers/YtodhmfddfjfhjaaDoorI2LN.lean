/- The law IndexNumbers, over what At answers. -/
import Derived.Test.YtodhmfddfjfhjaaDoorI2AtM
namespace Go.Proofs.YtodhmfddfjfhjaaDoor
open Go.RowKit
def AtOk:Prop:=(∀ (z1 z2:Int),-1≤z1→z1<9→-1≤z2→z2<79→∀ w,Calls Tryd.prog 34 #[.complex .f64 (floatOfInt .f64 z1) (floatOfInt .f64 z2)] w fun e w'=>e = .returned (.int .i64 (plaF z1 z2 127))∧Below w.heap.size w w')∧(∀ (z1 z2:Int),-1≤z1→z1<9→-1≤z2→z2<79→∀ w,Calls Tryd.prog 34 #[.complex .f64 (hlfB z1) (floatOfInt .f64 z2)] w fun e w'=>e = .returned (.int .i64 (-1))∧Below w.heap.size w w')
set_option maxRecDepth 20000 in
set_option maxHeartbeats 8000000 in
theorem indexNumbers_in (hAt:AtOk) (y:Nat) (hy:y<127) (l c:Int) (w:World) (hT:DbT w):Calls Tryd.prog 5 #[.int .i64 (y:Int),.int .i64 l,.int .i64 c] w fun e w'=>e = .returned (.bool true)∧Below w.heap.size w w':=by
 obtain ⟨z1,a1,a2,e1⟩:=norm_less l 10 (by decide) (by decide)
 obtain ⟨z2,b1,b2,e2⟩:=norm_less c 80 (by decide) (by decide)
 replace e1:wrap64 (Int.tmod (wrap64 (Int.tmod l 10+10)) 10 - 1)=z1:=e1
 replace e2:wrap64 (Int.tmod (wrap64 (Int.tmod c 80+80)) 80 - 1)=z2:=e2
 obtain ⟨p1,p2⟩:=pla_tab y hy
 have h6:=lev_le6 hy
 have cP:=jPlace_any (y:Int)
 have eP:plcA (y:Int)=(floatOfInt .f64 (levN y:Int),floatOfInt .f64 (colN y:Int)):=by unfold plcA;rw [if_neg (by omega),Int.toNat_natCast]
 rw [eP] at cP
 dsimp only at cP
 have cLv:=rLevel_pos y (by omega)
 have cCo:=rColumn_any y hy
 have cA1:=hAt.1 (levN y:Int) (colN y:Int) (by omega) (by omega) (by omega) (by omega)
 rw [p1] at cA1
 have s1:=fl_same (levN y) (by omega)
 have s2:=fl_same (colN y) (by omega)
 have cA2:=hAt.1 z1 z2 a1 (by omega) b1 (by omega)
 have cA3:=hAt.2 z1 z2 a1 (by omega) b1 (by omega)
 have hadd:=add_half z1 a1 (by omega)
 have t0:¬(y:Int)<0:=by omega
 have t1:¬(127:Int)≤(y:Int):=by omega
 replace s1:=beq_iff_eq.1 s1
 replace s2:=beq_iff_eq.1 s2
 generalize levN y=n1 at *
 generalize colN y=n2 at *
 have B:Below w.heap.size w w:=Below.refl _ _
 clear p1 p2 eP hAt
 go_enter Tryd.func5,Tryd.ntmps5
 go_wp2_with (first
  | (go_at_call 32;refine (cP _ (hT.keep B)).mono ?_;clear cP;rintro e w1 ⟨rfl,b1'⟩;(replace B:=below_next B b1');clear b1')
  | (go_at_call 21;refine (cLv _).mono ?_;clear cLv;rintro e w2 ⟨rfl,hw⟩;subst hw)
  | (go_at_call 33;refine (cCo _).mono ?_;clear cCo;rintro e w2 ⟨rfl,hw⟩;subst hw)
  | (go_at_call 34;refine (cA1 _).mono ?_;clear cA1;rintro e w3 ⟨rfl,b3⟩;(replace B:=below_next B b3);clear b3))
 rw [e1,e2]
 clear t0 t1 s1 s2 e1 e2
 go_loopw [8,9] (fun o i wr=>∃ q:Nat,q≤127∧i = .int .i64 (q:Int)∧(∃ z:Int,o = .int .i64 z∧Hid (z=plaF z1 z2 q))∧Below w.heap.size w wr) (fun _ i _=>127 - (intOf i).toNat)
 case atStart=>exact ⟨0,by decide,rfl,⟨-1,rfl,Hid.mk' rfl⟩,B⟩
 case round =>
  clear B
  obtain ⟨q,hq,rfl,⟨z,rfl,HZ⟩,B⟩:=hrel
  by_cases hlt:q<127
  · have cl:=rLevel_pos q (by omega) wr
    have cc:=rColumn_any q hlt wr
    have hstep:plaF z1 z2 (q+1)=if (levN q:Int)=z1∧(colN q:Int)=z2 then (q:Int) else plaF z1 z2 q:=rfl
    rw [←HZ.out] at hstep
    have u0:(q:Int)<127:=by omega
    have u9:IntKind.i64.wrap ((q:Int)+1)=(q:Int)+1:=by simp only [IntKind.wrap_i64];omega
    obtain ⟨v1,hv1⟩:∃ v:Int,v=(levN q:Int):=⟨_,rfl⟩
    obtain ⟨v2,hv2⟩:∃ v:Int,v=(colN q:Int):=⟨_,rfl⟩
    rw [←hv1] at cl hstep
    rw [←hv2] at cc hstep
    have HS:=Hid.mk' hstep
    clear hv1 hv2 hstep
    by_cases hA:v1=z1
    · by_cases hB:v2=z2
      · have hr:Hid (plaF z1 z2 (q+1)=(q:Int)):=HS.out.trans (if_pos ⟨hA,hB⟩)
        subst hA
        subst hB
        clear HS HZ
        go_wp2_with (first
         | (go_at_call 21;refine cl.mono ?_;clear cl;rintro e w4 ⟨rfl,hw⟩;subst hw)
         | (go_at_call 33;refine cc.mono ?_;clear cc;rintro e w4 ⟨rfl,hw⟩;subst hw))
        go_roundw
        case rel=>exact ⟨q+1,hlt,by go_num,⟨_,rfl,Hid.mk' hr.out.symm⟩,B⟩
        case measure=>simp [intOf];omega
      · have hr:Hid (plaF z1 z2 (q+1)=z):=HS.out.trans (if_neg (fun e=>hB e.2))
        have hB':(v2 == z2)=false:=by simp [hB]
        subst hA
        go_wp2_with (first
         | (go_at_call 21;refine cl.mono ?_;clear cl;rintro e w4 ⟨rfl,hw⟩;subst hw)
         | (go_at_call 33;refine cc.mono ?_;clear cc;rintro e w4 ⟨rfl,hw⟩;subst hw))
        go_roundw
        case rel=>exact ⟨q+1,hlt,by go_num,⟨_,rfl,Hid.mk' hr.out.symm⟩,B⟩
        case measure=>simp [intOf];omega
    · have hr:Hid (plaF z1 z2 (q+1)=z):=HS.out.trans (if_neg (fun e=>hA e.1))
      have hA':(v1 == z1)=false:=by simp [hA]
      go_wp2_with (first
       | (go_at_call 21;refine cl.mono ?_;clear cl;rintro e w4 ⟨rfl,hw⟩;subst hw)
       | (go_at_call 33;refine cc.mono ?_;clear cc;rintro e w4 ⟨rfl,hw⟩;subst hw))
      go_roundw
      case rel=>exact ⟨q+1,hlt,by go_num,⟨_,rfl,Hid.mk' hr.out.symm⟩,B⟩
      case measure=>simp [intOf];omega
  · obtain rfl:q=127:=by omega
    rw [←HZ.out] at cA2
    clear HZ
    generalize hlfB z1=hb at *
    go_wp2_with (first
     | (go_at_call 34;with_reducible refine (cA2 _).mono ?_;clear cA2;rintro e w5 ⟨rfl,b5⟩;(replace B:=below_next B b5);clear b5)
     | (go_at_call 34;with_reducible refine (cA3 _).mono ?_;clear cA3;rintro e w6 ⟨rfl,b6⟩;(replace B:=below_next B b6);clear b6)
     | (go_at_call 22;refine (knows12 _ (hT.keep B)).mono ?_;rintro e w99 ⟨rfl,b99⟩))
    go_ret
    exact ⟨rfl,below_next B b99⟩
set_option maxRecDepth 20000 in
set_option maxHeartbeats 8000000 in
theorem indexNumbers_low (hAt:AtOk) (x:Int) (h0:x<0) (l c:Int) (w:World) (hT:DbT w):Calls Tryd.prog 5 #[.int .i64 x,.int .i64 l,.int .i64 c] w fun e w'=>e = .returned (.bool true)∧Below w.heap.size w w':=by
 obtain ⟨z1,a1,a2,e1⟩:=norm_less l 10 (by decide) (by decide)
 obtain ⟨z2,b1,b2,e2⟩:=norm_less c 80 (by decide) (by decide)
 replace e1:wrap64 (Int.tmod (wrap64 (Int.tmod l 10+10)) 10 - 1)=z1:=e1
 replace e2:wrap64 (Int.tmod (wrap64 (Int.tmod c 80+80)) 80 - 1)=z2:=e2
 have cP:=jPlace_any x
 have eP:plcA x=(13830554455654793216,0):=by unfold plcA;rw [if_pos (by omega)]
 rw [eP] at cP
 dsimp only at cP
 have s1:FloatKind.f64.format.order 13830554455654793216 13830554455654793216=some Ordering.eq:=by kernel_rfl
 have s2:FloatKind.f64.format.order 0 0=some Ordering.eq:=by kernel_rfl
 have cA2:=hAt.1 z1 z2 a1 (by omega) b1 (by omega)
 have cA3:=hAt.2 z1 z2 a1 (by omega) b1 (by omega)
 have hadd:=add_half z1 a1 (by omega)
 have B:Below w.heap.size w w:=Below.refl _ _
 clear eP hAt
 go_enter Tryd.func5,Tryd.ntmps5
 go_wp2_with (go_at_call 32;refine (cP _ (hT.keep B)).mono ?_;clear cP;rintro e w1 ⟨rfl,b1'⟩;(replace B:=below_next B b1');clear b1')
 rw [e1,e2]
 clear h0 s1 s2 e1 e2
 go_loopw [8,9] (fun o i wr=>∃ q:Nat,q≤127∧i = .int .i64 (q:Int)∧(∃ z:Int,o = .int .i64 z∧Hid (z=plaF z1 z2 q))∧Below w.heap.size w wr) (fun _ i _=>127 - (intOf i).toNat)
 case atStart=>exact ⟨0,by decide,rfl,⟨-1,rfl,Hid.mk' rfl⟩,B⟩
 case round =>
  clear B
  obtain ⟨q,hq,rfl,⟨z,rfl,HZ⟩,B⟩:=hrel
  by_cases hlt:q<127
  · have cl:=rLevel_pos q (by omega) wr
    have cc:=rColumn_any q hlt wr
    have hstep:plaF z1 z2 (q+1)=if (levN q:Int)=z1∧(colN q:Int)=z2 then (q:Int) else plaF z1 z2 q:=rfl
    rw [←HZ.out] at hstep
    have u0:(q:Int)<127:=by omega
    have u9:IntKind.i64.wrap ((q:Int)+1)=(q:Int)+1:=by simp only [IntKind.wrap_i64];omega
    obtain ⟨v1,hv1⟩:∃ v:Int,v=(levN q:Int):=⟨_,rfl⟩
    obtain ⟨v2,hv2⟩:∃ v:Int,v=(colN q:Int):=⟨_,rfl⟩
    rw [←hv1] at cl hstep
    rw [←hv2] at cc hstep
    have HS:=Hid.mk' hstep
    clear hv1 hv2 hstep
    by_cases hA:v1=z1
    · by_cases hB:v2=z2
      · have hr:Hid (plaF z1 z2 (q+1)=(q:Int)):=HS.out.trans (if_pos ⟨hA,hB⟩)
        subst hA
        subst hB
        clear HS HZ
        go_wp2_with (first
         | (go_at_call 21;refine cl.mono ?_;clear cl;rintro e w4 ⟨rfl,hw⟩;subst hw)
         | (go_at_call 33;refine cc.mono ?_;clear cc;rintro e w4 ⟨rfl,hw⟩;subst hw))
        go_roundw
        case rel=>exact ⟨q+1,hlt,by go_num,⟨_,rfl,Hid.mk' hr.out.symm⟩,B⟩
        case measure=>simp [intOf];omega
      · have hr:Hid (plaF z1 z2 (q+1)=z):=HS.out.trans (if_neg (fun e=>hB e.2))
        have hB':(v2 == z2)=false:=by simp [hB]
        subst hA
        go_wp2_with (first
         | (go_at_call 21;refine cl.mono ?_;clear cl;rintro e w4 ⟨rfl,hw⟩;subst hw)
         | (go_at_call 33;refine cc.mono ?_;clear cc;rintro e w4 ⟨rfl,hw⟩;subst hw))
        go_roundw
        case rel=>exact ⟨q+1,hlt,by go_num,⟨_,rfl,Hid.mk' hr.out.symm⟩,B⟩
        case measure=>simp [intOf];omega
    · have hr:Hid (plaF z1 z2 (q+1)=z):=HS.out.trans (if_neg (fun e=>hA e.1))
      have hA':(v1 == z1)=false:=by simp [hA]
      go_wp2_with (first
       | (go_at_call 21;refine cl.mono ?_;clear cl;rintro e w4 ⟨rfl,hw⟩;subst hw)
       | (go_at_call 33;refine cc.mono ?_;clear cc;rintro e w4 ⟨rfl,hw⟩;subst hw))
      go_roundw
      case rel=>exact ⟨q+1,hlt,by go_num,⟨_,rfl,Hid.mk' hr.out.symm⟩,B⟩
      case measure=>simp [intOf];omega
  · obtain rfl:q=127:=by omega
    rw [←HZ.out] at cA2
    clear HZ
    generalize hlfB z1=hb at *
    go_wp2_with (first
     | (go_at_call 34;with_reducible refine (cA2 _).mono ?_;clear cA2;rintro e w5 ⟨rfl,b5⟩;(replace B:=below_next B b5);clear b5)
     | (go_at_call 34;with_reducible refine (cA3 _).mono ?_;clear cA3;rintro e w6 ⟨rfl,b6⟩;(replace B:=below_next B b6);clear b6)
     | (go_at_call 22;refine (knows12 _ (hT.keep B)).mono ?_;rintro e w99 ⟨rfl,b99⟩))
    go_ret
    exact ⟨rfl,below_next B b99⟩
set_option maxRecDepth 20000 in
set_option maxHeartbeats 8000000 in
theorem indexNumbers_high (hAt:AtOk) (x:Int) (h0:127≤x) (l c:Int) (w:World) (hT:DbT w):Calls Tryd.prog 5 #[.int .i64 x,.int .i64 l,.int .i64 c] w fun e w'=>e = .returned (.bool true)∧Below w.heap.size w w':=by
 obtain ⟨z1,a1,a2,e1⟩:=norm_less l 10 (by decide) (by decide)
 obtain ⟨z2,b1,b2,e2⟩:=norm_less c 80 (by decide) (by decide)
 replace e1:wrap64 (Int.tmod (wrap64 (Int.tmod l 10+10)) 10 - 1)=z1:=e1
 replace e2:wrap64 (Int.tmod (wrap64 (Int.tmod c 80+80)) 80 - 1)=z2:=e2
 have cP:=jPlace_any x
 have eP:plcA x=(13830554455654793216,0):=by unfold plcA;rw [if_pos (by omega)]
 rw [eP] at cP
 dsimp only at cP
 have s1:FloatKind.f64.format.order 13830554455654793216 13830554455654793216=some Ordering.eq:=by kernel_rfl
 have s2:FloatKind.f64.format.order 0 0=some Ordering.eq:=by kernel_rfl
 have cA2:=hAt.1 z1 z2 a1 (by omega) b1 (by omega)
 have cA3:=hAt.2 z1 z2 a1 (by omega) b1 (by omega)
 have hadd:=add_half z1 a1 (by omega)
 have t0:¬x<0:=by omega
 have B:Below w.heap.size w w:=Below.refl _ _
 clear eP hAt
 go_enter Tryd.func5,Tryd.ntmps5
 go_wp2_with (go_at_call 32;refine (cP _ (hT.keep B)).mono ?_;clear cP;rintro e w1 ⟨rfl,b1'⟩;(replace B:=below_next B b1');clear b1')
 rw [e1,e2]
 clear h0 t0 s1 s2 e1 e2
 go_loopw [8,9] (fun o i wr=>∃ q:Nat,q≤127∧i = .int .i64 (q:Int)∧(∃ z:Int,o = .int .i64 z∧Hid (z=plaF z1 z2 q))∧Below w.heap.size w wr) (fun _ i _=>127 - (intOf i).toNat)
 case atStart=>exact ⟨0,by decide,rfl,⟨-1,rfl,Hid.mk' rfl⟩,B⟩
 case round =>
  clear B
  obtain ⟨q,hq,rfl,⟨z,rfl,HZ⟩,B⟩:=hrel
  by_cases hlt:q<127
  · have cl:=rLevel_pos q (by omega) wr
    have cc:=rColumn_any q hlt wr
    have hstep:plaF z1 z2 (q+1)=if (levN q:Int)=z1∧(colN q:Int)=z2 then (q:Int) else plaF z1 z2 q:=rfl
    rw [←HZ.out] at hstep
    have u0:(q:Int)<127:=by omega
    have u9:IntKind.i64.wrap ((q:Int)+1)=(q:Int)+1:=by simp only [IntKind.wrap_i64];omega
    obtain ⟨v1,hv1⟩:∃ v:Int,v=(levN q:Int):=⟨_,rfl⟩
    obtain ⟨v2,hv2⟩:∃ v:Int,v=(colN q:Int):=⟨_,rfl⟩
    rw [←hv1] at cl hstep
    rw [←hv2] at cc hstep
    have HS:=Hid.mk' hstep
    clear hv1 hv2 hstep
    by_cases hA:v1=z1
    · by_cases hB:v2=z2
      · have hr:Hid (plaF z1 z2 (q+1)=(q:Int)):=HS.out.trans (if_pos ⟨hA,hB⟩)
        subst hA
        subst hB
        clear HS HZ
        go_wp2_with (first
         | (go_at_call 21;refine cl.mono ?_;clear cl;rintro e w4 ⟨rfl,hw⟩;subst hw)
         | (go_at_call 33;refine cc.mono ?_;clear cc;rintro e w4 ⟨rfl,hw⟩;subst hw))
        go_roundw
        case rel=>exact ⟨q+1,hlt,by go_num,⟨_,rfl,Hid.mk' hr.out.symm⟩,B⟩
        case measure=>simp [intOf];omega
      · have hr:Hid (plaF z1 z2 (q+1)=z):=HS.out.trans (if_neg (fun e=>hB e.2))
        have hB':(v2 == z2)=false:=by simp [hB]
        subst hA
        go_wp2_with (first
         | (go_at_call 21;refine cl.mono ?_;clear cl;rintro e w4 ⟨rfl,hw⟩;subst hw)
         | (go_at_call 33;refine cc.mono ?_;clear cc;rintro e w4 ⟨rfl,hw⟩;subst hw))
        go_roundw
        case rel=>exact ⟨q+1,hlt,by go_num,⟨_,rfl,Hid.mk' hr.out.symm⟩,B⟩
        case measure=>simp [intOf];omega
    · have hr:Hid (plaF z1 z2 (q+1)=z):=HS.out.trans (if_neg (fun e=>hA e.1))
      have hA':(v1 == z1)=false:=by simp [hA]
      go_wp2_with (first
       | (go_at_call 21;refine cl.mono ?_;clear cl;rintro e w4 ⟨rfl,hw⟩;subst hw)
       | (go_at_call 33;refine cc.mono ?_;clear cc;rintro e w4 ⟨rfl,hw⟩;subst hw))
      go_roundw
      case rel=>exact ⟨q+1,hlt,by go_num,⟨_,rfl,Hid.mk' hr.out.symm⟩,B⟩
      case measure=>simp [intOf];omega
  · obtain rfl:q=127:=by omega
    rw [←HZ.out] at cA2
    clear HZ
    generalize hlfB z1=hb at *
    go_wp2_with (first
     | (go_at_call 34;with_reducible refine (cA2 _).mono ?_;clear cA2;rintro e w5 ⟨rfl,b5⟩;(replace B:=below_next B b5);clear b5)
     | (go_at_call 34;with_reducible refine (cA3 _).mono ?_;clear cA3;rintro e w6 ⟨rfl,b6⟩;(replace B:=below_next B b6);clear b6)
     | (go_at_call 22;refine (knows12 _ (hT.keep B)).mono ?_;rintro e w99 ⟨rfl,b99⟩))
    go_ret
    exact ⟨rfl,below_next B b99⟩
theorem indexNumbers_any (hAt:AtOk) (x l c:Int) (w:World) (hT:DbT w):Calls Tryd.prog 5 #[.int .i64 x,.int .i64 l,.int .i64 c] w fun e w'=>e = .returned (.bool true)∧Below w.heap.size w w':=by
 by_cases h0:x<0
 · exact indexNumbers_low hAt x h0 l c w hT
 · by_cases h1:127≤x
   · exact indexNumbers_high hAt x h1 l c w hT
   · obtain ⟨y,rfl⟩:∃ y:Nat,x=(y:Int):=⟨x.toNat,by omega⟩
     exact indexNumbers_in hAt y (by omega) l c w hT
theorem at_ok:AtOk:=⟨fun z1 z2 a b c d w=>at_any z1 z2 a b c d w,fun z1 _ a b _ _ w=>at_half z1 a b _ w⟩
end Go.Proofs.YtodhmfddfjfhjaaDoor
