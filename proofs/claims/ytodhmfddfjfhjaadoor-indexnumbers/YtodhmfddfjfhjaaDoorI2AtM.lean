/- What the proof stands on: I2At, I2Ca, I2Cb, I2Cc, I2Cd, I2Ce, I2Cf, I2Cod, RWk, ZAb2, I2LI, I2LP, Kit, I2Laid. -/
import Derived.Test.YtodhmfddfjfhjaaDoorBaseM
import Derived.Test.YtodhmfddfjfhjaaDoorCards
import Derived.Test.YtodhmfddfjfhjaaDoorTie
import Derived.ChangeOld
import Derived.ChangeSlices
import Derived.Deep.Cut
import Derived.Deep.DeepHandedRow
import Derived.Lib.LaidTab
import Derived.OpenShut
import Derived.ProofKit
import Derived.ScopeJumps
import Derived.SizedLaws
import Derived.WalkKit
import Derived.WalkMore
namespace Go.Proofs.YtodhmfddfjfhjaaDoor
open Go.RowKit
set_option maxRecDepth 20000 in
theorem len64_at (w:World):Calls Tryd.prog 51 #[.int .u64 64] w fun e w'=>e = .returned (.int .i64 7)∧w=w':=by
 go_enter Tryd.func51,Tryd.ntmps51
 go_wp2
 go_ret
 refine ⟨congrArg Ending.returned (congrArg (Value.int IntKind.i64) ?_),rfl⟩
 kernel_rfl
theorem len_at (w:World):Calls Tryd.prog 47 #[.int .u64 64] w fun e w'=>e = .returned (.int .i64 7)∧w=w':=by
 have c:=len64_at w
 go_enter Tryd.func47,Tryd.ntmps47
 go_wp2_with (go_at_call 51;refine c.mono ?_;clear c;rintro e w1 ⟨rfl,hw⟩;subst hw)
 go_ret
 exact ⟨rfl,rfl⟩
def wbB (x r:Nat) (e:Int):Bool:=((FloatKind.f64.format.order x 0 == some .gt || FloatKind.f64.format.order x 0 == some .eq) && FloatKind.f64.format.order x (floatOfInt .f64 e) == some .lt) && FloatKind.f64.format.order x r == some .eq
theorem whole_any (x:Nat) (e:Int) (r:Nat) (h:flrB x=some r) (w:World):Calls Tryd.prog 46 #[.float .f64 x,.int .i64 e] w fun o w'=>o = .returned (.bool (wbB x r e))∧w=w':=by
 have c:=Floor_any x r h w
 clear h
 unfold wbB
 generalize hA:(FloatKind.f64.format.order x 0 == some .gt || FloatKind.f64.format.order x 0 == some .eq)=A at *
 generalize hB:(FloatKind.f64.format.order x (floatOfInt .f64 e) == some .lt)=B at *
 generalize hC:(FloatKind.f64.format.order x r == some .eq)=C at *
 cases A <;> cases B <;> cases C <;>
 · go_enter Tryd.func46,Tryd.ntmps46
   go_wp2_with (go_at_call 49;refine c.mono ?_;clear c;rintro e w1 ⟨rfl,hw⟩;subst hw)
   go_ret
   exact ⟨rfl,rfl⟩
theorem at_no1 (x y r:Nat) (h:flrB x=some r) (hw:wbB x r 7=false) (w:World):Calls Tryd.prog 34 #[.complex .f64 x y] w fun o w'=>o = .returned (.int .i64 (-1))∧Below w.heap.size w w':=by
 have c:=whole_any x 7 r h w
 rw [hw] at c
 have k:=len_at w
 clear h hw
 go_enter Tryd.func34,Tryd.ntmps34
 go_wp2_with (first
  | (go_at_call 47;refine k.mono ?_;clear k;rintro e w1 ⟨rfl,hw⟩;subst hw)
  | (go_at_call 46;refine c.mono ?_;clear c;rintro e w1 ⟨rfl,hw⟩;subst hw))
 go_ret
 exact ⟨rfl,Below.refl _ _⟩
theorem und_float:(Tryd.prog.underlying 35).isSome=true:=by kernel_rfl
def LevE (z e:Int):Prop:=(z=0∧e=64)∨(z=1∧e=32)∨(z=2∧e=16)∨(z=3∧e=8)∨(z=4∧e=4)∨(z=5∧e=2)∨(z=6∧e=1)
theorem at_no2 (x:Nat) (z e:Int) (hz:LevE z e) (l1:flrB x=some x) (l2:wbB x x 7=true) (l3:floatToIntVal .f64 x .i64=some z) (y r:Nat) (h:flrB y=some r) (hw:wbB y r e=false) (w:World):Calls Tryd.prog 34 #[.complex .f64 x y] w fun o w'=>o = .returned (.int .i64 (-1))∧Below w.heap.size w w':=by
 have c1:=whole_any x 7 _ l1 w
 rw [l2] at c1
 have c2:=whole_any y e r h w
 rw [hw] at c2
 have k:=len_at w
 have cv:∀ W,_:=fun W=>run_convert_float_int (P:=Tryd.prog) W 35 3 .f64 .i64 _ _ und_float Tryd.underlying3 l3
 clear h hw l1 l2 l3
 rcases hz with ⟨rfl,rfl⟩ | ⟨rfl,rfl⟩ | ⟨rfl,rfl⟩ | ⟨rfl,rfl⟩ | ⟨rfl,rfl⟩ | ⟨rfl,rfl⟩ | ⟨rfl,rfl⟩ <;>
 · go_enter Tryd.func34,Tryd.ntmps34
   go_wp2_with (first
    | (go_at_call 47;refine k.mono ?_;clear k;rintro e w1 ⟨rfl,hw⟩;subst hw)
    | (go_at_call 46;refine c1.mono ?_;clear c1;rintro e w1 ⟨rfl,hw⟩;subst hw)
    | (go_at_call 46;refine c2.mono ?_;clear c2;rintro e w1 ⟨rfl,hw⟩;subst hw))
   go_ret
   exact ⟨rfl,Below.refl _ _⟩
theorem at_yes (x:Nat) (z e:Int) (hz:LevE z e) (l1:flrB x=some x) (l2:wbB x x 7=true) (l3:floatToIntVal .f64 x .i64=some z) (y:Nat) (c:Int) (c0:0≤c) (cE:c<e) (h:flrB y=some y) (hw:wbB y y e=true) (h3:floatToIntVal .f64 y .i64=some c) (v:Int) (hv:v=c*2 ^ (z.toNat+1)+2 ^ z.toNat - 1) (w:World):Calls Tryd.prog 34 #[.complex .f64 x y] w fun o w'=>o = .returned (.int .i64 v)∧Below w.heap.size w w':=by
 have c1:=whole_any x 7 _ l1 w
 rw [l2] at c1
 have c2:=whole_any y e y h w
 rw [hw] at c2
 have k:=len_at w
 have cv:∀ W,_:=fun W=>run_convert_float_int (P:=Tryd.prog) W 35 3 .f64 .i64 _ _ und_float Tryd.underlying3 l3
 have cw:∀ W,_:=fun W=>run_convert_float_int (P:=Tryd.prog) W 35 3 .f64 .i64 _ _ und_float Tryd.underlying3 h3
 have HV:=Hid.mk' hv
 clear h hw l1 l2 l3 h3 hv
 rcases hz with ⟨rfl,rfl⟩ | ⟨rfl,rfl⟩ | ⟨rfl,rfl⟩ | ⟨rfl,rfl⟩ | ⟨rfl,rfl⟩ | ⟨rfl,rfl⟩ | ⟨rfl,rfl⟩ <;>
 · go_enter Tryd.func34,Tryd.ntmps34
   go_wp2_with (first
    | (go_at_call 47;refine k.mono ?_;clear k;rintro e w1 ⟨rfl,hw⟩;subst hw)
    | (go_at_call 46;refine c1.mono ?_;clear c1;rintro e w1 ⟨rfl,hw⟩;subst hw)
    | (go_at_call 46;refine c2.mono ?_;clear c2;rintro e w1 ⟨rfl,hw⟩;subst hw))
   go_region
   go_wp2
   go_ret
   refine ⟨congrArg Ending.returned (congrArg (Value.int IntKind.i64) ?_),(Below.refl _ _).drew⟩
   rw [HV.out]
   simp
theorem lev_tab (l:Nat) (hl:l<7):flrB (FB l)=some (FB l)∧wbB (FB l) (FB l) 7=true∧floatToIntVal .f64 (FB l) .i64=some (l:Int)∧LevE (l:Int) ((64 / 2 ^ l:Nat):Int):=by
 rcases (show l=0∨l=1∨l=2∨l=3∨l=4∨l=5∨l=6 by omega) with rfl | rfl | rfl | rfl | rfl | rfl | rfl <;> exact ⟨by kernel_rfl,by kernel_rfl,by kernel_rfl,by unfold LevE;simp⟩
theorem col_tab (l c:Nat) (hl:l<7) (hc:c<79):flrB (FB c)=some (FB c)∧floatToIntVal .f64 (FB c) .i64=some (c:Int)∧wbB (FB c) (FB c) ((64 / 2 ^ l:Nat):Int)=decide (c<64 / 2 ^ l):=by
 have h:(List.range 79).all (fun c=>flrB (FB c) == some (FB c) && floatToIntVal .f64 (FB c) .i64 == some (c:Int) && (List.range 7).all fun l=>wbB (FB c) (FB c) ((64 / 2 ^ l:Nat):Int) == decide (c<64 / 2 ^ l))=true:=by kernel_rfl
 have:=List.all_eq_true.1 h c (List.mem_range.2 hc)
 simp only [Bool.and_eq_true,beq_iff_eq] at this
 refine ⟨this.1.1,this.1.2,?_⟩
 have:=List.all_eq_true.1 this.2 l (List.mem_range.2 hl)
 exact beq_iff_eq.1 this
def plcN (l c:Nat):Nat:=c*2 ^ (l+1)+2 ^ l - 1
theorem at_in (l c:Nat) (hl:l<7) (hc:c<64 / 2 ^ l) (w:World):Calls Tryd.prog 34 #[.complex .f64 (FB l) (FB c)] w fun o w'=>o = .returned (.int .i64 (plcN l c:Int))∧Below w.heap.size w w':=by
 have h64:64 / 2 ^ l≤64:=Nat.div_le_self _ _
 obtain ⟨l1,l2,l3,l4⟩:=lev_tab l hl
 obtain ⟨c1,c2,c3⟩:=col_tab l c hl (by omega)
 refine at_yes (FB l) (l:Int) ((64 / 2 ^ l:Nat):Int) l4 l1 l2 l3 (FB c) (c:Int) (by omega) (by omega) c1 (by rw [c3];simpa using hc) c2 _ ?_ w
 unfold plcN
 have:1≤2 ^ l:=Nat.one_le_two_pow
 rw [Int.toNat_natCast,Int.natCast_sub (by omega)]
 simp
theorem at_out (l c:Nat) (hl:l<7) (hc:¬c<64 / 2 ^ l) (hc2:c<79) (w:World):Calls Tryd.prog 34 #[.complex .f64 (FB l) (FB c)] w fun o w'=>o = .returned (.int .i64 (-1))∧Below w.heap.size w w':=by
 obtain ⟨l1,l2,l3,l4⟩:=lev_tab l hl
 obtain ⟨c1,c2,c3⟩:=col_tab l c hl hc2
 exact at_no2 (FB l) (l:Int) ((64 / 2 ^ l:Nat):Int) l4 l1 l2 l3 (FB c) (FB c) c1 (by rw [c3];simpa using hc) w
theorem plaF_none (z1 z2:Int):∀ n,(∀ k,k<n→¬((levN k:Int)=z1∧(colN k:Int)=z2))→plaF z1 z2 n=-1
 | 0,_=>rfl
 | n+1,h=>by
  show (if (levN n:Int)=z1∧(colN n:Int)=z2 then (n:Int) else plaF z1 z2 n)=-1
  rw [if_neg (h n (by omega))]
  exact plaF_none z1 z2 n fun k hk=>h k (by omega)
theorem lc_tab:∀ y,y<127→levN y<7∧colN y<64 / 2 ^ levN y∧plcN (levN y) (colN y)=y:=by
 have h:(List.range 127).all (fun y=>decide (levN y<7) && decide (colN y<64 / 2 ^ levN y) && plcN (levN y) (colN y) == y)=true:=by kernel_rfl
 intro y hy
 have:=List.all_eq_true.1 h y (List.mem_range.2 hy)
 simp only [Bool.and_eq_true,beq_iff_eq,decide_eq_true_eq] at this
 exact ⟨this.1.1,this.1.2,this.2⟩
theorem cl_tab:∀ l c,l<7→c<64 / 2 ^ l→plcN l c<127∧levN (plcN l c)=l∧colN (plcN l c)=c:=by
 have h:(List.range 7).all (fun l=>(List.range (64 / 2 ^ l)).all fun c=>decide (plcN l c<127) && levN (plcN l c) == l && colN (plcN l c) == c)=true:=by kernel_rfl
 intro l c hl hc
 have:=List.all_eq_true.1 (List.all_eq_true.1 h l (List.mem_range.2 hl)) c (List.mem_range.2 hc)
 simp only [Bool.and_eq_true,beq_iff_eq,decide_eq_true_eq] at this
 exact ⟨this.1.1,this.1.2,this.2⟩
theorem neg_tab:flrB (floatOfInt .f64 (-1))=some (floatOfInt .f64 (-1))∧wbB (floatOfInt .f64 (-1)) (floatOfInt .f64 (-1)) 7=false∧∀ l,l<7→wbB (floatOfInt .f64 (-1)) (floatOfInt .f64 (-1)) ((64 / 2 ^ l:Nat):Int)=false:=by
 refine ⟨by kernel_rfl,by kernel_rfl,fun l hl => ?_⟩
 rcases (show l=0∨l=1∨l=2∨l=3∨l=4∨l=5∨l=6 by omega) with rfl | rfl | rfl | rfl | rfl | rfl | rfl <;> kernel_rfl
theorem big_tab (l:Nat) (h:l=7∨l=8):flrB (FB l)=some (FB l)∧wbB (FB l) (FB l) 7=false:=by
 rcases h with rfl | rfl <;> exact ⟨by kernel_rfl,by kernel_rfl⟩
theorem hlf_tab (z:Int) (h0:-1≤z) (h1:z<9):∃ r,flrB (hlfB z)=some r∧wbB (hlfB z) r 7=false:=by
 have key:∀ z:Int,(match flrB (hlfB z) with | some r=>wbB (hlfB z) r 7 == false | none=>false)=true→∃ r,flrB (hlfB z)=some r∧wbB (hlfB z) r 7=false:=by
  intro z h
  cases e:flrB (hlfB z) with
  | none=>rw [e] at h;cases h
  | some r=>rw [e] at h;exact ⟨r,rfl,beq_iff_eq.1 h⟩
 apply key
 rcases (show z=-1∨z=0∨z=1∨z=2∨z=3∨z=4∨z=5∨z=6∨z=7∨z=8 by omega) with rfl | rfl | rfl | rfl | rfl | rfl | rfl | rfl | rfl | rfl <;> kernel_rfl
theorem at_any (z1 z2:Int) (a0:-1≤z1) (a1:z1<9) (b0:-1≤z2) (b1:z2<79) (w:World):Calls Tryd.prog 34 #[.complex .f64 (floatOfInt .f64 z1) (floatOfInt .f64 z2)] w fun e w'=>e = .returned (.int .i64 (plaF z1 z2 127))∧Below w.heap.size w w':=by
 by_cases hl:0≤z1∧z1<7
 · obtain ⟨l,rfl⟩:∃ l:Nat,z1=(l:Int):=⟨z1.toNat,by omega⟩
   have hl7:l<7:=by omega
   by_cases hc:0≤z2
   · obtain ⟨c,rfl⟩:∃ c:Nat,z2=(c:Int):=⟨z2.toNat,by omega⟩
     by_cases hin:c<64 / 2 ^ l
     · obtain ⟨q1,q2,q3⟩:=cl_tab l c hl7 hin
       have:=(pla_tab (plcN l c) q1).1
       rw [q2,q3] at this
       rw [this]
       exact at_in l c hl7 hin w
     · rw [plaF_none]
       · exact at_out l c hl7 hin (by omega) w
       · rintro k hk ⟨e1,e2⟩
         obtain ⟨-,q,-⟩:=lc_tab k hk
         have e1:levN k=l:=by omega
         have e2:colN k=c:=by omega
         rw [e1,e2] at q
         exact hin q
   · obtain rfl:z2=-1:=by omega
     rw [plaF_none _ _ _ (fun k _ h=>by omega)]
     obtain ⟨l1,l2,l3,l4⟩:=lev_tab l hl7
     exact at_no2 (FB l) (l:Int) _ l4 l1 l2 l3 _ _ neg_tab.1 (neg_tab.2.2 l hl7) w
 · rw [plaF_none _ _ _ (fun k hk h=>by have:=(lc_tab k hk).1;omega)]
   by_cases hn:z1=-1
   · subst hn
     exact at_no1 _ _ _ neg_tab.1 neg_tab.2.1 w
   · obtain ⟨l,rfl⟩:∃ l:Nat,z1=(l:Int):=⟨z1.toNat,by omega⟩
     obtain ⟨h1,h2⟩:=big_tab l (by omega)
     exact at_no1 _ _ _ h1 h2 w
theorem at_half (z1:Int) (a0:-1≤z1) (a1:z1<9) (y:Nat) (w:World):Calls Tryd.prog 34 #[.complex .f64 (hlfB z1) y] w fun e w'=>e = .returned (.int .i64 (-1))∧Below w.heap.size w w':=by
 obtain ⟨r,h1,h2⟩:=hlf_tab z1 a0 a1
 exact at_no1 _ _ _ h1 h2 w
end Go.Proofs.YtodhmfddfjfhjaaDoor
namespace Go.Proofs.YtodhmfddfjfhjaaDoor
open Go.RowKit
theorem may_tab (l:Int) (h0:0<l) (h1:l≤64):(bits BinOp.and .i64 l (l - 1) == 0)=mayB l:=by
 obtain ⟨n,rfl⟩:∃ n:Nat,l=(n:Int):=⟨l.toNat,by omega⟩
 have h:(List.range 65).all (fun n=>n == 0 || (bits BinOp.and .i64 (n:Int) ((n:Int) - 1) == 0) == mayB (n:Int))=true:=by kernel_rfl
 have:=List.all_eq_true.1 h n (List.mem_range.2 (by omega))
 simp only [Bool.or_eq_true,beq_iff_eq] at this
 exact this.resolve_left (by omega)
theorem may_in {l:Int} (h:mayB l=true):0<l∧l≤64:=by
 have:=mayB_cases h
 omega
theorem allowed_any (l:Int) (w:World):Calls Tryd.prog 41 #[.int .i64 l] w fun e w'=>e = .returned (.bool (mayB l))∧w=w':=by
 by_cases h:0<l∧l≤64
 · obtain ⟨h0,h1⟩:=h
   have ht:=may_tab l h0 h1
   have hw:wrap64 (l - 1)=l - 1:=by unfold wrap64;omega
   generalize mayB l=A at *
   cases A <;>
   · go_enter Tryd.func41,Tryd.ntmps41
     go_wp2
     go_ret
     exact ⟨rfl,rfl⟩
 · have hm:mayB l=false:=by
    cases hm:mayB l with
    | false=>rfl
    | true=>exact absurd (may_in hm) h
   rw [hm]
   by_cases h0:0<l
   · have h1:¬l≤64:=by omega
     clear h hm
     go_enter Tryd.func41,Tryd.ntmps41
     go_wp2
     go_ret
     exact ⟨rfl,rfl⟩
   · clear h hm
     go_enter Tryd.func41,Tryd.ntmps41
     go_wp2
     go_ret
     exact ⟨rfl,rfl⟩
theorem iWidth_any (l:Int) (w:World):Calls Tryd.prog 16 #[.int .i64 l] w fun e w'=>e = .returned (.int .i64 (if mayB l then 2*l - 1 else -1))∧w=w':=by
 have c:=allowed_any l w
 cases hm:mayB l with
 | false =>
  rw [hm] at c
  go_enter Tryd.func16,Tryd.ntmps16
  go_wp2_with (go_at_call 41;refine c.mono ?_;clear c;rintro e w1 ⟨rfl,hw⟩;subst hw)
  go_ret
  exact ⟨rfl,rfl⟩
 | true =>
  rw [hm] at c
  obtain ⟨h0,h1⟩:=may_in hm
  have e1:IntKind.i64.wrap (2*l)=2*l:=by simp only [IntKind.wrap_i64];omega
  have e2:IntKind.i64.wrap (2*l - 1)=2*l - 1:=by simp only [IntKind.wrap_i64];omega
  clear hm
  go_enter Tryd.func16,Tryd.ntmps16
  go_wp2_with (go_at_call 41;refine c.mono ?_;clear c;rintro e w1 ⟨rfl,hw⟩;subst hw)
  go_ret
  exact ⟨rfl,rfl⟩
theorem iRoot_any (l:Int) (w:World):Calls Tryd.prog 18 #[.int .i64 l] w fun e w'=>e = .returned (.int .i64 (if mayB l then l - 1 else -1))∧w=w':=by
 have c:=allowed_any l w
 cases hm:mayB l with
 | false =>
  rw [hm] at c
  go_enter Tryd.func18,Tryd.ntmps18
  go_wp2_with (go_at_call 41;refine c.mono ?_;clear c;rintro e w1 ⟨rfl,hw⟩;subst hw)
  go_ret
  exact ⟨rfl,rfl⟩
 | true =>
  rw [hm] at c
  obtain ⟨h0,h1⟩:=may_in hm
  have e2:IntKind.i64.wrap (l - 1)=l - 1:=by simp only [IntKind.wrap_i64];omega
  clear hm
  go_enter Tryd.func18,Tryd.ntmps18
  go_wp2_with (go_at_call 41;refine c.mono ?_;clear c;rintro e w1 ⟨rfl,hw⟩;subst hw)
  go_ret
  exact ⟨rfl,rfl⟩
theorem hasLeaf_any (i l:Int) (w:World):Calls Tryd.prog 44 #[.int .i64 i,.int .i64 l] w fun e w'=>e = .returned (.bool (theB i l))∧w=w':=by
 have c:=allowed_any l w
 unfold theB
 generalize mayB l=A at *
 by_cases h0:0≤i <;> by_cases h1:i<l <;> cases A <;>
 · simp only [h0,h1,decide_true,decide_false,Bool.and_true,Bool.and_false]
   go_enter Tryd.func44,Tryd.ntmps44
   go_wp2_with (go_at_call 41;refine c.mono ?_;clear c;rintro e w1 ⟨rfl,hw⟩;subst hw)
   first
    | (go_ret;exact ⟨rfl,rfl⟩)
    | (rw [decide_eq_false (Int.not_lt.2 h1)];go_ret;exact ⟨rfl,rfl⟩)
def plcA (x:Int):Nat × Nat:=if x<0∨127≤x then (13830554455654793216,0) else (floatOfInt .f64 (levN x.toNat:Int),floatOfInt .f64 (colN x.toNat:Int))
theorem plc_in {y:Nat} (hy:y<127):plcA (y:Int)=(FB (levN y),FB (colN y)):=by
 unfold plcA
 rw [if_neg (by omega),Int.toNat_natCast]
 rfl
theorem iPlace_out (x:Int) (h:x<0∨127≤x) (w:World):Calls Tryd.prog 32 #[.int .i64 x] w fun e w'=>e = .returned (.complex .f64 13830554455654793216 0)∧Below w.heap.size w w':=by
 by_cases h0:x<0
 · clear h
   go_enter Tryd.func32,Tryd.ntmps32
   go_wp2
   go_ret
   exact ⟨rfl,Below.refl _ _⟩
 · have h1:127≤x:=by omega
   clear h
   go_enter Tryd.func32,Tryd.ntmps32
   go_wp2
   go_ret
   exact ⟨rfl,Below.refl _ _⟩
theorem iPlace_in (y:Nat) (hy:y<127) (w:World) (hT:DbT w):Calls Tryd.prog 32 #[.int .i64 (y:Int)] w fun e w'=>e = .returned (.complex .f64 (FB (levN y)) (FB (colN y)))∧Below w.heap.size w w':=by
 have c:=iLevel_any (y:Int) (by omega) w hT
 have e9:levA (y:Int)=(levN y:Int):=by unfold levA;rw [if_neg (by omega),Int.toNat_natCast]
 rw [e9] at c
 obtain ⟨h6,-,-⟩:=lc_tab y hy
 have hcol:colN y=y / 2 ^ (levN y+1):=rfl
 rw [hcol]
 have t0:¬(y:Int)<0:=by omega
 have t1:¬(127:Int)≤(y:Int):=by omega
 clear hT e9 hcol
 generalize levN y=l at *
 rcases (show l=0∨l=1∨l=2∨l=3∨l=4∨l=5∨l=6 by omega) with rfl | rfl | rfl | rfl | rfl | rfl | rfl <;>
 · go_enter Tryd.func32,Tryd.ntmps32
   go_wp2_with (go_at_call 20;refine c.mono ?_;clear c;rintro e w1 ⟨rfl,hw⟩;subst hw)
   go_ret
   exact ⟨rfl,Below.refl _ _⟩
theorem left_tab:∀ y,y<127→y%2=1→0<levN y∧2*colN y<64 / 2 ^ (levN y - 1)∧plcN (levN y - 1) (2*colN y)=lftN y∧othN (2*colN y)<64 / 2 ^ (levN y - 1)∧plcN (levN y - 1) (othN (2*colN y))=rgtN y:=by
 have h:(List.range 127).all (fun y=>y%2 == 0 || (decide (0<levN y) && decide (2*colN y<64 / 2 ^ (levN y - 1)) && plcN (levN y - 1) (2*colN y) == lftN y && decide (othN (2*colN y)<64 / 2 ^ (levN y - 1)) && plcN (levN y - 1) (othN (2*colN y)) == rgtN y))=true:=by kernel_rfl
 intro y hy ho
 have:=List.all_eq_true.1 h y (List.mem_range.2 hy)
 simp only [Bool.and_eq_true,Bool.or_eq_true,beq_iff_eq,decide_eq_true_eq] at this
 obtain ⟨⟨⟨⟨a,b⟩,c⟩,d⟩,e⟩:=this.resolve_left (by omega)
 exact ⟨a,b,c,d,e⟩
theorem real_tab (l:Nat) (hl:l<7):FloatKind.f64.format.order (FB l) 4607182418800017408=if l=0 then some .lt else if l=1 then some .eq else some .gt:=by
 rcases (show l=0∨l=1∨l=2∨l=3∨l=4∨l=5∨l=6 by omega) with rfl | rfl | rfl | rfl | rfl | rfl | rfl <;> kernel_rfl
theorem real_pos (l:Nat) (hl:l<7) (h0:0<l):(FloatKind.f64.format.order (FB l) 4607182418800017408 == some .lt)=false:=by
 rw [real_tab l hl,if_neg (by omega)]
 split <;> rfl
theorem neg_real:FloatKind.f64.format.order 13830554455654793216 4607182418800017408=some .lt:=by kernel_rfl
theorem inn_cases (x:Int):(∃ y:Nat,x=(y:Int)∧y<127∧y%2=1∧innB x=true)∨(∃ y:Nat,x=(y:Int)∧y<127∧¬y%2=1∧innB x=false)∨((x<0∨127≤x)∧innB x=false):=by
 by_cases h:x<0∨127≤x
 · refine .inr (.inr ⟨h,?_⟩)
   unfold innB
   rcases h with h | h
   · simp;omega
   · simp;omega
 · obtain ⟨y,rfl⟩:∃ y:Nat,x=(y:Int):=⟨x.toNat,by omega⟩
   by_cases ho:y%2=1
   · refine .inl ⟨y,rfl,by omega,ho,?_⟩
     unfold innB
     simp
     omega
   · refine .inr (.inl ⟨y,rfl,by omega,ho,?_⟩)
     unfold innB
     simp
     omega
set_option maxHeartbeats 1000000 in
theorem iLeft_any (x:Int) (w:World) (hT:DbT w):Calls Tryd.prog 8 #[.int .i64 x] w fun e w'=>e = .returned (.tuple #[.int .i64 (lftA x).1,.bool (lftA x).2])∧Below w.heap.size w w':=by
 unfold lftA
 rcases inn_cases x with ⟨y,rfl,hy,ho,hi⟩ | ⟨y,rfl,hy,ho,hi⟩ | ⟨h,hi⟩
 · rw [hi]
   obtain ⟨t0,t1,t2,-,-⟩:=left_tab y hy ho
   obtain ⟨u1,u2,-⟩:=lc_tab y hy
   have u3:64 / 2 ^ levN y≤64:=Nat.div_le_self _ _
   have c1:=iPlace_in y hy w hT
   have c2:=leftOf_any (levN y) (colN y) (by omega) t0 (by omega)
   have c3:=at_in (levN y - 1) (2*colN y) (by omega) t1
   rw [t2] at c3
   have r:=real_pos (levN y) u1 t0
   simp only [if_true,Int.toNat_natCast]
   generalize FB (levN y)=a at *
   generalize FB (colN y)=b at *
   generalize FB (levN y - 1)=a' at *
   generalize FB (2*colN y)=b' at *
   clear hT hi t0 t1 t2 u1 u2 u3 ho
   go_enter Tryd.func8,Tryd.ntmps8
   go_wp2_with (first
    | (go_at_call 32;refine c1.mono ?_;clear c1;rintro e w1 ⟨rfl,b1⟩)
    | (go_at_call 35;refine (c2 _).mono ?_;clear c2;rintro e w2 ⟨rfl,hw⟩;subst hw)
    | (go_at_call 34;refine (c3 _).mono ?_;clear c3;rintro e w3 ⟨rfl,b3⟩))
   go_ret2
   exact ⟨rfl,below_next b1 b3⟩
 · rw [hi]
   have c1:=iPlace_in y hy w hT
   rw [levN_even ho] at c1
   have r:=real_tab 0 (by decide)
   rw [if_pos rfl] at r
   generalize FB 0=a at *
   generalize FB (colN y)=b at *
   clear hT hi
   go_enter Tryd.func8,Tryd.ntmps8
   go_wp2_with (go_at_call 32;refine c1.mono ?_;clear c1;rintro e w1 ⟨rfl,b1⟩)
   go_ret2
   exact ⟨rfl,b1⟩
 · rw [hi]
   have c1:=iPlace_out x h w
   have r:=neg_real
   clear hT hi h
   go_enter Tryd.func8,Tryd.ntmps8
   go_wp2_with (go_at_call 32;refine c1.mono ?_;clear c1;rintro e w1 ⟨rfl,b1⟩)
   go_ret2
   exact ⟨rfl,b1⟩
set_option maxHeartbeats 1000000 in
theorem iRight_any (x:Int) (w:World) (hT:DbT w):Calls Tryd.prog 10 #[.int .i64 x] w fun e w'=>e = .returned (.tuple #[.int .i64 (rgtA x).1,.bool (rgtA x).2])∧Below w.heap.size w w':=by
 unfold rgtA
 rcases inn_cases x with ⟨y,rfl,hy,ho,hi⟩ | ⟨y,rfl,hy,ho,hi⟩ | ⟨h,hi⟩
 · rw [hi]
   obtain ⟨t0,t1,-,t3,t2⟩:=left_tab y hy ho
   have h1:64 / 2 ^ (levN y - 1)≤64:=Nat.div_le_self _ _
   obtain ⟨u1,u2,-⟩:=lc_tab y hy
   have u3:64 / 2 ^ levN y≤64:=Nat.div_le_self _ _
   have c1:=iPlace_in y hy w hT
   have c2:=leftOf_any (levN y) (colN y) (by omega) t0 (by omega)
   have c4:=beside_any (levN y - 1) (2*colN y) (by omega) (by omega)
   have c3:=at_in (levN y - 1) (othN (2*colN y)) (by omega) t3
   rw [t2] at c3
   have r:=real_pos (levN y) u1 t0
   simp only [if_true,Int.toNat_natCast]
   generalize FB (levN y)=a at *
   generalize FB (colN y)=b at *
   generalize FB (levN y - 1)=a' at *
   generalize FB (othN (2*colN y))=b2 at *
   generalize FB (2*colN y)=b' at *
   clear hT hi t0 t1 t2 t3 h1 u1 u2 u3 ho
   go_enter Tryd.func10,Tryd.ntmps10
   go_wp2_with (first
    | (go_at_call 32;refine c1.mono ?_;clear c1;rintro e w1 ⟨rfl,b1⟩)
    | (go_at_call 35;refine (c2 _).mono ?_;clear c2;rintro e w2 ⟨rfl,hw⟩;subst hw)
    | (go_at_call 38;refine (c4 _).mono ?_;clear c4;rintro e w2 ⟨rfl,hw⟩;subst hw)
    | (go_at_call 34;refine (c3 _).mono ?_;clear c3;rintro e w3 ⟨rfl,b3⟩))
   go_ret2
   exact ⟨rfl,below_next b1 b3⟩
 · rw [hi]
   have c1:=iPlace_in y hy w hT
   rw [levN_even ho] at c1
   have r:=real_tab 0 (by decide)
   rw [if_pos rfl] at r
   generalize FB 0=a at *
   generalize FB (colN y)=b at *
   clear hT hi
   go_enter Tryd.func10,Tryd.ntmps10
   go_wp2_with (go_at_call 32;refine c1.mono ?_;clear c1;rintro e w1 ⟨rfl,b1⟩)
   go_ret2
   exact ⟨rfl,b1⟩
 · rw [hi]
   have c1:=iPlace_out x h w
   have r:=neg_real
   clear hT hi h
   go_enter Tryd.func10,Tryd.ntmps10
   go_wp2_with (go_at_call 32;refine c1.mono ?_;clear c1;rintro e w1 ⟨rfl,b1⟩)
   go_ret2
   exact ⟨rfl,b1⟩
end Go.Proofs.YtodhmfddfjfhjaaDoor
namespace Go.Proofs.YtodhmfddfjfhjaaDoor
open Go.RowKit
def broB (x l:Int):Bool:=mayB l && (decide (0≤x) && decide (x<2*l - 1) && !decide (x=l - 1))
theorem belowRoot_any (x l:Int) (w:World):Calls Tryd.prog 39 #[.int .i64 x,.int .i64 l] w fun e w'=>e = .returned (.bool (broB x l))∧w=w':=by
 have c1:=iWidth_any l w
 have c2:=iRoot_any l w
 unfold broB
 generalize mayB l=A at *
 cases A with
 | false =>
  simp only [Bool.false_eq_true,if_false,Bool.false_and] at c1 c2 ⊢
  by_cases h0:0≤x
  · have h1:¬x < -1:=by omega
    go_enter Tryd.func39,Tryd.ntmps39
    go_wp2_with (first
     | (go_at_call 16;refine c1.mono ?_;clear c1;rintro e w1 ⟨rfl,hw⟩;subst hw)
     | (go_at_call 18;refine c2.mono ?_;clear c2;rintro e w1 ⟨rfl,hw⟩;subst hw))
    go_ret
    exact ⟨rfl,rfl⟩
  · go_enter Tryd.func39,Tryd.ntmps39
    go_wp2_with (first
     | (go_at_call 16;refine c1.mono ?_;clear c1;rintro e w1 ⟨rfl,hw⟩;subst hw)
     | (go_at_call 18;refine c2.mono ?_;clear c2;rintro e w1 ⟨rfl,hw⟩;subst hw))
    go_ret
    exact ⟨rfl,rfl⟩
 | true =>
  simp only [if_true,Bool.true_and] at c1 c2 ⊢
  generalize 2*l - 1=W at *
  generalize l - 1=R at *
  by_cases h0:0≤x <;> by_cases h1:x<W <;> by_cases h2:x=R <;>
  · simp only [h0,h1,h2,decide_true,decide_false,Bool.and_true,Bool.and_false,Bool.not_true,Bool.not_false]
    go_enter Tryd.func39,Tryd.ntmps39
    go_wp2_with (first
     | (go_at_call 16;refine c1.mono ?_;clear c1;rintro e w1 ⟨rfl,hw⟩;subst hw)
     | (go_at_call 18;refine c2.mono ?_;clear c2;rintro e w1 ⟨rfl,hw⟩;subst hw))
    first
     | (go_ret;exact ⟨rfl,rfl⟩)
     | (rw [show (x != R)=true by simpa using h2];go_ret;exact ⟨rfl,rfl⟩)
theorem may_mem {l:Int} (h:mayB l=true):l∈[1,2,4,8,16,32,64]:=by
 rcases mayB_cases h with rfl | rfl | rfl | rfl | rfl | rfl | rfl <;> simp
theorem par_tab {l:Int} (h:mayB l=true) (y:Nat) (hy:(y:Int)<2*l - 1) (hr:¬(y:Int)=l - 1):y<127∧parN (y:Int) l=some (plcN (levN y+1) (colN y / 2))∧levN y+1<7∧colN y / 2<64 / 2 ^ (levN y+1)∧((lftN (plcN (levN y+1) (colN y / 2)):Int)+(rgtN (plcN (levN y+1) (colN y / 2)):Int) - (y:Int)=(plcN (levN y) (othN (colN y)):Int))∧othN (colN y)<64 / 2 ^ levN y:=by
 have hh:[1,2,4,8,16,32,64].all (fun l:Int=>(List.range (widN l)).all fun y=>(y:Int) == l - 1 || (decide (y<127) && parN (y:Int) l == some (plcN (levN y+1) (colN y / 2)) && decide (levN y+1<7) && decide (colN y / 2<64 / 2 ^ (levN y+1)) && ((lftN (plcN (levN y+1) (colN y / 2)):Int)+(rgtN (plcN (levN y+1) (colN y / 2)):Int) - (y:Int) == (plcN (levN y) (othN (colN y)):Int)) && decide (othN (colN y)<64 / 2 ^ levN y)))=true:=by kernel_rfl
 have hw:widN l=(2*l - 1).toNat:=by unfold widN;rw [if_pos h]
 have:=List.all_eq_true.1 (List.all_eq_true.1 hh l (may_mem h)) y (List.mem_range.2 (by rw [hw];omega))
 simp only [Bool.and_eq_true,Bool.or_eq_true,beq_iff_eq,decide_eq_true_eq] at this
 obtain ⟨⟨⟨⟨⟨a,b⟩,c⟩,d⟩,e⟩,f⟩:=this.resolve_left hr
 exact ⟨a,b,c,d,e,f⟩
theorem in_tab {l:Int} (h:mayB l=true) {p:Nat} (hp:p<widN l) (ho:p%2=1):lftN p<widN l∧rgtN p<widN l:=by
 have hh:[1,2,4,8,16,32,64].all (fun l:Int=>(List.range (widN l)).all fun p=>p%2 == 0 || (decide (lftN p<widN l) && decide (rgtN p<widN l)))=true:=by kernel_rfl
 have:=List.all_eq_true.1 (List.all_eq_true.1 hh l (may_mem h)) p (List.mem_range.2 hp)
 simp only [Bool.and_eq_true,Bool.or_eq_true,beq_iff_eq,decide_eq_true_eq] at this
 exact this.resolve_left (by omega)
theorem root_no {l:Int} (h:mayB l=true):parN (l - 1) l=none:=by
 rcases mayB_cases h with rfl | rfl | rfl | rfl | rfl | rfl | rfl <;> kernel_rfl
theorem par_none {x l:Int} (h:broB x l=false):parN x l=none:=by
 cases hm:mayB l with
 | false =>
  unfold parN widN
  rw [hm]
  rfl
 | true =>
  cases hp:parN x l with
  | none=>rfl
  | some p =>
   obtain ⟨a,-,b,c⟩:=parN_some hp
   obtain ⟨d,e⟩:=in_tab hm a b
   have hw:widN l=(2*l - 1).toNat:=by unfold widN;rw [if_pos hm]
   have:=may_in hm
   have h0:0≤x:=by omega
   have h1:x<2*l - 1:=by omega
   unfold broB at h
   rw [hm] at h
   simp [h0,h1] at h
   rw [h,root_no hm] at hp
   cases hp
theorem bro_in {x l:Int} (h:broB x l=true):mayB l=true∧∃ y:Nat,x=(y:Int)∧(y:Int)<2*l - 1∧¬(y:Int)=l - 1:=by
 unfold broB at h
 simp at h
 exact ⟨h.1,x.toNat,by omega,by omega,by omega⟩
set_option maxHeartbeats 1000000 in
theorem iParent_any (x l:Int) (w:World) (hT:DbT w):Calls Tryd.prog 12 #[.int .i64 x,.int .i64 l] w fun e w'=>e = .returned (.tuple #[.int .i64 (parA x l).1,.bool (parA x l).2])∧Below w.heap.size w w':=by
 have c0:=belowRoot_any x l w
 unfold parA
 cases hb:broB x l with
 | false =>
  rw [hb] at c0
  rw [par_none hb]
  go_enter Tryd.func12,Tryd.ntmps12
  go_wp2_with (go_at_call 39;refine c0.mono ?_;clear c0;rintro e w1 ⟨rfl,hw⟩;subst hw)
  go_ret2
  exact ⟨rfl,Below.refl _ _⟩
 | true =>
  rw [hb] at c0
  obtain ⟨hm,y,rfl,hy,hr⟩:=bro_in hb
  obtain ⟨t0,t1,t2,t3,-,-⟩:=par_tab hm y hy hr
  obtain ⟨u1,u2,-⟩:=lc_tab y t0
  have u3:64 / 2 ^ levN y≤64:=Nat.div_le_self _ _
  have c1:=iPlace_in y t0 w hT
  have c2:=above_any (levN y) (colN y) (by omega) (by omega)
  have c3:=at_in (levN y+1) (colN y / 2) t2 t3
  rw [t1]
  show Calls _ _ _ _ fun e w'=>e = .returned (.tuple #[.int .i64 (plcN (levN y+1) (colN y / 2):Int),.bool true])∧_
  generalize plcN (levN y+1) (colN y / 2)=p at *
  generalize FB (levN y)=a at *
  generalize FB (colN y)=b at *
  generalize FB (levN y+1)=a' at *
  generalize FB (colN y / 2)=b' at *
  clear hT hb t0 t1 t2 t3 u1 u2 u3 hm hy hr
  go_enter Tryd.func12,Tryd.ntmps12
  go_wp2_with (first
   | (go_at_call 39;refine c0.mono ?_;clear c0;rintro e w1 ⟨rfl,hw⟩;subst hw)
   | (go_at_call 32;refine c1.mono ?_;clear c1;rintro e w1 ⟨rfl,b1⟩)
   | (go_at_call 40;refine (c2 _).mono ?_;clear c2;rintro e w2 ⟨rfl,hw⟩;subst hw)
   | (go_at_call 34;refine (c3 _).mono ?_;clear c3;rintro e w3 ⟨rfl,b3⟩))
  go_ret2
  exact ⟨rfl,below_next b1 b3⟩
set_option maxHeartbeats 1000000 in
theorem iSibling_any (x l:Int) (w:World) (hT:DbT w):Calls Tryd.prog 14 #[.int .i64 x,.int .i64 l] w fun e w'=>e = .returned (.tuple #[.int .i64 (sibA x l).1,.bool (sibA x l).2])∧Below w.heap.size w w':=by
 have c0:=belowRoot_any x l w
 unfold sibA
 cases hb:broB x l with
 | false =>
  rw [hb] at c0
  rw [par_none hb]
  go_enter Tryd.func14,Tryd.ntmps14
  go_wp2_with (go_at_call 39;refine c0.mono ?_;clear c0;rintro e w1 ⟨rfl,hw⟩;subst hw)
  go_ret2
  exact ⟨rfl,Below.refl _ _⟩
 | true =>
  rw [hb] at c0
  obtain ⟨hm,y,rfl,hy,hr⟩:=bro_in hb
  obtain ⟨t0,t1,-,-,t2,t3⟩:=par_tab hm y hy hr
  obtain ⟨u1,u2,-⟩:=lc_tab y t0
  have u3:64 / 2 ^ levN y≤64:=Nat.div_le_self _ _
  have c1:=iPlace_in y t0 w hT
  have c2:=beside_any (levN y) (colN y) (by omega) (by omega)
  have c3:=at_in (levN y) (othN (colN y)) u1 t3
  rw [t1]
  show Calls _ _ _ _ fun e w'=>e = .returned (.tuple #[.int .i64 ((lftN (plcN (levN y+1) (colN y / 2)):Int)+(rgtN (plcN (levN y+1) (colN y / 2)):Int) - (y:Int)),.bool true])∧_
  rw [t2]
  generalize plcN (levN y) (othN (colN y))=p at *
  generalize FB (levN y)=a at *
  generalize FB (colN y)=b at *
  generalize FB (othN (colN y))=b' at *
  clear hT hb t0 t1 t2 t3 u1 u2 u3 hm hy hr
  go_enter Tryd.func14,Tryd.ntmps14
  go_wp2_with (first
   | (go_at_call 39;refine c0.mono ?_;clear c0;rintro e w1 ⟨rfl,hw⟩;subst hw)
   | (go_at_call 32;refine c1.mono ?_;clear c1;rintro e w1 ⟨rfl,b1⟩)
   | (go_at_call 38;refine (c2 _).mono ?_;clear c2;rintro e w2 ⟨rfl,hw⟩;subst hw)
   | (go_at_call 34;refine (c3 _).mono ?_;clear c3;rintro e w3 ⟨rfl,b3⟩))
  go_ret2
  exact ⟨rfl,below_next b1 b3⟩
end Go.Proofs.YtodhmfddfjfhjaaDoor
namespace Go.Proofs.YtodhmfddfjfhjaaDoor
open Go.RowKit
theorem wp_scope_back {P:Program} {a:Act} {w:World} {Q:Exit→Act→World→Prop} {c rest:Code} (l:Nat) (J:Act→World→Prop) (μ:Act→World→Nat) (hf:findLabel c l=some (Code.skip.seq rest))
 (pass:∀ a w,J a w→rest.wp P (Exit.jump l (fun a' w'=>J a' w'∧μ a' w'<μ a w) Q) a w)
 (first:(∀ a w,J a w→rest.wp P (Exit.jump l J Q) a w)→c.wp P (Exit.jump l J Q) a w):(Code.scope c).wp P Q a w :=
 wp_scope_jumps l J μ hf (first fun a w h=>Code.wp_mono (fun e a w hq=>by
  cases e with
  | goto k=>exact ⟨hq.1,hq.2.1⟩
  | _=>exact hq) (pass a w h)) fun a w h=>wp_seq (wp_skip (pass a w h))
theorem jump_ret {l:Nat} {J:Act→World→Prop} {Q:Exit→Act→World→Prop} {a:Act} {w:World}:Exit.jump l J Q .ret a w=Q .ret a w:=rfl
theorem ord_tab (a b:Nat) (ha:a<64) (hb:b<64):(FloatKind.f64.format.order (FB a) (FB b) == some .eq)=decide (a=b):=by
 have h:(List.range 64).all (fun a=>(List.range 64).all fun b=>(FloatKind.f64.format.order (FB a) (FB b) == some .eq) == decide (a=b))=true:=by kernel_rfl
 exact beq_iff_eq.1 (List.all_eq_true.1 (List.all_eq_true.1 h a (List.mem_range.2 ha)) b (List.mem_range.2 hb))
theorem same_tab (m r:Nat) (hm:m<127) (hr:r<127):(FloatKind.f64.format.order (FB (levN m)) (FB (levN r)) == some .eq && FloatKind.f64.format.order (FB (colN m)) (FB (colN r)) == some .eq)=decide (m=r):=by
 obtain ⟨a1,a2,a3⟩:=lc_tab m hm
 obtain ⟨b1,b2,b3⟩:=lc_tab r hr
 have a4:64 / 2 ^ levN m≤64:=Nat.div_le_self _ _
 have b4:64 / 2 ^ levN r≤64:=Nat.div_le_self _ _
 rw [ord_tab _ _ (by omega) (by omega),ord_tab _ _ (by omega) (by omega)]
 by_cases h:m=r
 · subst h;simp
 · rw [decide_eq_false h]
   cases h1:decide (levN m=levN r) with
   | false=>rfl
   | true =>
    cases h2:decide (colN m=colN r) with
    | false=>rfl
    | true =>
     exfalso
     apply h
     rw [←a3,←b3,of_decide_eq_true h1,of_decide_eq_true h2]
def upM (v:Value):Nat:=match v with | .complex _ re _=>9223372036854775808 - re | _=>0
theorem up_tab (l:Nat) (hl:l<64):9223372036854775808 - FB (l+1)<9223372036854775808 - FB l:=by
 have h:(List.range 64).all (fun l=>decide (9223372036854775808 - FB (l+1)<9223372036854775808 - FB l))=true:=by kernel_rfl
 exact of_decide_eq_true (List.all_eq_true.1 h l (List.mem_range.2 hl))
theorem up_one {l:Int} (hl:mayB l=true) {m:Nat} (hm:(m:Int)<2*l - 1) (hr:¬(m:Int)=l - 1):∃ p:Nat,p<127∧(p:Int)<2*l - 1∧parN (m:Int) l=some p∧levN p=levN m+1∧colN p=colN m / 2∧levN m+1<7∧colN m / 2<64 / 2 ^ (levN m+1)∧plcN (levN m+1) (colN m / 2)=p∧((lftN p:Int)+(rgtN p:Int) - (m:Int)=(plcN (levN m) (othN (colN m)):Int))∧othN (colN m)<64 / 2 ^ levN m:=by
 obtain ⟨t0,t1,t2,t3,t4,t5⟩:=par_tab hl m hm hr
 obtain ⟨q1,q2,q3⟩:=cl_tab _ _ t2 t3
 have:=(parN_some t1).1
 have hw:widN l=(2*l - 1).toNat:=by unfold widN;rw [if_pos hl]
 exact ⟨_,q1,by omega,t1,q2,q3,t2,t3,rfl,t4,t5⟩
set_option maxRecDepth 20000 in
set_option maxHeartbeats 4000000 in
theorem iPath_any (i l:Int) (w:World) (hT:DbT w):Calls Tryd.prog 26 #[.int .i64 i,.int .i64 l] w fun e w'=>∃ v,e = .returned v∧ZIn w' v (pathL i l)∧Below w.heap.size w w':=by
 have c0:=hasLeaf_any i l w
 unfold pathL
 by_cases hB:theB i l=true
 · rw [hB] at c0
   rw [if_pos hB]
   obtain ⟨hm,h0,h1,h2⟩:=theB_cases hB
   obtain ⟨s,hs⟩:∃ s:Nat,2*i=(s:Int):=⟨(2*i).toNat,by omega⟩
   have hs127:s<127:=by omega
   have hsl:(s:Int)<2*l - 1:=by omega
   rw [hs,Int.toNat_natCast]
   have e1:wrap64 (2*i)=(s:Int):=by unfold wrap64;omega
   obtain ⟨P,hP⟩:∃ P,P=upF l 7 s:=⟨_,rfl⟩
   rw [←hP]
   have HP:=Hid.mk' hP
   have c1:=iPlace_in s hs127 w hT
   obtain ⟨r,hr⟩:∃ r:Nat,l - 1=(r:Int):=⟨(l - 1).toNat,by omega⟩
   have hr127:r<127:=by omega
   have c2:=iPlace_in r hr127
   have c3:=iRoot_any l
   rw [if_pos hm] at c3
   rw [←hr] at c2
   have HR:=Hid.mk' hr
   obtain ⟨T1,hT1⟩:∃ x,x=FB (levN r):=⟨_,rfl⟩
   obtain ⟨T2,hT2⟩:∃ x,x=FB (colN r):=⟨_,rfl⟩
   rw [←hT1,←hT2] at c2
   have H1:=Hid.mk' hT1
   have H2:=Hid.mk' hT2
   obtain ⟨S1,hS1⟩:∃ x,x=FB (levN s):=⟨_,rfl⟩
   obtain ⟨S2,hS2⟩:∃ x,x=FB (colN s):=⟨_,rfl⟩
   rw [←hS1,←hS2] at c1
   have H3:=Hid.mk' hS1
   have H4:=Hid.mk' hS2
   clear hP h0 h1 h2 hB hr hT1 hT2 hS1 hS2
   go_enter Tryd.func26,Tryd.ntmps26
   go_wp2
   refine wp_scope_back 0 (fun a' wr=>∃ (d:List Int) (m:Nat) (xa:Option Addr) (ca:Nat) (u18 u19 u20 u21 u22 u23 u24 u25 u26 u27 u28:Value),a'={ tmps:=#[.int .i64 i,.int .i64 l,undef,undef,.slice none 0 0,.slice xa d.length ca,.complex .f64 (FB (levN m)) (FB (colN m)),.complex .f64 T1 T2,.int .i64 i,.int .i64 l,.bool true,.bool false,.int .i64 i,.int .i64 (s:Int),.complex .f64 S1 S2,.int .i64 l,.int .i64 (l - 1),.complex .f64 T1 T2,u18,u19,u20,u21,u22,u23,u24,u25,u26,u27,u28],defers:=[] }∧m<127∧(m:Int)<2*l - 1∧OwnZ w.heap.size wr (.slice xa d.length ca) d∧d.length≤levN m∧Hid (P=d ++ upF l (7 - d.length) m)∧Below w.heap.size w wr) (fun a' _=>upM (a'.tmps.getD 6 undef)) rfl ?_ ?_
   · rintro a' wr ⟨d,m,xa,ca,u18,u19,u20,u21,u22,u23,u24,u25,u26,u27,u28,rfl,hm1,hm2,own,hd,HQ,hb⟩
     clear c0 c1 c2 c3 HP
     by_cases hmr:m=r
     · have hPd:P=d:=by
        rw [HQ.out]
        have:upF l (7 - d.length) m=[]:=by
         cases 7 - d.length with
         | zero=>rfl
         | succ n =>
          show (match parN (m:Int) l with | some p=>(p:Int) :: upF l n p | none=>[])=[]
          rw [hmr,←HR.out,root_no hm]
        rw [this,List.append_nil]
       have hsame:=same_tab m r hm1 hr127
       rw [decide_eq_true hmr,←H1.out,←H2.out,Bool.and_eq_true] at hsame
       obtain ⟨g1,g2⟩:=hsame
       have HPd:=Hid.mk' hPd
       clear hmr hPd HQ
       generalize FB (levN m)=x1 at *
       generalize FB (colN m)=x2 at *
       go_wp2
       rw [jump_ret]
       go_ret
       exact ⟨_,rfl,by rw [HPd.out];exact own.zin,hb⟩
     · obtain ⟨p,p1,p2,p3,p4,p5,p6,p7,p8,-,-⟩:=up_one hm hm2 (fun h=>hmr (by have:=HR.out;omega))
       have hsame:=same_tab m r hm1 hr127
       rw [decide_eq_false hmr,←H1.out,←H2.out] at hsame
       have u1:=lc_tab m hm1
       have u3:64 / 2 ^ levN m≤64:=Nat.div_le_self _ _
       have c4:=above_any (levN m) (colN m) (by omega) (by omega)
       have c5:=at_in (levN m+1) (colN m / 2) p6 p7
       rw [p8] at c5
       have hlt:=up_tab (levN m) (by omega)
       rw [←p4,←p5] at c4 c5
       rw [←p4] at hlt
       have hstep:upF l (7 - d.length) m=(p:Int) :: upF l (7 - (d.length+1)) p:=by
        rw [show 7 - d.length=(7 - (d.length+1))+1 by omega]
        show (match parN (m:Int) l with | some p=>(p:Int) :: upF l (7 - (d.length+1)) p | none=>[])=_
        rw [p3]
       have HN:Hid (P=(d ++ [(p:Int)]) ++ upF l (7 - (d ++ [(p:Int)]).length) p):=by
        refine HQ.out.trans ?_
        rw [hstep,List.length_append]
        simp
       have hdl:(d ++ [(p:Int)]).length≤levN p:=by rw [List.length_append];show d.length+1≤_;omega
       have hd9:d.length+1≤1000:=by omega
       have hbs:=hb.size
       have HL:Hid (9223372036854775808 - FB (levN p)<9223372036854775808 - FB (levN m)):=hlt
       have HE:Hid (d.length+1=(d ++ [(p:Int)]).length):=Hid.mk' (by simp)
       clear hstep HQ hmr p3 p4 p5 p6 p7 p8 hlt u1 u3
       obtain ⟨y1,hy1⟩:∃ x,x=FB (levN p):=⟨_,rfl⟩
       obtain ⟨y2,hy2⟩:∃ x,x=FB (colN p):=⟨_,rfl⟩
       rw [←hy1,←hy2] at c4 c5
       rw [←hy1] at HL
       have HY1:=Hid.mk' hy1
       have HY2:=Hid.mk' hy2
       clear hy1 hy2
       generalize FB (levN m)=x1 at *
       generalize FB (colN m)=x2 at *
       go_wp2_with (first
        | (go_at_call 40;refine (c4 _).mono ?_;clear c4;rintro e w1 ⟨rfl,hw⟩;subst hw)
        | (go_at_call 34;refine (c5 _).mono ?_;clear c5;rintro e w2 ⟨rfl,b2⟩;(replace own:=own.below b2);(replace hb:=below_next hb b2);(replace hbs:=hb.size);clear b2)
        | (at_builtin;refine wpList_append_z rfl (.tmp 24) (.tmp 27) rfl w.heap.size _ d _ rfl own rfl hd9 hbs ?_;intro v3 w3 own3 b3;(obtain ⟨x3,c3,e3⟩:=own3.slice);subst e3))
       go_step3
       obtain rfl:=HY1.out
       obtain rfl:=HY2.out
       rw [HE.out]
       exact ⟨rfl,⟨d ++ [(p:Int)],p,x3,c3,_,_,_,_,_,_,_,_,_,_,_,rfl,p1,p2,own3,hdl,HN,hb.trans b3⟩,HL⟩
   · intro hR
     go_wp2_with (first
      | (go_at_call 44;refine c0.mono ?_;clear c0;rintro e w1 ⟨rfl,hw⟩;subst hw)
      | (go_at_call 32;refine c1.mono ?_;clear c1;rintro e w1 ⟨rfl,b1⟩;(have c2:=c2 _ (hT.keep b1)))
      | (go_at_call 18;refine (c3 _).mono ?_;clear c3;rintro e w1 ⟨rfl,hw⟩;subst hw)
      | (go_at_call 32;refine c2.mono ?_;clear c2;rintro e w2 ⟨rfl,b2⟩))
     obtain rfl:=H3.out
     obtain rfl:=H4.out
     have hJ:=hR _ _ ⟨[],s,none,0,undef,undef,undef,undef,undef,undef,undef,undef,undef,undef,undef,rfl,hs127,hsl,OwnZ.nil _ _,Nat.zero_le _,HP,below_next b1 b2⟩
     go_step3
     exact (‹∀ (a:Act) (w:World),Code.wp _ _ _ a w→_›) _ _ hJ
 · replace hB:theB i l=false:=by simpa using hB
   rw [hB] at c0 ⊢
   clear hT
   go_enter Tryd.func26,Tryd.ntmps26
   go_wp2
   refine wp_scope_back 0 (fun _ _=>False) (fun _ _=>0) rfl (fun _ _ h=>h.elim) fun _ => ?_
   go_wp2_with (go_at_call 44;refine c0.mono ?_;clear c0;rintro e w1 ⟨rfl,hw⟩;subst hw)
   rw [jump_ret]
   go_ret
   exact ⟨_,rfl,ZIn.nil _,Below.refl _ _⟩
end Go.Proofs.YtodhmfddfjfhjaaDoor
namespace Go.Proofs.YtodhmfddfjfhjaaDoor
open Go.RowKit
set_option maxRecDepth 20000 in
set_option maxHeartbeats 4000000 in
theorem iCopath_any (i l:Int) (w:World) (hT:DbT w):Calls Tryd.prog 28 #[.int .i64 i,.int .i64 l] w fun e w'=>∃ v,e = .returned v∧ZIn w' v (copathL i l)∧Below w.heap.size w w':=by
 have c0:=hasLeaf_any i l w
 unfold copathL
 by_cases hB:theB i l=true
 · rw [hB] at c0
   rw [if_pos hB]
   obtain ⟨hm,h0,h1,h2⟩:=theB_cases hB
   obtain ⟨s,hs⟩:∃ s:Nat,2*i=(s:Int):=⟨(2*i).toNat,by omega⟩
   have hs127:s<127:=by omega
   have hsl:(s:Int)<2*l - 1:=by omega
   rw [hs,Int.toNat_natCast]
   have e1:wrap64 (2*i)=(s:Int):=by unfold wrap64;omega
   obtain ⟨P,hP⟩:∃ P,P=coF l 7 s:=⟨_,rfl⟩
   rw [←hP]
   have HP:=Hid.mk' hP
   have c1:=iPlace_in s hs127 w hT
   obtain ⟨r,hr⟩:∃ r:Nat,l - 1=(r:Int):=⟨(l - 1).toNat,by omega⟩
   have hr127:r<127:=by omega
   have c2:=iPlace_in r hr127
   have c3:=iRoot_any l
   rw [if_pos hm] at c3
   rw [←hr] at c2
   have HR:=Hid.mk' hr
   obtain ⟨T1,hT1⟩:∃ x,x=FB (levN r):=⟨_,rfl⟩
   obtain ⟨T2,hT2⟩:∃ x,x=FB (colN r):=⟨_,rfl⟩
   rw [←hT1,←hT2] at c2
   have H1:=Hid.mk' hT1
   have H2:=Hid.mk' hT2
   obtain ⟨S1,hS1⟩:∃ x,x=FB (levN s):=⟨_,rfl⟩
   obtain ⟨S2,hS2⟩:∃ x,x=FB (colN s):=⟨_,rfl⟩
   rw [←hS1,←hS2] at c1
   have H3:=Hid.mk' hS1
   have H4:=Hid.mk' hS2
   clear hP h0 h1 h2 hB hr hT1 hT2 hS1 hS2
   go_enter Tryd.func28,Tryd.ntmps28
   go_wp2
   refine wp_scope_back 0 (fun a' wr=>∃ (d:List Int) (m:Nat) (xa:Option Addr) (ca:Nat) (u18 u19 u20 u21 u22 u23 u24 u25 u26 u27 u28 u29:Value),a'={ tmps:=#[.int .i64 i,.int .i64 l,undef,undef,.slice none 0 0,.slice xa d.length ca,.complex .f64 (FB (levN m)) (FB (colN m)),.complex .f64 T1 T2,.int .i64 i,.int .i64 l,.bool true,.bool false,.int .i64 i,.int .i64 (s:Int),.complex .f64 S1 S2,.int .i64 l,.int .i64 (l - 1),.complex .f64 T1 T2,u18,u19,u20,u21,u22,u23,u24,u25,u26,u27,u28,u29],defers:=[] }∧m<127∧(m:Int)<2*l - 1∧OwnZ w.heap.size wr (.slice xa d.length ca) d∧d.length≤levN m∧Hid (P=d ++ coF l (7 - d.length) m)∧Below w.heap.size w wr) (fun a' _=>upM (a'.tmps.getD 6 undef)) rfl ?_ ?_
   · rintro a' wr ⟨d,m,xa,ca,u18,u19,u20,u21,u22,u23,u24,u25,u26,u27,u28,u29,rfl,hm1,hm2,own,hd,HQ,hb⟩
     clear c0 c1 c2 c3 HP
     by_cases hmr:m=r
     · have hPd:P=d:=by
        rw [HQ.out]
        have:coF l (7 - d.length) m=[]:=by
         cases 7 - d.length with
         | zero=>rfl
         | succ n =>
          show (match parN (m:Int) l with | some p=>((lftN p:Int)+(rgtN p:Int) - (m:Int)) :: coF l n p | none=>[])=[]
          rw [hmr,←HR.out,root_no hm]
        rw [this,List.append_nil]
       have hsame:=same_tab m r hm1 hr127
       rw [decide_eq_true hmr,←H1.out,←H2.out,Bool.and_eq_true] at hsame
       obtain ⟨g1,g2⟩:=hsame
       have HPd:=Hid.mk' hPd
       clear hmr hPd HQ
       generalize FB (levN m)=x1 at *
       generalize FB (colN m)=x2 at *
       go_wp2
       rw [jump_ret]
       go_ret
       exact ⟨_,rfl,by rw [HPd.out];exact own.zin,hb⟩
     · obtain ⟨p,p1,p2,p3,p4,p5,p6,p7,p8,p9,pa⟩:=up_one hm hm2 (fun h=>hmr (by have:=HR.out;omega))
       have hsame:=same_tab m r hm1 hr127
       rw [decide_eq_false hmr,←H1.out,←H2.out] at hsame
       have u1:=lc_tab m hm1
       have u3:64 / 2 ^ levN m≤64:=Nat.div_le_self _ _
       have c4:=above_any (levN m) (colN m) (by omega) (by omega)
       have c6:=beside_any (levN m) (colN m) (by omega) (by omega)
       have c5:=at_in (levN m) (othN (colN m)) u1.1 pa
       obtain ⟨q,hq⟩:∃ q:Int,q=(plcN (levN m) (othN (colN m)):Int):=⟨_,rfl⟩
       rw [←hq] at c5 p9
       have hlt:=up_tab (levN m) (by omega)
       rw [←p4,←p5] at c4
       rw [←p4] at hlt
       have hstep:coF l (7 - d.length) m=q :: coF l (7 - (d.length+1)) p:=by
        rw [show 7 - d.length=(7 - (d.length+1))+1 by omega]
        show (match parN (m:Int) l with | some p=>((lftN p:Int)+(rgtN p:Int) - (m:Int)) :: coF l (7 - (d.length+1)) p | none=>[])=_
        rw [p3,←p9]
       have HN:Hid (P=(d ++ [q]) ++ coF l (7 - (d ++ [q]).length) p):=by
        refine HQ.out.trans ?_
        rw [hstep,List.length_append]
        simp
       have hdl:(d ++ [q]).length≤levN p:=by rw [List.length_append];show d.length+1≤_;omega
       have hd9:d.length+1≤1000:=by omega
       have hbs:=hb.size
       have HL:Hid (9223372036854775808 - FB (levN p)<9223372036854775808 - FB (levN m)):=hlt
       have HE:Hid (d.length+1=(d ++ [q]).length):=Hid.mk' (by simp)
       clear hstep HQ hmr p3 p4 p5 p6 p7 p8 p9 pa hq hlt u1 u3
       obtain ⟨y1,hy1⟩:∃ x,x=FB (levN p):=⟨_,rfl⟩
       obtain ⟨y2,hy2⟩:∃ x,x=FB (colN p):=⟨_,rfl⟩
       rw [←hy1,←hy2] at c4
       rw [←hy1] at HL
       have HY1:=Hid.mk' hy1
       have HY2:=Hid.mk' hy2
       clear hy1 hy2
       generalize FB (levN m)=x1 at *
       generalize FB (othN (colN m))=x3 at *
       generalize FB (colN m)=x2 at *
       go_wp2_with (first
        | (go_at_call 38;refine (c6 _).mono ?_;clear c6;rintro e w1 ⟨rfl,hw⟩;subst hw)
        | (go_at_call 40;refine (c4 _).mono ?_;clear c4;rintro e w1 ⟨rfl,hw⟩;subst hw)
        | (go_at_call 34;refine (c5 _).mono ?_;clear c5;rintro e w2 ⟨rfl,b2⟩;(replace own:=own.below b2);(replace hb:=below_next hb b2);(replace hbs:=hb.size);clear b2)
        | (at_builtin;refine wpList_append_z rfl (.tmp 22) (.tmp 26) rfl w.heap.size _ d _ rfl own rfl hd9 hbs ?_;intro v3 w3 own3 b3;(obtain ⟨x4,c3,e3⟩:=own3.slice);subst e3))
       go_step3
       obtain rfl:=HY1.out
       obtain rfl:=HY2.out
       rw [HE.out]
       exact ⟨rfl,⟨d ++ [q],p,x4,c3,_,_,_,_,_,_,_,_,_,_,_,_,rfl,p1,p2,own3,hdl,HN,hb.trans b3⟩,HL⟩
   · intro hR
     go_wp2_with (first
      | (go_at_call 44;refine c0.mono ?_;clear c0;rintro e w1 ⟨rfl,hw⟩;subst hw)
      | (go_at_call 32;refine c1.mono ?_;clear c1;rintro e w1 ⟨rfl,b1⟩;(have c2:=c2 _ (hT.keep b1)))
      | (go_at_call 18;refine (c3 _).mono ?_;clear c3;rintro e w1 ⟨rfl,hw⟩;subst hw)
      | (go_at_call 32;refine c2.mono ?_;clear c2;rintro e w2 ⟨rfl,b2⟩))
     obtain rfl:=H3.out
     obtain rfl:=H4.out
     have hJ:=hR _ _ ⟨[],s,none,0,undef,undef,undef,undef,undef,undef,undef,undef,undef,undef,undef,undef,rfl,hs127,hsl,OwnZ.nil _ _,Nat.zero_le _,HP,below_next b1 b2⟩
     go_step3
     exact (‹∀ (a:Act) (w:World),Code.wp _ _ _ a w→_›) _ _ hJ
 · replace hB:theB i l=false:=by simpa using hB
   rw [hB] at c0 ⊢
   clear hT
   go_enter Tryd.func28,Tryd.ntmps28
   go_wp2
   refine wp_scope_back 0 (fun _ _=>False) (fun _ _=>0) rfl (fun _ _ h=>h.elim) fun _ => ?_
   go_wp2_with (go_at_call 44;refine c0.mono ?_;clear c0;rintro e w1 ⟨rfl,hw⟩;subst hw)
   rw [jump_ret]
   go_ret
   exact ⟨_,rfl,ZIn.nil _,Below.refl _ _⟩
end Go.Proofs.YtodhmfddfjfhjaaDoor
namespace Go.Proofs.YtodhmfddfjfhjaaDoor
open Go.RowKit
theorem bel_tab (k c i:Nat) (hk:k<7) (hc:c<64 / 2 ^ k) (hi:i<64):belB (plcN k c:Int) (i:Int)=decide (i / 2 ^ k=c):=by
 have h:(List.range 7).all (fun k=>(List.range (64 / 2 ^ k)).all fun c=>(List.range 64).all fun i=>belB (plcN k c:Int) (i:Int) == decide (i / 2 ^ k=c))=true:=by kernel_rfl
 exact beq_iff_eq.1 (List.all_eq_true.1 (List.all_eq_true.1 (List.all_eq_true.1 h k (List.mem_range.2 hk)) c (List.mem_range.2 hc)) i (List.mem_range.2 hi))
theorem col_in (i k:Nat) (hi:i<64) (hk:k<7):i / 2 ^ k<64 / 2 ^ k:=by
 rcases (show k=0∨k=1∨k=2∨k=3∨k=4∨k=5∨k=6 by omega) with rfl | rfl | rfl | rfl | rfl | rfl | rfl <;> simp <;> omega
theorem leaf_tab (i:Nat) (hi:i<64):levN (2*i)=0∧colN (2*i)=i:=by
 have h:(List.range 64).all (fun i=>levN (2*i) == 0 && colN (2*i) == i)=true:=by kernel_rfl
 have:=List.all_eq_true.1 h i (List.mem_range.2 hi)
 simpa using this
theorem col_up (i k:Nat):i / 2 ^ k / 2=i / 2 ^ (k+1):=by rw [Nat.div_div_eq_div_mul,Nat.pow_succ]
set_option maxRecDepth 20000 in
set_option maxHeartbeats 4000000 in
theorem iCommon_any (a b l:Int) (w:World) (hT:DbT w):Calls Tryd.prog 23 #[.int .i64 a,.int .i64 b,.int .i64 l] w fun e w'=>e = .returned (.tuple #[.int .i64 (commonA a b l).1,.bool (commonA a b l).2])∧Below w.heap.size w w':=by
 have c0:=hasLeaf_any a l w
 have c1:=hasLeaf_any b l w
 unfold commonA
 cases hA:theB a l with
 | false =>
  rw [hA] at c0
  clear hT c1
  go_enter Tryd.func23,Tryd.ntmps23
  go_wp2
  refine wp_scope_back 0 (fun _ _=>False) (fun _ _=>0) rfl (fun _ _ h=>h.elim) fun _ => ?_
  go_wp2_with (go_at_call 44;refine c0.mono ?_;clear c0;rintro e w1 ⟨rfl,hw⟩;subst hw)
  rw [jump_ret]
  go_ret2
  exact ⟨rfl,Below.refl _ _⟩
 | true =>
  cases hB:theB b l with
  | false =>
   rw [hA] at c0
   rw [hB] at c1
   clear hT
   go_enter Tryd.func23,Tryd.ntmps23
   go_wp2
   refine wp_scope_back 0 (fun _ _=>False) (fun _ _=>0) rfl (fun _ _ h=>h.elim) fun _ => ?_
   go_wp2_with (first
    | (go_at_call 44;refine c0.mono ?_;clear c0;rintro e w1 ⟨rfl,hw⟩;subst hw)
    | (go_at_call 44;refine c1.mono ?_;clear c1;rintro e w1 ⟨rfl,hw⟩;subst hw))
   rw [jump_ret]
   go_ret2
   exact ⟨rfl,Below.refl _ _⟩
  | true =>
   rw [hA] at c0
   rw [hB] at c1
   obtain ⟨hm,h0,h1,h2⟩:=theB_cases hA
   obtain ⟨-,h3,h4,-⟩:=theB_cases hB
   obtain ⟨na,hna⟩:∃ n:Nat,a=(n:Int):=⟨a.toNat,by omega⟩
   obtain ⟨nb,hnb⟩:∃ n:Nat,b=(n:Int):=⟨b.toNat,by omega⟩
   have ia:na<64:=by omega
   have ib:nb<64:=by omega
   obtain ⟨l1,l2⟩:=leaf_tab na ia
   obtain ⟨l3,l4⟩:=leaf_tab nb ib
   obtain ⟨sa,hsa⟩:∃ s:Int,s=((2*na:Nat):Int):=⟨_,rfl⟩
   obtain ⟨sb,hsb⟩:∃ s:Int,s=((2*nb:Nat):Int):=⟨_,rfl⟩
   have c2:=iPlace_in (2*na) (by omega) w hT
   have c3:=iPlace_in (2*nb) (by omega)
   rw [l1,l2,←hsa] at c2
   rw [l3,l4,←hsb] at c3
   have e1:wrap64 (2*a)=sa:=by unfold wrap64;omega
   have e2:wrap64 (2*b)=sb:=by unfold wrap64;omega
   have hsl:((2*na:Nat):Int)<2*l - 1:=by omega
   show Calls _ _ _ _ fun e w'=>e = .returned (.tuple #[.int .i64 (comF l b 7 (2*a).toNat:Int),.bool true])∧_
   rw [show (2*a).toNat=2*na by omega]
   obtain ⟨C,hC⟩:∃ C,C=comF l b 7 (2*na):=⟨_,rfl⟩
   rw [←hC]
   have HC:=Hid.mk' hC
   have HNB:=Hid.mk' hnb
   have HB:=Hid.mk' hB
   obtain ⟨S1,hS1⟩:∃ x,x=FB 0:=⟨_,rfl⟩
   obtain ⟨S2,hS2⟩:∃ x,x=FB na:=⟨_,rfl⟩
   obtain ⟨S4,hS4⟩:∃ x,x=FB nb:=⟨_,rfl⟩
   obtain ⟨S3,hS3⟩:∃ x,x=S1:=⟨_,rfl⟩
   rw [←hS1,←hS2] at c2
   rw [←hS1,←hS3,←hS4] at c3
   have H1:=Hid.mk' hS1
   have H2:=Hid.mk' hS2
   have H3:=Hid.mk' hS3
   have H4:=Hid.mk' hS4
   clear hC hA hB h0 h1 h2 h3 h4 hsa hsb hna hnb l1 l2 l3 l4 hS1 hS2 hS3 hS4
   go_enter Tryd.func23,Tryd.ntmps23
   go_wp2
   refine wp_scope_back 0 (fun a' wr=>∃ (k:Nat) (u26 u27 u28 u29 u30 u31 u32 u33 u34:Value),a'={ tmps:=#[.int .i64 a,.int .i64 b,.int .i64 l,undef,undef,undef,.int .i64 0,.bool false,.complex .f64 (FB k) (FB (na / 2 ^ k)),.complex .f64 (FB k) (FB (nb / 2 ^ k)),.int .i64 a,.int .i64 l,.bool true,.bool false,.bool false,.int .i64 b,.int .i64 l,.bool true,.bool false,.bool false,.int .i64 a,.int .i64 sa,.complex .f64 S1 S2,.int .i64 b,.int .i64 sb,.complex .f64 S3 S4,u26,u27,u28,u29,u30,u31,u32,u33,u34],defers:=[] }∧k<7∧(plcN k (na / 2 ^ k):Int)<2*l - 1∧Hid (C=comF l b (7 - k) (plcN k (na / 2 ^ k)))∧Below w.heap.size w wr) (fun a' _=>upM (a'.tmps.getD 8 undef)) rfl ?_ ?_
   · rintro a' wr ⟨k,u26,u27,u28,u29,u30,u31,u32,u33,u34,rfl,hk,hin,HQ,hb⟩
     clear c0 c1 c2 c3 HC
     have q1:=col_in na k ia hk
     have q2:=col_in nb k ib hk
     have q3:64 / 2 ^ k≤64:=Nat.div_le_self _ _
     have o1:=ord_tab k k (by omega) (by omega)
     rw [decide_eq_true rfl] at o1
     have o2:=ord_tab (na / 2 ^ k) (nb / 2 ^ k) (by omega) (by omega)
     have hbel:=bel_tab k (na / 2 ^ k) nb hk q1 ib
     rw [←HNB.out] at hbel
     have hstep:comF l b (7 - k) (plcN k (na / 2 ^ k))=if belB (plcN k (na / 2 ^ k):Int) b then plcN k (na / 2 ^ k) else match parN (plcN k (na / 2 ^ k):Int) l with | some p=>comF l b (7 - (k+1)) p | none=>plcN k (na / 2 ^ k):=by
      rw [show 7 - k=(7 - (k+1))+1 by omega]
      rfl
     by_cases he:na / 2 ^ k=nb / 2 ^ k
     · rw [decide_eq_true he.symm] at hbel
       rw [decide_eq_true he] at o2
       rw [hbel,if_pos rfl] at hstep
       have HF:Hid (C=plcN k (na / 2 ^ k)):=HQ.out.trans hstep
       have c5:=at_in k (na / 2 ^ k) hk q1
       clear hstep HQ hbel he q1 q2 q3 hin
       generalize plcN k (na / 2 ^ k)=p at *
       generalize FB k=x0 at *
       generalize FB (na / 2 ^ k)=x1 at *
       generalize FB (nb / 2 ^ k)=x2 at *
       go_wp2_with (go_at_call 34;refine (c5 _).mono ?_;clear c5;rintro e w2 ⟨rfl,b2⟩)
       rw [jump_ret]
       go_ret2
       exact ⟨by rw [HF.out];rfl,below_next hb b2⟩
     · rw [decide_eq_false (fun h=>he h.symm)] at hbel
       rw [decide_eq_false he] at o2
       rw [hbel,if_neg (by decide)] at hstep
       have hr:¬(plcN k (na / 2 ^ k):Int)=l - 1:=by
        intro h
        rw [h,root_all HB.out] at hbel
        cases hbel
       obtain ⟨p,p1,p2,p3,p4,p5,p6,p7,p8,-,-⟩:=up_one hm hin hr
       obtain ⟨-,t2,t3⟩:=cl_tab k _ hk q1
       rw [t2,t3] at p8
       rw [t2] at p6
       rw [p3] at hstep
       rw [col_up] at p8
       have c4:=above_any k (na / 2 ^ k) (by omega) (by omega)
       have c5:=above_any k (nb / 2 ^ k) (by omega) (by omega)
       rw [col_up] at c4 c5
       have hlt:=up_tab k (by omega)
       have HL:Hid (9223372036854775808 - FB (k+1)<9223372036854775808 - FB k):=hlt
       have HF:Hid (C=comF l b (7 - (k+1)) (plcN (k+1) (na / 2 ^ (k+1)))):=HQ.out.trans (hstep.trans (by rw [p8]))
       have HI:Hid ((plcN (k+1) (na / 2 ^ (k+1)):Int)<2*l - 1):=by rw [p8];exact p2
       clear hstep HQ hbel he hr q1 q2 q3 hin p1 p2 p3 p4 p5 p7 p8 t2 t3 hlt
       obtain ⟨y0,hy0⟩:∃ x,x=FB (k+1):=⟨_,rfl⟩
       obtain ⟨y1,hy1⟩:∃ x,x=FB (na / 2 ^ (k+1)):=⟨_,rfl⟩
       obtain ⟨y2,hy2⟩:∃ x,x=FB (nb / 2 ^ (k+1)):=⟨_,rfl⟩
       rw [←hy0,←hy1] at c4
       rw [←hy0,←hy2] at c5
       rw [←hy0] at HL
       have HY0:=Hid.mk' hy0
       have HY1:=Hid.mk' hy1
       have HY2:=Hid.mk' hy2
       clear hy0 hy1 hy2
       generalize FB k=x0 at *
       generalize FB (na / 2 ^ k)=x1 at *
       generalize FB (nb / 2 ^ k)=x2 at *
       go_wp2_with (first
        | (go_at_call 40;refine (c4 _).mono ?_;clear c4;rintro e w1 ⟨rfl,hw⟩;subst hw)
        | (go_at_call 40;refine (c5 _).mono ?_;clear c5;rintro e w1 ⟨rfl,hw⟩;subst hw))
       go_step3
       obtain rfl:=HY0.out
       obtain rfl:=HY1.out
       obtain rfl:=HY2.out
       exact ⟨rfl,⟨k+1,_,_,_,_,_,_,_,_,_,rfl,p6,HI.out,HF,hb⟩,HL⟩
   · intro hR
     go_wp2_with (first
      | (go_at_call 44;refine c0.mono ?_;clear c0;rintro e w1 ⟨rfl,hw⟩;subst hw)
      | (go_at_call 44;refine c1.mono ?_;clear c1;rintro e w1 ⟨rfl,hw⟩;subst hw)
      | (go_at_call 32;refine c2.mono ?_;clear c2;rintro e w1 ⟨rfl,b1⟩;(have c3:=c3 _ (hT.keep b1)))
      | (go_at_call 32;refine c3.mono ?_;clear c3;rintro e w2 ⟨rfl,b2⟩))
     obtain rfl:=H3.out
     obtain rfl:=H1.out
     obtain rfl:=H2.out
     obtain rfl:=H4.out
     have z1:na / 2 ^ 0=na:=by simp
     have z2:nb / 2 ^ 0=nb:=by simp
     have z3:plcN 0 na=2*na:=by unfold plcN;simp;omega
     have hJ:=hR _ _ ⟨0,undef,undef,undef,undef,undef,undef,undef,undef,undef,rfl,by decide,by rw [z1,z3];exact hsl,by rw [z1,z3];exact HC,below_next b1 b2⟩
     rw [z1,z2] at hJ
     go_step3
     exact (‹∀ (a:Act) (w:World),Code.wp _ _ _ a w→_›) _ _ hJ
end Go.Proofs.YtodhmfddfjfhjaaDoor
namespace Go.Proofs.YtodhmfddfjfhjaaDoor
open Go.RowKit
theorem ge_tab (a b:Nat) (ha:a<7) (hb:b<7):(FloatKind.f64.format.order (FB a) (FB b) == some .gt || FloatKind.f64.format.order (FB a) (FB b) == some .eq)=decide (b≤a):=by
 have h:(List.range 7).all (fun a=>(List.range 7).all fun b=>(FloatKind.f64.format.order (FB a) (FB b) == some .gt || FloatKind.f64.format.order (FB a) (FB b) == some .eq) == decide (b≤a))=true:=by kernel_rfl
 exact beq_iff_eq.1 (List.all_eq_true.1 (List.all_eq_true.1 h a (List.mem_range.2 ha)) b (List.mem_range.2 hb))
theorem neg_ge:FloatKind.f64.format.order (FB 0) 13830554455654793216=some .gt:=by kernel_rfl
theorem the_64 (i:Int):theB i 64=(decide (0≤i) && decide (i<64)):=by unfold theB;rw [show mayB 64=true by kernel_rfl,Bool.true_and]
set_option maxRecDepth 20000 in
set_option maxHeartbeats 4000000 in
theorem iBelow_any (x i:Int) (w:World) (hT:DbT w):Calls Tryd.prog 30 #[.int .i64 x,.int .i64 i] w fun e w'=>e = .returned (.bool (belB x i))∧Below w.heap.size w w':=by
 have c0:=hasLeaf_any i 64 w
 rw [the_64] at c0
 by_cases hi:0≤i∧i<64
 · obtain ⟨h0,h1⟩:=hi
   rw [decide_eq_true h0,decide_eq_true h1] at c0
   obtain ⟨n,hn⟩:∃ n:Nat,i=(n:Int):=⟨i.toNat,by omega⟩
   have hn64:n<64:=by omega
   obtain ⟨l1,l2⟩:=leaf_tab n hn64
   obtain ⟨s,hs⟩:∃ s:Int,s=((2*n:Nat):Int):=⟨_,rfl⟩
   have c1:=iPlace_in (2*n) (by omega) w hT
   rw [l1,l2,←hs] at c1
   have e1:wrap64 (2*i)=s:=by unfold wrap64;omega
   by_cases hx:x<0∨127≤x
   · have hb:belB x i=false:=by unfold belB;rw [if_pos (by omega)]
     rw [hb]
     have c2:=iPlace_out x hx
     have r1:=neg_ge
     clear hx hb hs hn h0 h1 l1 l2 hT
     generalize FB 0=S1 at *
     generalize FB n=S2 at *
     go_enter Tryd.func30,Tryd.ntmps30
     go_wp2
     refine wp_scope_back 0 (fun a' wr=>(∃ (u15 u16 u17 u18 u19 u20 u21 u22 u23 u24:Value),a'={ tmps:=#[.int .i64 x,.int .i64 i,undef,undef,.bool false,.complex .f64 S1 S2,.complex .f64 13830554455654793216 0,.int .i64 i,.bool true,.bool false,.int .i64 i,.int .i64 s,.complex .f64 S1 S2,.int .i64 x,.complex .f64 13830554455654793216 0,u15,u16,u17,u18,u19,u20,u21,u22,u23,u24],defers:=[] })∧Below w.heap.size w wr) (fun _ _=>0) rfl ?_ ?_
     · rintro a' wr ⟨⟨u15,u16,u17,u18,u19,u20,u21,u22,u23,u24,rfl⟩,hb⟩
       clear c0 c1 c2
       go_wp2
       rw [jump_ret]
       go_ret
       exact ⟨rfl,hb⟩
     · intro hR
       go_wp2_with (first
        | (go_at_call 44;refine c0.mono ?_;clear c0;rintro e w1 ⟨rfl,hw⟩;subst hw)
        | (go_at_call 32;refine c1.mono ?_;clear c1;rintro e w1 ⟨rfl,b1⟩)
        | (go_at_call 32;refine (c2 _).mono ?_;clear c2;rintro e w2 ⟨rfl,b2⟩))
       have hJ:=hR _ _ ⟨⟨undef,undef,undef,undef,undef,undef,undef,undef,undef,undef,rfl⟩,below_next b1 b2⟩
       go_step3
       exact (‹∀ (a:Act) (w:World),Code.wp _ _ _ a w→_›) _ _ hJ
   · obtain ⟨y,rfl⟩:∃ y:Nat,x=(y:Int):=⟨x.toNat,by omega⟩
     have hy:y<127:=by omega
     obtain ⟨t1,t2,t3⟩:=lc_tab y hy
     have c2:=iPlace_in y hy
     have hbel:=bel_tab (levN y) (colN y) n t1 t2 hn64
     rw [t3,←hn] at hbel
     rw [hbel]
     obtain ⟨x,hxy⟩:∃ x:Int,x=(y:Int):=⟨_,rfl⟩
     rw [←hxy] at c2 ⊢
     have t4:64 / 2 ^ levN y≤64:=Nat.div_le_self _ _
     have tc:colN y<64:=by omega
     clear hx hbel hxy hs hn h0 h1 l1 l2 t2 t3 t4 hy
     generalize levN y=t at *
     generalize colN y=q at *
     obtain ⟨T1,hT1⟩:∃ x,x=FB t:=⟨_,rfl⟩
     obtain ⟨T2,hT2⟩:∃ x,x=FB q:=⟨_,rfl⟩
     rw [←hT1,←hT2] at c2
     have H1:=Hid.mk' hT1
     have H2:=Hid.mk' hT2
     obtain ⟨S1,hS1⟩:∃ x,x=FB 0:=⟨_,rfl⟩
     obtain ⟨S2,hS2⟩:∃ x,x=FB n:=⟨_,rfl⟩
     rw [←hS1,←hS2] at c1
     have H3:=Hid.mk' hS1
     have H4:=Hid.mk' hS2
     clear hT1 hT2 hS1 hS2
     go_enter Tryd.func30,Tryd.ntmps30
     go_wp2
     refine wp_scope_back 0 (fun a' wr=>∃ (k:Nat) (u15 u16 u17 u18 u19 u20 u21 u22 u23 u24:Value),a'={ tmps:=#[.int .i64 x,.int .i64 i,undef,undef,.bool false,.complex .f64 (FB k) (FB (n / 2 ^ k)),.complex .f64 T1 T2,.int .i64 i,.bool true,.bool false,.int .i64 i,.int .i64 s,.complex .f64 S1 S2,.int .i64 x,.complex .f64 T1 T2,u15,u16,u17,u18,u19,u20,u21,u22,u23,u24],defers:=[] }∧k≤t∧Below w.heap.size w wr) (fun a' _=>upM (a'.tmps.getD 5 undef)) rfl ?_ ?_
     · rintro a' wr ⟨k,u15,u16,u17,u18,u19,u20,u21,u22,u23,u24,rfl,hk,hb⟩
       clear c0 c1 c2 H3 H4
       have q1:=col_in n k hn64 (by omega)
       have q3:64 / 2 ^ k≤64:=Nat.div_le_self _ _
       have o1:=ge_tab k t (by omega) t1
       rw [←H1.out] at o1
       by_cases hkt:k=t
       · have o2:=ord_tab k t (by omega) (by omega)
         have o3:=ord_tab (n / 2 ^ k) q (by omega) tc
         rw [decide_eq_true hkt,←H1.out] at o2
         rw [←H2.out] at o3
         rw [decide_eq_true (by omega)] at o1
         have HG:Hid (decide (n / 2 ^ k=q)=decide (n / 2 ^ t=q)):=by rw [hkt];exact rfl
         generalize decide (n / 2 ^ k=q)=A at *
         clear hkt H1 H2 hk q1 q3
         generalize FB k=x0 at *
         generalize FB (n / 2 ^ k)=x1 at *
         cases A <;>
         · go_wp2
           rw [jump_ret]
           go_ret
           exact ⟨by rw [←HG.out];rfl,hb⟩
       · rw [decide_eq_false (by omega)] at o1
         have c4:=above_any k (n / 2 ^ k) (by omega) (by omega)
         rw [col_up] at c4
         have HL:Hid (9223372036854775808 - FB (k+1)<9223372036854775808 - FB k):=up_tab k (by omega)
         have hk1:k+1≤t:=by omega
         obtain ⟨y0,hy0⟩:∃ x,x=FB (k+1):=⟨_,rfl⟩
         obtain ⟨y1,hy1⟩:∃ x,x=FB (n / 2 ^ (k+1)):=⟨_,rfl⟩
         rw [←hy0,←hy1] at c4
         rw [←hy0] at HL
         have HY0:=Hid.mk' hy0
         have HY1:=Hid.mk' hy1
         clear hy0 hy1 hkt hk H1 H2 q1 q3
         generalize FB k=x0 at *
         generalize FB (n / 2 ^ k)=x1 at *
         go_wp2_with (go_at_call 40;refine (c4 _).mono ?_;clear c4;rintro e w1 ⟨rfl,hw⟩;subst hw)
         go_step3
         obtain rfl:=HY0.out
         obtain rfl:=HY1.out
         exact ⟨rfl,⟨k+1,_,_,_,_,_,_,_,_,_,_,rfl,hk1,hb⟩,HL⟩
     · intro hR
       go_wp2_with (first
        | (go_at_call 44;refine c0.mono ?_;clear c0;rintro e w1 ⟨rfl,hw⟩;subst hw)
        | (go_at_call 32;refine c1.mono ?_;clear c1;rintro e w1 ⟨rfl,b1⟩;(have c2:=c2 _ (hT.keep b1)))
        | (go_at_call 32;refine c2.mono ?_;clear c2;rintro e w2 ⟨rfl,b2⟩))
       obtain rfl:=H3.out
       obtain rfl:=H4.out
       have z1:n / 2 ^ 0=n:=by simp
       have hJ:=hR _ _ ⟨0,undef,undef,undef,undef,undef,undef,undef,undef,undef,undef,rfl,Nat.zero_le _,below_next b1 b2⟩
       rw [z1] at hJ
       go_step3
       exact (‹∀ (a:Act) (w:World),Code.wp _ _ _ a w→_›) _ _ hJ
 · have hb:belB x i=false:=by unfold belB;rw [if_pos (by omega)]
   rw [hb]
   have hd:(decide (0≤i) && decide (i<64))=false:=by
    rw [Bool.and_eq_false_iff]
    by_cases h:0≤i
    · exact .inr (decide_eq_false (fun h2=>hi ⟨h,h2⟩))
    · exact .inl (decide_eq_false h)
   rw [hd] at c0
   clear hb hi hd hT
   go_enter Tryd.func30,Tryd.ntmps30
   go_wp2
   refine wp_scope_back 0 (fun _ _=>False) (fun _ _=>0) rfl (fun _ _ h=>h.elim) fun _ => ?_
   go_wp2_with (go_at_call 44;refine c0.mono ?_;clear c0;rintro e w1 ⟨rfl,hw⟩;subst hw)
   rw [jump_ret]
   go_ret
   exact ⟨rfl,Below.refl _ _⟩
end Go.Proofs.YtodhmfddfjfhjaaDoor
namespace Go.Proofs.YtodhmfddfjfhjaaDoor
open Go.RowKit
theorem same_below {w w':World} (h:w=w'):Below w.heap.size w w':=by subst h;exact Below.refl _ _
theorem jWidth_any (l:Int) (w:World) (_:DbT w):Calls Tryd.prog 16 #[.int .i64 l] w fun e w'=>e = .returned (.int .i64 (if mayB l then 2*l - 1 else -1))∧Below w.heap.size w w':=(iWidth_any l w).mono fun _ _ h=>⟨h.1,same_below h.2⟩
theorem jRoot_any (l:Int) (w:World) (_:DbT w):Calls Tryd.prog 18 #[.int .i64 l] w fun e w'=>e = .returned (.int .i64 (if mayB l then l - 1 else -1))∧Below w.heap.size w w':=(iRoot_any l w).mono fun _ _ h=>⟨h.1,same_below h.2⟩
theorem jLevel_any (x:Int) (hx:x≤9223372036854775807) (w:World) (hT:DbT w):Calls Tryd.prog 20 #[.int .i64 x] w fun e w'=>e = .returned (.int .i64 (levA x))∧Below w.heap.size w w':=(iLevel_any x hx w hT).mono fun _ _ h=>⟨h.1,same_below h.2⟩
theorem jPlace_any (x:Int) (w:World) (hT:DbT w):Calls Tryd.prog 32 #[.int .i64 x] w fun e w'=>e = .returned (.complex .f64 (plcA x).1 (plcA x).2)∧Below w.heap.size w w':=by
 by_cases h:x<0∨127≤x
 · unfold plcA
   rw [if_pos h]
   exact iPlace_out x h w
 · obtain ⟨y,rfl⟩:∃ y:Nat,x=(y:Int):=⟨x.toNat,by omega⟩
   rw [plc_in (by omega)]
   exact iPlace_in y (by omega) w hT
end Go.Proofs.YtodhmfddfjfhjaaDoor
namespace Go.Proofs.YtodhmfddfjfhjaaDoor
open Go.RowKit
structure RW (w:World) (g o:Nat) (cs:List Value):Prop where
 range:w.rangeAt g o cs
 there:w.there g o cs.length
 lt:g<w.heap.size
theorem RW.still {w w':World} {g o:Nat} {cs:List Value} (h:RW w g o cs) (hb:Below w.heap.size w w'):RW w' g o cs :=
 ⟨fun j v hv=>(hb.cell (p:=⟨g,o+j,none⟩) h.lt).trans (h.range j v hv),fun j hj=>by
   rw [hb.cell (p:=⟨g,o+j,none⟩) h.lt,hb.frozen (p:=⟨g,o+j,none⟩) h.lt];exact h.there j hj,Nat.lt_of_lt_of_le h.lt hb.size⟩
theorem RW.below {w w':World} {g o B:Nat} {cs:List Value} (h:RW w g o cs) (hb:Below B w w') (hB:g<B):RW w' g o cs :=
 ⟨fun j v hv=>(hb.cell (p:=⟨g,o+j,none⟩) hB).trans (h.range j v hv),fun j hj=>by
   rw [hb.cell (p:=⟨g,o+j,none⟩) hB,hb.frozen (p:=⟨g,o+j,none⟩) hB];exact h.there j hj,Nat.lt_of_lt_of_le h.lt hb.size⟩
theorem RW.out {w w':World} {g o b p n:Nat} {cs:List Value} (h:RW w g o cs) (hb:Out b p n w w') (hne:g≠b):RW w' g o cs :=
 ⟨fun j v hv=>(hb.cell' h.lt hne).trans (h.range j v hv),fun j hj=>by
   rw [hb.cell' h.lt hne,hb.frozen' h.lt hne];exact h.there j hj,Nat.lt_of_lt_of_le h.lt hb.size⟩
theorem RW.drew {w:World} {g o:Nat} {cs:List Value} (h:RW w g o cs):RW w.drew g o cs:=h.still ((Below.refl _ _).drew)
end Go.Proofs.YtodhmfddfjfhjaaDoor
namespace Go.Proofs.YtodhmfddfjfhjaaDoor
open Go.RowKit
theorem pS:(∀ (a:Act) (d:Nat) (v:Value),a.put (some d) v={ a with tmps:=a.tmps.setIfInBounds d v })∧(∀ (l:List Value) (i:Nat) (v:Value),l.toArray.setIfInBounds i v=(l.set i v).toArray)∧(∀ (x:Value) (l:List Value) (v:Value),(x :: l).set 0 v=v :: l)∧(∀ (x:Value) (l:List Value) (n:Nat) (v:Value),(x :: l).set (n+1) v=x :: l.set n v) :=
 ⟨fun _ _ _=>rfl,fun _ _ _=>List.setIfInBounds_toArray ..,fun _ _ _=>rfl,fun _ _ _ _=>rfl⟩
section
variable {P:Program} {md:Region.Mode} {ops:Array Oper} {Q:Exit→Act→World→Prop} {S:World→Prop} {fuel:Nat} {listed:Array Bool} {a:Act} {w:World}
theorem tkH (i:Nat) (oi:Oper) (v:Value) (hS:S w) (hy:YieldsIf P ops S oi v a)
 (h:wpAnyH P md ops Q S fuel (listed.setIfInBounds i true) (a.put oi.dst v) w) (hQ:∀ c a w,Q (.panic c) (a.put oi.dst v) w→Q (.panic c) a w:=by exact fun _ _ _ h=>h) (hi:ops[i]? = some oi:=by rfl) (hs:Region.noSelect ops=true:=by kernel_rfl) (hf:Region.free md ops listed i=true:=by kernel_rfl) (hr:(Region.ready md ops listed).contains i=true:=by kernel_rfl):wpAnyH P md ops Q S (fuel+1) listed a w :=
 wpAnyH_take hi hs hf hr hQ hy hS h
theorem arC {i:Nat} {rs:List Nat} (oi:Oper) {f:FuncId} {args:Array Value} {R:Ending→World→Prop} (c:Calls P f args w R) (h:∀ e w',R e w'→∃ r,e = .returned r∧S w'∧wpAnyH P md ops Q S fuel (listed.setIfInBounds i true) (a.put oi.dst r) w') (hs:AllReadyH P md ops Q S fuel listed a w rs)
 (hi:ops[i]? = some oi:=by rfl) (hw:Region.wanted oi (yielded ops a.tmps)=true:=by rfl) (hrun:(execOp a.eval oi).run P w = .ok (.enter f args) w:=by kernel_rfl):AllReadyH P md ops Q S fuel listed a w (i :: rs):=by
 refine AllReadyH.cons hi (fun K hK => ?_) hs
 rw [if_pos hw]
 unfold Oper.wp
 rw [hrun,Oper.upon_enter]
 refine c.mono fun e w' hR => ?_
 obtain ⟨r,rfl,hS,hk⟩:=h e w' hR
 exact hK.out _ _ hS (fun _=>hk)
theorem callH (i:Nat) (oi:Oper) {f:FuncId} {args:Array Value} {R:Ending→World→Prop} (c:Calls P f args w R) (h:∀ e w',R e w'→∃ r,e = .returned r∧S w'∧wpAnyH P md ops Q S fuel (listed.setIfInBounds i true) (a.put oi.dst r) w')
 (hr:Region.ready md ops listed=[i]:=by kernel_rfl) (hi:ops[i]? = some oi:=by rfl) (hw:Region.wanted oi (yielded ops a.tmps)=true:=by rfl) (hrun:(execOp a.eval oi).run P w = .ok (.enter f args) w:=by kernel_rfl):wpAnyH P md ops Q S (fuel+1) listed a w :=
 wpAnyH_ready hr (by simp) (arC oi c h AllReadyH.nil hi hw hrun)
theorem at_list {i:Nat} {oi:Oper} (hi:ops.toList[i]? = some oi):ops[i]? = some oi:=by rw [←Array.getElem?_toList];exact hi
theorem tg (i:Nat) (hS:S w) {oi:Oper} {v:Value} (h:wpAnyH P md ops Q S fuel (listed.setIfInBounds i true) (a.put oi.dst v) w) (hi:ops.toList[i]? = some oi:=by rfl)
 (hy:∀ w,S w→(execOp a.eval oi).run P w = .ok (.value v) w:=by intro w hSw;go_simp;try with_reducible rfl) (hw:Region.wanted oi (yielded ops a.tmps)=true:=by rfl)
 (hQ:∀ c b w,Q (.panic c) (b.put oi.dst v) w→Q (.panic c) b w:=by exact fun _ _ _ h=>h) (hs:Region.noSelect ops=true:=by kernel_rfl) (hf:Region.free md ops listed i=true:=by kernel_rfl) (hr:(Region.ready md ops listed).contains i=true:=by kernel_rfl):wpAnyH P md ops Q S (fuel+1) listed a w :=
 tkH i oi v hS (.inl ⟨hw,hy⟩) h hQ (at_list hi) hs hf hr
theorem tc (i:Nat) (hS:S w) {oi:Oper} {g o:Nat} {v:Value} (hc:∀ u,S u→u.cell? ⟨g,o,none⟩=some v) (h:wpAnyH P md ops Q S fuel (listed.setIfInBounds i true) (a.put oi.dst v) w) (hi:ops.toList[i]? = some oi:=by rfl)
 (hy:∀ w,w.cell? ⟨g,o,none⟩=some v→(execOp a.eval oi).run P w = .ok (.value v) w:=by intro w hc;go_simp;try with_reducible rfl) (hw:Region.wanted oi (yielded ops a.tmps)=true:=by rfl)
 (hQ:∀ c b w,Q (.panic c) (b.put oi.dst v) w→Q (.panic c) b w:=by exact fun _ _ _ h=>h) (hs:Region.noSelect ops=true:=by kernel_rfl) (hf:Region.free md ops listed i=true:=by kernel_rfl) (hr:(Region.ready md ops listed).contains i=true:=by kernel_rfl):wpAnyH P md ops Q S (fuel+1) listed a w :=
 tkH i oi v hS (.inl ⟨hw,fun u hu=>hy u (hc u hu)⟩) h hQ (at_list hi) hs hf hr
theorem cl (i:Nat) {oi:Oper} {f:FuncId} {args:Array Value} {R:Ending→World→Prop} (c:Calls P f args w R) (h:∀ e w',R e w'→∃ r,e = .returned r∧S w'∧wpAnyH P md ops Q S fuel (listed.setIfInBounds i true) (a.put oi.dst r) w')
 (hi:ops.toList[i]? = some oi:=by rfl) (hr:Region.ready md ops listed=[i]:=by kernel_rfl) (hw:Region.wanted oi (yielded ops a.tmps)=true:=by rfl) (hrun:(execOp a.eval oi).run P w = .ok (.enter f args) w:=by kernel_rfl):wpAnyH P md ops Q S (fuel+1) listed a w :=
 callH i oi c h hr (at_list hi) hw hrun
end
end Go.Proofs.YtodhmfddfjfhjaaDoor
namespace Go.Proofs.YtodhmfddfjfhjaaDoor
open Go.RowKit
set_option maxRecDepth 20000 in
set_option maxHeartbeats 4000000 in
theorem ints_same (a b:Value) (l:List Int) (hl:l.length≤1000) (w:World) (ha:ZIn w a l) (hb:ZIn w b l):Calls Tryd.prog 25 #[a,b] w fun e w'=>e = .returned (.bool true)∧Below w.heap.size w w':=by
 obtain ⟨xa,ca,rfl,fa⟩:=ha
 obtain ⟨xb,cb,rfl,fb⟩:=hb
 have FA:=Hid.mk' fa
 have FB:=Hid.mk' fb
 clear fa fb
 obtain ⟨n,hn⟩:∃ n,n=l.length:=⟨_,rfl⟩
 rw [←hn] at hl ⊢
 have HN:=Hid.mk' hn
 clear hn
 go_enter Tryd.func25,Tryd.ntmps25
 go_wp2
 go_loopw [5] (fun i wr=>∃ q:Nat,q≤n∧i = .int .i64 (q:Int)∧Below w.heap.size w wr) (fun i _=>n - (intOf i).toNat)
 case atStart=>exact ⟨0,Nat.zero_le _,rfl,Below.refl _ _⟩
 case round =>
  obtain ⟨q,hq,rfl,hbw⟩:=hrel
  by_cases hlt:q<n
  · have hz:l[q]? = some l[q]!:=by
     have hql:q<l.length:=by rw [←HN.out];exact hlt
     rw [List.getElem?_eq_getElem hql]
     simp [hql]
    obtain ⟨ga,oa,rfl,la,r1⟩:=FA.out q _ hz
    obtain ⟨gb,ob,rfl,lb,r2⟩:=FB.out q _ hz
    obtain ⟨z,hz'⟩:∃ z,z=l[q]!:=⟨_,rfl⟩
    rw [←hz'] at r1 r2
    have t0:(q:Int)<(n:Int):=by omega
    have t1:(0:Int)≤(q:Int)∧(q:Int)<(n:Int):=by omega
    have t9:IntKind.i64.wrap ((q:Int)+1)=(q:Int)+1:=by simp only [IntKind.wrap_i64];omega
    have bd:Below wr.heap.size wr wr.drew:=(Below.refl _ _).drew
    have bW:=below_next hbw bd
    have s1:∀ u,Below wr.drew.heap.size wr.drew u→u.cell? ⟨ga,oa+q,none⟩=some (.int .i64 z):=fun u hu=>((below_next bW hu).cell (p:=⟨ga,oa+q,none⟩) la).trans r1
    have s2:∀ u,Below wr.drew.heap.size wr.drew u→u.cell? ⟨gb,ob+q,none⟩=some (.int .i64 z):=fun u hu=>((below_next bW hu).cell (p:=⟨gb,ob+q,none⟩) lb).trans r2
    clear hz hz' r1 r2
    go_upto_region 6 with (fail)
    refine wp_region_held_drew (S:=fun u=>Below wr.drew.heap.size wr.drew u) (by kernel_rfl) (Below.refl _ _) (fun hS => ?_)
    refine tg 0 hS ?_
    (try simp only [pS])
    refine tg 1 hS ?_
    (try simp only [pS])
    refine tg 2 hS ?_
    (try simp only [pS])
    refine tc 3 hS (fun u hu=>s1 u hu) ?_
    (try simp only [pS])
    refine tg 4 hS ?_
    (try simp only [pS])
    refine tg 5 hS ?_
    (try simp only [pS])
    refine tg 6 hS ?_
    (try simp only [pS])
    refine tc 7 hS (fun u hu=>s2 u hu) ?_
    (try simp only [pS])
    refine tg 8 hS (v := .bool false) ?_
    (try simp only [pS])
    refine wpAnyH_done (by kernel_rfl) ?_ _
    go_wp2
    go_roundw
    case rel=>exact ⟨q+1,hlt,by go_num,bW⟩
    case measure=>simp [intOf];omega
  · obtain rfl:q=n:=by omega
    have t0:¬(q:Int)<(q:Int):=by omega
    go_wp2
    go_ret
    exact ⟨rfl,hbw⟩
theorem z_two (w:World) (a b:Int):ZIn (w.alloc (.cells #[.int .i64 a,.int .i64 b] 3)) (.slice (some ⟨w.heap.size,0,none⟩) 2 2) [a,b]:=by
 refine ⟨some ⟨w.heap.size,0,none⟩,2,rfl,fun i z hz=>⟨w.heap.size,0,rfl,by simp,?_⟩⟩
 rw [Nat.zero_add]
 match i,hz with
 | 0,hz=>simp at hz;subst hz;simp
 | 1,hz=>simp at hz;subst hz;simp
 | i+2,hz=>simp at hz
set_option maxRecDepth 20000 in
set_option maxHeartbeats 4000000 in
theorem knows12 (w:World) (hT:DbT w):Calls Tryd.prog 22 #[] w fun e w'=>e = .returned (.bool true)∧Below w.heap.size w w':=by
 have B:Below w.heap.size w w:=Below.refl _ _
 have c1:=iCommon_any 0 1 4 w hT
 rw [show commonA 0 1 4=(1,true) by kernel_rfl] at c1
 have c2:=jRoot_any 4
 rw [show (if mayB 4 then (4:Int) - 1 else -1)=3 by kernel_rfl] at c2
 have c3:=iPath_any 2 4
 rw [show pathL 2 4=[5,3] by kernel_rfl] at c3
 have c4:=iCopath_any 2 4
 rw [show copathL 2 4=[6,1] by kernel_rfl] at c4
 have c5:=jPlace_any 5
 rw [show plcA 5=(4607182418800017408,4607182418800017408) by kernel_rfl] at c5
 go_enter Tryd.func22,Tryd.ntmps22
 go_wp2_with (first
  | (go_at_call 23;refine c1.mono ?_;clear c1;rintro e w1 ⟨rfl,b1⟩;(replace B:=below_next B b1))
  | (go_at_call 18;refine (c2 _ (hT.keep B)).mono ?_;clear c2;rintro e w2 ⟨rfl,b2⟩;(replace B:=below_next B b2))
  | (go_at_call 26;refine (c3 _ (hT.keep B)).mono ?_;clear c3;rintro e w3 ⟨v3,rfl,z3,b3⟩;(replace B:=below_next B b3);(have ba:=(Below.refl w3.heap.size w3).alloc (Nat.le_refl _) (.cells #[.int .i64 5,.int .i64 3] 3));(have k3:=ints_same v3 _ [5,3] (by decide) _ (z3.keep ba) (z_two w3 5 3));(replace B:=below_next B ba))
  | (go_at_call 25;refine k3.mono ?_;clear k3;rintro e w4 ⟨rfl,b4⟩;(replace B:=below_next B b4))
  | (go_at_call 28;refine (c4 _ (hT.keep B)).mono ?_;clear c4;rintro e w5 ⟨v5,rfl,z5,b5⟩;(replace B:=below_next B b5);(have bb:=(Below.refl w5.heap.size w5).alloc (Nat.le_refl _) (.cells #[.int .i64 6,.int .i64 1] 3));(have k5:=ints_same v5 _ [6,1] (by decide) _ (z5.keep bb) (z_two w5 6 1));(replace B:=below_next B bb))
  | (go_at_call 25;refine k5.mono ?_;clear k5;rintro e w6 ⟨rfl,b6⟩;(replace B:=below_next B b6))
  | (go_at_call 32;refine (c5 _ (hT.keep B)).mono ?_;clear c5;rintro e w7 ⟨rfl,b7⟩;(replace B:=below_next B b7)))
 go_ret
 exact ⟨rfl,B⟩
end Go.Proofs.YtodhmfddfjfhjaaDoor
namespace Go.Proofs.YtodhmfddfjfhjaaDoor
open Go.RowKit
set_option maxRecDepth 20000 in
set_option maxHeartbeats 8000000 in
theorem indexPlaces_any (x l:Int) (hx:x≤9223372036854775807) (w:World) (hT:DbT w):Calls Tryd.prog 3 #[.int .i64 x,.int .i64 l] w fun e w'=>e = .returned (.bool true)∧Below w.heap.size w w':=by
 have B:Below w.heap.size w w:=Below.refl _ _
 have c0:=iLeft_any x
 have d0:=rLeft_any x
 generalize lftA x=A0 at c0 d0
 have c1:=iRight_any x
 have d1:=rRight_any x
 generalize rgtA x=A1 at c1 d1
 have c2:=iParent_any x l
 have d2:=rParent_any x l
 generalize parA x l=A2 at c2 d2
 have c3:=iSibling_any x l
 have d3:=rSibling_any x l
 generalize sibA x l=A3 at c3 d3
 have c4:=jWidth_any l
 have d4:=rWidth_any l
 generalize (if mayB l then 2*l - 1 else -1)=A4 at c4 d4
 have c5:=jRoot_any l
 have d5:=rRoot_any l
 generalize (if mayB l then l - 1 else -1)=A5 at c5 d5
 have c6:=jLevel_any x hx
 have d6:=rLevel_any x hx
 generalize levA x=A6 at c6 d6
 go_enter Tryd.func3,Tryd.ntmps3
 go_wp2_with (first
  | (go_at_call 8;refine (c0 _ (hT.keep B)).mono ?_;clear c0;rintro e w0 ⟨rfl,b0⟩;(replace B:=below_next B b0);clear b0)
  | (go_at_call 9;refine (d0 _).mono ?_;clear d0;rintro e v0 ⟨rfl,hw20⟩;subst hw20)
  | (go_at_call 10;refine (c1 _ (hT.keep B)).mono ?_;clear c1;rintro e w1 ⟨rfl,b1⟩;(replace B:=below_next B b1);clear b1)
  | (go_at_call 11;refine (d1 _).mono ?_;clear d1;rintro e v1 ⟨rfl,hw21⟩;subst hw21)
  | (go_at_call 12;refine (c2 _ (hT.keep B)).mono ?_;clear c2;rintro e w2 ⟨rfl,b2⟩;(replace B:=below_next B b2);clear b2)
  | (go_at_call 13;refine (d2 _).mono ?_;clear d2;rintro e v2 ⟨rfl,hw22⟩;subst hw22)
  | (go_at_call 14;refine (c3 _ (hT.keep B)).mono ?_;clear c3;rintro e w3 ⟨rfl,b3⟩;(replace B:=below_next B b3);clear b3)
  | (go_at_call 15;refine (d3 _).mono ?_;clear d3;rintro e v3 ⟨rfl,hw23⟩;subst hw23)
  | (go_at_call 16;refine (c4 _ (hT.keep B)).mono ?_;clear c4;rintro e w4 ⟨rfl,b4⟩;(replace B:=below_next B b4);clear b4)
  | (go_at_call 17;refine (d4 _).mono ?_;clear d4;rintro e v4 ⟨rfl,hw24⟩;subst hw24)
  | (go_at_call 18;refine (c5 _ (hT.keep B)).mono ?_;clear c5;rintro e w5 ⟨rfl,b5⟩;(replace B:=below_next B b5);clear b5)
  | (go_at_call 19;refine (d5 _).mono ?_;clear d5;rintro e v5 ⟨rfl,hw25⟩;subst hw25)
  | (go_at_call 20;refine (c6 _ (hT.keep B)).mono ?_;clear c6;rintro e w6 ⟨rfl,b6⟩;(replace B:=below_next B b6);clear b6)
  | (go_at_call 21;refine (d6 _).mono ?_;clear d6;rintro e v6 ⟨rfl,hw26⟩;subst hw26)
  | (go_at_call 22;refine (knows12 _ (hT.keep B)).mono ?_;rintro e w99 ⟨rfl,b99⟩))
 go_ret
 exact ⟨rfl,below_next B b99⟩
set_option maxRecDepth 20000 in
theorem upF_len (l:Int):∀ f x,(upF l f x).length≤f
 | 0,_=>Nat.le_refl _
 | f+1,x=>by
  show (match parN (x:Int) l with | some p=>(p:Int) :: upF l f p | none=>[]).length≤f+1
  cases parN (x:Int) l with
  | none=>exact Nat.zero_le _
  | some p=>exact Nat.succ_le_succ (upF_len l f p)
theorem coF_len (l:Int):∀ f x,(coF l f x).length≤f
 | 0,_=>Nat.le_refl _
 | f+1,x=>by
  show (match parN (x:Int) l with | some p=>((lftN p:Int)+(rgtN p:Int) - (x:Int)) :: coF l f p | none=>[]).length≤f+1
  cases parN (x:Int) l with
  | none=>exact Nat.zero_le _
  | some p=>exact Nat.succ_le_succ (coF_len l f p)
theorem path_len (i l:Int):(pathL i l).length≤7∧(copathL i l).length≤7:=by
 unfold pathL copathL
 by_cases h:theB i l=true
 · rw [if_pos h,if_pos h]
   exact ⟨upF_len l 7 _,coF_len l 7 _⟩
 · rw [if_neg h,if_neg h]
   exact ⟨Nat.zero_le _,Nat.zero_le _⟩
set_option maxRecDepth 20000 in
set_option maxHeartbeats 8000000 in
theorem indexWays_any (a b x l:Int) (w:World) (hT:DbT w):Calls Tryd.prog 4 #[.int .i64 a,.int .i64 b,.int .i64 x,.int .i64 l] w fun e w'=>e = .returned (.bool true)∧Below w.heap.size w w':=by
 have B:Below w.heap.size w w:=Below.refl _ _
 have c0:=iCommon_any a b l
 have d0:=rCommon_any a b l
 generalize commonA a b l=A0 at c0 d0
 have c1:=iPath_any a l
 have d1:=rPath_any a l
 have c2:=iCopath_any a l
 have d2:=rCopath_any a l
 obtain ⟨h1,h2⟩:=path_len a l
 generalize pathL a l=P1 at c1 d1 h1
 generalize copathL a l=P2 at c2 d2 h2
 have c3:=iBelow_any x a
 have d3:=rBelow_any x a
 generalize belB x a=A3 at c3 d3
 go_enter Tryd.func4,Tryd.ntmps4
 go_wp2_with (first
  | (go_at_call 23;refine (c0 _ (hT.keep B)).mono ?_;clear c0;rintro e w0 ⟨rfl,b0⟩;(replace B:=below_next B b0);clear b0)
  | (go_at_call 24;refine (d0 _).mono ?_;clear d0;rintro e v0 ⟨rfl,hw20⟩;subst hw20)
  | (go_at_call 26;refine (c1 _ (hT.keep B)).mono ?_;clear c1;rintro e w1 ⟨v1,rfl,z1,b1⟩;(replace B:=below_next B b1);clear b1)
  | (go_at_call 27;refine (d1 _).mono ?_;clear d1;rintro e w2 ⟨v2,rfl,z2,b2⟩;(replace B:=below_next B b2);(have k1:=ints_same v1 v2 P1 (by omega) w2 (z1.keep b2) z2.zin);clear b2)
  | (go_at_call 25;refine k1.mono ?_;clear k1;rintro e w3 ⟨rfl,b3⟩;(replace B:=below_next B b3);clear b3)
  | (go_at_call 28;refine (c2 _ (hT.keep B)).mono ?_;clear c2;rintro e w4 ⟨v4,rfl,z4,b4⟩;(replace B:=below_next B b4);clear b4)
  | (go_at_call 29;refine (d2 _).mono ?_;clear d2;rintro e w5 ⟨v5,rfl,z5,b5⟩;(replace B:=below_next B b5);(have k2:=ints_same v4 v5 P2 (by omega) w5 (z4.keep b5) z5.zin);clear b5)
  | (go_at_call 25;refine k2.mono ?_;clear k2;rintro e w6 ⟨rfl,b6⟩;(replace B:=below_next B b6);clear b6)
  | (go_at_call 30;refine (c3 _ (hT.keep B)).mono ?_;clear c3;rintro e w7 ⟨rfl,b7⟩;(replace B:=below_next B b7);clear b7)
  | (go_at_call 31;refine (d3 _).mono ?_;clear d3;rintro e v7 ⟨rfl,hw27⟩;subst hw27)
  | (go_at_call 22;refine (knows12 _ (hT.keep B)).mono ?_;rintro e w99 ⟨rfl,b99⟩))
 go_ret
 exact ⟨rfl,below_next B b99⟩
end Go.Proofs.YtodhmfddfjfhjaaDoor
namespace Go.Proofs.YtodhmfddfjfhjaaDoor
open Go.ChangeShapes Go.WideShapes Go.ChangeAt Go.RowKit
theorem ownKnobs:ownKnob Tryd.prog.godebug=none:=by kernel_rfl
theorem cellsOfByte:Tryd.prog.cellsOf 5=1:=by kernel_rfl
end Go.Proofs.YtodhmfddfjfhjaaDoor
namespace Go.Proofs.YtodhmfddfjfhjaaDoor
open Go
theorem cellsOfDb:Tryd.prog.cellsOf 47=64:=by kernel_rfl
theorem db_eq:Rows.laid_math_bits_deBruijn64tab=(Lib.tabData .u8 (Lib.deBruijn64tab.map fun n:Nat=>(n:Int)):DataW Unit):=rfl
theorem gDb:Tryd.prog.globalNamed "math/bits.deBruijn64tab" = some 0:=by kernel_rfl
theorem tDb:(Tryd.prog.globals[0]?).map (·.type)=some 47:=by kernel_rfl
theorem db_of_laid {W:World} (h:laidMetH Tryd.prog [("math/bits.deBruijn64tab", Rows.laid_math_bits_deBruijn64tab)] W):DbT W:=by
 have h':laidMet Tryd.prog [("math/bits.deBruijn64tab", Rows.laid_math_bits_deBruijn64tab)] W:=h
 obtain ⟨ps,⟨g1,t1,cs1,f1,p1,q1,hg1,ht1,hv1,hd1,_,_⟩,_⟩:=h'
 obtain rfl:=Option.some.inj (gDb.symm.trans hg1)
 obtain rfl:=Option.some.inj (tDb.symm.trans ht1)
 rw [db_eq] at hd1
 have c1:=Lib.cells_of_tab Tryd.underlying47 Tryd.underlying5 cellsOfByte cellsOfDb hd1
 have hc:∀ j,j<64→W.cell? ⟨0,j,none⟩=some (.int .u8 ((Lib.deBruijn64tab.getD j 0:Nat):Int)):=by
  intro j hj
  rw [World.var?_cell gDb hv1 j,←Array.getElem?_toList,c1,List.map_map,List.getElem?_map]
  have hl:j<Lib.deBruijn64tab.length:=hj
  rw [List.getElem?_eq_getElem hl,List.getD_eq_getElem?_getD,List.getElem?_eq_getElem hl]
  rfl
 refine ⟨?_,hc⟩
 exact World.block_lt_of_cell? W _ (hc 0 (by decide))
def lay (cs:Array Value):Obj→Obj
 | .cells _ t frozen => .cells cs t frozen
 | o=>o
noncomputable def laidWorldI (os:Os):World :=
 { World.holding Tryd.prog os ⟨#[],#[],[]⟩ with heap:=(World.holding Tryd.prog os ⟨#[],#[],[]⟩).heap.modify 0 (lay (Lib.deBruijn64tab.map fun n:Nat=>Value.int .u8 (n:Int)).toArray) }
end Go.Proofs.YtodhmfddfjfhjaaDoor
