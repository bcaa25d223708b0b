/- What the proof stands on: I2Ca, I2Cb, I2Cc, I2Ce, I2Cf. -/
import Derived.Test.YtbbikhlbkpjpjaaGreatDoorR7EM
import Derived.ScopeJumps
import Derived.WalkMore
namespace Go.Proofs.YtbbikhlbkpjpjaaGreatDoor
open Go.RowKit
theorem may_tab (l:Int) (h0:0<l) (h1:l≤64):(bits BinOp.and .i64 l (l - 1) == 0)=mayB l:=by
 obtain ⟨n,rfl⟩:∃ n:Nat,l=(n:Int):=⟨l.toNat,by omega⟩
 have h:(List.range 65).all (fun n=>n == 0 || (bits BinOp.and .i64 (n:Int) ((n:Int) - 1) == 0) == mayB (n:Int))=true:=by kernel_rfl
 have:=List.all_eq_true.1 h n (List.mem_range.2 (by omega))
 simp only [Bool.or_eq_true,beq_iff_eq] at this
 exact this.resolve_left (by omega)
theorem may_in {l:Int} (h:mayB l=true):0<l∧l≤64:=by
 have:=mayB_cases h
 omega
theorem allowed_any (l:Int) (w:World):Calls Tryz.prog 36 #[.int .i64 l] w fun e w'=>e = .returned (.bool (mayB l))∧w=w':=by
 by_cases h:0<l∧l≤64
 · obtain ⟨h0,h1⟩:=h
   have ht:=may_tab l h0 h1
   have hw:wrap64 (l - 1)=l - 1:=by unfold wrap64;omega
   generalize mayB l=A at *
   cases A <;>
   · go_enter Tryz.func36,Tryz.ntmps36
     go_wp2
     go_ret
     exact ⟨rfl,rfl⟩
 · have hm:mayB l=false:=by
    cases hm:mayB l with
    | false=>rfl
    | true=>exact absurd (may_in hm) h
   rw [hm]
   by_cases h0:0<l
   · have h1:¬l≤64:=by omega
     clear h hm
     go_enter Tryz.func36,Tryz.ntmps36
     go_wp2
     go_ret
     exact ⟨rfl,rfl⟩
   · clear h hm
     go_enter Tryz.func36,Tryz.ntmps36
     go_wp2
     go_ret
     exact ⟨rfl,rfl⟩
theorem iRoot_any (l:Int) (w:World):Calls Tryz.prog 20 #[.int .i64 l] w fun e w'=>e = .returned (.int .i64 (if mayB l then l - 1 else -1))∧w=w':=by
 have c:=allowed_any l w
 cases hm:mayB l with
 | false =>
  rw [hm] at c
  go_enter Tryz.func20,Tryz.ntmps20
  go_wp2_with (go_at_call 36;refine c.mono ?_;clear c;rintro e w1 ⟨rfl,hw⟩;subst hw)
  go_ret
  exact ⟨rfl,rfl⟩
 | true =>
  rw [hm] at c
  obtain ⟨h0,h1⟩:=may_in hm
  have e2:IntKind.i64.wrap (l - 1)=l - 1:=by simp only [IntKind.wrap_i64];omega
  clear hm
  go_enter Tryz.func20,Tryz.ntmps20
  go_wp2_with (go_at_call 36;refine c.mono ?_;clear c;rintro e w1 ⟨rfl,hw⟩;subst hw)
  go_ret
  exact ⟨rfl,rfl⟩
theorem hasLeaf_any (i l:Int) (w:World):Calls Tryz.prog 82 #[.int .i64 i,.int .i64 l] w fun e w'=>e = .returned (.bool (theB i l))∧w=w':=by
 have c:=allowed_any l w
 unfold theB
 generalize mayB l=A at *
 by_cases h0:0≤i <;> by_cases h1:i<l <;> cases A <;>
 · simp only [h0,h1,decide_true,decide_false,Bool.and_true,Bool.and_false]
   go_enter Tryz.func82,Tryz.ntmps82
   go_wp2_with (go_at_call 36;refine c.mono ?_;clear c;rintro e w1 ⟨rfl,hw⟩;subst hw)
   first
    | (go_ret;exact ⟨rfl,rfl⟩)
    | (rw [decide_eq_false (Int.not_lt.2 h1)];go_ret;exact ⟨rfl,rfl⟩)
theorem iPlace_out (x:Int) (h:x<0∨127≤x) (w:World):Calls Tryz.prog 74 #[.int .i64 x] w fun e w'=>e = .returned (.complex .f64 13830554455654793216 0)∧Below w.heap.size w w':=by
 by_cases h0:x<0
 · clear h
   go_enter Tryz.func74,Tryz.ntmps74
   go_wp2
   go_ret
   exact ⟨rfl,Below.refl _ _⟩
 · have h1:127≤x:=by omega
   clear h
   go_enter Tryz.func74,Tryz.ntmps74
   go_wp2
   go_ret
   exact ⟨rfl,Below.refl _ _⟩
theorem iPlace_in (y:Nat) (hy:y<127) (w:World) (hT:DbT w):Calls Tryz.prog 74 #[.int .i64 (y:Int)] w fun e w'=>e = .returned (.complex .f64 (FB (levN y)) (FB (colN y)))∧Below w.heap.size w w':=by
 have c:=iLevel_any (y:Int) (by omega) w hT
 have e9:levA (y:Int)=(levN y:Int):=by unfold levA;rw [if_neg (by omega),Int.toNat_natCast]
 rw [e9] at c
 obtain ⟨h6,-,-⟩:=lc_tab y hy
 have hcol:colN y=y / 2 ^ (levN y+1):=rfl
 rw [hcol]
 have t0:¬(y:Int)<0:=by omega
 have t1:¬(127:Int)≤(y:Int):=by omega
 clear hT e9 hcol
 generalize levN y=l at *
 rcases (show l=0∨l=1∨l=2∨l=3∨l=4∨l=5∨l=6 by omega) with rfl | rfl | rfl | rfl | rfl | rfl | rfl <;>
 · go_enter Tryz.func74,Tryz.ntmps74
   go_wp2_with (go_at_call 88;refine c.mono ?_;clear c;rintro e w1 ⟨rfl,hw⟩;subst hw)
   go_ret
   exact ⟨rfl,Below.refl _ _⟩
theorem left_tab:∀ y,y<127→y%2=1→0<levN y∧2*colN y<64 / 2 ^ (levN y - 1)∧plcN (levN y - 1) (2*colN y)=lftN y∧othN (2*colN y)<64 / 2 ^ (levN y - 1)∧plcN (levN y - 1) (othN (2*colN y))=rgtN y:=by
 have h:(List.range 127).all (fun y=>y%2 == 0 || (decide (0<levN y) && decide (2*colN y<64 / 2 ^ (levN y - 1)) && plcN (levN y - 1) (2*colN y) == lftN y && decide (othN (2*colN y)<64 / 2 ^ (levN y - 1)) && plcN (levN y - 1) (othN (2*colN y)) == rgtN y))=true:=by kernel_rfl
 intro y hy ho
 have:=List.all_eq_true.1 h y (List.mem_range.2 hy)
 simp only [Bool.and_eq_true,Bool.or_eq_true,beq_iff_eq,decide_eq_true_eq] at this
 obtain ⟨⟨⟨⟨a,b⟩,c⟩,d⟩,e⟩:=this.resolve_left (by omega)
 exact ⟨a,b,c,d,e⟩
theorem real_tab (l:Nat) (hl:l<7):FloatKind.f64.format.order (FB l) 4607182418800017408=if l=0 then some .lt else if l=1 then some .eq else some .gt:=by
 rcases (show l=0∨l=1∨l=2∨l=3∨l=4∨l=5∨l=6 by omega) with rfl | rfl | rfl | rfl | rfl | rfl | rfl <;> kernel_rfl
theorem real_pos (l:Nat) (hl:l<7) (h0:0<l):(FloatKind.f64.format.order (FB l) 4607182418800017408 == some .lt)=false:=by
 rw [real_tab l hl,if_neg (by omega)]
 split <;> rfl
theorem neg_real:FloatKind.f64.format.order 13830554455654793216 4607182418800017408=some .lt:=by kernel_rfl
theorem inn_cases (x:Int):(∃ y:Nat,x=(y:Int)∧y<127∧y%2=1∧innB x=true)∨(∃ y:Nat,x=(y:Int)∧y<127∧¬y%2=1∧innB x=false)∨((x<0∨127≤x)∧innB x=false):=by
 by_cases h:x<0∨127≤x
 · refine .inr (.inr ⟨h,?_⟩)
   unfold innB
   rcases h with h | h
   · simp;omega
   · simp;omega
 · obtain ⟨y,rfl⟩:∃ y:Nat,x=(y:Int):=⟨x.toNat,by omega⟩
   by_cases ho:y%2=1
   · refine .inl ⟨y,rfl,by omega,ho,?_⟩
     unfold innB
     simp
     omega
   · refine .inr (.inl ⟨y,rfl,by omega,ho,?_⟩)
     unfold innB
     simp
     omega
set_option maxHeartbeats 1000000 in
theorem iLeft_any (x:Int) (w:World) (hT:DbT w):Calls Tryz.prog 64 #[.int .i64 x] w fun e w'=>e = .returned (.tuple #[.int .i64 (lftA x).1,.bool (lftA x).2])∧Below w.heap.size w w':=by
 unfold lftA
 rcases inn_cases x with ⟨y,rfl,hy,ho,hi⟩ | ⟨y,rfl,hy,ho,hi⟩ | ⟨h,hi⟩
 · rw [hi]
   obtain ⟨t0,t1,t2,-,-⟩:=left_tab y hy ho
   obtain ⟨u1,u2,-⟩:=lc_tab y hy
   have u3:64 / 2 ^ levN y≤64:=Nat.div_le_self _ _
   have c1:=iPlace_in y hy w hT
   have c2:=leftOf_any (levN y) (colN y) (by omega) t0 (by omega)
   have c3:=at_in (levN y - 1) (2*colN y) (by omega) t1
   rw [t2] at c3
   have r:=real_pos (levN y) u1 t0
   simp only [if_true,Int.toNat_natCast]
   generalize FB (levN y)=a at *
   generalize FB (colN y)=b at *
   generalize FB (levN y - 1)=a' at *
   generalize FB (2*colN y)=b' at *
   clear hT hi t0 t1 t2 u1 u2 u3 ho
   go_enter Tryz.func64,Tryz.ntmps64
   go_wp2_with (first
    | (go_at_call 74;refine c1.mono ?_;clear c1;rintro e w1 ⟨rfl,b1⟩)
    | (go_at_call 76;refine (c2 _).mono ?_;clear c2;rintro e w2 ⟨rfl,hw⟩;subst hw)
    | (go_at_call 75;refine (c3 _).mono ?_;clear c3;rintro e w3 ⟨rfl,b3⟩))
   go_ret2
   exact ⟨rfl,below_next b1 b3⟩
 · rw [hi]
   have c1:=iPlace_in y hy w hT
   rw [levN_even ho] at c1
   have r:=real_tab 0 (by decide)
   rw [if_pos rfl] at r
   generalize FB 0=a at *
   generalize FB (colN y)=b at *
   clear hT hi
   go_enter Tryz.func64,Tryz.ntmps64
   go_wp2_with (go_at_call 74;refine c1.mono ?_;clear c1;rintro e w1 ⟨rfl,b1⟩)
   go_ret2
   exact ⟨rfl,b1⟩
 · rw [hi]
   have c1:=iPlace_out x h w
   have r:=neg_real
   clear hT hi h
   go_enter Tryz.func64,Tryz.ntmps64
   go_wp2_with (go_at_call 74;refine c1.mono ?_;clear c1;rintro e w1 ⟨rfl,b1⟩)
   go_ret2
   exact ⟨rfl,b1⟩
set_option maxHeartbeats 1000000 in
theorem iRight_any (x:Int) (w:World) (hT:DbT w):Calls Tryz.prog 65 #[.int .i64 x] w fun e w'=>e = .returned (.tuple #[.int .i64 (rgtA x).1,.bool (rgtA x).2])∧Below w.heap.size w w':=by
 unfold rgtA
 rcases inn_cases x with ⟨y,rfl,hy,ho,hi⟩ | ⟨y,rfl,hy,ho,hi⟩ | ⟨h,hi⟩
 · rw [hi]
   obtain ⟨t0,t1,-,t3,t2⟩:=left_tab y hy ho
   have h1:64 / 2 ^ (levN y - 1)≤64:=Nat.div_le_self _ _
   obtain ⟨u1,u2,-⟩:=lc_tab y hy
   have u3:64 / 2 ^ levN y≤64:=Nat.div_le_self _ _
   have c1:=iPlace_in y hy w hT
   have c2:=leftOf_any (levN y) (colN y) (by omega) t0 (by omega)
   have c4:=beside_any (levN y - 1) (2*colN y) (by omega) (by omega)
   have c3:=at_in (levN y - 1) (othN (2*colN y)) (by omega) t3
   rw [t2] at c3
   have r:=real_pos (levN y) u1 t0
   simp only [if_true,Int.toNat_natCast]
   generalize FB (levN y)=a at *
   generalize FB (colN y)=b at *
   generalize FB (levN y - 1)=a' at *
   generalize FB (othN (2*colN y))=b2 at *
   generalize FB (2*colN y)=b' at *
   clear hT hi t0 t1 t2 t3 h1 u1 u2 u3 ho
   go_enter Tryz.func65,Tryz.ntmps65
   go_wp2_with (first
    | (go_at_call 74;refine c1.mono ?_;clear c1;rintro e w1 ⟨rfl,b1⟩)
    | (go_at_call 76;refine (c2 _).mono ?_;clear c2;rintro e w2 ⟨rfl,hw⟩;subst hw)
    | (go_at_call 77;refine (c4 _).mono ?_;clear c4;rintro e w2 ⟨rfl,hw⟩;subst hw)
    | (go_at_call 75;refine (c3 _).mono ?_;clear c3;rintro e w3 ⟨rfl,b3⟩))
   go_ret2
   exact ⟨rfl,below_next b1 b3⟩
 · rw [hi]
   have c1:=iPlace_in y hy w hT
   rw [levN_even ho] at c1
   have r:=real_tab 0 (by decide)
   rw [if_pos rfl] at r
   generalize FB 0=a at *
   generalize FB (colN y)=b at *
   clear hT hi
   go_enter Tryz.func65,Tryz.ntmps65
   go_wp2_with (go_at_call 74;refine c1.mono ?_;clear c1;rintro e w1 ⟨rfl,b1⟩)
   go_ret2
   exact ⟨rfl,b1⟩
 · rw [hi]
   have c1:=iPlace_out x h w
   have r:=neg_real
   clear hT hi h
   go_enter Tryz.func65,Tryz.ntmps65
   go_wp2_with (go_at_call 74;refine c1.mono ?_;clear c1;rintro e w1 ⟨rfl,b1⟩)
   go_ret2
   exact ⟨rfl,b1⟩
end Go.Proofs.YtbbikhlbkpjpjaaGreatDoor
namespace Go.Proofs.YtbbikhlbkpjpjaaGreatDoor
open Go.RowKit
theorem may_mem {l:Int} (h:mayB l=true):l∈[1,2,4,8,16,32,64]:=by
 rcases mayB_cases h with rfl | rfl | rfl | rfl | rfl | rfl | rfl <;> simp
theorem par_tab {l:Int} (h:mayB l=true) (y:Nat) (hy:(y:Int)<2*l - 1) (hr:¬(y:Int)=l - 1):y<127∧parN (y:Int) l=some (plcN (levN y+1) (colN y / 2))∧levN y+1<7∧colN y / 2<64 / 2 ^ (levN y+1)∧((lftN (plcN (levN y+1) (colN y / 2)):Int)+(rgtN (plcN (levN y+1) (colN y / 2)):Int) - (y:Int)=(plcN (levN y) (othN (colN y)):Int))∧othN (colN y)<64 / 2 ^ levN y:=by
 have hh:[1,2,4,8,16,32,64].all (fun l:Int=>(List.range (widN l)).all fun y=>(y:Int) == l - 1 || (decide (y<127) && parN (y:Int) l == some (plcN (levN y+1) (colN y / 2)) && decide (levN y+1<7) && decide (colN y / 2<64 / 2 ^ (levN y+1)) && ((lftN (plcN (levN y+1) (colN y / 2)):Int)+(rgtN (plcN (levN y+1) (colN y / 2)):Int) - (y:Int) == (plcN (levN y) (othN (colN y)):Int)) && decide (othN (colN y)<64 / 2 ^ levN y)))=true:=by kernel_rfl
 have hw:widN l=(2*l - 1).toNat:=by unfold widN;rw [if_pos h]
 have:=List.all_eq_true.1 (List.all_eq_true.1 hh l (may_mem h)) y (List.mem_range.2 (by rw [hw];omega))
 simp only [Bool.and_eq_true,Bool.or_eq_true,beq_iff_eq,decide_eq_true_eq] at this
 obtain ⟨⟨⟨⟨⟨a,b⟩,c⟩,d⟩,e⟩,f⟩:=this.resolve_left hr
 exact ⟨a,b,c,d,e,f⟩
theorem root_no {l:Int} (h:mayB l=true):parN (l - 1) l=none:=by
 rcases mayB_cases h with rfl | rfl | rfl | rfl | rfl | rfl | rfl <;> kernel_rfl
end Go.Proofs.YtbbikhlbkpjpjaaGreatDoor
namespace Go.Proofs.YtbbikhlbkpjpjaaGreatDoor
open Go.RowKit
theorem wp_scope_back {P:Program} {a:Act} {w:World} {Q:Exit→Act→World→Prop} {c rest:Code} (l:Nat) (J:Act→World→Prop) (μ:Act→World→Nat) (hf:findLabel c l=some (Code.skip.seq rest))
 (pass:∀ a w,J a w→rest.wp P (Exit.jump l (fun a' w'=>J a' w'∧μ a' w'<μ a w) Q) a w)
 (first:(∀ a w,J a w→rest.wp P (Exit.jump l J Q) a w)→c.wp P (Exit.jump l J Q) a w):(Code.scope c).wp P Q a w :=
 wp_scope_jumps l J μ hf (first fun a w h=>Code.wp_mono (fun e a w hq=>by
  cases e with
  | goto k=>exact ⟨hq.1,hq.2.1⟩
  | _=>exact hq) (pass a w h)) fun a w h=>wp_seq (wp_skip (pass a w h))
theorem jump_ret {l:Nat} {J:Act→World→Prop} {Q:Exit→Act→World→Prop} {a:Act} {w:World}:Exit.jump l J Q .ret a w=Q .ret a w:=rfl
theorem ord_tab (a b:Nat) (ha:a<64) (hb:b<64):(FloatKind.f64.format.order (FB a) (FB b) == some .eq)=decide (a=b):=by
 have h:(List.range 64).all (fun a=>(List.range 64).all fun b=>(FloatKind.f64.format.order (FB a) (FB b) == some .eq) == decide (a=b))=true:=by kernel_rfl
 exact beq_iff_eq.1 (List.all_eq_true.1 (List.all_eq_true.1 h a (List.mem_range.2 ha)) b (List.mem_range.2 hb))
theorem same_tab (m r:Nat) (hm:m<127) (hr:r<127):(FloatKind.f64.format.order (FB (levN m)) (FB (levN r)) == some .eq && FloatKind.f64.format.order (FB (colN m)) (FB (colN r)) == some .eq)=decide (m=r):=by
 obtain ⟨a1,a2,a3⟩:=lc_tab m hm
 obtain ⟨b1,b2,b3⟩:=lc_tab r hr
 have a4:64 / 2 ^ levN m≤64:=Nat.div_le_self _ _
 have b4:64 / 2 ^ levN r≤64:=Nat.div_le_self _ _
 rw [ord_tab _ _ (by omega) (by omega),ord_tab _ _ (by omega) (by omega)]
 by_cases h:m=r
 · subst h;simp
 · rw [decide_eq_false h]
   cases h1:decide (levN m=levN r) with
   | false=>rfl
   | true =>
    cases h2:decide (colN m=colN r) with
    | false=>rfl
    | true =>
     exfalso
     apply h
     rw [←a3,←b3,of_decide_eq_true h1,of_decide_eq_true h2]
def upM (v:Value):Nat:=match v with | .complex _ re _=>9223372036854775808 - re | _=>0
theorem up_tab (l:Nat) (hl:l<64):9223372036854775808 - FB (l+1)<9223372036854775808 - FB l:=by
 have h:(List.range 64).all (fun l=>decide (9223372036854775808 - FB (l+1)<9223372036854775808 - FB l))=true:=by kernel_rfl
 exact of_decide_eq_true (List.all_eq_true.1 h l (List.mem_range.2 hl))
theorem up_one {l:Int} (hl:mayB l=true) {m:Nat} (hm:(m:Int)<2*l - 1) (hr:¬(m:Int)=l - 1):∃ p:Nat,p<127∧(p:Int)<2*l - 1∧parN (m:Int) l=some p∧levN p=levN m+1∧colN p=colN m / 2∧levN m+1<7∧colN m / 2<64 / 2 ^ (levN m+1)∧plcN (levN m+1) (colN m / 2)=p∧((lftN p:Int)+(rgtN p:Int) - (m:Int)=(plcN (levN m) (othN (colN m)):Int))∧othN (colN m)<64 / 2 ^ levN m:=by
 obtain ⟨t0,t1,t2,t3,t4,t5⟩:=par_tab hl m hm hr
 obtain ⟨q1,q2,q3⟩:=cl_tab _ _ t2 t3
 have:=(parN_some t1).1
 have hw:widN l=(2*l - 1).toNat:=by unfold widN;rw [if_pos hl]
 exact ⟨_,q1,by omega,t1,q2,q3,t2,t3,rfl,t4,t5⟩
set_option maxRecDepth 20000 in
set_option maxHeartbeats 4000000 in
theorem iPathO_any (i l:Int) (w:World) (hT:DbT w):Calls Tryz.prog 71 #[.int .i64 i,.int .i64 l] w fun e w'=>∃ v,e = .returned v∧OwnZ w.heap.size w' v (pathL i l)∧Below w.heap.size w w':=by
 have c0:=hasLeaf_any i l w
 unfold pathL
 by_cases hB:theB i l=true
 · rw [hB] at c0
   rw [if_pos hB]
   obtain ⟨hm,h0,h1,h2⟩:=theB_cases hB
   obtain ⟨s,hs⟩:∃ s:Nat,2*i=(s:Int):=⟨(2*i).toNat,by omega⟩
   have hs127:s<127:=by omega
   have hsl:(s:Int)<2*l - 1:=by omega
   rw [hs,Int.toNat_natCast]
   have e1:wrap64 (2*i)=(s:Int):=by unfold wrap64;omega
   obtain ⟨P,hP⟩:∃ P,P=upF l 7 s:=⟨_,rfl⟩
   rw [←hP]
   have HP:=Hid.mk' hP
   have c1:=iPlace_in s hs127 w hT
   obtain ⟨r,hr⟩:∃ r:Nat,l - 1=(r:Int):=⟨(l - 1).toNat,by omega⟩
   have hr127:r<127:=by omega
   have c2:=iPlace_in r hr127
   have c3:=iRoot_any l
   rw [if_pos hm] at c3
   rw [←hr] at c2
   have HR:=Hid.mk' hr
   obtain ⟨T1,hT1⟩:∃ x,x=FB (levN r):=⟨_,rfl⟩
   obtain ⟨T2,hT2⟩:∃ x,x=FB (colN r):=⟨_,rfl⟩
   rw [←hT1,←hT2] at c2
   have H1:=Hid.mk' hT1
   have H2:=Hid.mk' hT2
   obtain ⟨S1,hS1⟩:∃ x,x=FB (levN s):=⟨_,rfl⟩
   obtain ⟨S2,hS2⟩:∃ x,x=FB (colN s):=⟨_,rfl⟩
   rw [←hS1,←hS2] at c1
   have H3:=Hid.mk' hS1
   have H4:=Hid.mk' hS2
   clear hP h0 h1 h2 hB hr hT1 hT2 hS1 hS2
   go_enter Tryz.func71,Tryz.ntmps71
   go_wp2
   refine wp_scope_back 0 (fun a' wr=>∃ (d:List Int) (m:Nat) (xa:Option Addr) (ca:Nat) (u18 u19 u20 u21 u22 u23 u24 u25 u26 u27 u28:Value),a'={ tmps:=#[.int .i64 i,.int .i64 l,undef,undef,.slice none 0 0,.slice xa d.length ca,.complex .f64 (FB (levN m)) (FB (colN m)),.complex .f64 T1 T2,.int .i64 i,.int .i64 l,.bool true,.bool false,.int .i64 i,.int .i64 (s:Int),.complex .f64 S1 S2,.int .i64 l,.int .i64 (l - 1),.complex .f64 T1 T2,u18,u19,u20,u21,u22,u23,u24,u25,u26,u27,u28],defers:=[] }∧m<127∧(m:Int)<2*l - 1∧OwnZ w.heap.size wr (.slice xa d.length ca) d∧d.length≤levN m∧Hid (P=d ++ upF l (7 - d.length) m)∧Below w.heap.size w wr) (fun a' _=>upM (a'.tmps.getD 6 undef)) rfl ?_ ?_
   · rintro a' wr ⟨d,m,xa,ca,u18,u19,u20,u21,u22,u23,u24,u25,u26,u27,u28,rfl,hm1,hm2,own,hd,HQ,hb⟩
     clear c0 c1 c2 c3 HP
     by_cases hmr:m=r
     · have hPd:P=d:=by
        rw [HQ.out]
        have:upF l (7 - d.length) m=[]:=by
         cases 7 - d.length with
         | zero=>rfl
         | succ n =>
          show (match parN (m:Int) l with | some p=>(p:Int) :: upF l n p | none=>[])=[]
          rw [hmr,←HR.out,root_no hm]
        rw [this,List.append_nil]
       have hsame:=same_tab m r hm1 hr127
       rw [decide_eq_true hmr,←H1.out,←H2.out,Bool.and_eq_true] at hsame
       obtain ⟨g1,g2⟩:=hsame
       have HPd:=Hid.mk' hPd
       clear hmr hPd HQ
       generalize FB (levN m)=x1 at *
       generalize FB (colN m)=x2 at *
       go_wp2
       rw [jump_ret]
       go_ret
       exact ⟨_,rfl,by rw [HPd.out];exact own,hb⟩
     · obtain ⟨p,p1,p2,p3,p4,p5,p6,p7,p8,-,-⟩:=up_one hm hm2 (fun h=>hmr (by have:=HR.out;omega))
       have hsame:=same_tab m r hm1 hr127
       rw [decide_eq_false hmr,←H1.out,←H2.out] at hsame
       have u1:=lc_tab m hm1
       have u3:64 / 2 ^ levN m≤64:=Nat.div_le_self _ _
       have c4:=above_any (levN m) (colN m) (by omega) (by omega)
       have c5:=at_in (levN m+1) (colN m / 2) p6 p7
       rw [p8] at c5
       have hlt:=up_tab (levN m) (by omega)
       rw [←p4,←p5] at c4 c5
       rw [←p4] at hlt
       have hstep:upF l (7 - d.length) m=(p:Int) :: upF l (7 - (d.length+1)) p:=by
        rw [show 7 - d.length=(7 - (d.length+1))+1 by omega]
        show (match parN (m:Int) l with | some p=>(p:Int) :: upF l (7 - (d.length+1)) p | none=>[])=_
        rw [p3]
       have HN:Hid (P=(d ++ [(p:Int)]) ++ upF l (7 - (d ++ [(p:Int)]).length) p):=by
        refine HQ.out.trans ?_
        rw [hstep,List.length_append]
        simp
       have hdl:(d ++ [(p:Int)]).length≤levN p:=by rw [List.length_append];show d.length+1≤_;omega
       have hd9:d.length+1≤1000:=by omega
       have hbs:=hb.size
       have HL:Hid (9223372036854775808 - FB (levN p)<9223372036854775808 - FB (levN m)):=hlt
       have HE:Hid (d.length+1=(d ++ [(p:Int)]).length):=Hid.mk' (by simp)
       clear hstep HQ hmr p3 p4 p5 p6 p7 p8 hlt u1 u3
       obtain ⟨y1,hy1⟩:∃ x,x=FB (levN p):=⟨_,rfl⟩
       obtain ⟨y2,hy2⟩:∃ x,x=FB (colN p):=⟨_,rfl⟩
       rw [←hy1,←hy2] at c4 c5
       rw [←hy1] at HL
       have HY1:=Hid.mk' hy1
       have HY2:=Hid.mk' hy2
       clear hy1 hy2
       generalize FB (levN m)=x1 at *
       generalize FB (colN m)=x2 at *
       go_wp2_with (first
        | (go_at_call 83;refine (c4 _).mono ?_;clear c4;rintro e w1 ⟨rfl,hw⟩;subst hw)
        | (go_at_call 75;refine (c5 _).mono ?_;clear c5;rintro e w2 ⟨rfl,b2⟩;(replace own:=own.below b2);(replace hb:=below_next hb b2);(replace hbs:=hb.size);clear b2)
        | (at_builtin;refine wpList_append_z rfl (.tmp 24) (.tmp 27) rfl w.heap.size _ d _ rfl own rfl hd9 hbs ?_;intro v3 w3 own3 b3;(obtain ⟨x3,c3,e3⟩:=own3.slice);subst e3))
       go_step3
       obtain rfl:=HY1.out
       obtain rfl:=HY2.out
       rw [HE.out]
       exact ⟨rfl,⟨d ++ [(p:Int)],p,x3,c3,_,_,_,_,_,_,_,_,_,_,_,rfl,p1,p2,own3,hdl,HN,hb.trans b3⟩,HL⟩
   · intro hR
     go_wp2_with (first
      | (go_at_call 82;refine c0.mono ?_;clear c0;rintro e w1 ⟨rfl,hw⟩;subst hw)
      | (go_at_call 74;refine c1.mono ?_;clear c1;rintro e w1 ⟨rfl,b1⟩;(have c2:=c2 _ (hT.keep b1)))
      | (go_at_call 20;refine (c3 _).mono ?_;clear c3;rintro e w1 ⟨rfl,hw⟩;subst hw)
      | (go_at_call 74;refine c2.mono ?_;clear c2;rintro e w2 ⟨rfl,b2⟩))
     obtain rfl:=H3.out
     obtain rfl:=H4.out
     have hJ:=hR _ _ ⟨[],s,none,0,undef,undef,undef,undef,undef,undef,undef,undef,undef,undef,undef,rfl,hs127,hsl,OwnZ.nil _ _,Nat.zero_le _,HP,below_next b1 b2⟩
     go_step3
     exact (‹∀ (a:Act) (w:World),Code.wp _ _ _ a w→_›) _ _ hJ
 · replace hB:theB i l=false:=by simpa using hB
   rw [hB] at c0 ⊢
   clear hT
   go_enter Tryz.func71,Tryz.ntmps71
   go_wp2
   refine wp_scope_back 0 (fun _ _=>False) (fun _ _=>0) rfl (fun _ _ h=>h.elim) fun _ => ?_
   go_wp2_with (go_at_call 82;refine c0.mono ?_;clear c0;rintro e w1 ⟨rfl,hw⟩;subst hw)
   rw [jump_ret]
   go_ret
   exact ⟨_,rfl,OwnZ.nil _ _,Below.refl _ _⟩
theorem iPath_any (i l:Int) (w:World) (hT:DbT w):Calls Tryz.prog 71 #[.int .i64 i,.int .i64 l] w fun e w'=>∃ v,e = .returned v∧ZIn w' v (pathL i l)∧Below w.heap.size w w':=(iPathO_any i l w hT).mono fun _ _ ⟨v,h1,h2,h3⟩=>⟨v,h1,h2.zin,h3⟩
end Go.Proofs.YtbbikhlbkpjpjaaGreatDoor
namespace Go.Proofs.YtbbikhlbkpjpjaaGreatDoor
open Go.RowKit
theorem bel_tab (k c i:Nat) (hk:k<7) (hc:c<64 / 2 ^ k) (hi:i<64):belB (plcN k c:Int) (i:Int)=decide (i / 2 ^ k=c):=by
 have h:(List.range 7).all (fun k=>(List.range (64 / 2 ^ k)).all fun c=>(List.range 64).all fun i=>belB (plcN k c:Int) (i:Int) == decide (i / 2 ^ k=c))=true:=by kernel_rfl
 exact beq_iff_eq.1 (List.all_eq_true.1 (List.all_eq_true.1 (List.all_eq_true.1 h k (List.mem_range.2 hk)) c (List.mem_range.2 hc)) i (List.mem_range.2 hi))
theorem col_in (i k:Nat) (hi:i<64) (hk:k<7):i / 2 ^ k<64 / 2 ^ k:=by
 rcases (show k=0∨k=1∨k=2∨k=3∨k=4∨k=5∨k=6 by omega) with rfl | rfl | rfl | rfl | rfl | rfl | rfl <;> simp <;> omega
theorem leaf_tab (i:Nat) (hi:i<64):levN (2*i)=0∧colN (2*i)=i:=by
 have h:(List.range 64).all (fun i=>levN (2*i) == 0 && colN (2*i) == i)=true:=by kernel_rfl
 have:=List.all_eq_true.1 h i (List.mem_range.2 hi)
 simpa using this
theorem col_up (i k:Nat):i / 2 ^ k / 2=i / 2 ^ (k+1):=by rw [Nat.div_div_eq_div_mul,Nat.pow_succ]
end Go.Proofs.YtbbikhlbkpjpjaaGreatDoor
namespace Go.Proofs.YtbbikhlbkpjpjaaGreatDoor
open Go.RowKit
theorem ge_tab (a b:Nat) (ha:a<7) (hb:b<7):(FloatKind.f64.format.order (FB a) (FB b) == some .gt || FloatKind.f64.format.order (FB a) (FB b) == some .eq)=decide (b≤a):=by
 have h:(List.range 7).all (fun a=>(List.range 7).all fun b=>(FloatKind.f64.format.order (FB a) (FB b) == some .gt || FloatKind.f64.format.order (FB a) (FB b) == some .eq) == decide (b≤a))=true:=by kernel_rfl
 exact beq_iff_eq.1 (List.all_eq_true.1 (List.all_eq_true.1 h a (List.mem_range.2 ha)) b (List.mem_range.2 hb))
theorem neg_ge:FloatKind.f64.format.order (FB 0) 13830554455654793216=some .gt:=by kernel_rfl
theorem the_64 (i:Int):theB i 64=(decide (0≤i) && decide (i<64)):=by unfold theB;rw [show mayB 64=true by kernel_rfl,Bool.true_and]
set_option maxRecDepth 20000 in
set_option maxHeartbeats 4000000 in
theorem iBelow_any (x i:Int) (w:World) (hT:DbT w):Calls Tryz.prog 72 #[.int .i64 x,.int .i64 i] w fun e w'=>e = .returned (.bool (belB x i))∧Below w.heap.size w w':=by
 have c0:=hasLeaf_any i 64 w
 rw [the_64] at c0
 by_cases hi:0≤i∧i<64
 · obtain ⟨h0,h1⟩:=hi
   rw [decide_eq_true h0,decide_eq_true h1] at c0
   obtain ⟨n,hn⟩:∃ n:Nat,i=(n:Int):=⟨i.toNat,by omega⟩
   have hn64:n<64:=by omega
   obtain ⟨l1,l2⟩:=leaf_tab n hn64
   obtain ⟨s,hs⟩:∃ s:Int,s=((2*n:Nat):Int):=⟨_,rfl⟩
   have c1:=iPlace_in (2*n) (by omega) w hT
   rw [l1,l2,←hs] at c1
   have e1:wrap64 (2*i)=s:=by unfold wrap64;omega
   by_cases hx:x<0∨127≤x
   · have hb:belB x i=false:=by unfold belB;rw [if_pos (by omega)]
     rw [hb]
     have c2:=iPlace_out x hx
     have r1:=neg_ge
     clear hx hb hs hn h0 h1 l1 l2 hT
     generalize FB 0=S1 at *
     generalize FB n=S2 at *
     go_enter Tryz.func72,Tryz.ntmps72
     go_wp2
     refine wp_scope_back 0 (fun a' wr=>(∃ (u15 u16 u17 u18 u19 u20 u21 u22 u23 u24:Value),a'={ tmps:=#[.int .i64 x,.int .i64 i,undef,undef,.bool false,.complex .f64 S1 S2,.complex .f64 13830554455654793216 0,.int .i64 i,.bool true,.bool false,.int .i64 i,.int .i64 s,.complex .f64 S1 S2,.int .i64 x,.complex .f64 13830554455654793216 0,u15,u16,u17,u18,u19,u20,u21,u22,u23,u24],defers:=[] })∧Below w.heap.size w wr) (fun _ _=>0) rfl ?_ ?_
     · rintro a' wr ⟨⟨u15,u16,u17,u18,u19,u20,u21,u22,u23,u24,rfl⟩,hb⟩
       clear c0 c1 c2
       go_wp2
       rw [jump_ret]
       go_ret
       exact ⟨rfl,hb⟩
     · intro hR
       go_wp2_with (first
        | (go_at_call 82;refine c0.mono ?_;clear c0;rintro e w1 ⟨rfl,hw⟩;subst hw)
        | (go_at_call 74;refine c1.mono ?_;clear c1;rintro e w1 ⟨rfl,b1⟩)
        | (go_at_call 74;refine (c2 _).mono ?_;clear c2;rintro e w2 ⟨rfl,b2⟩))
       have hJ:=hR _ _ ⟨⟨undef,undef,undef,undef,undef,undef,undef,undef,undef,undef,rfl⟩,below_next b1 b2⟩
       go_step3
       exact (‹∀ (a:Act) (w:World),Code.wp _ _ _ a w→_›) _ _ hJ
   · obtain ⟨y,rfl⟩:∃ y:Nat,x=(y:Int):=⟨x.toNat,by omega⟩
     have hy:y<127:=by omega
     obtain ⟨t1,t2,t3⟩:=lc_tab y hy
     have c2:=iPlace_in y hy
     have hbel:=bel_tab (levN y) (colN y) n t1 t2 hn64
     rw [t3,←hn] at hbel
     rw [hbel]
     obtain ⟨x,hxy⟩:∃ x:Int,x=(y:Int):=⟨_,rfl⟩
     rw [←hxy] at c2 ⊢
     have t4:64 / 2 ^ levN y≤64:=Nat.div_le_self _ _
     have tc:colN y<64:=by omega
     clear hx hbel hxy hs hn h0 h1 l1 l2 t2 t3 t4 hy
     generalize levN y=t at *
     generalize colN y=q at *
     obtain ⟨T1,hT1⟩:∃ x,x=FB t:=⟨_,rfl⟩
     obtain ⟨T2,hT2⟩:∃ x,x=FB q:=⟨_,rfl⟩
     rw [←hT1,←hT2] at c2
     have H1:=Hid.mk' hT1
     have H2:=Hid.mk' hT2
     obtain ⟨S1,hS1⟩:∃ x,x=FB 0:=⟨_,rfl⟩
     obtain ⟨S2,hS2⟩:∃ x,x=FB n:=⟨_,rfl⟩
     rw [←hS1,←hS2] at c1
     have H3:=Hid.mk' hS1
     have H4:=Hid.mk' hS2
     clear hT1 hT2 hS1 hS2
     go_enter Tryz.func72,Tryz.ntmps72
     go_wp2
     refine wp_scope_back 0 (fun a' wr=>∃ (k:Nat) (u15 u16 u17 u18 u19 u20 u21 u22 u23 u24:Value),a'={ tmps:=#[.int .i64 x,.int .i64 i,undef,undef,.bool false,.complex .f64 (FB k) (FB (n / 2 ^ k)),.complex .f64 T1 T2,.int .i64 i,.bool true,.bool false,.int .i64 i,.int .i64 s,.complex .f64 S1 S2,.int .i64 x,.complex .f64 T1 T2,u15,u16,u17,u18,u19,u20,u21,u22,u23,u24],defers:=[] }∧k≤t∧Below w.heap.size w wr) (fun a' _=>upM (a'.tmps.getD 5 undef)) rfl ?_ ?_
     · rintro a' wr ⟨k,u15,u16,u17,u18,u19,u20,u21,u22,u23,u24,rfl,hk,hb⟩
       clear c0 c1 c2 H3 H4
       have q1:=col_in n k hn64 (by omega)
       have q3:64 / 2 ^ k≤64:=Nat.div_le_self _ _
       have o1:=ge_tab k t (by omega) t1
       rw [←H1.out] at o1
       by_cases hkt:k=t
       · have o2:=ord_tab k t (by omega) (by omega)
         have o3:=ord_tab (n / 2 ^ k) q (by omega) tc
         rw [decide_eq_true hkt,←H1.out] at o2
         rw [←H2.out] at o3
         rw [decide_eq_true (by omega)] at o1
         have HG:Hid (decide (n / 2 ^ k=q)=decide (n / 2 ^ t=q)):=by rw [hkt];exact rfl
         generalize decide (n / 2 ^ k=q)=A at *
         clear hkt H1 H2 hk q1 q3
         generalize FB k=x0 at *
         generalize FB (n / 2 ^ k)=x1 at *
         cases A <;>
         · go_wp2
           rw [jump_ret]
           go_ret
           exact ⟨by rw [←HG.out];rfl,hb⟩
       · rw [decide_eq_false (by omega)] at o1
         have c4:=above_any k (n / 2 ^ k) (by omega) (by omega)
         rw [col_up] at c4
         have HL:Hid (9223372036854775808 - FB (k+1)<9223372036854775808 - FB k):=up_tab k (by omega)
         have hk1:k+1≤t:=by omega
         obtain ⟨y0,hy0⟩:∃ x,x=FB (k+1):=⟨_,rfl⟩
         obtain ⟨y1,hy1⟩:∃ x,x=FB (n / 2 ^ (k+1)):=⟨_,rfl⟩
         rw [←hy0,←hy1] at c4
         rw [←hy0] at HL
         have HY0:=Hid.mk' hy0
         have HY1:=Hid.mk' hy1
         clear hy0 hy1 hkt hk H1 H2 q1 q3
         generalize FB k=x0 at *
         generalize FB (n / 2 ^ k)=x1 at *
         go_wp2_with (go_at_call 83;refine (c4 _).mono ?_;clear c4;rintro e w1 ⟨rfl,hw⟩;subst hw)
         go_step3
         obtain rfl:=HY0.out
         obtain rfl:=HY1.out
         exact ⟨rfl,⟨k+1,_,_,_,_,_,_,_,_,_,_,rfl,hk1,hb⟩,HL⟩
     · intro hR
       go_wp2_with (first
        | (go_at_call 82;refine c0.mono ?_;clear c0;rintro e w1 ⟨rfl,hw⟩;subst hw)
        | (go_at_call 74;refine c1.mono ?_;clear c1;rintro e w1 ⟨rfl,b1⟩;(have c2:=c2 _ (hT.keep b1)))
        | (go_at_call 74;refine c2.mono ?_;clear c2;rintro e w2 ⟨rfl,b2⟩))
       obtain rfl:=H3.out
       obtain rfl:=H4.out
       have z1:n / 2 ^ 0=n:=by simp
       have hJ:=hR _ _ ⟨0,undef,undef,undef,undef,undef,undef,undef,undef,undef,undef,rfl,Nat.zero_le _,below_next b1 b2⟩
       rw [z1] at hJ
       go_step3
       exact (‹∀ (a:Act) (w:World),Code.wp _ _ _ a w→_›) _ _ hJ
 · have hb:belB x i=false:=by unfold belB;rw [if_pos (by omega)]
   rw [hb]
   have hd:(decide (0≤i) && decide (i<64))=false:=by
    rw [Bool.and_eq_false_iff]
    by_cases h:0≤i
    · exact .inr (decide_eq_false (fun h2=>hi ⟨h,h2⟩))
    · exact .inl (decide_eq_false h)
   rw [hd] at c0
   clear hb hi hd hT
   go_enter Tryz.func72,Tryz.ntmps72
   go_wp2
   refine wp_scope_back 0 (fun _ _=>False) (fun _ _=>0) rfl (fun _ _ h=>h.elim) fun _ => ?_
   go_wp2_with (go_at_call 82;refine c0.mono ?_;clear c0;rintro e w1 ⟨rfl,hw⟩;subst hw)
   rw [jump_ret]
   go_ret
   exact ⟨rfl,Below.refl _ _⟩
end Go.Proofs.YtbbikhlbkpjpjaaGreatDoor
