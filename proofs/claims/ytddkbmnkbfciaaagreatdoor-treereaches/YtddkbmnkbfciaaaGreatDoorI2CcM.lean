/- What the proof stands on: I2Cc, I2Cd, I2Ce, I2Cf, I2Cod, T4C, T4D, N3E, N3V, N3Z. -/
import Derived.Test.YtddkbmnkbfciaaaGreatDoorI2FmM
import Derived.Test.YtddkbmnkbfciaaaGreatDoorN3PM
import Derived.Test.YtddkbmnkbfciaaaGreatDoorN3SM
import Derived.Test.YtddkbmnkbfciaaaGreatDoorZAb2M
import Derived.ScopeJumps
import Derived.WalkMore
namespace Go.Proofs.YtddkbmnkbfciaaaGreatDoor
open Go.RowKit
theorem wp_scope_back {P:Program} {a:Act} {w:World} {Q:Exit→Act→World→Prop} {c rest:Code} (l:Nat) (J:Act→World→Prop) (μ:Act→World→Nat) (hf:findLabel c l=some (Code.skip.seq rest))
 (pass:∀ a w,J a w→rest.wp P (Exit.jump l (fun a' w'=>J a' w'∧μ a' w'<μ a w) Q) a w)
 (first:(∀ a w,J a w→rest.wp P (Exit.jump l J Q) a w)→c.wp P (Exit.jump l J Q) a w):(Code.scope c).wp P Q a w :=
 wp_scope_jumps l J μ hf (first fun a w h=>Code.wp_mono (fun e a w hq=>by
  cases e with
  | goto k=>exact ⟨hq.1,hq.2.1⟩
  | _=>exact hq) (pass a w h)) fun a w h=>wp_seq (wp_skip (pass a w h))
theorem ord_tab (a b:Nat) (ha:a<64) (hb:b<64):(FloatKind.f64.format.order (FB a) (FB b) == some .eq)=decide (a=b):=by
 have h:(List.range 64).all (fun a=>(List.range 64).all fun b=>(FloatKind.f64.format.order (FB a) (FB b) == some .eq) == decide (a=b))=true:=by kernel_rfl
 exact beq_iff_eq.1 (List.all_eq_true.1 (List.all_eq_true.1 h a (List.mem_range.2 ha)) b (List.mem_range.2 hb))
theorem same_tab (m r:Nat) (hm:m<127) (hr:r<127):(FloatKind.f64.format.order (FB (levN m)) (FB (levN r)) == some .eq && FloatKind.f64.format.order (FB (colN m)) (FB (colN r)) == some .eq)=decide (m=r):=by
 obtain ⟨a1,a2,a3⟩:=lc_tab m hm
 obtain ⟨b1,b2,b3⟩:=lc_tab r hr
 have a4:64 / 2 ^ levN m≤64:=Nat.div_le_self _ _
 have b4:64 / 2 ^ levN r≤64:=Nat.div_le_self _ _
 rw [ord_tab _ _ (by omega) (by omega),ord_tab _ _ (by omega) (by omega)]
 by_cases h:m=r
 · subst h;simp
 · rw [decide_eq_false h]
   cases h1:decide (levN m=levN r) with
   | false=>rfl
   | true =>
    cases h2:decide (colN m=colN r) with
    | false=>rfl
    | true =>
     exfalso
     apply h
     rw [←a3,←b3,of_decide_eq_true h1,of_decide_eq_true h2]
def upM (v:Value):Nat:=match v with | .complex _ re _=>9223372036854775808 - re | _=>0
theorem up_tab (l:Nat) (hl:l<64):9223372036854775808 - FB (l+1)<9223372036854775808 - FB l:=by
 have h:(List.range 64).all (fun l=>decide (9223372036854775808 - FB (l+1)<9223372036854775808 - FB l))=true:=by kernel_rfl
 exact of_decide_eq_true (List.all_eq_true.1 h l (List.mem_range.2 hl))
theorem up_one {l:Int} (hl:mayB l=true) {m:Nat} (hm:(m:Int)<2*l - 1) (hr:¬(m:Int)=l - 1):∃ p:Nat,p<127∧(p:Int)<2*l - 1∧parN (m:Int) l=some p∧levN p=levN m+1∧colN p=colN m / 2∧levN m+1<7∧colN m / 2<64 / 2 ^ (levN m+1)∧plcN (levN m+1) (colN m / 2)=p∧((lftN p:Int)+(rgtN p:Int) - (m:Int)=(plcN (levN m) (othN (colN m)):Int))∧othN (colN m)<64 / 2 ^ levN m:=by
 obtain ⟨t0,t1,t2,t3,t4,t5⟩:=par_tab hl m hm hr
 obtain ⟨q1,q2,q3⟩:=cl_tab _ _ t2 t3
 have:=(parN_some t1).1
 have hw:widN l=(2*l - 1).toNat:=by unfold widN;rw [if_pos hl]
 exact ⟨_,q1,by omega,t1,q2,q3,t2,t3,rfl,t4,t5⟩
set_option maxRecDepth 20000 in
set_option maxHeartbeats 4000000 in
theorem iPathO_any (i l:Int) (w:World) (hT:DbT w):Calls Tryz.prog 166 #[.int .i64 i,.int .i64 l] w fun e w'=>∃ v,e = .returned v∧OwnZ w.heap.size w' v (pathL i l)∧Below w.heap.size w w':=by
 have c0:=hasLeaf_any i l w
 unfold pathL
 by_cases hB:theB i l=true
 · rw [hB] at c0
   rw [if_pos hB]
   obtain ⟨hm,h0,h1,h2⟩:=theB_cases hB
   obtain ⟨s,hs⟩:∃ s:Nat,2*i=(s:Int):=⟨(2*i).toNat,by omega⟩
   have hs127:s<127:=by omega
   have hsl:(s:Int)<2*l - 1:=by omega
   rw [hs,Int.toNat_natCast]
   have e1:wrap64 (2*i)=(s:Int):=by unfold wrap64;omega
   obtain ⟨P,hP⟩:∃ P,P=upF l 7 s:=⟨_,rfl⟩
   rw [←hP]
   have HP:=Hid.mk' hP
   have c1:=iPlace_in s hs127 w hT
   obtain ⟨r,hr⟩:∃ r:Nat,l - 1=(r:Int):=⟨(l - 1).toNat,by omega⟩
   have hr127:r<127:=by omega
   have c2:=iPlace_in r hr127
   have c3:=iRoot_any l
   rw [if_pos hm] at c3
   rw [←hr] at c2
   have HR:=Hid.mk' hr
   obtain ⟨T1,hT1⟩:∃ x,x=FB (levN r):=⟨_,rfl⟩
   obtain ⟨T2,hT2⟩:∃ x,x=FB (colN r):=⟨_,rfl⟩
   rw [←hT1,←hT2] at c2
   have H1:=Hid.mk' hT1
   have H2:=Hid.mk' hT2
   obtain ⟨S1,hS1⟩:∃ x,x=FB (levN s):=⟨_,rfl⟩
   obtain ⟨S2,hS2⟩:∃ x,x=FB (colN s):=⟨_,rfl⟩
   rw [←hS1,←hS2] at c1
   have H3:=Hid.mk' hS1
   have H4:=Hid.mk' hS2
   clear hP h0 h1 h2 hB hr hT1 hT2 hS1 hS2
   go_enter Tryz.func166,Tryz.ntmps166
   go_wp2
   refine wp_scope_back 0 (fun a' wr=>∃ (d:List Int) (m:Nat) (xa:Option Addr) (ca:Nat) (u18 u19 u20 u21 u22 u23 u24 u25 u26 u27 u28:Value),a'={ tmps:=#[.int .i64 i,.int .i64 l,undef,undef,.slice none 0 0,.slice xa d.length ca,.complex .f64 (FB (levN m)) (FB (colN m)),.complex .f64 T1 T2,.int .i64 i,.int .i64 l,.bool true,.bool false,.int .i64 i,.int .i64 (s:Int),.complex .f64 S1 S2,.int .i64 l,.int .i64 (l - 1),.complex .f64 T1 T2,u18,u19,u20,u21,u22,u23,u24,u25,u26,u27,u28],defers:=[] }∧m<127∧(m:Int)<2*l - 1∧OwnZ w.heap.size wr (.slice xa d.length ca) d∧d.length≤levN m∧Hid (P=d ++ upF l (7 - d.length) m)∧Below w.heap.size w wr) (fun a' _=>upM (a'.tmps.getD 6 undef)) rfl ?_ ?_
   · rintro a' wr ⟨d,m,xa,ca,u18,u19,u20,u21,u22,u23,u24,u25,u26,u27,u28,rfl,hm1,hm2,own,hd,HQ,hb⟩
     clear c0 c1 c2 c3 HP
     by_cases hmr:m=r
     · have hPd:P=d:=by
        rw [HQ.out]
        have:upF l (7 - d.length) m=[]:=by
         cases 7 - d.length with
         | zero=>rfl
         | succ n =>
          show (match parN (m:Int) l with | some p=>(p:Int) :: upF l n p | none=>[])=[]
          rw [hmr,←HR.out,root_no hm]
        rw [this,List.append_nil]
       have hsame:=same_tab m r hm1 hr127
       rw [decide_eq_true hmr,←H1.out,←H2.out,Bool.and_eq_true] at hsame
       obtain ⟨g1,g2⟩:=hsame
       have HPd:=Hid.mk' hPd
       clear hmr hPd HQ
       generalize FB (levN m)=x1 at *
       generalize FB (colN m)=x2 at *
       go_wp2
       rw [jump_ret]
       go_ret
       exact ⟨_,rfl,by rw [HPd.out];exact own,hb⟩
     · obtain ⟨p,p1,p2,p3,p4,p5,p6,p7,p8,-,-⟩:=up_one hm hm2 (fun h=>hmr (by have:=HR.out;omega))
       have hsame:=same_tab m r hm1 hr127
       rw [decide_eq_false hmr,←H1.out,←H2.out] at hsame
       have u1:=lc_tab m hm1
       have u3:64 / 2 ^ levN m≤64:=Nat.div_le_self _ _
       have c4:=above_any (levN m) (colN m) (by omega) (by omega)
       have c5:=at_in (levN m+1) (colN m / 2) p6 p7
       rw [p8] at c5
       have hlt:=up_tab (levN m) (by omega)
       rw [←p4,←p5] at c4 c5
       rw [←p4] at hlt
       have hstep:upF l (7 - d.length) m=(p:Int) :: upF l (7 - (d.length+1)) p:=by
        rw [show 7 - d.length=(7 - (d.length+1))+1 by omega]
        show (match parN (m:Int) l with | some p=>(p:Int) :: upF l (7 - (d.length+1)) p | none=>[])=_
        rw [p3]
       have HN:Hid (P=(d ++ [(p:Int)]) ++ upF l (7 - (d ++ [(p:Int)]).length) p):=by
        refine HQ.out.trans ?_
        rw [hstep,List.length_append]
        simp
       have hdl:(d ++ [(p:Int)]).length≤levN p:=by rw [List.length_append];show d.length+1≤_;omega
       have hd9:d.length+1≤1000:=by omega
       have hbs:=hb.size
       have HL:Hid (9223372036854775808 - FB (levN p)<9223372036854775808 - FB (levN m)):=hlt
       have HE:Hid (d.length+1=(d ++ [(p:Int)]).length):=Hid.mk' (by simp)
       clear hstep HQ hmr p3 p4 p5 p6 p7 p8 hlt u1 u3
       obtain ⟨y1,hy1⟩:∃ x,x=FB (levN p):=⟨_,rfl⟩
       obtain ⟨y2,hy2⟩:∃ x,x=FB (colN p):=⟨_,rfl⟩
       rw [←hy1,←hy2] at c4 c5
       rw [←hy1] at HL
       have HY1:=Hid.mk' hy1
       have HY2:=Hid.mk' hy2
       clear hy1 hy2
       generalize FB (levN m)=x1 at *
       generalize FB (colN m)=x2 at *
       go_wp2_with (first
        | (go_at_call 112;refine (c4 _).mono ?_;clear c4;rintro e w1 ⟨rfl,hw⟩;subst hw)
        | (go_at_call 113;refine (c5 _).mono ?_;clear c5;rintro e w2 ⟨rfl,b2⟩;(replace own:=own.below b2);(replace hb:=below_next hb b2);(replace hbs:=hb.size);clear b2)
        | (at_builtin;refine wpList_append_z rfl (.tmp 24) (.tmp 27) rfl w.heap.size _ d _ rfl own rfl hd9 hbs ?_;intro v3 w3 own3 b3;(obtain ⟨x3,c3,e3⟩:=own3.slice);subst e3))
       go_step3
       obtain rfl:=HY1.out
       obtain rfl:=HY2.out
       rw [HE.out]
       exact ⟨rfl,⟨d ++ [(p:Int)],p,x3,c3,_,_,_,_,_,_,_,_,_,_,_,rfl,p1,p2,own3,hdl,HN,hb.trans b3⟩,HL⟩
   · intro hR
     go_wp2_with (first
      | (go_at_call 110;refine c0.mono ?_;clear c0;rintro e w1 ⟨rfl,hw⟩;subst hw)
      | (go_at_call 111;refine c1.mono ?_;clear c1;rintro e w1 ⟨rfl,b1⟩;(have c2:=c2 _ (hT.keep b1)))
      | (go_at_call 42;refine (c3 _).mono ?_;clear c3;rintro e w1 ⟨rfl,hw⟩;subst hw)
      | (go_at_call 111;refine c2.mono ?_;clear c2;rintro e w2 ⟨rfl,b2⟩))
     obtain rfl:=H3.out
     obtain rfl:=H4.out
     have hJ:=hR _ _ ⟨[],s,none,0,undef,undef,undef,undef,undef,undef,undef,undef,undef,undef,undef,rfl,hs127,hsl,OwnZ.nil _ _,Nat.zero_le _,HP,below_next b1 b2⟩
     go_step3
     exact (‹∀ (a:Act) (w:World),Code.wp _ _ _ a w→_›) _ _ hJ
 · replace hB:theB i l=false:=by simpa using hB
   rw [hB] at c0 ⊢
   clear hT
   go_enter Tryz.func166,Tryz.ntmps166
   go_wp2
   refine wp_scope_back 0 (fun _ _=>False) (fun _ _=>0) rfl (fun _ _ h=>h.elim) fun _ => ?_
   go_wp2_with (go_at_call 110;refine c0.mono ?_;clear c0;rintro e w1 ⟨rfl,hw⟩;subst hw)
   rw [jump_ret]
   go_ret
   exact ⟨_,rfl,OwnZ.nil _ _,Below.refl _ _⟩
end Go.Proofs.YtddkbmnkbfciaaaGreatDoor
namespace Go.Proofs.YtddkbmnkbfciaaaGreatDoor
open Go.RowKit
set_option maxRecDepth 20000 in
set_option maxHeartbeats 4000000 in
theorem iCopathO_any (i l:Int) (w:World) (hT:DbT w):Calls Tryz.prog 171 #[.int .i64 i,.int .i64 l] w fun e w'=>∃ v,e = .returned v∧OwnZ w.heap.size w' v (copathL i l)∧Below w.heap.size w w':=by
 have c0:=hasLeaf_any i l w
 unfold copathL
 by_cases hB:theB i l=true
 · rw [hB] at c0
   rw [if_pos hB]
   obtain ⟨hm,h0,h1,h2⟩:=theB_cases hB
   obtain ⟨s,hs⟩:∃ s:Nat,2*i=(s:Int):=⟨(2*i).toNat,by omega⟩
   have hs127:s<127:=by omega
   have hsl:(s:Int)<2*l - 1:=by omega
   rw [hs,Int.toNat_natCast]
   have e1:wrap64 (2*i)=(s:Int):=by unfold wrap64;omega
   obtain ⟨P,hP⟩:∃ P,P=coF l 7 s:=⟨_,rfl⟩
   rw [←hP]
   have HP:=Hid.mk' hP
   have c1:=iPlace_in s hs127 w hT
   obtain ⟨r,hr⟩:∃ r:Nat,l - 1=(r:Int):=⟨(l - 1).toNat,by omega⟩
   have hr127:r<127:=by omega
   have c2:=iPlace_in r hr127
   have c3:=iRoot_any l
   rw [if_pos hm] at c3
   rw [←hr] at c2
   have HR:=Hid.mk' hr
   obtain ⟨T1,hT1⟩:∃ x,x=FB (levN r):=⟨_,rfl⟩
   obtain ⟨T2,hT2⟩:∃ x,x=FB (colN r):=⟨_,rfl⟩
   rw [←hT1,←hT2] at c2
   have H1:=Hid.mk' hT1
   have H2:=Hid.mk' hT2
   obtain ⟨S1,hS1⟩:∃ x,x=FB (levN s):=⟨_,rfl⟩
   obtain ⟨S2,hS2⟩:∃ x,x=FB (colN s):=⟨_,rfl⟩
   rw [←hS1,←hS2] at c1
   have H3:=Hid.mk' hS1
   have H4:=Hid.mk' hS2
   clear hP h0 h1 h2 hB hr hT1 hT2 hS1 hS2
   go_enter Tryz.func171,Tryz.ntmps171
   go_wp2
   refine wp_scope_back 0 (fun a' wr=>∃ (d:List Int) (m:Nat) (xa:Option Addr) (ca:Nat) (u18 u19 u20 u21 u22 u23 u24 u25 u26 u27 u28 u29:Value),a'={ tmps:=#[.int .i64 i,.int .i64 l,undef,undef,.slice none 0 0,.slice xa d.length ca,.complex .f64 (FB (levN m)) (FB (colN m)),.complex .f64 T1 T2,.int .i64 i,.int .i64 l,.bool true,.bool false,.int .i64 i,.int .i64 (s:Int),.complex .f64 S1 S2,.int .i64 l,.int .i64 (l - 1),.complex .f64 T1 T2,u18,u19,u20,u21,u22,u23,u24,u25,u26,u27,u28,u29],defers:=[] }∧m<127∧(m:Int)<2*l - 1∧OwnZ w.heap.size wr (.slice xa d.length ca) d∧d.length≤levN m∧Hid (P=d ++ coF l (7 - d.length) m)∧Below w.heap.size w wr) (fun a' _=>upM (a'.tmps.getD 6 undef)) rfl ?_ ?_
   · rintro a' wr ⟨d,m,xa,ca,u18,u19,u20,u21,u22,u23,u24,u25,u26,u27,u28,u29,rfl,hm1,hm2,own,hd,HQ,hb⟩
     clear c0 c1 c2 c3 HP
     by_cases hmr:m=r
     · have hPd:P=d:=by
        rw [HQ.out]
        have:coF l (7 - d.length) m=[]:=by
         cases 7 - d.length with
         | zero=>rfl
         | succ n =>
          show (match parN (m:Int) l with | some p=>((lftN p:Int)+(rgtN p:Int) - (m:Int)) :: coF l n p | none=>[])=[]
          rw [hmr,←HR.out,root_no hm]
        rw [this,List.append_nil]
       have hsame:=same_tab m r hm1 hr127
       rw [decide_eq_true hmr,←H1.out,←H2.out,Bool.and_eq_true] at hsame
       obtain ⟨g1,g2⟩:=hsame
       have HPd:=Hid.mk' hPd
       clear hmr hPd HQ
       generalize FB (levN m)=x1 at *
       generalize FB (colN m)=x2 at *
       go_wp2
       rw [jump_ret]
       go_ret
       exact ⟨_,rfl,by rw [HPd.out];exact own,hb⟩
     · obtain ⟨p,p1,p2,p3,p4,p5,p6,p7,p8,p9,pa⟩:=up_one hm hm2 (fun h=>hmr (by have:=HR.out;omega))
       have hsame:=same_tab m r hm1 hr127
       rw [decide_eq_false hmr,←H1.out,←H2.out] at hsame
       have u1:=lc_tab m hm1
       have u3:64 / 2 ^ levN m≤64:=Nat.div_le_self _ _
       have c4:=above_any (levN m) (colN m) (by omega) (by omega)
       have c6:=beside_any (levN m) (colN m) (by omega) (by omega)
       have c5:=at_in (levN m) (othN (colN m)) u1.1 pa
       obtain ⟨q,hq⟩:∃ q:Int,q=(plcN (levN m) (othN (colN m)):Int):=⟨_,rfl⟩
       rw [←hq] at c5 p9
       have hlt:=up_tab (levN m) (by omega)
       rw [←p4,←p5] at c4
       rw [←p4] at hlt
       have hstep:coF l (7 - d.length) m=q :: coF l (7 - (d.length+1)) p:=by
        rw [show 7 - d.length=(7 - (d.length+1))+1 by omega]
        show (match parN (m:Int) l with | some p=>((lftN p:Int)+(rgtN p:Int) - (m:Int)) :: coF l (7 - (d.length+1)) p | none=>[])=_
        rw [p3,←p9]
       have HN:Hid (P=(d ++ [q]) ++ coF l (7 - (d ++ [q]).length) p):=by
        refine HQ.out.trans ?_
        rw [hstep,List.length_append]
        simp
       have hdl:(d ++ [q]).length≤levN p:=by rw [List.length_append];show d.length+1≤_;omega
       have hd9:d.length+1≤1000:=by omega
       have hbs:=hb.size
       have HL:Hid (9223372036854775808 - FB (levN p)<9223372036854775808 - FB (levN m)):=hlt
       have HE:Hid (d.length+1=(d ++ [q]).length):=Hid.mk' (by simp)
       clear hstep HQ hmr p3 p4 p5 p6 p7 p8 p9 pa hq hlt u1 u3
       obtain ⟨y1,hy1⟩:∃ x,x=FB (levN p):=⟨_,rfl⟩
       obtain ⟨y2,hy2⟩:∃ x,x=FB (colN p):=⟨_,rfl⟩
       rw [←hy1,←hy2] at c4
       rw [←hy1] at HL
       have HY1:=Hid.mk' hy1
       have HY2:=Hid.mk' hy2
       clear hy1 hy2
       generalize FB (levN m)=x1 at *
       generalize FB (othN (colN m))=x3 at *
       generalize FB (colN m)=x2 at *
       go_wp2_with (first
        | (go_at_call 115;refine (c6 _).mono ?_;clear c6;rintro e w1 ⟨rfl,hw⟩;subst hw)
        | (go_at_call 112;refine (c4 _).mono ?_;clear c4;rintro e w1 ⟨rfl,hw⟩;subst hw)
        | (go_at_call 113;refine (c5 _).mono ?_;clear c5;rintro e w2 ⟨rfl,b2⟩;(replace own:=own.below b2);(replace hb:=below_next hb b2);(replace hbs:=hb.size);clear b2)
        | (at_builtin;refine wpList_append_z rfl (.tmp 22) (.tmp 26) rfl w.heap.size _ d _ rfl own rfl hd9 hbs ?_;intro v3 w3 own3 b3;(obtain ⟨x4,c3,e3⟩:=own3.slice);subst e3))
       go_step3
       obtain rfl:=HY1.out
       obtain rfl:=HY2.out
       rw [HE.out]
       exact ⟨rfl,⟨d ++ [q],p,x4,c3,_,_,_,_,_,_,_,_,_,_,_,_,rfl,p1,p2,own3,hdl,HN,hb.trans b3⟩,HL⟩
   · intro hR
     go_wp2_with (first
      | (go_at_call 110;refine c0.mono ?_;clear c0;rintro e w1 ⟨rfl,hw⟩;subst hw)
      | (go_at_call 111;refine c1.mono ?_;clear c1;rintro e w1 ⟨rfl,b1⟩;(have c2:=c2 _ (hT.keep b1)))
      | (go_at_call 42;refine (c3 _).mono ?_;clear c3;rintro e w1 ⟨rfl,hw⟩;subst hw)
      | (go_at_call 111;refine c2.mono ?_;clear c2;rintro e w2 ⟨rfl,b2⟩))
     obtain rfl:=H3.out
     obtain rfl:=H4.out
     have hJ:=hR _ _ ⟨[],s,none,0,undef,undef,undef,undef,undef,undef,undef,undef,undef,undef,undef,undef,rfl,hs127,hsl,OwnZ.nil _ _,Nat.zero_le _,HP,below_next b1 b2⟩
     go_step3
     exact (‹∀ (a:Act) (w:World),Code.wp _ _ _ a w→_›) _ _ hJ
 · replace hB:theB i l=false:=by simpa using hB
   rw [hB] at c0 ⊢
   clear hT
   go_enter Tryz.func171,Tryz.ntmps171
   go_wp2
   refine wp_scope_back 0 (fun _ _=>False) (fun _ _=>0) rfl (fun _ _ h=>h.elim) fun _ => ?_
   go_wp2_with (go_at_call 110;refine c0.mono ?_;clear c0;rintro e w1 ⟨rfl,hw⟩;subst hw)
   rw [jump_ret]
   go_ret
   exact ⟨_,rfl,OwnZ.nil _ _,Below.refl _ _⟩
end Go.Proofs.YtddkbmnkbfciaaaGreatDoor
namespace Go.Proofs.YtddkbmnkbfciaaaGreatDoor
open Go.RowKit
theorem bel_tab (k c i:Nat) (hk:k<7) (hc:c<64 / 2 ^ k) (hi:i<64):belB (plcN k c:Int) (i:Int)=decide (i / 2 ^ k=c):=by
 have h:(List.range 7).all (fun k=>(List.range (64 / 2 ^ k)).all fun c=>(List.range 64).all fun i=>belB (plcN k c:Int) (i:Int) == decide (i / 2 ^ k=c))=true:=by kernel_rfl
 exact beq_iff_eq.1 (List.all_eq_true.1 (List.all_eq_true.1 (List.all_eq_true.1 h k (List.mem_range.2 hk)) c (List.mem_range.2 hc)) i (List.mem_range.2 hi))
theorem col_in (i k:Nat) (hi:i<64) (hk:k<7):i / 2 ^ k<64 / 2 ^ k:=by
 rcases (show k=0∨k=1∨k=2∨k=3∨k=4∨k=5∨k=6 by omega) with rfl | rfl | rfl | rfl | rfl | rfl | rfl <;> simp <;> omega
theorem leaf_tab (i:Nat) (hi:i<64):levN (2*i)=0∧colN (2*i)=i:=by
 have h:(List.range 64).all (fun i=>levN (2*i) == 0 && colN (2*i) == i)=true:=by kernel_rfl
 have:=List.all_eq_true.1 h i (List.mem_range.2 hi)
 simpa using this
theorem col_up (i k:Nat):i / 2 ^ k / 2=i / 2 ^ (k+1):=by rw [Nat.div_div_eq_div_mul,Nat.pow_succ]
end Go.Proofs.YtddkbmnkbfciaaaGreatDoor
namespace Go.Proofs.YtddkbmnkbfciaaaGreatDoor
open Go.RowKit
theorem ge_tab (a b:Nat) (ha:a<7) (hb:b<7):(FloatKind.f64.format.order (FB a) (FB b) == some .gt || FloatKind.f64.format.order (FB a) (FB b) == some .eq)=decide (b≤a):=by
 have h:(List.range 7).all (fun a=>(List.range 7).all fun b=>(FloatKind.f64.format.order (FB a) (FB b) == some .gt || FloatKind.f64.format.order (FB a) (FB b) == some .eq) == decide (b≤a))=true:=by kernel_rfl
 exact beq_iff_eq.1 (List.all_eq_true.1 (List.all_eq_true.1 h a (List.mem_range.2 ha)) b (List.mem_range.2 hb))
theorem neg_ge:FloatKind.f64.format.order (FB 0) 13830554455654793216=some .gt:=by kernel_rfl
theorem the_64 (i:Int):theB i 64=(decide (0≤i) && decide (i<64)):=by unfold theB;rw [show mayB 64=true by kernel_rfl,Bool.true_and]
set_option maxRecDepth 20000 in
set_option maxHeartbeats 4000000 in
theorem iBelow_any (x i:Int) (w:World) (hT:DbT w):Calls Tryz.prog 43 #[.int .i64 x,.int .i64 i] w fun e w'=>e = .returned (.bool (belB x i))∧Below w.heap.size w w':=by
 have c0:=hasLeaf_any i 64 w
 rw [the_64] at c0
 by_cases hi:0≤i∧i<64
 · obtain ⟨h0,h1⟩:=hi
   rw [decide_eq_true h0,decide_eq_true h1] at c0
   obtain ⟨n,hn⟩:∃ n:Nat,i=(n:Int):=⟨i.toNat,by omega⟩
   have hn64:n<64:=by omega
   obtain ⟨l1,l2⟩:=leaf_tab n hn64
   obtain ⟨s,hs⟩:∃ s:Int,s=((2*n:Nat):Int):=⟨_,rfl⟩
   have c1:=iPlace_in (2*n) (by omega) w hT
   rw [l1,l2,←hs] at c1
   have e1:wrap64 (2*i)=s:=by unfold wrap64;omega
   by_cases hx:x<0∨127≤x
   · have hb:belB x i=false:=by unfold belB;rw [if_pos (by omega)]
     rw [hb]
     have c2:=iPlace_out x hx
     have r1:=neg_ge
     clear hx hb hs hn h0 h1 l1 l2 hT
     generalize FB 0=S1 at *
     generalize FB n=S2 at *
     go_enter Tryz.func43,Tryz.ntmps43
     go_wp2
     refine wp_scope_back 0 (fun a' wr=>(∃ (u15 u16 u17 u18 u19 u20 u21 u22 u23 u24:Value),a'={ tmps:=#[.int .i64 x,.int .i64 i,undef,undef,.bool false,.complex .f64 S1 S2,.complex .f64 13830554455654793216 0,.int .i64 i,.bool true,.bool false,.int .i64 i,.int .i64 s,.complex .f64 S1 S2,.int .i64 x,.complex .f64 13830554455654793216 0,u15,u16,u17,u18,u19,u20,u21,u22,u23,u24],defers:=[] })∧Below w.heap.size w wr) (fun _ _=>0) rfl ?_ ?_
     · rintro a' wr ⟨⟨u15,u16,u17,u18,u19,u20,u21,u22,u23,u24,rfl⟩,hb⟩
       clear c0 c1 c2
       go_wp2
       rw [jump_ret]
       go_ret
       exact ⟨rfl,hb⟩
     · intro hR
       go_wp2_with (first
        | (go_at_call 110;refine c0.mono ?_;clear c0;rintro e w1 ⟨rfl,hw⟩;subst hw)
        | (go_at_call 111;refine c1.mono ?_;clear c1;rintro e w1 ⟨rfl,b1⟩)
        | (go_at_call 111;refine (c2 _).mono ?_;clear c2;rintro e w2 ⟨rfl,b2⟩))
       have hJ:=hR _ _ ⟨⟨undef,undef,undef,undef,undef,undef,undef,undef,undef,undef,rfl⟩,below_next b1 b2⟩
       go_step3
       exact (‹∀ (a:Act) (w:World),Code.wp _ _ _ a w→_›) _ _ hJ
   · obtain ⟨y,rfl⟩:∃ y:Nat,x=(y:Int):=⟨x.toNat,by omega⟩
     have hy:y<127:=by omega
     obtain ⟨t1,t2,t3⟩:=lc_tab y hy
     have c2:=iPlace_in y hy
     have hbel:=bel_tab (levN y) (colN y) n t1 t2 hn64
     rw [t3,←hn] at hbel
     rw [hbel]
     obtain ⟨x,hxy⟩:∃ x:Int,x=(y:Int):=⟨_,rfl⟩
     rw [←hxy] at c2 ⊢
     have t4:64 / 2 ^ levN y≤64:=Nat.div_le_self _ _
     have tc:colN y<64:=by omega
     clear hx hbel hxy hs hn h0 h1 l1 l2 t2 t3 t4 hy
     generalize levN y=t at *
     generalize colN y=q at *
     obtain ⟨T1,hT1⟩:∃ x,x=FB t:=⟨_,rfl⟩
     obtain ⟨T2,hT2⟩:∃ x,x=FB q:=⟨_,rfl⟩
     rw [←hT1,←hT2] at c2
     have H1:=Hid.mk' hT1
     have H2:=Hid.mk' hT2
     obtain ⟨S1,hS1⟩:∃ x,x=FB 0:=⟨_,rfl⟩
     obtain ⟨S2,hS2⟩:∃ x,x=FB n:=⟨_,rfl⟩
     rw [←hS1,←hS2] at c1
     have H3:=Hid.mk' hS1
     have H4:=Hid.mk' hS2
     clear hT1 hT2 hS1 hS2
     go_enter Tryz.func43,Tryz.ntmps43
     go_wp2
     refine wp_scope_back 0 (fun a' wr=>∃ (k:Nat) (u15 u16 u17 u18 u19 u20 u21 u22 u23 u24:Value),a'={ tmps:=#[.int .i64 x,.int .i64 i,undef,undef,.bool false,.complex .f64 (FB k) (FB (n / 2 ^ k)),.complex .f64 T1 T2,.int .i64 i,.bool true,.bool false,.int .i64 i,.int .i64 s,.complex .f64 S1 S2,.int .i64 x,.complex .f64 T1 T2,u15,u16,u17,u18,u19,u20,u21,u22,u23,u24],defers:=[] }∧k≤t∧Below w.heap.size w wr) (fun a' _=>upM (a'.tmps.getD 5 undef)) rfl ?_ ?_
     · rintro a' wr ⟨k,u15,u16,u17,u18,u19,u20,u21,u22,u23,u24,rfl,hk,hb⟩
       clear c0 c1 c2 H3 H4
       have q1:=col_in n k hn64 (by omega)
       have q3:64 / 2 ^ k≤64:=Nat.div_le_self _ _
       have o1:=ge_tab k t (by omega) t1
       rw [←H1.out] at o1
       by_cases hkt:k=t
       · have o2:=ord_tab k t (by omega) (by omega)
         have o3:=ord_tab (n / 2 ^ k) q (by omega) tc
         rw [decide_eq_true hkt,←H1.out] at o2
         rw [←H2.out] at o3
         rw [decide_eq_true (by omega)] at o1
         have HG:Hid (decide (n / 2 ^ k=q)=decide (n / 2 ^ t=q)):=by rw [hkt];exact rfl
         generalize decide (n / 2 ^ k=q)=A at *
         clear hkt H1 H2 hk q1 q3
         generalize FB k=x0 at *
         generalize FB (n / 2 ^ k)=x1 at *
         cases A <;>
         · go_wp2
           rw [jump_ret]
           go_ret
           exact ⟨by rw [←HG.out];rfl,hb⟩
       · rw [decide_eq_false (by omega)] at o1
         have c4:=above_any k (n / 2 ^ k) (by omega) (by omega)
         rw [col_up] at c4
         have HL:Hid (9223372036854775808 - FB (k+1)<9223372036854775808 - FB k):=up_tab k (by omega)
         have hk1:k+1≤t:=by omega
         obtain ⟨y0,hy0⟩:∃ x,x=FB (k+1):=⟨_,rfl⟩
         obtain ⟨y1,hy1⟩:∃ x,x=FB (n / 2 ^ (k+1)):=⟨_,rfl⟩
         rw [←hy0,←hy1] at c4
         rw [←hy0] at HL
         have HY0:=Hid.mk' hy0
         have HY1:=Hid.mk' hy1
         clear hy0 hy1 hkt hk H1 H2 q1 q3
         generalize FB k=x0 at *
         generalize FB (n / 2 ^ k)=x1 at *
         go_wp2_with (go_at_call 112;refine (c4 _).mono ?_;clear c4;rintro e w1 ⟨rfl,hw⟩;subst hw)
         go_step3
         obtain rfl:=HY0.out
         obtain rfl:=HY1.out
         exact ⟨rfl,⟨k+1,_,_,_,_,_,_,_,_,_,_,rfl,hk1,hb⟩,HL⟩
     · intro hR
       go_wp2_with (first
        | (go_at_call 110;refine c0.mono ?_;clear c0;rintro e w1 ⟨rfl,hw⟩;subst hw)
        | (go_at_call 111;refine c1.mono ?_;clear c1;rintro e w1 ⟨rfl,b1⟩;(have c2:=c2 _ (hT.keep b1)))
        | (go_at_call 111;refine c2.mono ?_;clear c2;rintro e w2 ⟨rfl,b2⟩))
       obtain rfl:=H3.out
       obtain rfl:=H4.out
       have z1:n / 2 ^ 0=n:=by simp
       have hJ:=hR _ _ ⟨0,undef,undef,undef,undef,undef,undef,undef,undef,undef,undef,rfl,Nat.zero_le _,below_next b1 b2⟩
       rw [z1] at hJ
       go_step3
       exact (‹∀ (a:Act) (w:World),Code.wp _ _ _ a w→_›) _ _ hJ
 · have hb:belB x i=false:=by unfold belB;rw [if_pos (by omega)]
   rw [hb]
   have hd:(decide (0≤i) && decide (i<64))=false:=by
    rw [Bool.and_eq_false_iff]
    by_cases h:0≤i
    · exact .inr (decide_eq_false (fun h2=>hi ⟨h,h2⟩))
    · exact .inl (decide_eq_false h)
   rw [hd] at c0
   clear hb hi hd hT
   go_enter Tryz.func43,Tryz.ntmps43
   go_wp2
   refine wp_scope_back 0 (fun _ _=>False) (fun _ _=>0) rfl (fun _ _ h=>h.elim) fun _ => ?_
   go_wp2_with (go_at_call 110;refine c0.mono ?_;clear c0;rintro e w1 ⟨rfl,hw⟩;subst hw)
   rw [jump_ret]
   go_ret
   exact ⟨rfl,Below.refl _ _⟩
end Go.Proofs.YtddkbmnkbfciaaaGreatDoor
namespace Go.Proofs.YtddkbmnkbfciaaaGreatDoor
open Go.RowKit
theorem same_below {w w':World} (h:w=w'):Below w.heap.size w w':=by subst h;exact Below.refl _ _
theorem jRoot_any (l:Int) (w:World) (_:DbT w):Calls Tryz.prog 42 #[.int .i64 l] w fun e w'=>e = .returned (.int .i64 (if mayB l then l - 1 else -1))∧Below w.heap.size w w':=(iRoot_any l w).mono fun _ _ h=>⟨h.1,same_below h.2⟩
end Go.Proofs.YtddkbmnkbfciaaaGreatDoor
namespace Go.Proofs.YtddkbmnkbfciaaaGreatDoor
open Go.RowKit Go.Shelf
theorem tmade_nil (w:World):Calls Tryz.prog 54 #[.pointer none] w fun e w'=>e = .returned (.bool false)∧w'=w:=by
 go_enter Tryz.func54,Tryz.ntmps54
 go_wp2
 go_ret
 exact ⟨rfl,rfl⟩
theorem tmade_any (tb:Nat) (n:Int) (w:World) (hc:w.cell? ⟨tb,0,none⟩=some (.int .i64 n)):Calls Tryz.prog 54 #[pA tb 0] w fun e w'=>e = .returned (.bool (decide (0<n)))∧w'=w:=by
 go_enter Tryz.func54,Tryz.ntmps54
 go_wp2
 go_ret
 exact ⟨by simp,rfl⟩
theorem placeOf_any (i:Int) (h:0≤i∧i<4611686018427387904) (w:World):Calls Tryz.prog 89 #[.int .i64 i] w fun e w'=>e = .returned (.int .i64 (2*i))∧w'=w:=by
 have e1:IntKind.i64.wrap (2*i)=2*i:=by simp only [IntKind.wrap_i64];omega
 go_enter Tryz.func89,Tryz.ntmps89
 go_wp2
 go_ret
 exact ⟨rfl,rfl⟩
theorem thasLeaf_nil (i:Int) (w:World):Calls Tryz.prog 87 #[.pointer none,.int .i64 i] w fun e w'=>e = .returned (.bool false)∧w'=w:=by
 have c:=tmade_nil w
 go_enter Tryz.func87,Tryz.ntmps87
 go_wp2_with (go_at_call 54;refine c.mono ?_;clear c;rintro e w1 ⟨rfl,rfl⟩)
 go_ret
 exact ⟨rfl,rfl⟩
theorem thasLeaf_zero (tb:Nat) (i:Int) (w:World) (hc:w.cell? ⟨tb,0,none⟩=some (.int .i64 0)):Calls Tryz.prog 87 #[pA tb 0,.int .i64 i] w fun e w'=>e = .returned (.bool false)∧w'=w:=by
 have c:=tmade_any tb 0 w hc
 go_enter Tryz.func87,Tryz.ntmps87
 go_wp2_with (go_at_call 54;refine c.mono ?_;clear c;rintro e w1 ⟨rfl,rfl⟩)
 go_ret
 exact ⟨rfl,rfl⟩
theorem hasPlace_zero (tb:Nat) (i:Int) (w:World) (hc:w.cell? ⟨tb,0,none⟩=some (.int .i64 0)):Calls Tryz.prog 91 #[pA tb 0,.int .i64 i] w fun e w'=>e = .returned (.bool false)∧w'=w:=by
 have c:=tmade_any tb 0 w hc
 go_enter Tryz.func91,Tryz.ntmps91
 go_wp2_with (go_at_call 54;refine c.mono ?_;clear c;rintro e w1 ⟨rfl,rfl⟩)
 go_ret
 exact ⟨rfl,rfl⟩
theorem thasLeaf_any (tb:Nat) (n i:Int) (hn:0<n) (w:World) (hc:w.cell? ⟨tb,0,none⟩=some (.int .i64 n)):Calls Tryz.prog 87 #[pA tb 0,.int .i64 i] w fun e w'=>e = .returned (.bool (decide (0≤i) && decide (i<n)))∧w'=w:=by
 have c:=tmade_any tb n w hc
 rw [decide_eq_true hn] at c
 go_enter Tryz.func87,Tryz.ntmps87
 by_cases h2:0≤i
 · go_wp2_with (go_at_call 54;refine c.mono ?_;clear c;rintro e w1 ⟨rfl,rfl⟩)
   go_ret
   exact ⟨by simp;omega,rfl⟩
 · go_wp2_with (go_at_call 54;refine c.mono ?_;clear c;rintro e w1 ⟨rfl,rfl⟩)
   go_ret
   exact ⟨by simp;omega,rfl⟩
theorem hasPlace_nil (x:Int) (w:World):Calls Tryz.prog 91 #[.pointer none,.int .i64 x] w fun e w'=>e = .returned (.bool false)∧w'=w:=by
 have c:=tmade_nil w
 go_enter Tryz.func91,Tryz.ntmps91
 go_wp2_with (go_at_call 54;refine c.mono ?_;clear c;rintro e w1 ⟨rfl,rfl⟩)
 go_ret
 exact ⟨rfl,rfl⟩
theorem hasPlace_any (tb:Nat) (n x:Int) (hn:mayB n=true) (w:World) (hc:w.cell? ⟨tb,0,none⟩=some (.int .i64 n)):Calls Tryz.prog 91 #[pA tb 0,.int .i64 x] w fun e w'=>e = .returned (.bool (decide (0≤x) && decide (x<2*n - 1)))∧w'=w:=by
 have c:=tmade_any tb n w hc
 have c2:=iWidth_any n w
 rw [decide_eq_true (by have:=mayB_cases hn;omega)] at c
 rw [if_pos hn] at c2
 go_enter Tryz.func91,Tryz.ntmps91
 by_cases h2:0≤x
 · go_wp2_with (first | (go_at_call 54;refine c.mono ?_;clear c;rintro e w1 ⟨rfl,rfl⟩) | (go_at_call 75;refine c2.mono ?_;clear c2;rintro e w1 ⟨rfl,rfl⟩))
   go_ret
   exact ⟨by simp;omega,rfl⟩
 · go_wp2_with (go_at_call 54;refine c.mono ?_;clear c;rintro e w1 ⟨rfl,rfl⟩)
   go_ret
   exact ⟨by simp;omega,rfl⟩
theorem und_map:Tryz.prog.underlying 69=some (.map 3 90):=by kernel_rfl
theorem und_int:Tryz.prog.underlying 3=some (.int .i64):=by kernel_rfl
theorem zero_node (w:World):(zeroValue 90).run Tryz.prog w = .ok .nilIface w:=by kernel_rfl
theorem look_any {w:World} {mb:Nat} {f:Int→Option Value} (h:MpAt w mb f) (k:Int):(Instr.lookup 69 (.map (some mb)) (.int .i64 k) false).run Tryz.prog w = .ok ((f k).getD .nilIface) w:=mp_look h und_map und_int zero_node k false
theorem newTree_any (w:World):Calls Tryz.prog 9 #[] w fun e w'=>∃ tb mb,e = .returned (pA tb 0)∧w.heap.size≤tb∧w.heap.size≤mb∧TrAt (fun _=>False) w' tb mb ⟨1,fun _=>none⟩∧Below w.heap.size w w':=by
 have hmm:=@run_makeMap Tryz.prog
 go_enter Tryz.func9,Tryz.ntmps9
 go_wp2
 go_ret
 refine ⟨w.heap.size+1,w.heap.size,rfl,by omega,Nat.le_refl _,?_,((Below.refl _ _).alloc (Nat.le_refl _) _).alloc (by simp) _⟩
 refine ⟨by simp,by simp,by simp,⟨fun _=>none,(mp_empty w).below ((Below.refl _ _).alloc (Nat.le_refl _) _) (by simp),fun x=>rfl⟩,id,id⟩
end Go.Proofs.YtddkbmnkbfciaaaGreatDoor
namespace Go.Proofs.YtddkbmnkbfciaaaGreatDoor
open Go.RowKit Go.Shelf
attribute [local go_sem] Oper.semAt_some
theorem places_any (tb:Nat) (w:World):Calls Tryz.prog 56 #[pA tb 0] w fun e w'=>e = .returned (.func (.func 128) #[] #[pA w.heap.size 0])∧w'=w.alloc (.cells #[pA tb 0] 23):=by
 go_enter Tryz.func56,Tryz.ntmps56
 go_wp2
 go_ret
 exact ⟨rfl,rfl⟩
structure HasT (pb tb mb:Nat) (n:Nat) (W:World):Prop where
 bx:W.cell? ⟨pb,0,none⟩=some (pA tb 0)
 lv:W.cell? ⟨tb,0,none⟩=some (.int .i64 (n:Int))
 st:W.cell? ⟨tb,1,none⟩=some (.map (some mb))
def HasV (pb tb mb n:Nat) (V:Nat→Option Value) (k:Nat) (W:World):Prop:=HasT pb tb mb n W∧(k<2*n - 1→∃ f,MpAt W mb f∧f (k:Int)=V k)
set_option maxRecDepth 100000 in
set_option maxHeartbeats 4000000 in
theorem places_it (pb tb mb n:Nat) (hn:mayB (n:Int)=true) (V:Nat→Option Value) :
 Iter Tryz.prog 128 #[pA pb 0] (2*n - 1) (fun k=>some #[.int .i64 (k:Int),(V k).getD .nilIface]) (HasV pb tb mb n V):=by
 intro l B Inv Brk hI hBr hH _ hY M W hBW hM h0
 have hn':1≤n∧n≤64:=by have:=mayB_cases hn;omega
 obtain ⟨⟨c1,c2,c3⟩,-⟩:=hH 0 M W (Nat.zero_le _) h0
 have cw:=iWidth_any (n:Int) W
 rw [if_pos hn] at cw
 obtain ⟨nn,-⟩:∃ nn:Nat,True:=⟨1,trivial⟩
 refine (callsIn_wide (n:=nn)).1 ?_
 refine callsIn_of_wp Tryz.func128 rfl trivial ?_ rfl
 simp only [Tryz.ntmps128,List.size_toArray,List.length_cons,List.length_nil,Nat.reduceAdd,Nat.reduceSub,Array.replicate_succ,Array.replicate_zero,List.push_toArray,List.append_toArray,List.nil_append,List.cons_append]
 gi_wp2_with (refine ⟨trivial,(fun h=>by cases h),?_⟩;gi_at_call 75;refine (callsIn_wide.2 cw).mono ?_;clear cw;rintro e w1 ⟨rfl,rfl⟩)
 clear c1 c2 c3
 gi_loopw [9] (fun s wr=>∃ k:Nat,k≤2*n - 1∧s = .int .i64 (k:Int)∧W.heap.size≤wr.heap.size∧∃ M,Inv k M wr) (fun s _=>2*n - 1 - (intOf s).toNat)
 case atStart=>exact ⟨0,Nat.zero_le _,rfl,Nat.le_refl _,M,h0⟩
 case round =>
  clear h0 hM
  obtain ⟨k,hk,rfl,hsz,M,hI0⟩:=hrel
  by_cases hlt:k<2*n - 1
  · obtain ⟨⟨c1,c2,c3⟩,hm⟩:=hH k M wr hk hI0
    obtain ⟨f,hmp,hf⟩:=hm hlt
    have hlk:=look_any hmp (k:Int)
    rw [hf] at hlk
    have hlt':(k:Int)<2*(n:Int) - 1:=by omega
    obtain ⟨fn,tmps,assign,body,hy,hR⟩:=hY k M wr _ hlt rfl hI0 (by omega)
    generalize (V k).getD .nilIface=v at *
    clear hY hH hmp
    gi_wp2
    refine ⟨(fun h=>by cases h),(roundIn_deep hR).mono ?_⟩
    rintro e W' ⟨hF,M',hM',⟨rfl,hI'⟩ | ⟨rfl,hB'⟩⟩
    · clear hy hR hI0
      gi_wp2
      go_roundw
      case rel=>exact ⟨k+1,by omega,by go_num,Nat.le_trans hsz hF.size,M',hI'⟩
      case measure=>simp [intOf];omega
    · clear hy hR hI0
      gi_wp2
      refine bodyPost_ret (results_none rfl _ _ _) rfl ?_
      exact ⟨⟨_,rfl⟩,Nat.le_trans hsz hF.size,M',.inr hB'⟩
  · obtain rfl:k=2*n - 1:=by omega
    have hlt':¬((2*n - 1:Nat):Int)<2*(n:Int) - 1:=by omega
    clear hY hH
    gi_wp2
    refine bodyPost_end (results_none rfl _ _ _) rfl ?_
    exact ⟨⟨_,rfl⟩,hsz,M,.inl hI0⟩
end Go.Proofs.YtddkbmnkbfciaaaGreatDoor
namespace Go.Proofs.YtddkbmnkbfciaaaGreatDoor
open Go.RowKit
def l4 (C:Nat→Nat) (k:Nat):List Int:=(List.range k).map fun i=>((nbN C (4*i) 4:Nat):Int)
end Go.Proofs.YtddkbmnkbfciaaaGreatDoor
namespace Go.Proofs.YtddkbmnkbfciaaaGreatDoor
open Go.RowKit
structure Steps (X:List Nat) (fs:List Fd) (gl g:Nat) (al:Nat→Bool) (bd:Nat→Bool) (I Mid:Nat→World→Prop) (J:World→Prop):Prop where
 e0:∀ (k:Nat) (f:Fd),fs[k]? = some f→∀ W,(callFunc f.i0 f.c0).run Tryz.prog W = .ok (.enter f.i0 f.c0) W
 e2:∀ (k:Nat) (f:Fd),fs[k]? = some f→∀ W,(callFunc f.i2 (#[pA g 0] ++ f.c2)).run Tryz.prog W = .ok (.enter f.i2 (#[pA g 0] ++ f.c2)) W
 get:∀ (k:Nat) (f:Fd),fs[k]? = some f→∀ W,I k W→Calls Tryz.prog f.i2 (#[pA g 0] ++ f.c2) W fun e w'=>if bd k=true then e = .panicked noE∧J w' else e = .returned (.tuple #[])∧Mid k w'∧Rest X W w'
 xs:∀ k W,I k W→∀ x,x∈X→x<W.heap.size
 allow:∀ (k:Nat) (f:Fd),fs[k]? = some f→∀ W,Mid k W→Calls Tryz.prog f.i0 f.c0 W fun e w'=>e = .returned (.bool (al k))∧(al k=true→I (k+1) w')∧J w'
 still:∀ k W W',I k W→Below W.heap.size W W'→I k W'
 fr:∀ k W,I k W→FR W gl fs
 j:∀ k W,I k W→J W
open Classical in
def GetA (R:Prop) (D:World→List Value→Prop) (zero:List Value) (e:Ending) (w':World):Prop:=if R then ∃ cs,e = .returned (.tuple #[.agg cs.toArray,.int .i64 0])∧D w' cs else e = .returned (.tuple #[.agg zero.toArray,.int .i64 21])
theorem GetA.form {R:Prop} {D:World→List Value→Prop} {zero:List Value} {e:Ending} {w:World} (h:GetA R D zero e w):∃ cs z,e = .returned (.tuple #[.agg cs,.int .i64 z]):=by
 unfold GetA at h
 split at h
 · obtain ⟨cs,h1,-⟩:=h;exact ⟨cs.toArray,0,h1⟩
 · exact ⟨_,21,h⟩
end Go.Proofs.YtddkbmnkbfciaaaGreatDoor
namespace Go.Proofs.YtddkbmnkbfciaaaGreatDoor
open Go.RowKit
theorem results_ct {P:Program} {fn:Func} {p q:Tmp} {ty:TypeId} (h:fn.results=#[.cell p ty,.tmp q]) (tmps:Array Value) (w:World) (g:Nat) (cs:List Value) (d:TypeDesc) (z:Value)
 (hp:tmps.getD p undef = .pointer (some ⟨g,0,none⟩)) (hq:tmps.getD q undef=z) (hc:w.rangeAt g 0 cs)
 (hu:P.underlying ty=some d) (hd:d.isRow=true) (hi:(P.info? ty).map (·.size)=some cs.length) :
 (results fn tmps).run P w = .ok (.tuple #[.agg cs.toArray,z]) w:=by
 have hp':tmps[p]?.getD undef = .pointer (some ⟨g,0,none⟩):=by simpa using hp
 have hq':tmps[q]?.getD undef=z:=by simpa using hq
 simp [results,h,hp',hq',asAddr,run_loadVar_mid w g 0 ty cs d hc hu hd hi]
theorem GetA.row {R:Prop} {D:World→List Value→Prop} {zero:List Value} {e:Ending} {w:World} {K:Nat} (h:GetA R D zero e w) (hD:∀ W cs,D W cs→cs.length=K∧cs.toArray.all (·.oneCell')=true) (hz:zero.length=K∧zero.toArray.all (·.oneCell')=true):∃ (l:List Value) (z:Int),e = .returned (.tuple #[.agg l.toArray,.int .i64 z])∧l.length=K∧l.toArray.all (·.oneCell')=true:=by
 unfold GetA at h
 split at h
 · obtain ⟨cs,h1,h2⟩:=h;exact ⟨cs,0,h1,hD _ _ h2⟩
 · exact ⟨zero,21,h,hz⟩
theorem GetA.map {R:Prop} {D D':World→List Value→Prop} {zero:List Value} {e:Ending} {w w':World} (h:GetA R D zero e w) (hm:∀ cs,D w cs→D' w' cs):GetA R D' zero e w':=by
 unfold GetA at *
 split
 · rename_i hR;rw [if_pos hR] at h;obtain ⟨cs,h1,h2⟩:=h;exact ⟨cs,h1,hm cs h2⟩
 · rename_i hR;rw [if_neg hR] at h;exact h
end Go.Proofs.YtddkbmnkbfciaaaGreatDoor
