/- What the proof stands on: I2Mm, I2LM. -/
import Derived.Test.YtodhmfddfjfhjaaDoorI2AtM
namespace Go.Proofs.YtodhmfddfjfhjaaDoor
open Go.RowKit
theorem norm_place2 (x:Int) (m:Nat) (hm:0<m) (hm2:m<1000):∃ y:Nat,y<m∧Int.tmod (wrap64 (Int.tmod x (m:Int)+(m:Int))) (m:Int)=(y:Int)∧Int.tmod (wrap64 (wrap64 (Int.tmod x (m:Int)+((m:Int)+1)) - 1)) (m:Int)=(y:Int):=by
 have h1:=Int.tmod_lt_of_pos x (show (0:Int)<(m:Int) by omega)
 have h2:=Int.lt_tmod_of_pos x (show (0:Int)<(m:Int) by omega)
 have e1:wrap64 (Int.tmod x (m:Int)+(m:Int))=Int.tmod x (m:Int)+(m:Int):=by unfold wrap64;omega
 have e2:wrap64 (wrap64 (Int.tmod x (m:Int)+((m:Int)+1)) - 1)=Int.tmod x (m:Int)+(m:Int):=by unfold wrap64;omega
 rw [e1,e2]
 have h3:=Int.tmod_nonneg (m:Int) (show 0≤Int.tmod x (m:Int)+(m:Int) by omega)
 have h4:=Int.tmod_lt_of_pos (Int.tmod x (m:Int)+(m:Int)) (show (0:Int)<(m:Int) by omega)
 exact ⟨(Int.tmod (Int.tmod x (m:Int)+(m:Int)) (m:Int)).toNat,by omega,by omega,by omega⟩
theorem leaves_val (k:Int):∃ s:Nat,(s=1∨s=2∨s=4∨s=8∨s=16∨s=32∨s=64)∧wrap64 (2 ^ min (IntKind.u64.wrap ((wrap64 (k.tmod 7+7)).tmod 7)).toNat 64)=(s:Int):=by
 have h1:=Int.tmod_lt_of_pos k (show (0:Int)<7 by decide)
 have h2:=Int.lt_tmod_of_pos k (show (0:Int)<7 by decide)
 have e1:wrap64 (k.tmod 7+7)=k.tmod 7+7:=by unfold wrap64;omega
 rw [e1]
 have h3:=Int.tmod_nonneg 7 (show 0≤Int.tmod k 7+7 by omega)
 have h4:=Int.tmod_lt_of_pos (Int.tmod k 7+7) (show (0:Int)<7 by decide)
 obtain ⟨t,ht⟩:∃ t:Nat,Int.tmod (Int.tmod k 7+7) 7=(t:Int):=⟨(Int.tmod (Int.tmod k 7+7) 7).toNat,by omega⟩
 rw [ht]
 rw [ht] at h4
 rcases (show t=0∨t=1∨t=2∨t=3∨t=4∨t=5∨t=6 by omega) with rfl | rfl | rfl | rfl | rfl | rfl | rfl
 · exact ⟨1,by omega,by kernel_rfl⟩
 · exact ⟨2,by omega,by kernel_rfl⟩
 · exact ⟨4,by omega,by kernel_rfl⟩
 · exact ⟨8,by omega,by kernel_rfl⟩
 · exact ⟨16,by omega,by kernel_rfl⟩
 · exact ⟨32,by omega,by kernel_rfl⟩
 · exact ⟨64,by omega,by kernel_rfl⟩
def trees:List Nat:=[1,2,4,8,16,32,64]
theorem may_tree {s:Nat} (h:s=1∨s=2∨s=4∨s=8∨s=16∨s=32∨s=64):s∈trees∧mayB (s:Int)=true∧widN (s:Int)=2*s - 1:=by
 rcases h with rfl | rfl | rfl | rfl | rfl | rfl | rfl <;> exact ⟨by decide,rfl,rfl⟩
theorem root_none {s:Nat} (h:s∈trees):parN ((s:Int) - 1) (s:Int)=none∧levA ((s:Int) - 1)=(levN (s - 1):Int):=by
 have hh:trees.all (fun s=>(parN ((s:Int) - 1) (s:Int)).isNone && levA ((s:Int) - 1) == (levN (s - 1):Int))=true:=by kernel_rfl
 have:=List.all_eq_true.1 hh s h
 simpa using this
theorem path_tab {s a:Nat} (h:s∈trees) (ha:a<s):(pathL (a:Int) (s:Int)).length=levN (s - 1)∧(copathL (a:Int) (s:Int)).length=levN (s - 1)∧(∀ z,z∈pathL (a:Int) (s:Int)→belB z (a:Int)=true)∧(∀ z,z∈copathL (a:Int) (s:Int)→belB z (a:Int)=false):=by
 have hh:trees.all (fun s=>(List.range s).all fun a=>(pathL (a:Int) (s:Int)).length == levN (s - 1) && (copathL (a:Int) (s:Int)).length == levN (s - 1) && (pathL (a:Int) (s:Int)).all (fun z=>belB z (a:Int)) && (copathL (a:Int) (s:Int)).all (fun z=>!belB z (a:Int)))=true:=by kernel_rfl
 have h2:=List.all_eq_true.1 (List.all_eq_true.1 hh s h) a (List.mem_range.2 ha)
 simp only [Bool.and_eq_true,beq_iff_eq,List.all_eq_true,Bool.not_eq_true'] at h2
 exact ⟨h2.1.1.1,h2.1.1.2,h2.1.2,h2.2⟩
theorem comF_mem (l b:Int):∀ f x,comF l b f x=x∨((comF l b f x:Nat):Int)∈upF l f x
 | 0,_ => .inl rfl
 | f+1,x=>by
  show (if belB (x:Int) b then x else match parN (x:Int) l with | some p=>comF l b f p | none=>x)=x∨(((if belB (x:Int) b then x else match parN (x:Int) l with | some p=>comF l b f p | none=>x):Nat):Int)∈(match parN (x:Int) l with | some p=>(p:Int) :: upF l f p | none=>[])
  by_cases h:belB (x:Int) b=true
  · rw [if_pos h];exact .inl rfl
  · rw [if_neg h]
    cases parN (x:Int) l with
    | none=>exact .inl rfl
    | some p =>
     right
     rcases comF_mem l b f p with e | e
     · show ((comF l b f p:Nat):Int)∈(p:Int) :: upF l f p
       rw [e]
       exact List.mem_cons_self
     · exact List.mem_cons_of_mem _ e
theorem com_bel {l b:Int} (hb:theB b l=true):∀ f m,m<widN l→7≤f+levN m→belB ((comF l b f m:Nat):Int) b=true
 | 0,m,hm,hf=>by
  have:=lev_le6 (y:=m) (by have:=(widN_le l).1;omega)
  omega
 | f+1,m,hm,hf=>by
  show belB (((if belB (m:Int) b then m else match parN (m:Int) l with | some p=>comF l b f p | none=>m):Nat):Int) b=true
  by_cases h:belB (m:Int) b=true
  · rw [if_pos h];exact h
  · rw [if_neg h]
    cases hp:parN (m:Int) l with
    | none =>
     have hr:=root_only (theB_cases hb).1 hm hp
     rw [hr,root_all hb] at h
     exact absurd rfl h
    | some p =>
     exact com_bel hb f p (parN_some hp).1 (by have:=(par_lev hp).2;omega)
theorem meets {s a b:Nat} (h:s∈trees) (hm:mayB (s:Int)=true) (hw:widN (s:Int)=2*s - 1) (ha:a<s) (hb:b<s):∃ c:Nat,commonA (a:Int) (b:Int) (s:Int)=((c:Int),true)∧belB (c:Int) (a:Int)=true∧belB (c:Int) (b:Int)=true∧((a=b∧c=2*a)∨(c:Int)∈pathL (a:Int) (s:Int)):=by
 have tA:theB (a:Int) (s:Int)=true:=by unfold theB;rw [hm];simp;omega
 have tB:theB (b:Int) (s:Int)=true:=by unfold theB;rw [hm];simp;omega
 have h64:=(theB_cases tA).2.2.2
 have e2:(2*(a:Int)).toNat=2*a:=by omega
 refine ⟨comF (s:Int) (b:Int) 7 (2*a),by unfold commonA;rw [tA,tB,e2];rfl,?_,com_bel tB 7 (2*a) (by omega) (by omega),?_⟩
 · have hp:pathL (a:Int) (s:Int)=upF (s:Int) 7 (2*a):=by unfold pathL;rw [if_pos tA,e2]
   rcases comF_mem (s:Int) (b:Int) 7 (2*a) with e | e
   · rw [e]
     unfold belB
     rw [if_neg (by omega),Int.toNat_natCast,belF_even _ _ _ (by omega)]
     simp
   · rw [←hp] at e
     exact (path_tab h ha).2.2.1 _ e
 · have hp:pathL (a:Int) (s:Int)=upF (s:Int) 7 (2*a):=by unfold pathL;rw [if_pos tA,e2]
   rcases comF_mem (s:Int) (b:Int) 7 (2*a) with e | e
   · left
     have hbel:=com_bel tB 7 (2*a) (by omega) (by omega)
     rw [e] at hbel
     unfold belB at hbel
     rw [if_neg (by omega),Int.toNat_natCast,belF_even _ _ _ (by omega)] at hbel
     have:=of_decide_eq_true hbel
     exact ⟨by omega,e⟩
   · right
     rw [hp]
     exact e
end Go.Proofs.YtodhmfddfjfhjaaDoor
namespace Go.Proofs.YtodhmfddfjfhjaaDoor
open Go.RowKit
set_option maxRecDepth 20000 in
set_option maxHeartbeats 16000000 in
theorem indexMeets_any (x a b n:Int) (w:World) (hT:DbT w):Calls Tryd.prog 6 #[.int .i64 x,.int .i64 a,.int .i64 b,.int .i64 n] w fun e w'=>e = .returned (.bool true)∧Below w.heap.size w w':=by
 obtain ⟨s,hs,hL⟩:=leaves_val n
 obtain ⟨hmem,hmay,hwid⟩:=may_tree hs
 have hs64:1≤s∧s≤64:=by omega
 obtain ⟨y,hy,-,hY⟩:=norm_place2 x (2*s - 1) (by omega) (by omega)
 obtain ⟨p,hp,hA,-⟩:=norm_place2 a s (by omega) (by omega)
 obtain ⟨r,hr,hB,-⟩:=norm_place2 b s (by omega) (by omega)
 obtain ⟨c,hc,hca,hcb,hon⟩:=meets hmem hmay hwid hp hr
 obtain ⟨q1,q2,q3,q4⟩:=path_tab hmem hp
 obtain ⟨n1,n2⟩:=root_none hmem
 have cPar:=iParent_any (y:Int) (s:Int)
 have cSib:=iSibling_any (y:Int) (s:Int)
 have cRoot:=jRoot_any (s:Int)
 rw [if_pos hmay] at cRoot
 have cPath:=iPath_any (p:Int) (s:Int)
 have cCo:=iCopath_any (p:Int) (s:Int)
 have cCom:=iCommon_any (p:Int) (r:Int) (s:Int)
 rw [hc] at cCom
 have cLev:=jLevel_any ((s:Int) - 1) (by omega)
 rw [n2] at cLev
 have cBa:=fun z=>iBelow_any z (p:Int)
 have cBb:=iBelow_any (c:Int) (r:Int)
 rw [hcb] at cBb
 have hpl:=(path_len (p:Int) (s:Int)).1
 have HYX:=Hid.mk' (show parN (y:Int) (s:Int)=none→(y:Int)=(s:Int) - 1 from fun h=>root_only hmay (by rw [hwid];exact hy) h)
 have HRN:=Hid.mk' n1
 -- letters
 obtain ⟨L,hLe⟩:∃ L:Int,L=(s:Int):=⟨_,rfl⟩
 obtain ⟨M,hM⟩:∃ M:Int,M=((2*s - 1:Nat):Int):=⟨_,rfl⟩
 obtain ⟨D,hD⟩:∃ D:Int,D=M+1:=⟨_,rfl⟩
 have d1:wrap64 (2*L)=D:=by unfold wrap64;omega
 have d2:wrap64 (D - 1)=M:=by unfold wrap64;omega
 have hM0:¬M=0:=by omega
 have hL0:¬L=0:=by omega
 obtain ⟨R,hR⟩:∃ R:Int,R=(s:Int) - 1:=⟨_,rfl⟩
 obtain ⟨Y,hYl⟩:∃ Y:Int,Y=(y:Int):=⟨_,rfl⟩
 obtain ⟨P,hPl⟩:∃ P:Int,P=(p:Int):=⟨_,rfl⟩
 obtain ⟨Q,hQl⟩:∃ Q:Int,Q=(r:Int):=⟨_,rfl⟩
 obtain ⟨C,hCl⟩:∃ C:Int,C=(c:Int):=⟨_,rfl⟩
 obtain ⟨V,hVl⟩:∃ V:Nat,V=levN (s - 1):=⟨_,rfl⟩
 have hV6:V≤6:=by rw [hVl];exact lev_le6 (by omega)
 have hon2:(P=Q∧C=2*P)∨C∈pathL (p:Int) (s:Int):=by
  rcases hon with ⟨e1,e2⟩ | e
  · left;omega
  · right;rw [hCl];exact e
 have dP:wrap64 (2*P)=2*P:=by unfold wrap64;omega
 rw [←hR] at cRoot cLev HYX HRN
 rw [←hM,←hD] at hY
 rw [←hLe] at hL hA hB cPar cSib cRoot cPath cCo cCom HYX HRN
 rw [←hYl] at hY cPar cSib HYX
 rw [←hPl] at hA cPath cCo cCom cBa hca q3 q4
 rw [←hQl] at hB cCom cBb
 rw [←hCl] at cCom cBb hca
 rw [←hVl] at cLev q1 q2
 have cCa:=cBa C
 rw [hca] at cCa
 rw [←hPl] at q1 q2 hon2
 rw [←hLe] at q1 q2 q3 q4 hon2
 obtain ⟨PL,hPL⟩:∃ l,l=pathL P L:=⟨_,rfl⟩
 obtain ⟨CL,hCL⟩:∃ l,l=copathL P L:=⟨_,rfl⟩
 rw [←hPL] at cPath q1 q3 hon2
 rw [←hCL] at cCo q2 q4
 have HQ1:=Hid.mk' q1
 have HQ2:=Hid.mk' q2
 have HQ3:=Hid.mk' q3
 have HQ4:=Hid.mk' q4
 have HON:=Hid.mk' hon2
 dsimp only at cCom
 have B:Below w.heap.size w w:=Below.refl _ _
 unfold parA at cPar
 unfold sibA at cSib
 have bnd:-1000≤Y∧Y≤1000∧-1000≤P∧P≤1000:=by omega
 clear hR hYl hPl hQl hCl hVl hLe hM hD hPL hCL q1 q2 q3 q4 hon2 hon hc hca hcb n1 n2 hpl hs hmem hmay hwid hs64 hy hp hr
 by_cases hPQ:P=Q
 · subst hPQ
   cases hpar:parN Y L with
   | none =>
    rw [hpar] at cPar
    have hYR:Y=R:=HYX.out hpar
    replace cPar:∀ W,DbT W→Calls Tryd.prog 12 #[.int .i64 Y,.int .i64 L] W fun e w'=>e = .returned (.tuple #[.int .i64 (-1),.bool false])∧Below W.heap.size W w':=cPar
    clear HYX HRN hpar cSib
    subst hYR
    go_enter Tryd.func6,Tryd.ntmps6
    go_upto_region 2 with (fail)
    rw [hL]
    clear hL
    go_wp2_with (first
     | (go_at_call 12;refine (cPar _ (hT.keep B)).mono ?_;clear cPar;rintro e w1 ⟨rfl,b1⟩;(replace B:=below_next B b1);clear b1)
     | (go_at_call 18;refine (cRoot _ (hT.keep B)).mono ?_;rintro e w2 ⟨rfl,b2⟩;(try replace ZZ1:=ZZ1.keep b2);(try replace ZZ2:=ZZ2.keep b2);(replace B:=below_next B b2);clear b2)
     | (go_at_call 22;refine (knows12 _ (hT.keep B)).mono ?_;rintro e w3 ⟨rfl,b3⟩;(replace B:=below_next B b3);clear b3)
     | (go_at_call 26;refine (cPath _ (hT.keep B)).mono ?_;clear cPath;rintro e w4 ⟨v1,rfl,zz1,b4⟩;(replace B:=below_next B b4);clear b4;(have ZZ1:=zz1);(obtain ⟨x1,d1',e1,-⟩:=zz1);rw [HQ1.out] at e1;subst e1)
     | (go_at_call 28;refine (cCo _ (hT.keep B)).mono ?_;clear cCo;rintro e w5 ⟨v2,rfl,zz2,b5⟩;(replace ZZ1:=ZZ1.keep b5);(replace B:=below_next B b5);clear b5;(have ZZ2:=zz2);(obtain ⟨x2,d2',e2,-⟩:=zz2);rw [HQ2.out] at e2;subst e2)
     | (go_at_call 23;refine (cCom _ (hT.keep B)).mono ?_;clear cCom;rintro e w6 ⟨rfl,b6⟩;(replace ZZ1:=ZZ1.keep b6);(replace ZZ2:=ZZ2.keep b6);(replace B:=below_next B b6);clear b6)
     | (go_at_call 20;refine (cLev _ (hT.keep B)).mono ?_;clear cLev;rintro e w6 ⟨rfl,b6⟩;(replace ZZ1:=ZZ1.keep b6);(replace ZZ2:=ZZ2.keep b6);(replace B:=below_next B b6);clear b6)
     | (go_at_call 30;with_reducible refine (cCa _ (hT.keep B)).mono ?_;clear cCa;rintro e w6 ⟨rfl,b6⟩;(replace ZZ1:=ZZ1.keep b6);(replace ZZ2:=ZZ2.keep b6);(replace B:=below_next B b6);clear b6)
     | (go_at_call 30;with_reducible refine (cBb _ (hT.keep B)).mono ?_;clear cBb;rintro e w6 ⟨rfl,b6⟩;(replace ZZ1:=ZZ1.keep b6);(replace ZZ2:=ZZ2.keep b6);(replace B:=below_next B b6);clear b6))
    clear hA hB hY d1 d2
    obtain ⟨w5',hw5⟩:∃ W:World,W=w6:=⟨_,rfl⟩
    subst hw5
    obtain ⟨y1,c1,e1,F1'⟩:=ZZ1
    obtain ⟨y2,c2,e2,F2'⟩:=ZZ2
    rw [HQ1.out] at e1
    rw [HQ2.out] at e2
    cases e1
    cases e2
    have F1:=Hid.mk' F1'
    have F2:=Hid.mk' F2'
    clear F1' F2'
    go_loopw [23,24] (fun on i wr=>∃ (j:Nat) (o:Bool),j≤V∧i = .int .i64 (j:Int)∧on = .bool o∧Hid (o=true∨C∈PL.drop j)∧Below w5'.heap.size w5' wr) (fun _ i _=>V - (intOf i).toNat)
    case atStart=>exact ⟨0,_,Nat.zero_le _,rfl,rfl,by
     rcases HON.out with ⟨e1,e2⟩ | e
     · first
       | (left;exact beq_iff_eq.2 e2)
       | (exfalso;omega)
     · right;exact e,Below.refl _ _⟩
    case round =>
     obtain ⟨j,o,hj,rfl,rfl,HO,hbw⟩:=hrel
     by_cases hlt:j<V
     · have e1:PL[j]? = some PL[j]!:=by
        have hql:j<PL.length:=by rw [HQ1.out];exact hlt
        rw [List.getElem?_eq_getElem hql]
        simp [hql]
       have e2:CL[j]? = some CL[j]!:=by
        have hql:j<CL.length:=by rw [HQ2.out];exact hlt
        rw [List.getElem?_eq_getElem hql]
        simp [hql]
       obtain ⟨g1,o1,rfl,l1,r1⟩:=F1.out j _ e1
       obtain ⟨g2,o2,rfl,l2,r2⟩:=F2.out j _ e2
       have m1:=HQ3.out _ (List.mem_of_getElem? e1)
       have m2:=HQ4.out _ (List.mem_of_getElem? e2)
       have hdrop:PL.drop j=PL[j]! :: PL.drop (j+1):=by
        have hql:j<PL.length:=by rw [HQ1.out];exact hlt
        rw [List.drop_eq_getElem_cons hql]
        simp [hql]
       rw [hdrop] at HO
       obtain ⟨z1,hz1⟩:∃ z,z=PL[j]!:=⟨_,rfl⟩
       obtain ⟨z2,hz2⟩:∃ z,z=CL[j]!:=⟨_,rfl⟩
       rw [←hz1] at r1 m1 HO
       rw [←hz2] at r2 m2
       have k1:=cBa z1
       have k2:=cBa z2
       rw [m1] at k1
       rw [m2] at k2
       have s1:wr.cell? ⟨g1,o1+j,none⟩=some (.int .i64 z1):=(hbw.cell (p:=⟨g1,o1+j,none⟩) l1).trans r1
       have s2:∀ u,Below w5'.heap.size w5' u→u.cell? ⟨g2,o2+j,none⟩=some (.int .i64 z2):=fun u hu=>(hu.cell (p:=⟨g2,o2+j,none⟩) l2).trans r2
       have t0:(j:Int)<(V:Int):=by omega
       have t1:(0:Int)≤(j:Int)∧(j:Int)<(V:Int):=by omega
       have t9:IntKind.i64.wrap ((j:Int)+1)=(j:Int)+1:=by simp only [IntKind.wrap_i64];omega
       clear e1 e2 hz1 hz2 hdrop m1 m2 r1 r2
       cases o with
       | true =>
        go_wp2_with (first
         | (go_at_call 30;with_reducible refine (k1 _ ((hT.keep B).keep hbw)).mono ?_;clear k1;rintro e w7 ⟨rfl,b7⟩;(replace hbw:=below_next hbw b7);(have s3:=s2 w7 hbw);clear b7)
         | (go_at_call 30;with_reducible refine (k2 _ ((hT.keep B).keep hbw)).mono ?_;clear k2;rintro e w8 ⟨rfl,b8⟩;(replace hbw:=below_next hbw b8);clear b8))
        go_roundw
        case rel=>exact ⟨j+1,true,hlt,by go_num,rfl,.inl rfl,hbw⟩
        case measure=>simp [intOf];omega
       | false =>
        by_cases hz:z1=C
        · subst hz
          go_wp2_with (first
           | (go_at_call 30;with_reducible refine (k1 _ ((hT.keep B).keep hbw)).mono ?_;clear k1;rintro e w7 ⟨rfl,b7⟩;(replace hbw:=below_next hbw b7);(have s3:=s2 w7 hbw);clear b7)
           | (go_at_call 30;with_reducible refine (k2 _ ((hT.keep B).keep hbw)).mono ?_;clear k2;rintro e w8 ⟨rfl,b8⟩;(replace hbw:=below_next hbw b8);clear b8))
          go_roundw
          case rel=>exact ⟨j+1,_,hlt,by go_num,rfl,.inl (by simp),hbw⟩
          case measure=>simp [intOf];omega
        · have hz':(z1 == C)=false:=by simp [hz]
          have HO2:Hid (C∈PL.drop (j+1)):=by
           rcases HO.out with e | e
           · cases e
           · rcases List.mem_cons.1 e with e | e
             · exact absurd e.symm hz
             · exact e
          go_wp2_with (first
           | (go_at_call 30;with_reducible refine (k1 _ ((hT.keep B).keep hbw)).mono ?_;clear k1;rintro e w7 ⟨rfl,b7⟩;(replace hbw:=below_next hbw b7);(have s3:=s2 w7 hbw);clear b7)
           | (go_at_call 30;with_reducible refine (k2 _ ((hT.keep B).keep hbw)).mono ?_;clear k2;rintro e w8 ⟨rfl,b8⟩;(replace hbw:=below_next hbw b8);clear b8))
          go_roundw
          case rel=>exact ⟨j+1,_,hlt,by go_num,rfl,.inr HO2.out,hbw⟩
          case measure=>simp [intOf];omega
     · obtain rfl:j=V:=by omega
       have t0:¬(j:Int)<(j:Int):=by omega
       have ho:o=true:=by
        rcases HO.out with e | e
        · exact e
        · rw [List.drop_of_length_le (by rw [HQ1.out];exact Nat.le_refl _)] at e
          cases e
       subst ho
       go_wp2
       go_ret
       exact ⟨rfl,below_next B hbw⟩
   | some z =>
    rw [hpar] at cPar cSib
    obtain ⟨-,h1,h2,h3⟩:=parN_some hpar
    obtain ⟨g1,g2,g3⟩:=lr_small z h1 h2
    have hYR:¬Y=R:=fun e=>by rw [e,HRN.out] at hpar;cases hpar
    have hYR':(Y == R)=false:=by simp [hYR]
    obtain ⟨el,er⟩:=lr_at (y:=z) h1
    have cl:=iLeft_any (z:Int)
    have cr:=iRight_any (z:Int)
    rw [el,if_pos h2] at cl
    rw [er,if_pos h2] at cr
    dsimp only at cl cr
    obtain ⟨lf,hlf⟩:∃ a:Int,a=(lftN z:Int):=⟨_,rfl⟩
    obtain ⟨rt,hrt⟩:∃ a:Int,a=(rgtN z:Int):=⟨_,rfl⟩
    replace cPar:∀ W,DbT W→Calls Tryd.prog 12 #[.int .i64 Y,.int .i64 L] W fun e w'=>e = .returned (.tuple #[.int .i64 (z:Int),.bool true])∧Below W.heap.size W w':=cPar
    replace cSib:∀ W,DbT W→Calls Tryd.prog 14 #[.int .i64 Y,.int .i64 L] W fun e w'=>e = .returned (.tuple #[.int .i64 ((lftN z:Int)+(rgtN z:Int) - Y),.bool true])∧Below W.heap.size W w':=cSib
    rw [←hlf] at cl cSib h3
    rw [←hrt] at cr cSib h3
    obtain ⟨sb,hsb⟩:∃ a:Int,a=lf+rt - Y:=⟨_,rfl⟩
    rw [←hsb] at cSib
    have u1:wrap64 (lf+rt)=lf+rt:=by unfold wrap64;omega
    have u2:wrap64 (Y+sb)=lf+rt:=by unfold wrap64;omega
    have u3:(lf == rt)=false:=by simp;omega
    have u4:¬lf=rt:=by omega
    obtain ⟨zi,hzi⟩:∃ a:Int,a=(z:Int):=⟨_,rfl⟩
    rw [←hzi] at cPar cl cr
    clear HYX HRN hpar el er h1 h2 g1 g2 g3 hlf hrt hsb hzi
    rcases h3 with h3 | h3
    · subst h3
      go_enter Tryd.func6,Tryd.ntmps6
      go_upto_region 2 with (fail)
      rw [hL]
      clear hL
      go_wp2_with (first
       | (go_at_call 12;refine (cPar _ (hT.keep B)).mono ?_;clear cPar;rintro e w1 ⟨rfl,b1⟩;(replace B:=below_next B b1);clear b1)
       | (go_at_call 18;refine (cRoot _ (hT.keep B)).mono ?_;rintro e w2 ⟨rfl,b2⟩;(try replace ZZ1:=ZZ1.keep b2);(try replace ZZ2:=ZZ2.keep b2);(replace B:=below_next B b2);clear b2)
       | (go_at_call 22;refine (knows12 _ (hT.keep B)).mono ?_;rintro e w3 ⟨rfl,b3⟩;(replace B:=below_next B b3);clear b3)
       | (go_at_call 8;refine (cl _ (hT.keep B)).mono ?_;clear cl;rintro e w3 ⟨rfl,b3⟩;(replace B:=below_next B b3);clear b3)
       | (go_at_call 10;refine (cr _ (hT.keep B)).mono ?_;clear cr;rintro e w3 ⟨rfl,b3⟩;(replace B:=below_next B b3);clear b3)
       | (go_at_call 14;refine (cSib _ (hT.keep B)).mono ?_;clear cSib;rintro e w3 ⟨rfl,b3⟩;(replace B:=below_next B b3);clear b3)
       | (go_at_call 26;refine (cPath _ (hT.keep B)).mono ?_;clear cPath;rintro e w4 ⟨v1,rfl,zz1,b4⟩;(replace B:=below_next B b4);clear b4;(have ZZ1:=zz1);(obtain ⟨x1,d1',e1,-⟩:=zz1);rw [HQ1.out] at e1;subst e1)
       | (go_at_call 28;refine (cCo _ (hT.keep B)).mono ?_;clear cCo;rintro e w5 ⟨v2,rfl,zz2,b5⟩;(replace ZZ1:=ZZ1.keep b5);(replace B:=below_next B b5);clear b5;(have ZZ2:=zz2);(obtain ⟨x2,d2',e2,-⟩:=zz2);rw [HQ2.out] at e2;subst e2)
       | (go_at_call 23;refine (cCom _ (hT.keep B)).mono ?_;clear cCom;rintro e w6 ⟨rfl,b6⟩;(replace ZZ1:=ZZ1.keep b6);(replace ZZ2:=ZZ2.keep b6);(replace B:=below_next B b6);clear b6)
       | (go_at_call 20;refine (cLev _ (hT.keep B)).mono ?_;clear cLev;rintro e w6 ⟨rfl,b6⟩;(replace ZZ1:=ZZ1.keep b6);(replace ZZ2:=ZZ2.keep b6);(replace B:=below_next B b6);clear b6)
       | (go_at_call 30;with_reducible refine (cCa _ (hT.keep B)).mono ?_;clear cCa;rintro e w6 ⟨rfl,b6⟩;(replace ZZ1:=ZZ1.keep b6);(replace ZZ2:=ZZ2.keep b6);(replace B:=below_next B b6);clear b6)
       | (go_at_call 30;with_reducible refine (cBb _ (hT.keep B)).mono ?_;clear cBb;rintro e w6 ⟨rfl,b6⟩;(replace ZZ1:=ZZ1.keep b6);(replace ZZ2:=ZZ2.keep b6);(replace B:=below_next B b6);clear b6))
      clear hA hB hY d1 d2
      obtain ⟨w5',hw5⟩:∃ W:World,W=w6:=⟨_,rfl⟩
      subst hw5
      obtain ⟨y1,c1,e1,F1'⟩:=ZZ1
      obtain ⟨y2,c2,e2,F2'⟩:=ZZ2
      rw [HQ1.out] at e1
      rw [HQ2.out] at e2
      cases e1
      cases e2
      have F1:=Hid.mk' F1'
      have F2:=Hid.mk' F2'
      clear F1' F2'
      go_loopw [23,24] (fun on i wr=>∃ (j:Nat) (o:Bool),j≤V∧i = .int .i64 (j:Int)∧on = .bool o∧Hid (o=true∨C∈PL.drop j)∧Below w5'.heap.size w5' wr) (fun _ i _=>V - (intOf i).toNat)
      case atStart=>exact ⟨0,_,Nat.zero_le _,rfl,rfl,by
       rcases HON.out with ⟨e1,e2⟩ | e
       · first
         | (left;exact beq_iff_eq.2 e2)
         | (exfalso;omega)
       · right;exact e,Below.refl _ _⟩
      case round =>
       obtain ⟨j,o,hj,rfl,rfl,HO,hbw⟩:=hrel
       by_cases hlt:j<V
       · have e1:PL[j]? = some PL[j]!:=by
          have hql:j<PL.length:=by rw [HQ1.out];exact hlt
          rw [List.getElem?_eq_getElem hql]
          simp [hql]
         have e2:CL[j]? = some CL[j]!:=by
          have hql:j<CL.length:=by rw [HQ2.out];exact hlt
          rw [List.getElem?_eq_getElem hql]
          simp [hql]
         obtain ⟨g1,o1,rfl,l1,r1⟩:=F1.out j _ e1
         obtain ⟨g2,o2,rfl,l2,r2⟩:=F2.out j _ e2
         have m1:=HQ3.out _ (List.mem_of_getElem? e1)
         have m2:=HQ4.out _ (List.mem_of_getElem? e2)
         have hdrop:PL.drop j=PL[j]! :: PL.drop (j+1):=by
          have hql:j<PL.length:=by rw [HQ1.out];exact hlt
          rw [List.drop_eq_getElem_cons hql]
          simp [hql]
         rw [hdrop] at HO
         obtain ⟨z1,hz1⟩:∃ z,z=PL[j]!:=⟨_,rfl⟩
         obtain ⟨z2,hz2⟩:∃ z,z=CL[j]!:=⟨_,rfl⟩
         rw [←hz1] at r1 m1 HO
         rw [←hz2] at r2 m2
         have k1:=cBa z1
         have k2:=cBa z2
         rw [m1] at k1
         rw [m2] at k2
         have s1:wr.cell? ⟨g1,o1+j,none⟩=some (.int .i64 z1):=(hbw.cell (p:=⟨g1,o1+j,none⟩) l1).trans r1
         have s2:∀ u,Below w5'.heap.size w5' u→u.cell? ⟨g2,o2+j,none⟩=some (.int .i64 z2):=fun u hu=>(hu.cell (p:=⟨g2,o2+j,none⟩) l2).trans r2
         have t0:(j:Int)<(V:Int):=by omega
         have t1:(0:Int)≤(j:Int)∧(j:Int)<(V:Int):=by omega
         have t9:IntKind.i64.wrap ((j:Int)+1)=(j:Int)+1:=by simp only [IntKind.wrap_i64];omega
         clear e1 e2 hz1 hz2 hdrop m1 m2 r1 r2
         cases o with
         | true =>
          go_wp2_with (first
           | (go_at_call 30;with_reducible refine (k1 _ ((hT.keep B).keep hbw)).mono ?_;clear k1;rintro e w7 ⟨rfl,b7⟩;(replace hbw:=below_next hbw b7);(have s3:=s2 w7 hbw);clear b7)
           | (go_at_call 30;with_reducible refine (k2 _ ((hT.keep B).keep hbw)).mono ?_;clear k2;rintro e w8 ⟨rfl,b8⟩;(replace hbw:=below_next hbw b8);clear b8))
          go_roundw
          case rel=>exact ⟨j+1,true,hlt,by go_num,rfl,.inl rfl,hbw⟩
          case measure=>simp [intOf];omega
         | false =>
          by_cases hz:z1=C
          · subst hz
            go_wp2_with (first
             | (go_at_call 30;with_reducible refine (k1 _ ((hT.keep B).keep hbw)).mono ?_;clear k1;rintro e w7 ⟨rfl,b7⟩;(replace hbw:=below_next hbw b7);(have s3:=s2 w7 hbw);clear b7)
             | (go_at_call 30;with_reducible refine (k2 _ ((hT.keep B).keep hbw)).mono ?_;clear k2;rintro e w8 ⟨rfl,b8⟩;(replace hbw:=below_next hbw b8);clear b8))
            go_roundw
            case rel=>exact ⟨j+1,_,hlt,by go_num,rfl,.inl (by simp),hbw⟩
            case measure=>simp [intOf];omega
          · have hz':(z1 == C)=false:=by simp [hz]
            have HO2:Hid (C∈PL.drop (j+1)):=by
             rcases HO.out with e | e
             · cases e
             · rcases List.mem_cons.1 e with e | e
               · exact absurd e.symm hz
               · exact e
            go_wp2_with (first
             | (go_at_call 30;with_reducible refine (k1 _ ((hT.keep B).keep hbw)).mono ?_;clear k1;rintro e w7 ⟨rfl,b7⟩;(replace hbw:=below_next hbw b7);(have s3:=s2 w7 hbw);clear b7)
             | (go_at_call 30;with_reducible refine (k2 _ ((hT.keep B).keep hbw)).mono ?_;clear k2;rintro e w8 ⟨rfl,b8⟩;(replace hbw:=below_next hbw b8);clear b8))
            go_roundw
            case rel=>exact ⟨j+1,_,hlt,by go_num,rfl,.inr HO2.out,hbw⟩
            case measure=>simp [intOf];omega
       · obtain rfl:j=V:=by omega
         have t0:¬(j:Int)<(j:Int):=by omega
         have ho:o=true:=by
          rcases HO.out with e | e
          · exact e
          · rw [List.drop_of_length_le (by rw [HQ1.out];exact Nat.le_refl _)] at e
            cases e
         subst ho
         go_wp2
         go_ret
         exact ⟨rfl,below_next B hbw⟩
    · subst h3
      go_enter Tryd.func6,Tryd.ntmps6
      go_upto_region 2 with (fail)
      rw [hL]
      clear hL
      go_wp2_with (first
       | (go_at_call 12;refine (cPar _ (hT.keep B)).mono ?_;clear cPar;rintro e w1 ⟨rfl,b1⟩;(replace B:=below_next B b1);clear b1)
       | (go_at_call 18;refine (cRoot _ (hT.keep B)).mono ?_;rintro e w2 ⟨rfl,b2⟩;(try replace ZZ1:=ZZ1.keep b2);(try replace ZZ2:=ZZ2.keep b2);(replace B:=below_next B b2);clear b2)
       | (go_at_call 22;refine (knows12 _ (hT.keep B)).mono ?_;rintro e w3 ⟨rfl,b3⟩;(replace B:=below_next B b3);clear b3)
       | (go_at_call 8;refine (cl _ (hT.keep B)).mono ?_;clear cl;rintro e w3 ⟨rfl,b3⟩;(replace B:=below_next B b3);clear b3)
       | (go_at_call 10;refine (cr _ (hT.keep B)).mono ?_;clear cr;rintro e w3 ⟨rfl,b3⟩;(replace B:=below_next B b3);clear b3)
       | (go_at_call 14;refine (cSib _ (hT.keep B)).mono ?_;clear cSib;rintro e w3 ⟨rfl,b3⟩;(replace B:=below_next B b3);clear b3)
       | (go_at_call 26;refine (cPath _ (hT.keep B)).mono ?_;clear cPath;rintro e w4 ⟨v1,rfl,zz1,b4⟩;(replace B:=below_next B b4);clear b4;(have ZZ1:=zz1);(obtain ⟨x1,d1',e1,-⟩:=zz1);rw [HQ1.out] at e1;subst e1)
       | (go_at_call 28;refine (cCo _ (hT.keep B)).mono ?_;clear cCo;rintro e w5 ⟨v2,rfl,zz2,b5⟩;(replace ZZ1:=ZZ1.keep b5);(replace B:=below_next B b5);clear b5;(have ZZ2:=zz2);(obtain ⟨x2,d2',e2,-⟩:=zz2);rw [HQ2.out] at e2;subst e2)
       | (go_at_call 23;refine (cCom _ (hT.keep B)).mono ?_;clear cCom;rintro e w6 ⟨rfl,b6⟩;(replace ZZ1:=ZZ1.keep b6);(replace ZZ2:=ZZ2.keep b6);(replace B:=below_next B b6);clear b6)
       | (go_at_call 20;refine (cLev _ (hT.keep B)).mono ?_;clear cLev;rintro e w6 ⟨rfl,b6⟩;(replace ZZ1:=ZZ1.keep b6);(replace ZZ2:=ZZ2.keep b6);(replace B:=below_next B b6);clear b6)
       | (go_at_call 30;with_reducible refine (cCa _ (hT.keep B)).mono ?_;clear cCa;rintro e w6 ⟨rfl,b6⟩;(replace ZZ1:=ZZ1.keep b6);(replace ZZ2:=ZZ2.keep b6);(replace B:=below_next B b6);clear b6)
       | (go_at_call 30;with_reducible refine (cBb _ (hT.keep B)).mono ?_;clear cBb;rintro e w6 ⟨rfl,b6⟩;(replace ZZ1:=ZZ1.keep b6);(replace ZZ2:=ZZ2.keep b6);(replace B:=below_next B b6);clear b6))
      clear hA hB hY d1 d2
      obtain ⟨w5',hw5⟩:∃ W:World,W=w6:=⟨_,rfl⟩
      subst hw5
      obtain ⟨y1,c1,e1,F1'⟩:=ZZ1
      obtain ⟨y2,c2,e2,F2'⟩:=ZZ2
      rw [HQ1.out] at e1
      rw [HQ2.out] at e2
      cases e1
      cases e2
      have F1:=Hid.mk' F1'
      have F2:=Hid.mk' F2'
      clear F1' F2'
      go_loopw [23,24] (fun on i wr=>∃ (j:Nat) (o:Bool),j≤V∧i = .int .i64 (j:Int)∧on = .bool o∧Hid (o=true∨C∈PL.drop j)∧Below w5'.heap.size w5' wr) (fun _ i _=>V - (intOf i).toNat)
      case atStart=>exact ⟨0,_,Nat.zero_le _,rfl,rfl,by
       rcases HON.out with ⟨e1,e2⟩ | e
       · first
         | (left;exact beq_iff_eq.2 e2)
         | (exfalso;omega)
       · right;exact e,Below.refl _ _⟩
      case round =>
       obtain ⟨j,o,hj,rfl,rfl,HO,hbw⟩:=hrel
       by_cases hlt:j<V
       · have e1:PL[j]? = some PL[j]!:=by
          have hql:j<PL.length:=by rw [HQ1.out];exact hlt
          rw [List.getElem?_eq_getElem hql]
          simp [hql]
         have e2:CL[j]? = some CL[j]!:=by
          have hql:j<CL.length:=by rw [HQ2.out];exact hlt
          rw [List.getElem?_eq_getElem hql]
          simp [hql]
         obtain ⟨g1,o1,rfl,l1,r1⟩:=F1.out j _ e1
         obtain ⟨g2,o2,rfl,l2,r2⟩:=F2.out j _ e2
         have m1:=HQ3.out _ (List.mem_of_getElem? e1)
         have m2:=HQ4.out _ (List.mem_of_getElem? e2)
         have hdrop:PL.drop j=PL[j]! :: PL.drop (j+1):=by
          have hql:j<PL.length:=by rw [HQ1.out];exact hlt
          rw [List.drop_eq_getElem_cons hql]
          simp [hql]
         rw [hdrop] at HO
         obtain ⟨z1,hz1⟩:∃ z,z=PL[j]!:=⟨_,rfl⟩
         obtain ⟨z2,hz2⟩:∃ z,z=CL[j]!:=⟨_,rfl⟩
         rw [←hz1] at r1 m1 HO
         rw [←hz2] at r2 m2
         have k1:=cBa z1
         have k2:=cBa z2
         rw [m1] at k1
         rw [m2] at k2
         have s1:wr.cell? ⟨g1,o1+j,none⟩=some (.int .i64 z1):=(hbw.cell (p:=⟨g1,o1+j,none⟩) l1).trans r1
         have s2:∀ u,Below w5'.heap.size w5' u→u.cell? ⟨g2,o2+j,none⟩=some (.int .i64 z2):=fun u hu=>(hu.cell (p:=⟨g2,o2+j,none⟩) l2).trans r2
         have t0:(j:Int)<(V:Int):=by omega
         have t1:(0:Int)≤(j:Int)∧(j:Int)<(V:Int):=by omega
         have t9:IntKind.i64.wrap ((j:Int)+1)=(j:Int)+1:=by simp only [IntKind.wrap_i64];omega
         clear e1 e2 hz1 hz2 hdrop m1 m2 r1 r2
         cases o with
         | true =>
          go_wp2_with (first
           | (go_at_call 30;with_reducible refine (k1 _ ((hT.keep B).keep hbw)).mono ?_;clear k1;rintro e w7 ⟨rfl,b7⟩;(replace hbw:=below_next hbw b7);(have s3:=s2 w7 hbw);clear b7)
           | (go_at_call 30;with_reducible refine (k2 _ ((hT.keep B).keep hbw)).mono ?_;clear k2;rintro e w8 ⟨rfl,b8⟩;(replace hbw:=below_next hbw b8);clear b8))
          go_roundw
          case rel=>exact ⟨j+1,true,hlt,by go_num,rfl,.inl rfl,hbw⟩
          case measure=>simp [intOf];omega
         | false =>
          by_cases hz:z1=C
          · subst hz
            go_wp2_with (first
             | (go_at_call 30;with_reducible refine (k1 _ ((hT.keep B).keep hbw)).mono ?_;clear k1;rintro e w7 ⟨rfl,b7⟩;(replace hbw:=below_next hbw b7);(have s3:=s2 w7 hbw);clear b7)
             | (go_at_call 30;with_reducible refine (k2 _ ((hT.keep B).keep hbw)).mono ?_;clear k2;rintro e w8 ⟨rfl,b8⟩;(replace hbw:=below_next hbw b8);clear b8))
            go_roundw
            case rel=>exact ⟨j+1,_,hlt,by go_num,rfl,.inl (by simp),hbw⟩
            case measure=>simp [intOf];omega
          · have hz':(z1 == C)=false:=by simp [hz]
            have HO2:Hid (C∈PL.drop (j+1)):=by
             rcases HO.out with e | e
             · cases e
             · rcases List.mem_cons.1 e with e | e
               · exact absurd e.symm hz
               · exact e
            go_wp2_with (first
             | (go_at_call 30;with_reducible refine (k1 _ ((hT.keep B).keep hbw)).mono ?_;clear k1;rintro e w7 ⟨rfl,b7⟩;(replace hbw:=below_next hbw b7);(have s3:=s2 w7 hbw);clear b7)
             | (go_at_call 30;with_reducible refine (k2 _ ((hT.keep B).keep hbw)).mono ?_;clear k2;rintro e w8 ⟨rfl,b8⟩;(replace hbw:=below_next hbw b8);clear b8))
            go_roundw
            case rel=>exact ⟨j+1,_,hlt,by go_num,rfl,.inr HO2.out,hbw⟩
            case measure=>simp [intOf];omega
       · obtain rfl:j=V:=by omega
         have t0:¬(j:Int)<(j:Int):=by omega
         have ho:o=true:=by
          rcases HO.out with e | e
          · exact e
          · rw [List.drop_of_length_le (by rw [HQ1.out];exact Nat.le_refl _)] at e
            cases e
         subst ho
         go_wp2
         go_ret
         exact ⟨rfl,below_next B hbw⟩
 · have hPQ':(P == Q)=false:=by simp [hPQ]
   cases hpar:parN Y L with
   | none =>
    rw [hpar] at cPar
    have hYR:Y=R:=HYX.out hpar
    replace cPar:∀ W,DbT W→Calls Tryd.prog 12 #[.int .i64 Y,.int .i64 L] W fun e w'=>e = .returned (.tuple #[.int .i64 (-1),.bool false])∧Below W.heap.size W w':=cPar
    clear HYX HRN hpar cSib
    subst hYR
    go_enter Tryd.func6,Tryd.ntmps6
    go_upto_region 2 with (fail)
    rw [hL]
    clear hL
    go_wp2_with (first
     | (go_at_call 12;refine (cPar _ (hT.keep B)).mono ?_;clear cPar;rintro e w1 ⟨rfl,b1⟩;(replace B:=below_next B b1);clear b1)
     | (go_at_call 18;refine (cRoot _ (hT.keep B)).mono ?_;rintro e w2 ⟨rfl,b2⟩;(try replace ZZ1:=ZZ1.keep b2);(try replace ZZ2:=ZZ2.keep b2);(replace B:=below_next B b2);clear b2)
     | (go_at_call 22;refine (knows12 _ (hT.keep B)).mono ?_;rintro e w3 ⟨rfl,b3⟩;(replace B:=below_next B b3);clear b3)
     | (go_at_call 26;refine (cPath _ (hT.keep B)).mono ?_;clear cPath;rintro e w4 ⟨v1,rfl,zz1,b4⟩;(replace B:=below_next B b4);clear b4;(have ZZ1:=zz1);(obtain ⟨x1,d1',e1,-⟩:=zz1);rw [HQ1.out] at e1;subst e1)
     | (go_at_call 28;refine (cCo _ (hT.keep B)).mono ?_;clear cCo;rintro e w5 ⟨v2,rfl,zz2,b5⟩;(replace ZZ1:=ZZ1.keep b5);(replace B:=below_next B b5);clear b5;(have ZZ2:=zz2);(obtain ⟨x2,d2',e2,-⟩:=zz2);rw [HQ2.out] at e2;subst e2)
     | (go_at_call 23;refine (cCom _ (hT.keep B)).mono ?_;clear cCom;rintro e w6 ⟨rfl,b6⟩;(replace ZZ1:=ZZ1.keep b6);(replace ZZ2:=ZZ2.keep b6);(replace B:=below_next B b6);clear b6)
     | (go_at_call 20;refine (cLev _ (hT.keep B)).mono ?_;clear cLev;rintro e w6 ⟨rfl,b6⟩;(replace ZZ1:=ZZ1.keep b6);(replace ZZ2:=ZZ2.keep b6);(replace B:=below_next B b6);clear b6)
     | (go_at_call 30;with_reducible refine (cCa _ (hT.keep B)).mono ?_;clear cCa;rintro e w6 ⟨rfl,b6⟩;(replace ZZ1:=ZZ1.keep b6);(replace ZZ2:=ZZ2.keep b6);(replace B:=below_next B b6);clear b6)
     | (go_at_call 30;with_reducible refine (cBb _ (hT.keep B)).mono ?_;clear cBb;rintro e w6 ⟨rfl,b6⟩;(replace ZZ1:=ZZ1.keep b6);(replace ZZ2:=ZZ2.keep b6);(replace B:=below_next B b6);clear b6))
    clear hA hB hY d1 d2
    obtain ⟨w5',hw5⟩:∃ W:World,W=w6:=⟨_,rfl⟩
    subst hw5
    obtain ⟨y1,c1,e1,F1'⟩:=ZZ1
    obtain ⟨y2,c2,e2,F2'⟩:=ZZ2
    rw [HQ1.out] at e1
    rw [HQ2.out] at e2
    cases e1
    cases e2
    have F1:=Hid.mk' F1'
    have F2:=Hid.mk' F2'
    clear F1' F2'
    go_loopw [23,24] (fun on i wr=>∃ (j:Nat) (o:Bool),j≤V∧i = .int .i64 (j:Int)∧on = .bool o∧Hid (o=true∨C∈PL.drop j)∧Below w5'.heap.size w5' wr) (fun _ i _=>V - (intOf i).toNat)
    case atStart=>exact ⟨0,_,Nat.zero_le _,rfl,rfl,by
     rcases HON.out with ⟨e1,e2⟩ | e
     · first
       | (left;exact beq_iff_eq.2 e2)
       | (exfalso;omega)
     · right;exact e,Below.refl _ _⟩
    case round =>
     obtain ⟨j,o,hj,rfl,rfl,HO,hbw⟩:=hrel
     by_cases hlt:j<V
     · have e1:PL[j]? = some PL[j]!:=by
        have hql:j<PL.length:=by rw [HQ1.out];exact hlt
        rw [List.getElem?_eq_getElem hql]
        simp [hql]
       have e2:CL[j]? = some CL[j]!:=by
        have hql:j<CL.length:=by rw [HQ2.out];exact hlt
        rw [List.getElem?_eq_getElem hql]
        simp [hql]
       obtain ⟨g1,o1,rfl,l1,r1⟩:=F1.out j _ e1
       obtain ⟨g2,o2,rfl,l2,r2⟩:=F2.out j _ e2
       have m1:=HQ3.out _ (List.mem_of_getElem? e1)
       have m2:=HQ4.out _ (List.mem_of_getElem? e2)
       have hdrop:PL.drop j=PL[j]! :: PL.drop (j+1):=by
        have hql:j<PL.length:=by rw [HQ1.out];exact hlt
        rw [List.drop_eq_getElem_cons hql]
        simp [hql]
       rw [hdrop] at HO
       obtain ⟨z1,hz1⟩:∃ z,z=PL[j]!:=⟨_,rfl⟩
       obtain ⟨z2,hz2⟩:∃ z,z=CL[j]!:=⟨_,rfl⟩
       rw [←hz1] at r1 m1 HO
       rw [←hz2] at r2 m2
       have k1:=cBa z1
       have k2:=cBa z2
       rw [m1] at k1
       rw [m2] at k2
       have s1:wr.cell? ⟨g1,o1+j,none⟩=some (.int .i64 z1):=(hbw.cell (p:=⟨g1,o1+j,none⟩) l1).trans r1
       have s2:∀ u,Below w5'.heap.size w5' u→u.cell? ⟨g2,o2+j,none⟩=some (.int .i64 z2):=fun u hu=>(hu.cell (p:=⟨g2,o2+j,none⟩) l2).trans r2
       have t0:(j:Int)<(V:Int):=by omega
       have t1:(0:Int)≤(j:Int)∧(j:Int)<(V:Int):=by omega
       have t9:IntKind.i64.wrap ((j:Int)+1)=(j:Int)+1:=by simp only [IntKind.wrap_i64];omega
       clear e1 e2 hz1 hz2 hdrop m1 m2 r1 r2
       cases o with
       | true =>
        go_wp2_with (first
         | (go_at_call 30;with_reducible refine (k1 _ ((hT.keep B).keep hbw)).mono ?_;clear k1;rintro e w7 ⟨rfl,b7⟩;(replace hbw:=below_next hbw b7);(have s3:=s2 w7 hbw);clear b7)
         | (go_at_call 30;with_reducible refine (k2 _ ((hT.keep B).keep hbw)).mono ?_;clear k2;rintro e w8 ⟨rfl,b8⟩;(replace hbw:=below_next hbw b8);clear b8))
        go_roundw
        case rel=>exact ⟨j+1,true,hlt,by go_num,rfl,.inl rfl,hbw⟩
        case measure=>simp [intOf];omega
       | false =>
        by_cases hz:z1=C
        · subst hz
          go_wp2_with (first
           | (go_at_call 30;with_reducible refine (k1 _ ((hT.keep B).keep hbw)).mono ?_;clear k1;rintro e w7 ⟨rfl,b7⟩;(replace hbw:=below_next hbw b7);(have s3:=s2 w7 hbw);clear b7)
           | (go_at_call 30;with_reducible refine (k2 _ ((hT.keep B).keep hbw)).mono ?_;clear k2;rintro e w8 ⟨rfl,b8⟩;(replace hbw:=below_next hbw b8);clear b8))
          go_roundw
          case rel=>exact ⟨j+1,_,hlt,by go_num,rfl,.inl (by simp),hbw⟩
          case measure=>simp [intOf];omega
        · have hz':(z1 == C)=false:=by simp [hz]
          have HO2:Hid (C∈PL.drop (j+1)):=by
           rcases HO.out with e | e
           · cases e
           · rcases List.mem_cons.1 e with e | e
             · exact absurd e.symm hz
             · exact e
          go_wp2_with (first
           | (go_at_call 30;with_reducible refine (k1 _ ((hT.keep B).keep hbw)).mono ?_;clear k1;rintro e w7 ⟨rfl,b7⟩;(replace hbw:=below_next hbw b7);(have s3:=s2 w7 hbw);clear b7)
           | (go_at_call 30;with_reducible refine (k2 _ ((hT.keep B).keep hbw)).mono ?_;clear k2;rintro e w8 ⟨rfl,b8⟩;(replace hbw:=below_next hbw b8);clear b8))
          go_roundw
          case rel=>exact ⟨j+1,_,hlt,by go_num,rfl,.inr HO2.out,hbw⟩
          case measure=>simp [intOf];omega
     · obtain rfl:j=V:=by omega
       have t0:¬(j:Int)<(j:Int):=by omega
       have ho:o=true:=by
        rcases HO.out with e | e
        · exact e
        · rw [List.drop_of_length_le (by rw [HQ1.out];exact Nat.le_refl _)] at e
          cases e
       subst ho
       go_wp2
       go_ret
       exact ⟨rfl,below_next B hbw⟩
   | some z =>
    rw [hpar] at cPar cSib
    obtain ⟨-,h1,h2,h3⟩:=parN_some hpar
    obtain ⟨g1,g2,g3⟩:=lr_small z h1 h2
    have hYR:¬Y=R:=fun e=>by rw [e,HRN.out] at hpar;cases hpar
    have hYR':(Y == R)=false:=by simp [hYR]
    obtain ⟨el,er⟩:=lr_at (y:=z) h1
    have cl:=iLeft_any (z:Int)
    have cr:=iRight_any (z:Int)
    rw [el,if_pos h2] at cl
    rw [er,if_pos h2] at cr
    dsimp only at cl cr
    obtain ⟨lf,hlf⟩:∃ a:Int,a=(lftN z:Int):=⟨_,rfl⟩
    obtain ⟨rt,hrt⟩:∃ a:Int,a=(rgtN z:Int):=⟨_,rfl⟩
    replace cPar:∀ W,DbT W→Calls Tryd.prog 12 #[.int .i64 Y,.int .i64 L] W fun e w'=>e = .returned (.tuple #[.int .i64 (z:Int),.bool true])∧Below W.heap.size W w':=cPar
    replace cSib:∀ W,DbT W→Calls Tryd.prog 14 #[.int .i64 Y,.int .i64 L] W fun e w'=>e = .returned (.tuple #[.int .i64 ((lftN z:Int)+(rgtN z:Int) - Y),.bool true])∧Below W.heap.size W w':=cSib
    rw [←hlf] at cl cSib h3
    rw [←hrt] at cr cSib h3
    obtain ⟨sb,hsb⟩:∃ a:Int,a=lf+rt - Y:=⟨_,rfl⟩
    rw [←hsb] at cSib
    have u1:wrap64 (lf+rt)=lf+rt:=by unfold wrap64;omega
    have u2:wrap64 (Y+sb)=lf+rt:=by unfold wrap64;omega
    have u3:(lf == rt)=false:=by simp;omega
    have u4:¬lf=rt:=by omega
    obtain ⟨zi,hzi⟩:∃ a:Int,a=(z:Int):=⟨_,rfl⟩
    rw [←hzi] at cPar cl cr
    clear HYX HRN hpar el er h1 h2 g1 g2 g3 hlf hrt hsb hzi
    rcases h3 with h3 | h3
    · subst h3
      go_enter Tryd.func6,Tryd.ntmps6
      go_upto_region 2 with (fail)
      rw [hL]
      clear hL
      go_wp2_with (first
       | (go_at_call 12;refine (cPar _ (hT.keep B)).mono ?_;clear cPar;rintro e w1 ⟨rfl,b1⟩;(replace B:=below_next B b1);clear b1)
       | (go_at_call 18;refine (cRoot _ (hT.keep B)).mono ?_;rintro e w2 ⟨rfl,b2⟩;(try replace ZZ1:=ZZ1.keep b2);(try replace ZZ2:=ZZ2.keep b2);(replace B:=below_next B b2);clear b2)
       | (go_at_call 22;refine (knows12 _ (hT.keep B)).mono ?_;rintro e w3 ⟨rfl,b3⟩;(replace B:=below_next B b3);clear b3)
       | (go_at_call 8;refine (cl _ (hT.keep B)).mono ?_;clear cl;rintro e w3 ⟨rfl,b3⟩;(replace B:=below_next B b3);clear b3)
       | (go_at_call 10;refine (cr _ (hT.keep B)).mono ?_;clear cr;rintro e w3 ⟨rfl,b3⟩;(replace B:=below_next B b3);clear b3)
       | (go_at_call 14;refine (cSib _ (hT.keep B)).mono ?_;clear cSib;rintro e w3 ⟨rfl,b3⟩;(replace B:=below_next B b3);clear b3)
       | (go_at_call 26;refine (cPath _ (hT.keep B)).mono ?_;clear cPath;rintro e w4 ⟨v1,rfl,zz1,b4⟩;(replace B:=below_next B b4);clear b4;(have ZZ1:=zz1);(obtain ⟨x1,d1',e1,-⟩:=zz1);rw [HQ1.out] at e1;subst e1)
       | (go_at_call 28;refine (cCo _ (hT.keep B)).mono ?_;clear cCo;rintro e w5 ⟨v2,rfl,zz2,b5⟩;(replace ZZ1:=ZZ1.keep b5);(replace B:=below_next B b5);clear b5;(have ZZ2:=zz2);(obtain ⟨x2,d2',e2,-⟩:=zz2);rw [HQ2.out] at e2;subst e2)
       | (go_at_call 23;refine (cCom _ (hT.keep B)).mono ?_;clear cCom;rintro e w6 ⟨rfl,b6⟩;(replace ZZ1:=ZZ1.keep b6);(replace ZZ2:=ZZ2.keep b6);(replace B:=below_next B b6);clear b6)
       | (go_at_call 20;refine (cLev _ (hT.keep B)).mono ?_;clear cLev;rintro e w6 ⟨rfl,b6⟩;(replace ZZ1:=ZZ1.keep b6);(replace ZZ2:=ZZ2.keep b6);(replace B:=below_next B b6);clear b6)
       | (go_at_call 30;with_reducible refine (cCa _ (hT.keep B)).mono ?_;clear cCa;rintro e w6 ⟨rfl,b6⟩;(replace ZZ1:=ZZ1.keep b6);(replace ZZ2:=ZZ2.keep b6);(replace B:=below_next B b6);clear b6)
       | (go_at_call 30;with_reducible refine (cBb _ (hT.keep B)).mono ?_;clear cBb;rintro e w6 ⟨rfl,b6⟩;(replace ZZ1:=ZZ1.keep b6);(replace ZZ2:=ZZ2.keep b6);(replace B:=below_next B b6);clear b6))
      clear hA hB hY d1 d2
      obtain ⟨w5',hw5⟩:∃ W:World,W=w6:=⟨_,rfl⟩
      subst hw5
      obtain ⟨y1,c1,e1,F1'⟩:=ZZ1
      obtain ⟨y2,c2,e2,F2'⟩:=ZZ2
      rw [HQ1.out] at e1
      rw [HQ2.out] at e2
      cases e1
      cases e2
      have F1:=Hid.mk' F1'
      have F2:=Hid.mk' F2'
      clear F1' F2'
      go_loopw [23,24] (fun on i wr=>∃ (j:Nat) (o:Bool),j≤V∧i = .int .i64 (j:Int)∧on = .bool o∧Hid (o=true∨C∈PL.drop j)∧Below w5'.heap.size w5' wr) (fun _ i _=>V - (intOf i).toNat)
      case atStart=>exact ⟨0,_,Nat.zero_le _,rfl,rfl,by
       rcases HON.out with ⟨e1,e2⟩ | e
       · first
         | (left;exact beq_iff_eq.2 e2)
         | (exfalso;omega)
       · right;exact e,Below.refl _ _⟩
      case round =>
       obtain ⟨j,o,hj,rfl,rfl,HO,hbw⟩:=hrel
       by_cases hlt:j<V
       · have e1:PL[j]? = some PL[j]!:=by
          have hql:j<PL.length:=by rw [HQ1.out];exact hlt
          rw [List.getElem?_eq_getElem hql]
          simp [hql]
         have e2:CL[j]? = some CL[j]!:=by
          have hql:j<CL.length:=by rw [HQ2.out];exact hlt
          rw [List.getElem?_eq_getElem hql]
          simp [hql]
         obtain ⟨g1,o1,rfl,l1,r1⟩:=F1.out j _ e1
         obtain ⟨g2,o2,rfl,l2,r2⟩:=F2.out j _ e2
         have m1:=HQ3.out _ (List.mem_of_getElem? e1)
         have m2:=HQ4.out _ (List.mem_of_getElem? e2)
         have hdrop:PL.drop j=PL[j]! :: PL.drop (j+1):=by
          have hql:j<PL.length:=by rw [HQ1.out];exact hlt
          rw [List.drop_eq_getElem_cons hql]
          simp [hql]
         rw [hdrop] at HO
         obtain ⟨z1,hz1⟩:∃ z,z=PL[j]!:=⟨_,rfl⟩
         obtain ⟨z2,hz2⟩:∃ z,z=CL[j]!:=⟨_,rfl⟩
         rw [←hz1] at r1 m1 HO
         rw [←hz2] at r2 m2
         have k1:=cBa z1
         have k2:=cBa z2
         rw [m1] at k1
         rw [m2] at k2
         have s1:wr.cell? ⟨g1,o1+j,none⟩=some (.int .i64 z1):=(hbw.cell (p:=⟨g1,o1+j,none⟩) l1).trans r1
         have s2:∀ u,Below w5'.heap.size w5' u→u.cell? ⟨g2,o2+j,none⟩=some (.int .i64 z2):=fun u hu=>(hu.cell (p:=⟨g2,o2+j,none⟩) l2).trans r2
         have t0:(j:Int)<(V:Int):=by omega
         have t1:(0:Int)≤(j:Int)∧(j:Int)<(V:Int):=by omega
         have t9:IntKind.i64.wrap ((j:Int)+1)=(j:Int)+1:=by simp only [IntKind.wrap_i64];omega
         clear e1 e2 hz1 hz2 hdrop m1 m2 r1 r2
         cases o with
         | true =>
          go_wp2_with (first
           | (go_at_call 30;with_reducible refine (k1 _ ((hT.keep B).keep hbw)).mono ?_;clear k1;rintro e w7 ⟨rfl,b7⟩;(replace hbw:=below_next hbw b7);(have s3:=s2 w7 hbw);clear b7)
           | (go_at_call 30;with_reducible refine (k2 _ ((hT.keep B).keep hbw)).mono ?_;clear k2;rintro e w8 ⟨rfl,b8⟩;(replace hbw:=below_next hbw b8);clear b8))
          go_roundw
          case rel=>exact ⟨j+1,true,hlt,by go_num,rfl,.inl rfl,hbw⟩
          case measure=>simp [intOf];omega
         | false =>
          by_cases hz:z1=C
          · subst hz
            go_wp2_with (first
             | (go_at_call 30;with_reducible refine (k1 _ ((hT.keep B).keep hbw)).mono ?_;clear k1;rintro e w7 ⟨rfl,b7⟩;(replace hbw:=below_next hbw b7);(have s3:=s2 w7 hbw);clear b7)
             | (go_at_call 30;with_reducible refine (k2 _ ((hT.keep B).keep hbw)).mono ?_;clear k2;rintro e w8 ⟨rfl,b8⟩;(replace hbw:=below_next hbw b8);clear b8))
            go_roundw
            case rel=>exact ⟨j+1,_,hlt,by go_num,rfl,.inl (by simp),hbw⟩
            case measure=>simp [intOf];omega
          · have hz':(z1 == C)=false:=by simp [hz]
            have HO2:Hid (C∈PL.drop (j+1)):=by
             rcases HO.out with e | e
             · cases e
             · rcases List.mem_cons.1 e with e | e
               · exact absurd e.symm hz
               · exact e
            go_wp2_with (first
             | (go_at_call 30;with_reducible refine (k1 _ ((hT.keep B).keep hbw)).mono ?_;clear k1;rintro e w7 ⟨rfl,b7⟩;(replace hbw:=below_next hbw b7);(have s3:=s2 w7 hbw);clear b7)
             | (go_at_call 30;with_reducible refine (k2 _ ((hT.keep B).keep hbw)).mono ?_;clear k2;rintro e w8 ⟨rfl,b8⟩;(replace hbw:=below_next hbw b8);clear b8))
            go_roundw
            case rel=>exact ⟨j+1,_,hlt,by go_num,rfl,.inr HO2.out,hbw⟩
            case measure=>simp [intOf];omega
       · obtain rfl:j=V:=by omega
         have t0:¬(j:Int)<(j:Int):=by omega
         have ho:o=true:=by
          rcases HO.out with e | e
          · exact e
          · rw [List.drop_of_length_le (by rw [HQ1.out];exact Nat.le_refl _)] at e
            cases e
         subst ho
         go_wp2
         go_ret
         exact ⟨rfl,below_next B hbw⟩
    · subst h3
      go_enter Tryd.func6,Tryd.ntmps6
      go_upto_region 2 with (fail)
      rw [hL]
      clear hL
      go_wp2_with (first
       | (go_at_call 12;refine (cPar _ (hT.keep B)).mono ?_;clear cPar;rintro e w1 ⟨rfl,b1⟩;(replace B:=below_next B b1);clear b1)
       | (go_at_call 18;refine (cRoot _ (hT.keep B)).mono ?_;rintro e w2 ⟨rfl,b2⟩;(try replace ZZ1:=ZZ1.keep b2);(try replace ZZ2:=ZZ2.keep b2);(replace B:=below_next B b2);clear b2)
       | (go_at_call 22;refine (knows12 _ (hT.keep B)).mono ?_;rintro e w3 ⟨rfl,b3⟩;(replace B:=below_next B b3);clear b3)
       | (go_at_call 8;refine (cl _ (hT.keep B)).mono ?_;clear cl;rintro e w3 ⟨rfl,b3⟩;(replace B:=below_next B b3);clear b3)
       | (go_at_call 10;refine (cr _ (hT.keep B)).mono ?_;clear cr;rintro e w3 ⟨rfl,b3⟩;(replace B:=below_next B b3);clear b3)
       | (go_at_call 14;refine (cSib _ (hT.keep B)).mono ?_;clear cSib;rintro e w3 ⟨rfl,b3⟩;(replace B:=below_next B b3);clear b3)
       | (go_at_call 26;refine (cPath _ (hT.keep B)).mono ?_;clear cPath;rintro e w4 ⟨v1,rfl,zz1,b4⟩;(replace B:=below_next B b4);clear b4;(have ZZ1:=zz1);(obtain ⟨x1,d1',e1,-⟩:=zz1);rw [HQ1.out] at e1;subst e1)
       | (go_at_call 28;refine (cCo _ (hT.keep B)).mono ?_;clear cCo;rintro e w5 ⟨v2,rfl,zz2,b5⟩;(replace ZZ1:=ZZ1.keep b5);(replace B:=below_next B b5);clear b5;(have ZZ2:=zz2);(obtain ⟨x2,d2',e2,-⟩:=zz2);rw [HQ2.out] at e2;subst e2)
       | (go_at_call 23;refine (cCom _ (hT.keep B)).mono ?_;clear cCom;rintro e w6 ⟨rfl,b6⟩;(replace ZZ1:=ZZ1.keep b6);(replace ZZ2:=ZZ2.keep b6);(replace B:=below_next B b6);clear b6)
       | (go_at_call 20;refine (cLev _ (hT.keep B)).mono ?_;clear cLev;rintro e w6 ⟨rfl,b6⟩;(replace ZZ1:=ZZ1.keep b6);(replace ZZ2:=ZZ2.keep b6);(replace B:=below_next B b6);clear b6)
       | (go_at_call 30;with_reducible refine (cCa _ (hT.keep B)).mono ?_;clear cCa;rintro e w6 ⟨rfl,b6⟩;(replace ZZ1:=ZZ1.keep b6);(replace ZZ2:=ZZ2.keep b6);(replace B:=below_next B b6);clear b6)
       | (go_at_call 30;with_reducible refine (cBb _ (hT.keep B)).mono ?_;clear cBb;rintro e w6 ⟨rfl,b6⟩;(replace ZZ1:=ZZ1.keep b6);(replace ZZ2:=ZZ2.keep b6);(replace B:=below_next B b6);clear b6))
      clear hA hB hY d1 d2
      obtain ⟨w5',hw5⟩:∃ W:World,W=w6:=⟨_,rfl⟩
      subst hw5
      obtain ⟨y1,c1,e1,F1'⟩:=ZZ1
      obtain ⟨y2,c2,e2,F2'⟩:=ZZ2
      rw [HQ1.out] at e1
      rw [HQ2.out] at e2
      cases e1
      cases e2
      have F1:=Hid.mk' F1'
      have F2:=Hid.mk' F2'
      clear F1' F2'
      go_loopw [23,24] (fun on i wr=>∃ (j:Nat) (o:Bool),j≤V∧i = .int .i64 (j:Int)∧on = .bool o∧Hid (o=true∨C∈PL.drop j)∧Below w5'.heap.size w5' wr) (fun _ i _=>V - (intOf i).toNat)
      case atStart=>exact ⟨0,_,Nat.zero_le _,rfl,rfl,by
       rcases HON.out with ⟨e1,e2⟩ | e
       · first
         | (left;exact beq_iff_eq.2 e2)
         | (exfalso;omega)
       · right;exact e,Below.refl _ _⟩
      case round =>
       obtain ⟨j,o,hj,rfl,rfl,HO,hbw⟩:=hrel
       by_cases hlt:j<V
       · have e1:PL[j]? = some PL[j]!:=by
          have hql:j<PL.length:=by rw [HQ1.out];exact hlt
          rw [List.getElem?_eq_getElem hql]
          simp [hql]
         have e2:CL[j]? = some CL[j]!:=by
          have hql:j<CL.length:=by rw [HQ2.out];exact hlt
          rw [List.getElem?_eq_getElem hql]
          simp [hql]
         obtain ⟨g1,o1,rfl,l1,r1⟩:=F1.out j _ e1
         obtain ⟨g2,o2,rfl,l2,r2⟩:=F2.out j _ e2
         have m1:=HQ3.out _ (List.mem_of_getElem? e1)
         have m2:=HQ4.out _ (List.mem_of_getElem? e2)
         have hdrop:PL.drop j=PL[j]! :: PL.drop (j+1):=by
          have hql:j<PL.length:=by rw [HQ1.out];exact hlt
          rw [List.drop_eq_getElem_cons hql]
          simp [hql]
         rw [hdrop] at HO
         obtain ⟨z1,hz1⟩:∃ z,z=PL[j]!:=⟨_,rfl⟩
         obtain ⟨z2,hz2⟩:∃ z,z=CL[j]!:=⟨_,rfl⟩
         rw [←hz1] at r1 m1 HO
         rw [←hz2] at r2 m2
         have k1:=cBa z1
         have k2:=cBa z2
         rw [m1] at k1
         rw [m2] at k2
         have s1:wr.cell? ⟨g1,o1+j,none⟩=some (.int .i64 z1):=(hbw.cell (p:=⟨g1,o1+j,none⟩) l1).trans r1
         have s2:∀ u,Below w5'.heap.size w5' u→u.cell? ⟨g2,o2+j,none⟩=some (.int .i64 z2):=fun u hu=>(hu.cell (p:=⟨g2,o2+j,none⟩) l2).trans r2
         have t0:(j:Int)<(V:Int):=by omega
         have t1:(0:Int)≤(j:Int)∧(j:Int)<(V:Int):=by omega
         have t9:IntKind.i64.wrap ((j:Int)+1)=(j:Int)+1:=by simp only [IntKind.wrap_i64];omega
         clear e1 e2 hz1 hz2 hdrop m1 m2 r1 r2
         cases o with
         | true =>
          go_wp2_with (first
           | (go_at_call 30;with_reducible refine (k1 _ ((hT.keep B).keep hbw)).mono ?_;clear k1;rintro e w7 ⟨rfl,b7⟩;(replace hbw:=below_next hbw b7);(have s3:=s2 w7 hbw);clear b7)
           | (go_at_call 30;with_reducible refine (k2 _ ((hT.keep B).keep hbw)).mono ?_;clear k2;rintro e w8 ⟨rfl,b8⟩;(replace hbw:=below_next hbw b8);clear b8))
          go_roundw
          case rel=>exact ⟨j+1,true,hlt,by go_num,rfl,.inl rfl,hbw⟩
          case measure=>simp [intOf];omega
         | false =>
          by_cases hz:z1=C
          · subst hz
            go_wp2_with (first
             | (go_at_call 30;with_reducible refine (k1 _ ((hT.keep B).keep hbw)).mono ?_;clear k1;rintro e w7 ⟨rfl,b7⟩;(replace hbw:=below_next hbw b7);(have s3:=s2 w7 hbw);clear b7)
             | (go_at_call 30;with_reducible refine (k2 _ ((hT.keep B).keep hbw)).mono ?_;clear k2;rintro e w8 ⟨rfl,b8⟩;(replace hbw:=below_next hbw b8);clear b8))
            go_roundw
            case rel=>exact ⟨j+1,_,hlt,by go_num,rfl,.inl (by simp),hbw⟩
            case measure=>simp [intOf];omega
          · have hz':(z1 == C)=false:=by simp [hz]
            have HO2:Hid (C∈PL.drop (j+1)):=by
             rcases HO.out with e | e
             · cases e
             · rcases List.mem_cons.1 e with e | e
               · exact absurd e.symm hz
               · exact e
            go_wp2_with (first
             | (go_at_call 30;with_reducible refine (k1 _ ((hT.keep B).keep hbw)).mono ?_;clear k1;rintro e w7 ⟨rfl,b7⟩;(replace hbw:=below_next hbw b7);(have s3:=s2 w7 hbw);clear b7)
             | (go_at_call 30;with_reducible refine (k2 _ ((hT.keep B).keep hbw)).mono ?_;clear k2;rintro e w8 ⟨rfl,b8⟩;(replace hbw:=below_next hbw b8);clear b8))
            go_roundw
            case rel=>exact ⟨j+1,_,hlt,by go_num,rfl,.inr HO2.out,hbw⟩
            case measure=>simp [intOf];omega
       · obtain rfl:j=V:=by omega
         have t0:¬(j:Int)<(j:Int):=by omega
         have ho:o=true:=by
          rcases HO.out with e | e
          · exact e
          · rw [List.drop_of_length_le (by rw [HQ1.out];exact Nat.le_refl _)] at e
            cases e
         subst ho
         go_wp2
         go_ret
         exact ⟨rfl,below_next B hbw⟩
end Go.Proofs.YtodhmfddfjfhjaaDoor
