/- What the proof stands on: RefBytes, RefTimes, RefTimes2, RefApi. -/
import Derived.Test.YtibdhadbflfdpaaGreatDoorRefCarryM
namespace Go.Proofs.YtibdhadbflfdpaaGreatDoor
open Nat renaming le_refl → JW
open Go renaming wpList_store_mid → J2
open Go renaming wpList_load_mid → J3
open Go.RowKit
def xP (X:Nat→Int):Nat→Nat→Int
 | 0=>X
 | k+1=>ni (xP X k)
theorem vd {X:Nat→Int} (h:AV X):∀ k,AV (xP X k)
 | 0=>h
 | k+1=>tx (vd h k)
theorem E5 (w:World) (x y:Nat):nK (w.alloc (.cells #[.int .u8 x,.int .u8 y] 5)) (some ⟨w.heap.size,0,none⟩) 2 (fun j=>if j=0 then x else y):=by
 refine .inr ⟨w.heap.size,0,rfl,fun j hj => ?_⟩
 match j,hj with
 | 0,_=>simp
 | 1,_=>simp
theorem nh {ops:Array Oper} {o:Oper} {a:Act} {w:World} {K:Act→World→Prop} {Q:Exit→Act→World→Prop} {E:Prop} (hgd:o.guard=none) (s x:Operand)
 (ho:o.op = .call { callee := .builtin .append,args:=#[s,x],argTypes:=#[22,22] }) (hty:o.type=22) (base:Nat)
 (v:Value) (n:Nat) (F:Nat→Nat) (y0 y1:Int) (hs:a.eval s=v) (hown:bx base w v n F) (g:Nat) (hg:w.heap.size=g) (hx:a.eval x = .slice (some ⟨g,0,none⟩) 2 2) (hF0:y0=(F n:Int)) (hF1:y1=(F (n+1):Int))
 (hl:n+2≤1000000) (hbase:base≤w.heap.size)
 (h:∀ v' w',bx base w' v' (n+2) F→Below base w w'→K (a.put o.dst v') w') :
 if Region.wanted o (yielded ops a.tmps)=true then Oper.wp Tryz.prog o a (w.alloc (.cells #[.int .u8 y0,.int .u8 y1] 5)) K Q else E:=by
 have hw:Region.wanted o (yielded ops a.tmps)=true:=by simp [Region.wanted,hgd]
 rw [if_pos hw];subst hg;subst hF0;subst hF1
 have hz:base≤(w.alloc (.cells #[.int .u8 (F n:Int),.int .u8 (F (n+1):Int)] 5)).heap.size:=by simp only [World.size_alloc];omega
 obtain ⟨v',w',hrun,h1,h2⟩:=mq (w.alloc (.cells #[.int .u8 (F n:Int),.int .u8 (F (n+1):Int)] 5)) base v n F (hown.alloc _) _ 2 2 _ (E5 w (F n) (F (n+1))) (fun h=>by cases h) (by omega) hz
 have h3:bx base w' v' (n+2) F:=h1.congr (fun j hj=>by
  by_cases e:j<n
  · rw [d7 e]
  · unfold bu
    rw [if_neg e];show (if j - n=0 then F n else F (n+1))=F j
    by_cases e2:j - n=0
    · rw [if_pos e2,show j=n by omega]
    · rw [if_neg e2,show j=n+1 by omega])
 unfold Oper.wp;simp [execOp,ho,hty,resolve,invoke,builtin,hs,hx,hrun,Result.andThen];exact h v' w' h3 (((Below.refl _ _).alloc hbase _).trans h2)
set_option maxRecDepth 20000 in
set_option maxHeartbeats 4000000 in
theorem xz (L:Nat→Int) (hL:tI 9007199254740992 L) (w:World) :
 Calls Tryz.prog 118 #[bZ L] w fun e w'=>∃ v,e = .returned v∧bx w.heap.size w' v 32 (ix (n6 L))∧Below w.heap.size w w':=by
 have hz:=dC;obtain ⟨hn0,hcn,-⟩:=ul L hL;obtain ⟨d1,hd1⟩:=fM L hL;have hn1:=lL _ d1 hd1
 have c1:∀ W,Calls Tryz.prog 178 #[.agg (af 16 L).toArray] W fun e w'=>e = .returned (.agg (af 16 (aq L)).toArray)∧Below W.heap.size W w':=fun W=>dK L (fun j hj=>by have:=hL.all (by decide) j hj;omega) W
 have c2:∀ W,Calls Tryz.prog 178 #[.agg (af 16 (aq L)).toArray] W fun e w'=>e = .returned (.agg (af 16 (aq (aq L))).toArray)∧Below W.heap.size W w':=fun W=>dK (aq L) (fun j hj=>by have:=d1.all (by decide) j hj;omega) W
 have c3:∀ W,Calls Tryz.prog 178 #[.agg (af 16 (aq (aq L))).toArray] W fun e w'=>e = .returned (.agg (af 16 (aq (aq (aq L)))).toArray)∧Below W.heap.size W w':=fun W=>dK (aq (aq L)) (fun j hj=>by have:=hn1 j hj;omega) W
 have hcan:n6 L=xP (aq (aq (aq L))) 2:=rfl;rw [hcan] at hcn ⊢
 obtain ⟨X1,hX1⟩:∃ X,X=aq L:=⟨_,rfl⟩
 rw [←hX1] at c1 c2 c3 hn0 hcn ⊢
 obtain ⟨X2,hX2⟩:∃ X,X=aq X1:=⟨_,rfl⟩
 rw [←hX2] at c2 c3 hn0 hcn ⊢
 obtain ⟨X,hX⟩:∃ X,X=aq X2:=⟨_,rfl⟩
 rw [←hX] at c3 hn0 hcn ⊢
 obtain ⟨W,hW⟩:∃ W,W=w.alloc (.cells (af 16 L).toArray 92):=⟨_,rfl⟩
 have HW:=Hid.mk' hW
 have hWs:W.heap.size=w.heap.size+1:=by rw [hW];simp
 have hbW:Below w.heap.size w W:=by rw [hW];exact (Below.refl _ _).alloc (JW _) _
 have hA:ap W w.heap.size 16 L:=by rw [hW];exact ap.box w 16 L _
 have hi0:=a8 L;have hi2:=bH X;have ho:=eM X;have c1':=c1 W;unfold bZ;clear hW hX1 hX2 hX hL d1 hd1 hn1 c1 hcan;go_enter Tryz.func118,Tryz.ntmps118
 go_wp2_with (first
  | (rw [←HW.out];refine J3 rfl 92 _ rfl w.heap.size 0 rfl (af 16 L) _ hA.range Tryz.underlying92 rfl hi0 ?_)
  | (go_at_call 178;refine c1'.mono ?_;clear c1';rintro e w1 ⟨rfl,hb1⟩)
  | (go_at_call 178;refine (c2 _).mono ?_;clear c2;rintro e w2 ⟨rfl,hb2⟩)
  | (go_at_call 178;refine (c3 _).mono ?_;clear c3;rintro e w3 ⟨rfl,hb3⟩;(have hb13:Below W.heap.size W w3:=hb1.trans ((hb2.mono hb1.size).trans (hb3.mono (Nat.le_trans hb1.size hb2.size))));(have hA3:=hA.below hb13 (by omega));(have hth:w3.there w.heap.size 0 (af 16 X).toArray.size:=by rw [an];exact hA3.there);(have hbw3:Below w.heap.size w w3:=hbW.trans (hb13.mono hbW.size));(have hw3s:=hb13.size);clear hb1 hb2 hb3 hb13)
  | (refine J2 rfl 92 _ _ rfl w.heap.size 0 (af 16 X).toArray rfl rfl hth hi2 ho ?_))
 have hA4:ap (w3.setCells w.heap.size 0 (af 16 X).toArray.toList) w.heap.size 16 X:=by rw [List.toList_toArray];exact hA3.stored
 have hb4:Below w.heap.size w (w3.setCells w.heap.size 0 (af 16 X).toArray.toList):=ac (JW _) _ _ _ hbw3
 have hs4:w.heap.size<(w3.setCells w.heap.size 0 (af 16 X).toArray.toList).heap.size:=by rw [(aj _ _ _ _).2.2.2];omega
 clear hA hA3 hth hbw3 hw3s hbW HW hi0 ho hi2;go_loopw [3] (fun i wr=>∃ k:Nat,k≤2∧i = .int .i64 k∧ap wr w.heap.size 16 (xP X k)∧Below w.heap.size w wr∧w.heap.size<wr.heap.size) (fun i _=>2 - (intOf i).toNat)
 case atStart=>exact ⟨0,Nat.zero_le _,rfl,hA4,hb4,hs4⟩
 case round =>
  clear hA4 hb4 hs4;obtain ⟨k,hk,rfl,hA,hb,hs⟩:=hrel
  by_cases hlt:k<2
  · have hnk:=vd hn0 k
    obtain ⟨Y,hY⟩:∃ Y,Y=xP X k:=⟨_,rfl⟩
    have HY:=Hid.mk' hY;rw [←hY] at hA hnk;clear hY hcn;have hi0:=a8 Y;have hi2:=bH Y;have ho:=eM Y
    obtain ⟨D,hD⟩:∃ D,D=wr.heap.size:=⟨_,rfl⟩
    have HD:=Hid.mk' hD
    obtain ⟨W1,hW1⟩:∃ W1,W1=wr.alloc (.cells zI 92):=⟨_,rfl⟩
    have HW1:=Hid.mk' hW1
    have hbA:Below wr.heap.size wr W1:=by rw [hW1];exact (Below.refl _ _).alloc (JW _) _
    have hA1:=hA.below hbA hs
    have hD1:ap W1 D 16 (fun _=>0):=by rw [hW1,hD];exact ap.fresh wr zI _ (fun j hj=>dS j hj)
    have hb1:Below w.heap.size w W1:=hb.trans (hbA.mono hb.size)
    have hs1:D<W1.heap.size:=by rw [hW1,hD];simp
    have hwD:w.heap.size<D:=by omega
    have hth:W1.there D 0 (af 16 Y).toArray.size:=by rw [an];exact hD1.there
    have hD2:ap (W1.setCells D 0 (af 16 Y).toArray.toList) D 16 Y:=by rw [List.toList_toArray];exact hD1.stored
    have hA2:ap (W1.setCells D 0 (af 16 Y).toArray.toList) w.heap.size 16 Y:=hA1.farCells (by omega) _ _;have hb2:Below w.heap.size w (W1.setCells D 0 (af 16 Y).toArray.toList):=ac (by omega) _ _ _ hb1
    have hs2:D<(W1.setCells D 0 (af 16 Y).toArray.toList).heap.size:=by rw [(aj _ _ _ _).2.2.2];exact hs1
    obtain ⟨W2,hW2⟩:∃ W2,W2=W1.setCells D 0 (af 16 Y).toArray.toList:=⟨_,rfl⟩
    have HW2:=Hid.mk' hW2;rw [←hW2] at hD2 hA2 hb2 hs2;obtain ⟨r0,f0⟩:=hD2 0 (by decide);have hr0:=hnk 0 (by decide);have hAr:=hA.range;clear hA1 hb1 hs1 hD1 hbA hW2 hW1 hD
    go_wp2_with (first
     | (refine J3 rfl 92 _ rfl w.heap.size 0 rfl (af 16 Y) _ hAr Tryz.underlying92 rfl hi0 ?_)
     | (rw [←HW1.out];rw [←HD.out];refine J2 rfl 92 _ _ rfl D 0 (af 16 Y).toArray rfl rfl hth hi2 ho ?_;rw [←HW2.out]))
    have hR0:ap (W2.setCell ⟨D,0,none⟩ (.int .i64 (Y 0 - 65517))) D 16 (lF Y 1):=(hD2.set (i:=0) (by decide) (Y 0 - 65517)).congr (fun j hj=>by
     unfold ef lF
     by_cases e:j=0
     · rw [if_pos e,if_neg (by omega),if_pos (by omega),e];show Y 0 - 65517=Y 0 - 65517 - 0;omega
     · rw [if_neg e,if_neg (by omega),if_neg (by omega)])
    have hA3:ap (W2.setCell ⟨D,0,none⟩ (.int .i64 (Y 0 - 65517))) w.heap.size 16 Y:=hA2.far (by show D≠_;omega) _;have hb3:Below w.heap.size w (W2.setCell ⟨D,0,none⟩ (.int .i64 (Y 0 - 65517))):=hb2.setCell (by show _≤D;omega) _
    have hs3:D<(W2.setCell ⟨D,0,none⟩ (.int .i64 (Y 0 - 65517))).heap.size:=by simpa using hs2
    clear r0 f0 hr0 hAr hth hD2 hA2 hb2 hs2;go_loopw [5] (fun i wq=>∃ q:Nat,q≤15∧i = .int .i64 ((q:Int)+1)∧ap wq D 16 (lF Y (q+1))∧ap wq w.heap.size 16 Y∧Below w.heap.size w wq∧D<wq.heap.size) (fun i _=>16 - (intOf i).toNat)
    case atStart=>exact ⟨0,Nat.zero_le _,by go_num,hR0,hA3,hb3,hs3⟩
    case round =>
     clear hR0 hA3 hb3 hs3 hz hA hb hs;obtain ⟨q,hq,rfl,hR,hA,hb,hs⟩:=hrel
     by_cases hlq:q<15
     · obtain ⟨r1,f1⟩:=hR q (by omega)
       obtain ⟨r2,f2⟩:=hR (q+1) (by omega)
       have e1:lF Y (q+1) q=rS Y q:=by unfold lF;rw [if_neg (by omega),if_pos rfl]
       have e2:lF Y (q+1) (q+1)=Y (q+1):=by unfold lF;rw [if_neg (by omega),if_neg (by omega)]
       rw [e1] at r1;rw [e2] at r2;have hbd1:=Ds hnk (i:=q) (by omega);have hbd2:=hnk (q+1) (by omega)
       have hbq:bw Y (q+1)=if rS Y q<0 then 1 else 0:=rfl
       have hrq:rS Y (q+1)=Y (q+1) - pl (q+1) - bw Y (q+1):=rfl
       have Hfin:∀ (v1 v2:Int),v1=rS Y q+65536*bw Y (q+1)→v2=rS Y (q+1)→∀ wq:World,ap wq D 16 (ef (ef (lF Y (q+1)) q v1) (q+1) v2)→ap wq D 16 (lF Y (q+1+1)):=fun v1 v2 h1 h2 wq h=>h.congr (fun j hj=>by
        unfold ef lF
        by_cases c1:j=q+1
        · rw [if_pos c1,if_neg (by omega),if_pos (by omega),c1,h2]
        · rw [if_neg c1]
          by_cases c2:j=q
          · rw [if_pos c2,if_pos (by omega),c2,h1]
          · rw [if_neg c2]
            by_cases c3:j+1<q+1
            · rw [if_pos c3,if_pos (by omega)]
            · rw [if_neg c3,if_neg (by omega),if_neg (by omega),if_neg (by omega)])
       obtain ⟨a,ha⟩:∃ a,a=rS Y q:=⟨_,rfl⟩
       obtain ⟨b,hbe⟩:∃ b,b=Y (q+1):=⟨_,rfl⟩
       rw [←ha] at r1 hbd1 hbq;rw [←hbe] at r2 hbd2 hrq;have Ha:=Hid.mk' ha
       have hq1:((q:Int)+1).toNat=q+1:=by omega
       have hq2:(0:Int)≤(q:Int)+1∧(q:Int)+1<16:=by omega
       clear e1 e2 ha hbe hnk
       by_cases h14:q=14
       · subst h14
         by_cases hneg:a<0
         · rw [if_pos hneg] at hbq
           have hpl:pl (14+1)=32767:=rfl;have Hbq:=Hid.mk' hbq;have Hrq:=Hid.mk' hrq;have Hpl:=Hid.mk' hpl;clear hbq hrq hpl;go_wp2;go_roundw
           case rel =>
            refine ⟨14+1,by omega,by go_num,Hfin (a+65536) (b - 32767 - 1) (by rw [Hbq.out,←Ha.out];omega) (by rw [Hrq.out,Hpl.out,Hbq.out]) _ ((hR.set (i:=14) (by omega) _).set (i:=14+1) (by omega) _),(hA.far (by show D≠_;omega) _).far (by show D≠_;omega) _,(hb.setCell (by show _≤D;omega) _).setCell (by show _≤D;omega) _,by simpa using hs⟩
           case measure=>simp [intOf]
         · rw [if_neg hneg] at hbq
           have hpl:pl (14+1)=32767:=rfl;have Hbq:=Hid.mk' hbq;have Hrq:=Hid.mk' hrq;have Hpl:=Hid.mk' hpl;clear hbq hrq hpl;go_wp2;go_roundw
           case rel =>
            refine ⟨14+1,by omega,by go_num,Hfin a (b - 32767) (by rw [Hbq.out,←Ha.out];omega) (by rw [Hrq.out,Hpl.out,Hbq.out];omega) _ ((hR.set (i:=14+1) (by omega) _).congr (fun j hj => ?_)),hA.far (by show D≠_;omega) _,hb.setCell (by show _≤D;omega) _,by simpa using hs⟩;unfold ef
            by_cases c1:j=14+1
            · rw [if_pos c1,if_pos c1]
            · rw [if_neg c1,if_neg c1]
              by_cases c2:j=14
              · rw [if_pos c2,c2,Ha.out];unfold lF;rw [if_neg (by omega),if_pos rfl]
              · rw [if_neg c2]
           case measure=>simp [intOf]
       · by_cases hneg:a<0
         · rw [if_pos hneg] at hbq
           have hpl:pl (q+1)=65535:=by unfold pl;rw [if_neg (by omega),if_neg (by omega)]
           have Hbq:=Hid.mk' hbq;have Hrq:=Hid.mk' hrq;have Hpl:=Hid.mk' hpl;clear hbq hrq hpl;go_wp2;go_roundw
           case rel =>
            refine ⟨q+1,by omega,by go_num,Hfin (a+65536) (b - 65535 - 1) (by rw [Hbq.out,←Ha.out];omega) (by rw [Hrq.out,Hpl.out,Hbq.out]) _ ((hR.set (i:=q) (by omega) _).set (i:=q+1) (by omega) _),(hA.far (by show D≠_;omega) _).far (by show D≠_;omega) _,(hb.setCell (by show _≤D;omega) _).setCell (by show _≤D;omega) _,by simpa using hs⟩
           case measure=>simp [intOf];omega
         · rw [if_neg hneg] at hbq
           have hpl:pl (q+1)=65535:=by unfold pl;rw [if_neg (by omega),if_neg (by omega)]
           have Hbq:=Hid.mk' hbq;have Hrq:=Hid.mk' hrq;have Hpl:=Hid.mk' hpl;clear hbq hrq hpl;go_wp2;go_roundw
           case rel =>
            refine ⟨q+1,by omega,by go_num,Hfin a (b - 65535) (by rw [Hbq.out,←Ha.out];omega) (by rw [Hrq.out,Hpl.out,Hbq.out];omega) _ ((hR.set (i:=q+1) (by omega) _).congr (fun j hj => ?_)),hA.far (by show D≠_;omega) _,hb.setCell (by show _≤D;omega) _,by simpa using hs⟩;unfold ef
            by_cases c1:j=q+1
            · rw [if_pos c1,if_pos c1]
            · rw [if_neg c1,if_neg c1]
              by_cases c2:j=q
              · rw [if_pos c2,c2,Ha.out];unfold lF;rw [if_neg (by omega),if_pos rfl]
              · rw [if_neg c2]
           case measure=>simp [intOf];omega
     · have hqe:q=15:=by omega
       subst hqe;replace hR:ap wr D 16 (lF Y 16):=hR;obtain ⟨r1,f1⟩:=hR 15 (by decide)
       have e1:lF Y 16 15=rS Y 15:=by unfold lF;rw [if_neg (by decide),if_pos (by decide)]
       rw [e1] at r1
       obtain ⟨x,hx⟩:∃ x,x=rS Y 15:=⟨_,rfl⟩
       rw [←hx] at r1;have Hx:=Hid.mk' hx
       have hsub:xP X (k+1)=ni Y:=by rw [HY.out];rfl
       have Hsub:=Hid.mk' hsub;clear hsub e1 hx hnk
       by_cases hneg:0≤x
       · have hY2:ni Y=lF Y 16:=by unfold ni;rw [if_pos (by rw [←Hx.out];exact hneg)]
         have HY2:=Hid.mk' hY2
         obtain ⟨V,hV⟩:∃ V,V=lF Y 16:=⟨_,rfl⟩
         have HV:=Hid.mk' hV;rw [←hV] at hR;have hi0:=a8 V;have hi2:=bH V;have ho:=eM V
         have hth:wr.there w.heap.size 0 (af 16 V).toArray.size:=by rw [an];exact hA.there
         have hRr:=hR.range
         have hst:ap (wr.setCells w.heap.size 0 (af 16 V).toArray.toList) w.heap.size 16 V:=by rw [List.toList_toArray];exact hA.stored
         have hbs:Below w.heap.size w (wr.setCells w.heap.size 0 (af 16 V).toArray.toList):=ac (JW _) _ _ _ hb
         have hss:w.heap.size<(wr.setCells w.heap.size 0 (af 16 V).toArray.toList).heap.size:=by rw [(aj _ _ _ _).2.2.2];omega
         obtain ⟨W9,hW9⟩:∃ W9,W9=wr.setCells w.heap.size 0 (af 16 V).toArray.toList:=⟨_,rfl⟩
         have HW9:=Hid.mk' hW9;rw [←hW9] at hst hbs hss;clear hY2 hV hW9 hR
         go_wp2_with (first
          | (refine J3 rfl 92 _ rfl D 0 rfl (af 16 V) _ hRr Tryz.underlying92 rfl hi0 ?_)
          | (refine J2 rfl 92 _ _ rfl w.heap.size 0 (af 16 V).toArray rfl rfl hth hi2 ho ?_;rw [←HW9.out]))
         go_roundw
         case rel =>
          refine ⟨k+1,by omega,by go_num,?_,hbs,hss⟩;rw [Hsub.out,HY2.out,←HV.out];exact hst
         case measure=>simp [intOf];omega
       · have hY2:ni Y=Y:=by unfold ni;rw [if_neg (by rw [←Hx.out];exact hneg)]
         have HY2:=Hid.mk' hY2
         have hneg':x<0:=by omega
         clear hY2;go_wp2;go_roundw
         case rel =>
          refine ⟨k+1,by omega,by go_num,?_,hb,by omega⟩;rw [Hsub.out,HY2.out];exact hA
         case measure=>simp [intOf];omega
  · have hke:k=2:=by omega
    subst hke;clear hz
    obtain ⟨Z,hZ⟩:∃ Z,Z=xP X 2:=⟨_,rfl⟩
    have HZ:=Hid.mk' hZ;rw [←hZ] at hA hcn;clear hZ;go_wp2;go_loopw [8,9] (fun v i wq=>∃ k:Nat,k≤16∧i = .int .i64 k∧bx (w.heap.size+1) wq v (2*k) (ix Z)∧ap wq w.heap.size 16 Z∧Below w.heap.size w wq∧w.heap.size<wq.heap.size) (fun _ i _=>16 - (intOf i).toNat)
    case atStart=>exact ⟨0,Nat.zero_le _,rfl,bx.nil _ _ _,hA,hb,hs⟩
    case round =>
     clear hA hb hs;obtain ⟨k,hk,rfl,own,hA,hb,hs⟩:=hrel
     by_cases hlk:k<16
     · obtain ⟨ra,fa⟩:=hA k hlk
       have hzb:=hcn k hlk
       have hS:∀ w':World,Below (w.heap.size+1) wr w'→∀ b o,b<w.heap.size+1→w'.cell? ⟨b,o,none⟩=wr.cell? ⟨b,o,none⟩:=fun w' h b o hb=>h.cell (p:=⟨b,o,none⟩) hb
       have hb0:Below (w.heap.size+1) wr wr.drew:=(Below.refl _ _).drew;have own0:bx (w.heap.size+1) wr.drew _ (2*k) (ix Z):=own.below (Below.refl _ _).drew;have hs0:w.heap.size+1≤wr.drew.heap.size:=hs
       have hki:(0:Int)≤(k:Int)∧(k:Int)<16:=by omega
       have y0:IntKind.u8.wrap (Z k)=((ix Z (2*k):Nat):Int):=by rw [IntKind.wrap_u8];unfold ix;rw [show 2*k%2=0 by omega,show 2*k / 2=k by omega,if_pos rfl];omega
       have y1:IntKind.u8.wrap (Z k / 256)=((ix Z (2*k+1):Nat):Int):=by rw [IntKind.wrap_u8];unfold ix;rw [show (2*k+1)%2=1 by omega,show (2*k+1) / 2=k by omega,if_neg (by decide)];omega
       have Hy0:=Hid.mk' y0;have Hy1:=Hid.mk' y1;clear y0 y1;go_wp2;go_region_held3 (fun w'=>Below (w.heap.size+1) wr w') (first | assumption | exact Below.alloc (by assumption) (by assumption) _) (first | (refine nh rfl (.tmp 67) (.tmp 79) rfl rfl (w.heap.size+1) _ (2*k) (ix Z) _ _ rfl own0 _ rfl rfl Hy0.out Hy1.out (by omega) hs0 ?_;intro v' w' hown1 hbx;have hbn:Below (w.heap.size+1) wr w':=hb0.trans hbx));go_wp2;go_roundw
       case rel =>
        have hsn:=hbn.size;have own2:bx (w.heap.size+1) w' v' (2*(k+1)) (ix Z):=hown1.start (by omega);have hA2:=hA.below hbn (by omega);have hb2:Below w.heap.size w w':=hb.trans (hbn.mono (by omega))
        first
         | exact ⟨k+1,by omega,by go_num,own2,hA2,hb2,by omega⟩
         | (repeat apply Exists.intro
            refine ⟨?_,rfl⟩
            exact ⟨k+1,by omega,by go_num,own2,hA2,hb2,by omega⟩)
       case measure=>simp [intOf];omega
     · have hke:k=16:=by omega
       subst hke;go_wp2;go_ret;rw [←HZ.out];exact ⟨_,rfl,iO own (by omega),hb⟩
def CK (L M T:Nat→Int) (i:Nat):Nat→Nat→Int
 | 0=>T
 | k+1=>ef (CK L M T i k) (i+k) (CK L M T i k (i+k)+L i*M k)
def tY (L M:Nat→Int):Nat→Nat→Int
 | 0=>fun _=>0
 | i+1=>CK L M (tY L M i) i 16
def tP (L M:Nat→Int) (i k:Nat):Nat→Int:=CK L M (tY L M i) i k
theorem lf (L M:Nat→Int) (i k:Nat):tP L M i (k+1)=ef (tP L M i k) (i+k) (tP L M i k (i+k)+L i*M k):=rfl
theorem su (L M:Nat→Int) (i:Nat):tP L M (i+1) 0=tP L M i 16:=by
 unfold tP;rw [show CK L M (tY L M (i+1)) (i+1) 0=tY L M (i+1) from rfl,tY]
theorem Ex (L M:Nat→Int) (j:Nat):tP L M 0 0 j=0:=rfl
theorem Du (L M:Nat→Int) (hL:∀ j,j<16→-131072≤L j∧L j≤131072) (hM:∀ j,j<16→-131072≤M j∧M j≤131072):∀ i k,i<16→k≤16→∀ j,-(17179869184*((16*i+k:Nat):Int))≤tP L M i k j∧tP L M i k j≤17179869184*((16*i+k:Nat):Int):=by
 have hp:∀ a b:Int,-131072≤a∧a≤131072→-131072≤b∧b≤131072→-17179869184≤a*b∧a*b≤17179869184:=by
  intro a b ha hb
  have h1:(a*b).natAbs≤131072*131072:=by rw [Int.natAbs_mul];exact Nat.mul_le_mul (by omega) (by omega)
  omega
 intro i
 induction i with
 | zero =>
  intro k
  induction k with
  | zero=>intro _ _ j;rw [Ex];omega
  | succ k ih =>
   intro h1 h2 j;have h3:=ih h1 (by omega);have h4:=hp (L 0) (M k) (hL 0 (by decide)) (hM k (by omega));have h5:=h3 (0+k);have h6:=h3 j;rw [lf];unfold ef
   split <;> omega
 | succ i ihi =>
  intro k
  induction k with
  | zero =>
   intro h1 _ j;have:=ihi 16 (by omega) (JW _) j;rw [su];omega
  | succ k ih =>
   intro h1 h2 j;have h3:=ih h1 (by omega);have h4:=hp (L (i+1)) (M k) (hL _ (by omega)) (hM k (by omega));have h5:=h3 (i+1+k);have h6:=h3 j;rw [lf];unfold ef
   split <;> omega
theorem nS (L:Nat→Int) (i:Nat) (v:Int):∀ n,i<n→aQ (ef L i v) n=aQ L n+(v - L i)*65536 ^ i
 | 0,h=>absurd h (Nat.not_lt_zero _)
 | n+1,h=>by
  rw [aQ,aQ]
  by_cases e:i=n
  · subst e
    rw [fQ i (L:=ef L i v) (M:=L) (fun j hj=>by unfold ef;rw [if_neg (by omega)])]
    have e1:ef L i v i=v:=by unfold ef;rw [if_pos rfl]
    rw [e1,Int.sub_mul];omega
  · rw [nS L i v n (by omega)]
    have e1:ef L i v n=L n:=by unfold ef;rw [if_neg (by omega)]
    rw [e1];omega
theorem Gn (L M:Nat→Int):∀ i k,i<16→k≤16→aQ (tP L M i k) 31=aQ L i*aQ M 16+L i*65536 ^ i*aQ M k:=by
 intro i
 induction i with
 | zero =>
  intro k
  induction k with
  | zero =>
   intro _ _
   have h0:aQ (tP L M 0 0) 31=0:=by kernel_rfl
   rw [h0];simp [aQ]
  | succ k ih =>
   intro h1 h2;rw [lf,nS _ _ _ _ (by omega),ih h1 (by omega),show ∀ a b:Int,a+b - a=b from fun a b=>by omega];show _=_+L 0*65536 ^ 0*(aQ M k+M k*65536 ^ k);rw [Int.mul_add,←Int.add_assoc,Nat.zero_add,Int.pow_zero,Int.mul_one,Int.mul_assoc]
 | succ i ihi =>
  intro k
  induction k with
  | zero =>
   intro h1 _;rw [su,ihi 16 (by omega) (JW _)];simp only [aQ,Int.mul_zero,Int.add_zero,Int.add_mul]
  | succ k ih =>
   intro h1 h2;rw [lf,nS _ _ _ _ (by omega),ih h1 (by omega),show ∀ a b:Int,a+b - a=b from fun a b=>by omega];show _=_+L (i+1)*65536 ^ (i+1)*(aQ M k+M k*65536 ^ k)
   have e:L (i+1)*M k*65536 ^ (i+1+k)=L (i+1)*65536 ^ (i+1)*(M k*65536 ^ k):=by
    rw [Int.pow_add];ac_rfl
   rw [e,Int.mul_add,←Int.add_assoc]
theorem Ci (L M:Nat→Int):aQ (tP L M 15 16) 31=aQ L 16*aQ M 16:=by
 rw [Gn L M 15 16 (by decide) (JW _),←Int.add_mul];rfl
def dh (t:Nat→Int) (k:Nat):Nat→Int:=fun j=>if j<k then (if j<15 then t j+38*t (j+16) else t j) else 0
theorem ow (t:Nat→Int) (a:Nat):∀ b,aQ t (a+b)=aQ t a+aQ (fun j=>t (j+a)) b*65536 ^ a
 | 0=>by simp [aQ]
 | b+1=>by
  rw [←Nat.add_assoc,aQ,ow t a b,aQ];rw [Int.add_mul,Int.add_assoc,Nat.add_comm b a];congr 2;rw [Int.pow_add];ac_rfl
theorem jb (t u:Nat→Int) (c:Int):∀ n,aQ (fun j=>t j+c*u j) n=aQ t n+c*aQ u n
 | 0=>by simp [aQ]
 | n+1=>by
  rw [aQ,aQ,aQ,jb t u c n,Int.mul_add,Int.add_mul,Int.mul_assoc];omega
theorem qQ (t:Nat→Int):aQ (dh t 16) 16=aQ t 31 - 2*(pF:Int)*aQ (fun j=>t (j+16)) 15:=by
 have h1:aQ (dh t 16) 16=aQ (dh t 16) 15+t 15*65536 ^ 15:=by rw [aQ];rfl
 have h2:aQ (dh t 16) 15=aQ (fun j=>t j+38*t (j+16)) 15:=fQ 15 (fun j hj=>by unfold dh;rw [if_pos (by omega),if_pos hj]);have h3:=jb t (fun j=>t (j+16)) 38 15;have h4:=ow t 16 15;have h5:aQ t 16=aQ t 15+t 15*65536 ^ 15:=rfl
 have e:(65536:Int) ^ 16=2*(pF:Int)+38:=by decide
 rw [e,Int.mul_add] at h4;rw [h1,h2,h3,h4,h5];generalize aQ (fun j=>t (j+16)) 15=H;rw [Int.mul_comm H,Int.mul_comm H 38];omega
def DC:Array Value:=Array.replicate 31 (.int .i64 0)
theorem DM (j:Nat) (h:j<31):DC[j]? = some (.int .i64 0):=by simp [DC,h]
theorem I1 (w:World):Sem.run Tryz.prog (zeroValue 202) w = .ok (.agg DC) w:=by kernel_rfl
theorem Gx (a b:Int) (ha:-131072≤a∧a≤131072) (hb:-131072≤b∧b≤131072):-17179869184≤a*b∧a*b≤17179869184:=by
 have h1:(a*b).natAbs≤131072*131072:=by rw [Int.natAbs_mul];exact Nat.mul_le_mul (by omega) (by omega)
 omega
set_option maxRecDepth 20000 in
set_option maxHeartbeats 4000000 in
theorem cZ (L M:Nat→Int) (hL:∀ j,j<16→-131072≤L j∧L j≤131072) (hM:∀ j,j<16→-131072≤M j∧M j≤131072) (w:World) :
 Calls Tryz.prog 120 #[bZ L,bZ M] w fun e w'=>e = .returned (bZ (aq (aq (dh (tP L M 15 16) 16))))∧Below w.heap.size w w':=by
 have hz:=dC;have hz2:=I1
 obtain ⟨W,hW⟩:∃ W,W=(((w.alloc (.cells (af 16 L).toArray 92)).alloc (.cells (af 16 M).toArray 92)).alloc (.cells zI 92)).alloc (.cells DC 202):=⟨_,rfl⟩
 have HW:=Hid.mk' hW
 have hWs:W.heap.size=w.heap.size+1+1+1+1:=by rw [hW];simp
 have hbW:Below w.heap.size w W:=by rw [hW];exact ((((Below.refl _ _).alloc (JW _) _).alloc (by simp) _).alloc (by simp;omega) _).alloc (by simp;omega) _
 have hA:ap W w.heap.size 16 L:=by rw [hW];exact (((ap.box w 16 L _).below ((Below.refl _ _).alloc (JW _) _) (by simp)).below ((Below.refl _ _).alloc (JW _) _) (by simp;omega)).below ((Below.refl _ _).alloc (JW _) _) (by simp;omega)
 have hB:ap W (w.heap.size+1) 16 M:=by
  have h1:=ap.box (w.alloc (.cells (af 16 L).toArray 92)) 16 M 92;rw [World.size_alloc] at h1;rw [hW];exact (h1.below ((Below.refl _ _).alloc (JW _) _) (by simp)).below ((Below.refl _ _).alloc (JW _) _) (by simp only [World.size_alloc];omega)
 have hC:ap W (w.heap.size+1+1) 16 (fun _=>0):=by
  have h1:=ap.fresh ((w.alloc (.cells (af 16 L).toArray 92)).alloc (.cells (af 16 M).toArray 92)) zI 92 (n:=16) (L:=fun _=>0) (fun j hj=>dS j hj);rw [World.size_alloc,World.size_alloc] at h1;rw [hW];exact h1.below ((Below.refl _ _).alloc (JW _) _) (by simp)
 have hT:ap W (w.heap.size+1+1+1) 31 (tP L M 0 0):=by
  have h1:=ap.fresh (((w.alloc (.cells (af 16 L).toArray 92)).alloc (.cells (af 16 M).toArray 92)).alloc (.cells zI 92)) DC 202 (n:=31) (L:=fun _=>0) (fun j hj=>DM j hj);rw [World.size_alloc,World.size_alloc,World.size_alloc] at h1;rw [hW];exact h1
 have hbd:=Du L M hL hM
 have hTb:∀ j,-4398046511104≤tP L M 15 16 j∧tP L M 15 16 j≤4398046511104:=fun j=>by have:=hbd 15 16 (by decide) (JW _) j;omega
 have hn15:=su L M 15
 obtain ⟨T,hTe⟩:∃ T,T=tP L M 15 16:=⟨_,rfl⟩
 rw [←hTe] at hTb hn15 ⊢
 have hFb2:∀ j,j<16→-171523813933056≤dh T 16 j∧dh T 16 j≤171523813933056:=fun j hj=>by
  have h1:=hTb j;have h2:=hTb (j+16);unfold dh;rw [if_pos hj]
  split <;> omega
 have hd:=eL (dh T 16) 171523813933056 (by decide) hFb2
 have c1:=fun W=>dK (dh T 16) (fun j hj=>by have:=hFb2 j hj;omega) W
 have c2:=fun W=>dK (aq (dh T 16)) (fun j hj=>by have:=hd.all (by decide) j hj;omega) W
 obtain ⟨X,hX⟩:∃ X,X=dh T 16:=⟨_,rfl⟩
 rw [←hX] at c1 c2 ⊢
 obtain ⟨Y,hY⟩:∃ Y,Y=aq X:=⟨_,rfl⟩
 rw [←hY] at c1 c2 ⊢
 obtain ⟨Z,hZ⟩:∃ Z,Z=aq Y:=⟨_,rfl⟩
 rw [←hZ] at c2 ⊢;have HX:=Hid.mk' hX;unfold bZ;clear hW hTe hX hY hZ hFb2 hd;go_enter Tryz.func120,Tryz.ntmps120;go_wp2;rw [←HW.out];go_loopw [6] (fun i wr=>∃ k:Nat,k≤16∧i = .int .i64 k∧ap wr (w.heap.size+1+1+1) 31 (tP L M k 0)∧ap wr w.heap.size 16 L∧ap wr (w.heap.size+1) 16 M∧ap wr (w.heap.size+1+1) 16 (fun _=>0)∧Below w.heap.size w wr∧w.heap.size+1+1+1<wr.heap.size) (fun i _=>16 - (intOf i).toNat)
 case atStart=>exact ⟨0,Nat.zero_le _,rfl,hT,hA,hB,hC,hbW,by omega⟩
 case round =>
  clear hA hB hC hT hbW;obtain ⟨p,hp,rfl,hT,hA,hB,hC,hb,hsz⟩:=hrel
  by_cases hlt:p<16
  · have hplt:(p:Int)<16:=by omega
    clear hz hz2;go_wp2;go_loopw [7] (fun i wq=>∃ k:Nat,k≤16∧i = .int .i64 k∧ap wq (w.heap.size+1+1+1) 31 (tP L M p k)∧ap wq w.heap.size 16 L∧ap wq (w.heap.size+1) 16 M∧ap wq (w.heap.size+1+1) 16 (fun _=>0)∧Below w.heap.size w wq∧w.heap.size+1+1+1<wq.heap.size) (fun i _=>16 - (intOf i).toNat)
    case atStart=>exact ⟨0,Nat.zero_le _,rfl,hT,hA,hB,hC,hb,hsz⟩
    case round =>
     clear hA hB hC hT hb hsz;obtain ⟨k,hk,rfl,hT,hA,hB,hC,hb,hsz⟩:=hrel
     by_cases hlk:k<16
     · obtain ⟨ra,fa⟩:=hA p hlt
       obtain ⟨rb,fb⟩:=hB k hlk;obtain ⟨rt,ft⟩:=hT (p+k) (by omega);have b1:=Gx _ _ (hL p hlt) (hM k hlk);have b2:=hbd p k hlt hk (p+k)
       have b3:-4398046511104≤tP L M p k (p+k)∧tP L M p k (p+k)≤4398046511104:=by omega
       have q1:((p:Int)+(k:Int)).toNat=p+k:=by omega
       have q2:(0:Int)≤(p:Int)+(k:Int)∧(p:Int)+(k:Int)<31:=by omega
       obtain ⟨x,hx⟩:∃ x,x=tP L M p k (p+k):=⟨_,rfl⟩
       obtain ⟨a,ha⟩:∃ a,a=L p:=⟨_,rfl⟩
       obtain ⟨b,hbb⟩:∃ b,b=M k:=⟨_,rfl⟩
       have Hx:=Hid.mk' hx;have Ha:=Hid.mk' ha;have Hb:=Hid.mk' hbb;rw [←hx] at rt b3;rw [←ha] at ra b1;rw [←hbb] at rb b1;clear hx ha hbb b2 hbd hL hM hn15 c1 c2 hTb;go_wp2;go_region;go_wp2;go_roundw
       case rel =>
        refine ⟨k+1,by omega,by go_num,?_,(hA.far (by show w.heap.size+1+1+1≠w.heap.size;omega) _).drew,(hB.far (by show w.heap.size+1+1+1≠w.heap.size+1;omega) _).drew,(hC.far (by show w.heap.size+1+1+1≠w.heap.size+1+1;omega) _).drew,(hb.setCell (by show w.heap.size≤w.heap.size+1+1+1;omega) _).drew,by simpa using hsz⟩;have h1:=(hT.set (i:=p+k) (by omega) (x+a*b)).drew;rw [lf,←Hx.out,←Ha.out,←Hb.out];exact h1
       case measure=>simp [intOf];omega
     · have hke:k=16:=by omega
       subst hke;go_wp2;go_roundw
       case rel=>exact ⟨p+1,by omega,by go_num,hT,hA,hB,hC,hb,hsz⟩
       case measure=>simp [intOf];omega
  · have hpe:p=16:=by omega
    subst hpe;rw [hn15] at hT;have hr0:ap (wr.alloc (.cells zI 92)) wr.heap.size 16 (dh T 0):=(ap.fresh wr zI _ (n:=16) (L:=fun _=>0) (fun j hj=>dS j hj)).congr (fun j _=>by unfold dh;rw [if_neg (Nat.not_lt_zero j)]);have hbA:Below wr.heap.size wr (wr.alloc (.cells zI 92)):=(Below.refl _ _).alloc (JW _) _;have hT0:=hT.below hbA hsz;have hC0:=hC.below hbA (by omega);have hb0:Below w.heap.size w (wr.alloc (.cells zI 92)):=hb.alloc hb.size _
    have hs0:wr.heap.size<(wr.alloc (.cells zI 92)).heap.size:=by simp
    obtain ⟨N,hN⟩:∃ N,N=wr.heap.size:=⟨_,rfl⟩
    rw [←hN] at hr0 hs0
    have hNs:w.heap.size+1+1+1<N:=by omega
    have HN:=Hid.mk' hN;clear hT hC hA hB hbA hL hM hbd hb hn15;go_wp2;rw [←HN.out];clear hN;go_loopw [9] (fun i wq=>∃ k:Nat,k≤16∧i = .int .i64 k∧ap wq N 16 (dh T k)∧ap wq (w.heap.size+1+1+1) 31 T∧ap wq (w.heap.size+1+1) 16 (fun _=>0)∧Below w.heap.size w wq∧N<wq.heap.size) (fun i _=>16 - (intOf i).toNat)
    case atStart=>exact ⟨0,Nat.zero_le _,rfl,hr0,hT0,hC0,hb0,hs0⟩
    case round =>
     clear hr0 hT0 hC0 hb0 hs0 hz hz2;obtain ⟨k,hk,rfl,hR,hT,hC,hb,hs⟩:=hrel
     by_cases hlk:k<16
     · obtain ⟨rr,fr⟩:=hR k hlk
       obtain ⟨rt,ft⟩:=hT k (by omega)
       have e:dh T k k=0:=by unfold dh;rw [if_neg (Nat.lt_irrefl _)]
       rw [e] at rr;have b1:=hTb k
       by_cases h15:k<15
       · obtain ⟨ru,fu⟩:=hT (k+16) (by omega)
         have b2:=hTb (k+16)
         have q1:((k:Int)+16).toNat=k+16:=by omega
         have q2:(0:Int)≤(k:Int)+16∧(k:Int)+16<31:=by omega
         have hne:¬N=w.heap.size+1+1+1:=by omega
         have hne2:¬w.heap.size+1+1+1=N:=by omega
         clear hTb e c1 c2;go_wp2;go_region;go_wp2;go_roundw
         case rel =>
          refine ⟨k+1,by omega,by go_num,?_,((hT.far (by show N≠_;omega) _).far (by show N≠_;omega) _).drew,((hC.far (by show N≠_;omega) _).far (by show N≠_;omega) _).drew,((hb.setCell (by show _≤N;omega) _).setCell (by show _≤N;omega) _).drew,by simpa using hs⟩;have h1:=((hR.set (i:=k) hlk (T k)).set (i:=k) hlk (T k+38*T (k+16))).drew;refine h1.congr (fun j hj => ?_);unfold ef dh
          by_cases e1:j=k
          · subst e1;rw [if_pos rfl,if_pos (by omega),if_pos h15]
          · rw [if_neg e1,if_neg e1]
            by_cases e2:j<k
            · rw [if_pos e2,if_pos (show j<k+1 by omega)]
            · rw [if_neg e2,if_neg (show ¬j<k+1 by omega)]
         case measure=>simp [intOf];omega
       · have hke:k=15:=by omega
         subst hke;clear hTb e c1 c2;go_wp2;go_roundw
         case rel =>
          refine ⟨16,by omega,by go_num,?_,hT.far (by show N≠_;omega) _,hC.far (by show N≠_;omega) _,hb.setCell (by show _≤N;omega) _,by simpa using hs⟩;have h1:=hR.set (i:=15) hlk (T 15);refine h1.congr (fun j hj => ?_);unfold ef dh
          by_cases e1:j=15
          · subst e1;rw [if_pos rfl,if_pos (by omega),if_neg (by omega)]
          · rw [if_neg e1,if_pos (by omega),if_pos (by omega),if_pos (by omega)]
         case measure=>simp [intOf]
     · have hke:k=16:=by omega
       subst hke;rw [←HX.out] at hR;clear hTb hT;have hi1:=a8 X;have hj1:=a8 Z;have hi2:=bH Z;have ho:=eM Z
       have c1':Calls Tryz.prog 178 #[.agg (af 16 X).toArray] wr fun e w'=>e = .returned (.agg (af 16 Y).toArray)∧Below wr.heap.size wr w':=c1 wr
       have c2':∀ W,Calls Tryz.prog 178 #[.agg (af 16 Y).toArray] W fun e w'=>e = .returned (.agg (af 16 Z).toArray)∧Below W.heap.size W w':=c2
       clear c1 c2
       go_wp2_with (first
        | (refine J3 rfl 92 _ rfl N 0 rfl (af 16 X) _ hR.range Tryz.underlying92 rfl hi1 ?_)
        | (go_at_call 178;refine c1'.mono ?_;clear c1';rintro e w1 ⟨rfl,hb1⟩)
        | (go_at_call 178;refine (c2' _).mono ?_;clear c2';rintro e w2 ⟨rfl,hb2⟩;(have hb12:Below wr.heap.size wr w2:=hb1.trans (hb2.mono hb1.size));(have hC1:=hC.below hb12 (by omega));(have hth:w2.there (w.heap.size+1+1) 0 (af 16 Z).toArray.size:=by rw [an];exact hC1.there);(have hbw1:Below w.heap.size w w2:=hb.trans (hb12.mono hb.size)))
        | (refine J2 rfl 92 _ _ rfl (w.heap.size+1+1) 0 (af 16 Z).toArray rfl rfl hth hi2 ho ?_))
       (try simp only [Exit.inBlock,Exit.then]);refine bodyPost_ret (ai Tryz.results120 _ _ (w.heap.size+1+1) 0 (af 16 Z) _ rfl (World.rangeAt_setCells_same _ _ _ _ (by rw [bl];exact hC1.there)) Tryz.underlying92 rfl hj1) rfl ⟨rfl,?_⟩;exact ac (by omega) _ _ _ hbw1
theorem zL (L:Nat→Int) (hL:tI 9007199254740992 L) (j:Nat) (hj:j<32):ix (n6 L) j=bf (aQ L 16%(pF:Int)).toNat j:=by
 obtain ⟨-,hn,hv⟩:=ul L hL
 have h1:aQ (n6 L) 16=((aK (fun j=>if j<32 then ix (n6 L) j else 0) 32:Nat):Int):=by
  rw [←lX _ 16];refine fQ 16 (fun i hi => ?_);rw [←xH hn i hi];unfold dw;show _=(((if 2*i<32 then ix (n6 L) (2*i) else 0:Nat):Int)+((if 2*i+1<32 then ix (n6 L) (2*i+1) else 0:Nat):Int)*256);rw [if_pos (show 2*i<32 by omega),if_pos (show 2*i+1<32 by omega)]
 rw [←hv,h1,Int.toNat_natCast,fD _ (fun j=>by
  show (if j<32 then ix (n6 L) j else 0)<256
  by_cases e:j<32
  · rw [if_pos e];exact D7 hn j e
  · rw [if_neg e];decide) 32 j hj,if_pos hj]
theorem tI.mono {R S:Int} {L:Nat→Int} (h:tI R L) (hRS:R≤S):tI S L:=⟨by have:=h.low;omega,h.dig⟩
theorem CZ (bs:Nat→Nat) (hb:∀ j,bs j<256):tI 65535 (dw bs):=⟨by have:=rD bs hb 0;omega,fun j _ _=>rD bs hb j⟩
theorem og (L:Nat→Int) (hL:tI 9007199254740992 L) (n:Nat) (hn:aQ L 16%(pF:Int)=((n%pF:Nat):Int)) (w:World) :
 Calls Tryz.prog 118 #[bZ L] w fun e w'=>∃ v,e = .returned v∧bx w.heap.size w' v 32 (bf (n%pF))∧Below w.heap.size w w' :=
 (xz L hL w).mono fun e w' ⟨v,he,ho,hb⟩=>⟨v,he,ho.congr (fun j hj=>by rw [zL L hL j hj,hn,Int.toNat_natCast]),hb⟩
theorem dI (a:Nat):((a:Int)%(pF:Int))=((a%pF:Nat):Int):=(Int.natCast_emod a pF).symm
end Go.Proofs.YtibdhadbflfdpaaGreatDoor
