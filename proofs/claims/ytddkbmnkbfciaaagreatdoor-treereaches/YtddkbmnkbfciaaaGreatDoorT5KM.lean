/- What the proof stands on: T5K, T5N, T5P, T5S, T5U. -/
import Derived.Test.YtddkbmnkbfciaaaGreatDoorD1CEM
import Derived.Test.YtddkbmnkbfciaaaGreatDoorEqNM
import Derived.Test.YtddkbmnkbfciaaaGreatDoorHRefWordsM
import Derived.Test.YtddkbmnkbfciaaaGreatDoorN3HM
import Derived.Test.YtddkbmnkbfciaaaGreatDoorT4MM
import Derived.Test.YtddkbmnkbfciaaaGreatDoorT4SM
import Derived.Test.YtddkbmnkbfciaaaGreatDoorT4ZM
import Derived.Test.YtddkbmnkbfciaaaGreatDoorT5EM
import Derived.Test.YtddkbmnkbfciaaaGreatDoorT5RM
namespace Go.Proofs.YtddkbmnkbfciaaaGreatDoor
open Go.RowKit
def s256 (n:Nat) (b:Nat→Nat):Nat→Nat:=outB 32 (specS rn cubeK squareK n b)
theorem s256_lt (n:Nat) (b:Nat→Nat) (j:Nat):s256 n b j<256:=Nat.mod_lt _ (by decide)
theorem sum4_any (v:Value) (n:Nat) (bs:Nat→Nat) (hbs:∀ j,bs j<256) (w:World) (hT:HTab w cubeK squareK) (hv:BytesIn w v n bs) (hn:n<2305843009213693952) :
 Calls Tryz.prog 134 #[v] w fun e w'=>∃ g,e = .returned (.slice (some ⟨g,0,none⟩) 32 32)∧w.heap.size≤g∧RowAt .u8 w' g 0 32 (s256 n bs)∧Below w.heap.size w w':=by
 have h:=Sum256_any cubeK squareK v n bs hbs w hT hv hn
 rw [hashS_spec cubeK squareK n bs (by decide)] at h
 exact h
def w2B (A B:Nat→Nat):Nat→Nat:=vsB (fun _=>32) (fun i=>if i=0 then A else B) 2
def hashLf (x:Int) (P:Tx):Nat→Nat:=s256 (1+(4+P.n)) (cat 1 (fun _=>1) (cat 4 (beN (x.toNat / 2) 4) P.b))
def hashPr (P:Tx) (A B:Nat→Nat):Nat→Nat:=s256 (1+(P.n+66)) (cat 1 (fun _=>2) (cat P.n P.b (w2B A B)))
def hsF (F:Int→Option Nd):Nat→Int→Nat→Nat
 | 0,_=>fun _=>0
 | f+1,x=>if innB x then hashPr (ndT (F x)) (hsF F f (lftN x.toNat)) (hsF F f (rgtN x.toNat)) else hashLf x (ndT (F x))
theorem hsF_lt (F:Int→Option Nd) (f:Nat) (x:Int) (j:Nat):hsF F f x j<256:=by
 cases f with
 | zero=>show 0<256;decide
 | succ f =>
  unfold hsF
  split
  · exact s256_lt _ _ _
  · exact s256_lt _ _ _
theorem w2B_lt {A B:Nat→Nat} (hA:∀ j,A j<256) (hB:∀ j,B j<256) (j:Nat):w2B A B j<256 :=
 allB_lt (pb:=fun i=>vcB 32 (if i=0 then A else B)) (fun i j=>vcB_lt4 (fun j=>by split;exact hA j;exact hB j) j) 2 j
theorem parts_three (w:World) (v u s:Value) (n m k:Nat) (t1 t2 t3:Nat→Nat) (ty:TypeId) (h1:BytesIn w v n t1) (h2:BytesIn w u m t2) (h3:BytesIn w s k t3):Parts (w.alloc (.cells #[v,u,s] ty)) w.heap.size 3 (n+(m+k)) (cat n t1 (cat m t2 t3)):=by
 have b:=(Below.refl _ w).alloc (Nat.le_refl _) (.cells #[v,u,s] ty)
 refine ⟨fun i=>if i=0 then v else if i=1 then u else s,fun i=>if i=0 then 0 else if i=1 then n else if i=2 then n+m else n+(m+k),rfl,rfl,fun i hi => ?_⟩
 rcases (show i=0∨i=1∨i=2 by omega) with rfl | rfl | rfl
 · refine ⟨by simp,Nat.zero_le _,by show n≤_;omega,?_⟩
   show BytesIn _ v (n - 0) (fun j=>cat n t1 (cat m t2 t3) (0+j))
   rw [Nat.sub_zero]
   exact (h1.keep b).cong fun j hj=>by rw [Nat.zero_add,cat_left hj]
 · refine ⟨by simp,by show n≤n+m;omega,by show n+m≤_;omega,?_⟩
   show BytesIn _ u (n+m - n) (fun j=>cat n t1 (cat m t2 t3) (n+j))
   rw [Nat.add_sub_cancel_left]
   exact (h2.keep b).cong fun j hj=>by rw [cat_right,cat_left hj]
 · refine ⟨by simp,by show n+m≤n+(m+k);omega,Nat.le_refl _,?_⟩
   show BytesIn _ s (n+(m+k) - (n+m)) (fun j=>cat n t1 (cat m t2 t3) (n+m+j))
   rw [show n+(m+k) - (n+m)=k by omega]
   exact (h3.keep b).cong fun j hj=>by rw [Nat.add_assoc,cat_right,cat_right]
theorem pieces_two4 (w:World) (v u:Value) (A B:Nat→Nat) (ty:TypeId) (h1:BytesIn w v 32 A) (h2:BytesIn w u 32 B) (hA:∀ j,A j<256) (hB:∀ j,B j<256):PiecesIn (w.alloc (.cells #[v,u] ty)) (some ⟨w.heap.size,0,none⟩) 2 (fun i=>if i=0 then v else u) (fun _=>32) (fun i=>if i=0 then A else B):=by
 have b0:=(Below.refl _ w).alloc (Nat.le_refl _) (.cells #[v,u] ty)
 refine ⟨fun q _=>⟨w.heap.size,0,rfl,fun i hi => ?_⟩,fun i hi => ?_,fun i j=>by split;exact hA j;exact hB j⟩
 · rcases (show i=0∨i=1 by omega) with rfl | rfl
   · simp
   · simp
 · rcases (show i=0∨i=1 by omega) with rfl | rfl
   · exact h1.keep b0
   · exact h2.keep b0
theorem vecs2_any (w:World) (v u:Value) (A B:Nat→Nat) (h1:BytesIn w v 32 A) (h2:BytesIn w u 32 B) (hA:∀ j,A j<256) (hB:∀ j,B j<256) :
 Calls Tryz.prog 136 #[.slice (some ⟨w.heap.size,0,none⟩) 2 2] (w.alloc (.cells #[v,u] 29)) fun e w'=>∃ s,e = .returned (.tuple #[s,.int .i64 0])∧BytesIn w' s 66 (w2B A B)∧Below (w.alloc (.cells #[v,u] 29)).heap.size (w.alloc (.cells #[v,u] 29)) w':=by
 refine (cVecs_any (some ⟨w.heap.size,0,none⟩) 2 2 _ (fun _=>32) _ (by decide) (by decide) _ (pieces_two4 w v u A B 29 h1 h2 hA hB)).mono ?_
 rintro e w' ⟨h | ⟨-,s,rfl,own⟩,hb⟩
 · exact absurd h.1 (by decide)
 · exact ⟨s,rfl,own.bytes4,hb⟩
theorem row32 {w:World} {g:Nat} {X:Nat→Nat} (h:RowAt .u8 w g 0 32 X):BytesIn w (.slice (some ⟨g,0,none⟩) 32 32) 32 X := .inr ⟨g,0,32,rfl,block_lt_of_cell (h 0 (by decide)).1,Nat.le_refl _,fun j hj=>(h j hj).1⟩
theorem TrAt.look {ok:Nat→Prop} {w:World} {tb mb:Nat} {T:Tr} (h:TrAt ok w tb mb T) (x:Int):∃ V,((T.nd x=none∧V = .nilIface)∨∃ d,T.nd x=some d∧NdO ok w V d)∧∀ W,Below w.heap.size w W→(Instr.lookup 69 (.map (some mb)) (.int .i64 x) false).run Tryz.prog W = .ok V W:=by
 obtain ⟨f,hf,hd⟩:=h.mp
 refine ⟨(f x).getD .nilIface,?_,fun W hb=>look_any (hf.same (hb.block _ h.mlt)) x⟩
 rcases hd.look x with ⟨e1,e2⟩ | ⟨d,v,e1,e2,h3⟩
 · exact .inl ⟨e1,by rw [e2];rfl⟩
 · exact .inr ⟨d,e1,by rw [e2];exact h3⟩
theorem NdOr.keep {ok:Nat→Prop} {w w':World} {o:Option Nd} {V:Value} (h:(o=none∧V = .nilIface)∨∃ d,o=some d∧NdO ok w V d) (hb:Below w.heap.size w w'):(o=none∧V = .nilIface)∨∃ d,o=some d∧NdO ok w' V d :=
 h.imp id fun ⟨d,h1,h2⟩=>⟨d,h1,h2.same hb.size (fun b hl _=>hb.block b hl)⟩
set_option maxRecDepth 20000 in
set_option maxHeartbeats 2000000 in
theorem hashAt_any (ok:Nat→Prop) (tb mb:Nat) (T:Tr) (hR:∀ x d,T.nd x=some d→ndR d):∀ (f:Nat) (x:Int),f≤7→0≤x→x<127→levN x.toNat<f→∀ w:World,DbT w→HTab w cubeK squareK→TrAt ok w tb mb T →
 Calls Tryz.prog 62 #[pA tb 0,.int .i64 x] w fun e w'=>∃ g,e = .returned (.slice (some ⟨g,0,none⟩) 32 32)∧w.heap.size≤g∧RowAt .u8 w' g 0 32 (hsF T.nd f x)∧Below w.heap.size w w':=by
 intro f
 induction f with
 | zero=>intro x _ _ _ h;omega
 | succ f ih =>
  intro x hf hx0 hx1 hlev w hT hH h
  obtain ⟨V,hV,hlk⟩:=h.look x
  have hst:=h.st
  have hn:=ndT_le (hR x)
  have hlt:=ndT_lt (hR x)
  have cL:=iLeft_any x w hT
  have cO:=fun W (hb:Below w.heap.size w W)=>orBlank_any (T.nd x) V W (hR x) (NdOr.keep hV hb)
  by_cases hin:innB x=true
  · obtain ⟨-,-,l1,l2,l3,l4⟩:=innB_parts hin
    have er:hsF T.nd (f+1) x=hashPr (ndT (T.nd x)) (hsF T.nd f (lftN x.toNat)) (hsF T.nd f (rgtN x.toNat)):=by rw [hsF,if_pos hin]
    have cA:=fun W hW1 hW2 hW3=>ih (lftN x.toNat) (by omega) (by omega) (by omega) (by rw [Int.toNat_natCast];omega) W hW1 hW2 hW3
    have cB:=fun W hW1 hW2 hW3=>ih (rgtN x.toNat) (by omega) (by omega) (by omega) (by rw [Int.toNat_natCast];omega) W hW1 hW2 hW3
    have cR:=fun W hW=>iRight_any x W hW
    have ea:lftA x=((lftN x.toNat:Int),true):=by unfold lftA;rw [if_pos hin]
    have eb:rgtA x=((rgtN x.toNat:Int),true):=by unfold rgtA;rw [if_pos hin]
    have lA:=hsF_lt T.nd f (lftN x.toNat)
    have lB:=hsF_lt T.nd f (rgtN x.toNat)
    rw [ea] at cL
    rw [eb] at cR
    rw [er]
    unfold hashPr
    generalize ndT (T.nd x)=P at *
    generalize hsF T.nd f (lftN x.toNat)=A at *
    generalize hsF T.nd f (rgtN x.toNat)=B at *
    generalize lftN x.toNat=a at *
    generalize rgtN x.toNat=b at *
    have HT:=Hid.mk' hT
    have HH:=Hid.mk' hH
    have Hh:=Hid.mk' h
    have Hlk:=Hid.mk' hlk
    have HO:=Hid.mk' cO
    clear ih hV h hT hH ea eb er hin hlk cO hlev hR hf hx0 hx1 l1 l2 l3 l4 hst
    go_enter Tryz.func62,Tryz.ntmps62
    go_wp2_with (first
     | (go_at_call 44;refine cL.mono ?_;clear cL;rintro e w1 ⟨rfl,b1⟩)
     | (go_at_call 45;refine (cR w1 (HT.out.keep b1)).mono ?_;clear cR;rintro e w2 ⟨rfl,hb2⟩;(have b2:=below_next b1 hb2))
     | (go_at_call 62;refine (cA w2 (HT.out.keep b2) (HH.out.below b2 HH.out.size) (Hh.out.below b2)).mono ?_;clear cA;rintro e w3 ⟨g3,rfl,hg3,r3,hb3⟩;(have b3:=below_next b2 hb3))
     | (go_at_call 62;refine (cB w3 (HT.out.keep b3) (HH.out.below b3 HH.out.size) (Hh.out.below b3)).mono ?_;clear cB;rintro e w4 ⟨g4,rfl,hg4,r4,hb4⟩;(have b4:=below_next b3 hb4);(have B3:=(row32 r3).keep hb4);(have B4:=row32 r4);(have cV:=vecs2_any w4 _ _ A B B3 B4 lA lB);(have b4a:=b4.alloc b4.size (.cells #[.slice (some ⟨g3,0,none⟩) 32 32,.slice (some ⟨g4,0,none⟩) 32 32] 29));clear B3 B4 r3 r4)
     | (go_at_call 136;refine cV.mono ?_;clear cV;rintro e w5 ⟨s5,rfl,B5,hb5⟩;(obtain ⟨x5,c5,hs5,-,-,-⟩:=B5.src);subst hs5;(have b5:=below_next b4a hb5);(have ba:=b5.alloc b5.size (.cells #[.int .u8 2] 5));(have hst2:=(Hh.out.below ba).st);(have hlk2:=Hlk.out _ ba);(have cO2:=HO.out _ ba);(have B1:=(own_one w5.heap.size w5 2 (Nat.le_refl _)).bytes4);clear Hlk HO)
     | (go_at_call 135;refine cO2.mono ?_;clear cO2;rintro e w6 ⟨s6,rfl,B6,hb6⟩;(obtain ⟨x6,c6,hs6,-,-,-⟩:=B6.src);subst hs6;(have b6:=below_next ba hb6);(have hP:=parts_three w6 _ _ _ 1 P.n 66 (fun _=>2) P.b (w2B A B) 29 (B1.keep hb6) B6 ((B5.keep ((Below.refl _ _).alloc (Nat.le_refl _) _)).keep hb6));(have b6a:=b6.alloc b6.size (.cells #[.slice (some ⟨w5.heap.size,0,none⟩) 1 1,.slice x6 P.n c6,.slice x5 66 c5] 29));(have cC:=concat_parts w6.heap.size 3 _ _ _ hP (by decide) (by omega) (by omega));clear hP B6 B5 B1)
     | (go_at_call 130;refine cC.mono ?_;clear cC;rintro e w7 ⟨s7,rfl,o7,hb7⟩;(have b7:=below_next b6a hb7);(have cS:=sum4_any s7 (1+(P.n+66)) _ (cat_lt (fun _=>(by decide:2<256)) (cat_lt hlt (w2B_lt lA lB))) w7 (HH.out.below b7 HH.out.size) o7.bytes4 (by omega)))
     | (go_at_call 134;refine cS.mono ?_;clear cS;rintro e w8 ⟨g8,rfl,hg8,r8,hb8⟩))
    go_ret
    exact ⟨g8,rfl,Nat.le_trans b7.size hg8,r8,below_next b7 hb8⟩
  · have ea:lftA x=(-1,false):=by unfold lftA;rw [if_neg hin]
    have er:hsF T.nd (f+1) x=hashLf x (ndT (T.nd x)):=by rw [hsF,if_neg hin]
    rw [ea] at cL
    rw [er]
    unfold hashLf
    generalize ndT (T.nd x)=P at *
    obtain ⟨q,hq⟩:∃ q:Nat,q=x.toNat / 2:=⟨_,rfl⟩
    rw [←hq]
    have hx2:(x.tdiv 2:Int)=(q:Int):=by rw [Int.tdiv_eq_ediv_of_nonneg hx0];omega
    have cN:∀ W,Calls Tryz.prog 133 #[.int .i64 (q:Int),.int .i64 4] W fun e w'=>∃ v,e = .returned (.tuple #[v,.int .i64 0])∧BytesIn w' v 4 (beN q 4)∧Below W.heap.size W w':=fun W=>cNum11_good q 4 (by decide) (by show q<4294967296;omega) W
    have hwq:wrap64 (q:Int)=(q:Int):=by unfold wrap64;omega
    have HH:=Hid.mk' hH
    have Hh:=Hid.mk' h
    have Hlk:=Hid.mk' hlk
    have HO:=Hid.mk' cO
    clear ih hV h hT hH ea er hin hlk cO hlev hR hq hf hx0 hx1
    go_enter Tryz.func62,Tryz.ntmps62
    go_wp2_with (first
     | (go_at_call 44;refine cL.mono ?_;clear cL;rintro e w1 ⟨rfl,b1⟩)
     | (go_at_call 133;with_reducible refine (cN w1).mono ?_;clear cN;rintro e w2 ⟨s2,rfl,B2,hb2⟩;(obtain ⟨x2,c2,hs2,-,-,-⟩:=B2.src);subst hs2;(have b2:=below_next b1 hb2);(have ba:=b2.alloc b2.size (.cells #[.int .u8 1] 5));(have hst2:=(Hh.out.below ba).st);(have hlk2:=Hlk.out _ ba);(have cO2:=HO.out _ ba);(have B1:=(own_one w2.heap.size w2 1 (Nat.le_refl _)).bytes4);clear hst Hlk HO)
     | (go_at_call 135;refine cO2.mono ?_;clear cO2;rintro e w3 ⟨s3,rfl,B3,hb3⟩;(obtain ⟨x3,c3,hs3,-,-,-⟩:=B3.src);subst hs3;(have b3:=below_next ba hb3);(have hP:=parts_three w3 _ _ _ 1 4 P.n (fun _=>1) (beN q 4) P.b 29 (B1.keep hb3) ((B2.keep ((Below.refl _ _).alloc (Nat.le_refl _) _)).keep hb3) B3);(have b3a:=b3.alloc b3.size (.cells #[.slice (some ⟨w2.heap.size,0,none⟩) 1 1,.slice x2 4 c2,.slice x3 P.n c3] 29));(have cC:=concat_parts w3.heap.size 3 _ _ _ hP (by decide) (by omega) (by omega));clear hP B3 B2 B1)
     | (go_at_call 130;refine cC.mono ?_;clear cC;rintro e w4 ⟨s4,rfl,o4,hb4⟩;(have b4:=below_next b3a hb4);(have cS:=sum4_any s4 (1+(4+P.n)) _ (cat_lt (fun _=>(by decide:1<256)) (cat_lt (fun j=>beN_lt _ _ j) hlt)) w4 (HH.out.below b4 HH.out.size) o4.bytes4 (by omega)))
     | (go_at_call 134;refine cS.mono ?_;clear cS;rintro e w5 ⟨g5,rfl,hg5,r5,hb5⟩))
    go_ret
    exact ⟨g5,rfl,Nat.le_trans b4.size hg5,r5,below_next b4 hb5⟩
end Go.Proofs.YtddkbmnkbfciaaaGreatDoor
namespace Go.Proofs.YtddkbmnkbfciaaaGreatDoor
open Go.RowKit Go.Shelf
theorem rises_risU {l:List Int} (h:Rises l) (hb:∀ z∈l,0≤z∧z<64):∀ n,n≤l.length→risU l n=true:=by
 intro n
 induction n with
 | zero=>intro _;rfl
 | succ n ih =>
  intro hn
  have hx:l[n]? = some l[n]:=List.getElem?_eq_getElem hn
  have hb1:=hb _ (List.mem_of_getElem? hx)
  have hz:zat l n=l[n]:=zat_some hx
  show (risU l n && (decide (lastZ l n<zat l n) && decide (zat l n<64)))=true
  rw [ih (by omega),hz,decide_eq_true hb1.2,Bool.and_true,Bool.true_and,decide_eq_true_eq,lastZ_eq]
  by_cases e:n=0
  · rw [if_pos e];omega
  · rw [if_neg e]
    have hy:l[n - 1]? = some l[n - 1]:=List.getElem?_eq_getElem (by omega)
    rw [zat_some hy]
    exact h (n - 1) n _ _ hy hx (by omega)
theorem rises_filter (p:Int→Bool):∀ (l:List Int),Rises l→Rises (l.filter p)
 | [],_=>fun i j a b hi=>by simp at hi
 | x :: l,h=>by
  have ht:=rises_filter p l h.tail
  by_cases e:p x=true
  · rw [List.filter_cons_of_pos e]
    intro i j a b hi hj hij
    cases j with
    | zero=>omega
    | succ j =>
     rw [List.getElem?_cons_succ] at hj
     cases i with
     | zero =>
      simp only [List.getElem?_cons_zero,Option.some.injEq] at hi
      subst hi
      exact h.head b (List.mem_filter.1 (List.mem_of_getElem? hj)).1
     | succ i =>
      rw [List.getElem?_cons_succ] at hi
      exact ht i j a b hi hj (by omega)
  · rw [List.filter_cons_of_neg e]
    exact ht
theorem stay_prR {p:PrD} {gone:List Int} (h:prR p):prR { p with um:=stay gone p.um }:=by
 obtain ⟨h1,h2,h3⟩:=h
 obtain ⟨r1,-,r3⟩:=risU_rises h3
 exact ⟨h1,h2,rises_risU (rises_filter _ _ r1) (fun z hz=>r3 z (List.mem_filter.1 hz).1) _ (Nat.le_refl _)⟩
theorem woK_at {F:Int→Option Nd} {gone:List Int} {k:Nat} {x:Int} {d:Nd} (h:woK F gone k x=some d):(∃ p,F x=some (.pr p)∧d = .pr { p with um:=stay gone p.um })∨F x=some d:=by
 unfold woK at h
 split at h
 · rename_i hc
   obtain ⟨p,hp⟩:=isP_pr hc.2.2
   rw [hp] at h
   cases h
   exact .inl ⟨p,hp,rfl⟩
 · unfold woD at h
   rw [delL_at] at h
   split at h
   · cases h
   · exact .inr h
theorem woT_ndR {T:Tr} {gone:List Int} (hR:∀ x d,T.nd x=some d→ndR d):∀ x d,(woT T gone).nd x=some d→ndR d:=fun x d h=>by
 rcases woK_at h with ⟨p,hp,rfl⟩ | h'
 · have:=hR x _ hp
   exact ⟨stay_prR this.1,this.2⟩
 · exact hR x d h'
def pn3 (a b:Nat):Nat→Nat:=fun i=>if i=0 then a else if i=1 then b else 32
def pb3 (A B C:Nat→Nat):Nat→Nat→Nat:=fun i=>if i=0 then A else if i=1 then B else C
def hbN (T:Tr) (d:PrD) (s:Int):Nat→Nat:=s256 (vsL (pn3 d.enc.n d.hash.n) 3) (vsB (pn3 d.enc.n d.hash.n) (pb3 d.enc.b d.hash.b (hsF (woT T d.um).nd 7 s)) 3)
theorem vecs3_any (g:Nat) (v0 v1 v2:Value) (a b:Nat) (A B C:Nat→Nat) (ha:a≤32) (hb:b≤32) (w:World) (r:RW w g 0 [v0,v1,v2]) (h0:BytesIn w v0 a A) (h1:BytesIn w v1 b B) (h2:BytesIn w v2 32 C) (hA:∀ j,A j<256) (hB:∀ j,B j<256) (hC:∀ j,C j<256) :
 Calls Tryz.prog 136 #[.slice (some ⟨g,0,none⟩) 3 3] w fun e w'=>∃ s,e = .returned (.tuple #[s,.int .i64 0])∧BytesIn w' s (vsL (pn3 a b) 3) (vsB (pn3 a b) (pb3 A B C) 3)∧Below w.heap.size w w':=by
 have hP:PiecesIn w (some ⟨g,0,none⟩) 3 (fun i=>if i=0 then v0 else if i=1 then v1 else v2) (pn3 a b) (pb3 A B C):=by
  refine ⟨fun q _=>⟨g,0,rfl,fun i hi => ?_⟩,fun i hi => ?_,fun i j=>by unfold pb3;split;exact hA j;split;exact hB j;exact hC j⟩
  · rcases (show i=0∨i=1∨i=2 by omega) with rfl | rfl | rfl
    · exact r.range 0 _ rfl
    · exact r.range 1 _ rfl
    · exact r.range 2 _ rfl
  · rcases (show i=0∨i=1∨i=2 by omega) with rfl | rfl | rfl
    · exact h0
    · exact h1
    · exact h2
 refine (cVecs_any (some ⟨g,0,none⟩) 3 3 _ (pn3 a b) _ (by decide) (by show 0+a+b+32≤_;omega) _ hP).mono ?_
 rintro e w' ⟨h | ⟨-,s,rfl,own⟩,hb⟩
 · exfalso
   have:=h.1
   simp [bigN,pn3] at this
   omega
 · exact ⟨s,rfl,own.bytes4,hb⟩
set_option maxRecDepth 20000 in
set_option maxHeartbeats 4000000 in
theorem hashBeside_any (ok okp:Nat→Prop) (tb mb:Nat) (T:Tr) (hK:TrOK T) (hR:∀ x d,T.nd x=some d→ndR d) (cs:List Value) (d:PrD) (hdR:prR d) (hdK:prK d) (s:Int) (hs:0≤s∧s<127) (hlev:levN s.toNat<7) (w:World) (hT:DbT w) (hH:HTab w cubeK squareK) (h:TrAt ok w tb mb T) (hd:PrO okp w cs d) :
 Calls Tryz.prog 106 #[pA tb 0,.agg cs.toArray,.int .i64 s] w fun e w'=>∃ g,e = .returned (.slice (some ⟨g,0,none⟩) 32 32)∧w.heap.size≤g∧RowAt .u8 w' g 0 32 (hbN T d s)∧Below w.heap.size w w':=by
 obtain ⟨x0,c0,x1,c1,x2,c2,rfl,hB0,hB1,hZ⟩:=hd.form
 obtain ⟨W1,hW1⟩:∃ W1,W1=w.alloc (.cells #[.slice x0 d.enc.n c0,.slice x1 d.hash.n c1,.slice x2 d.um.length c2] 121):=⟨_,rfl⟩
 have k1:RW W1 w.heap.size 0 [.slice x0 d.enc.n c0,.slice x1 d.hash.n c1,.slice x2 d.um.length c2]:=by rw [hW1];exact RW.fresh w [.slice x0 d.enc.n c0,.slice x1 d.hash.n c1,.slice x2 d.um.length c2] 121
 have bw:Below w.heap.size w W1:=by rw [hW1];exact (Below.refl _ _).alloc (Nat.le_refl _) _
 obtain ⟨r1,r2,r3⟩:=risU_rises hdR.2.2
 have hlA:d.enc.n≤32:=by have:=hdR.1;omega
 have hlB:d.hash.n≤32:=by have:=hdR.2.1;omega
 have lC:=hsF_lt (woT T d.um).nd 7 s
 have HW1:=Hid.mk' hW1
 have Hh:=Hid.mk' h
 have HT:=Hid.mk' hT
 have HH:=Hid.mk' hH
 have hR2:=woT_ndR (gone:=d.um) hR
 clear hW1 hd hdR h hT hH hR
 go_enter Tryz.func106,Tryz.ntmps106
 go_upto_region 1 with (fail)
 rw [←HW1.out]
 obtain ⟨V,hV⟩:∃ V,V=W1.drew:=⟨_,rfl⟩
 have bV:Below W1.heap.size W1 V:=by rw [hV];exact (Below.refl _ _).drew
 have kV:=k1.still bV
 have bwV:=below_next bw bV
 refine wp_region_noPanic ?_
 refine wp_region_held_drew (S:=fun u=>Below V.heap.size V u) (by kernel_rfl) (by rw [hV];exact Below.refl _ _) (fun hS => ?_)
 rw [←hV] at hS ⊢
 clear hV HW1 k1 bw bV
 refine tg 0 hS ?_
 (try simp only [pS])
 refine tc 1 hS (fun u hu=>(kV.still hu).range 0 _ rfl) ?_
 (try simp only [pS])
 refine tg 2 hS ?_
 (try simp only [pS])
 refine tc 3 hS (fun u hu=>(kV.still hu).range 1 _ rfl) ?_
 (try simp only [pS])
 refine tg 4 hS ?_
 (try simp only [pS])
 refine tg 5 hS ?_
 (try simp only [pS])
 refine tc 6 hS (fun u hu=>(kV.still hu).range 2 _ rfl) ?_
 (try simp only [pS])
 refine tg 8 hS ?_
 (try simp only [pS])
 refine cn 7 (without_any ok tb mb T hK (.slice x2 d.um.length c2) d.um (by omega) r3 V (Hh.out.below bwV) (hZ.same bwV.size (fun b hb _=>bwV.block b hb))) (fun e w2 hr => ?_)
 obtain ⟨t2,m2,ok2,rfl,ht2,hT2,hb2⟩:=hr
 refine ⟨_,rfl,hb2,?_⟩
 (try simp only [pS])
 have b2:=below_next bwV hb2
 refine cn 9 (hashAt_any ok2 t2 m2 (woT T d.um) hR2 7 s (by decide) hs.1 hs.2 hlev w2 (HT.out.keep b2) (HH.out.below b2 HH.out.size) hT2) (fun e w3 hr => ?_)
 obtain ⟨g3,rfl,hg3,q3,hb3⟩:=hr
 refine ⟨_,rfl,hb3,?_⟩
 (try simp only [pS])
 have b3:=below_next b2 hb3
 refine wpAnyH_ready (rs:=[10]) (by kernel_rfl) (by simp) (rG 10 (fun g => .slice (some ⟨g,0,none⟩) 3 3) [.slice x0 d.enc.n c0,.slice x1 d.hash.n c1,.slice (some ⟨g3,0,none⟩) 32 32] 29 (fun u hu=>hu) (fun w4 g4 hg4 hb4 r4 => ?_) AllReadyH.nil)
 (try simp only [pS])
 have b4:=below_next b3 hb4
 have cV:=vecs3_any g4 _ _ _ d.enc.n d.hash.n d.enc.b d.hash.b (hsF (woT T d.um).nd 7 s) hlA hlB w4 r4 (hB0.of.keep b4) (hB1.of.keep b4) ((row32 q3).keep hb4) hdK.1 hdK.2 lC
 refine cl 11 cV (fun e w5 hr => ?_)
 obtain ⟨s5,rfl,B5,hb5⟩:=hr
 have hS5:=below_next hb4 hb5
 refine ⟨_,rfl,hS5,?_⟩
 (try simp only [pS])
 obtain ⟨x5,c5,rfl,-,-,-⟩:=B5.src
 have b5:=below_next b4 hb5
 refine tg 12 hS5 ?_
 (try simp only [pS])
 refine tg 13 hS5 ?_
 (try simp only [pS])
 refine tg 14 hS5 ?_
 (try simp only [pS])
 refine tg 15 hS5 ?_
 (try simp only [pS])
 refine tg 16 hS5 ?_
 (try simp only [pS])
 refine wpAnyH_done (by kernel_rfl) ?_ _
 refine NoPanic.normal ?_
 have hle:vsL (pn3 d.enc.n d.hash.n) 3≤1000:=by
  have h1:=vsL_le (pn3 d.enc.n d.hash.n) 3
  have e:sumN (pn3 d.enc.n d.hash.n) 3=0+d.enc.n+d.hash.n+32:=rfl
  omega
 have hlt:∀ j,vsB (pn3 d.enc.n d.hash.n) (pb3 d.enc.b d.hash.b (hsF (woT T d.um).nd 7 s)) 3 j<256:=fun j =>
  allB_lt (pb:=fun i=>vcB (pn3 d.enc.n d.hash.n i) (pb3 d.enc.b d.hash.b (hsF (woT T d.um).nd 7 s) i)) (fun i j=>vcB_lt4 (fun j=>by unfold pb3;split;exact hdK.1 j;split;exact hdK.2 j;exact lC j) j) 3 j
 have cS:=sum4_any (.slice x5 (vsL (pn3 d.enc.n d.hash.n) 3) c5) _ _ hlt w5 (HH.out.below b5 HH.out.size) B5 (by omega)
 clear cV r4 q3 kV hB0 hB1 hZ
 go_wp2_with (go_at_call 134;refine cS.mono ?_;clear cS;rintro e w6 ⟨g6,rfl,hg6,r6,hb6⟩)
 go_ret
 exact ⟨g6,rfl,Nat.le_trans b5.size hg6,r6,below_next b5 hb6⟩
end Go.Proofs.YtddkbmnkbfciaaaGreatDoor
namespace Go.Proofs.YtddkbmnkbfciaaaGreatDoor
open Go.RowKit Go.Shelf
theorem NdOr.form {ok:Nat→Prop} {w:World} {d:Nd} {V:Value} (h:NdO ok w V d):∃ ty v,V = .iface ty v:=by
 cases d with
 | lf d=>obtain ⟨cs,rfl,-⟩:=h;exact ⟨_,_,rfl⟩
 | pr d=>obtain ⟨cs,rfl,-⟩:=h;exact ⟨_,_,rfl⟩
set_option maxRecDepth 100000 in
set_option maxHeartbeats 2000000 in
theorem tSet_in (ok:Nat→Prop) (tb mb:Nat) (T:Tr) (hK:TrOK T) (i:Int) (cs:List Value) (d:LfD) (w:World) (hT:DbT w) (hd:LfIn w cs d) (h:TrAt ok w tb mb T) (hR:lfR d 3) (hi:0≤i∧i<T.n) :
 Calls Tryz.prog 35 #[pA tb 0,.int .i64 i,.agg cs.toArray] w fun e w'=>(T.nd (2*i)=none∧e = .returned (.int .i64 3)∧Below w.heap.size w w')∨((T.nd (2*i)).isSome=true∧e = .returned (.int .i64 0)∧TrAt (fun b=>ok b∨w.heap.size≤b) w' tb mb ⟨T.n,delL (upn T.nd (2*i) (some (.lf d))) (pathL i T.n)⟩∧But (fun j=>j=mb) w w'):=by
 obtain ⟨V,hV⟩:∃ V,V=w.alloc (.cells cs.toArray 54):=⟨_,rfl⟩
 have k1:RW V w.heap.size 0 cs:=by rw [hV];exact RW.fresh w cs 54
 have b1:Below w.heap.size w V:=by rw [hV];exact (Below.refl _ _).alloc (Nat.le_refl _) _
 have hil:(Tryz.prog.info? 54).map (·.size)=some cs.length:=by rw [hd.row.1];kernel_rfl
 have cB:=mayBe_any cs d V (hd.keep b1)
 have hn64:=hK.n64
 have cL:=fun w' hb=>thasLeaf_any tb T.n i (by omega) w' ((h.below b1).below (w':=w') hb).lv
 rw [decide_eq_true hi.1,decide_eq_true hi.2] at cL
 have htl:=h.tlt
 have hml:=h.mlt
 have Hh:=Hid.mk' h
 have Hd:=Hid.mk' hd
 have HT:=Hid.mk' hT
 have HV:=Hid.mk' hV
 have Hn:=Hid.mk' (And.intro hi (And.intro hn64 (And.intro htl hml)))
 have r2:=k1.range
 clear h hd hV hK hi hn64 htl hml hT
 go_enter Tryz.func35,Tryz.ntmps35
 go_upto_region 3 with (first
  | (rw [←HV.out];clear HV)
  | (refine wpList_load_wd4 rfl 54 _ rfl _ 0 rfl cs _ r2 Tryz.underlying54 rfl hil ?_)
  | (go_at_call 94;refine cB.mono ?_;clear cB;rintro e w1 ⟨b,rfl,hb,hb1⟩;(obtain rfl:b=true:=hb.2 hR);clear r2 hb)
  | (go_at_call 87;refine (cL w1 hb1).mono ?_;clear cL;rintro e w2 ⟨rfl,hw2⟩;obtain rfl:=hw2.symm))
 have HR:=Hid.mk' hR
 have Hil:=Hid.mk' hil
 clear hR hil hw2
 have bw:=below_next b1 hb1
 obtain ⟨X,hX⟩:∃ X,X=w1.drew:=⟨_,rfl⟩
 have bX:Below w1.heap.size w1 X:=by rw [hX];exact (Below.refl _ _).drew
 have bwX:=below_next bw bX
 have kX:=(k1.still hb1).still bX
 have hTX:=Hh.out.below bwX
 obtain ⟨L,hL,hlk⟩:=hTX.look (2*i)
 have Hlk:=Hid.mk' hlk
 have HTX:=Hid.mk' hTX
 clear hlk hTX
 refine wp_region_noPanic ?_
 refine wp_region_held_drew (S:=fun u=>Below X.heap.size X u) (by kernel_rfl) (by rw [hX];exact Below.refl _ _) (fun hS => ?_)
 rw [←hX] at hS ⊢
 clear hX k1 b1 bX
 refine tg 0 hS ?_
 (try simp only [pS])
 refine tg 1 hS ?_
 (try simp only [pS])
 refine tg 2 hS ?_
 (try simp only [pS])
 refine tc 3 hS (fun u hu=>(HTX.out.below hu).st) ?_
 (try simp only [pS])
 refine tg 4 hS ?_
 (try simp only [pS])
 refine cl 5 (placeOf_any i ⟨Hn.out.1.1,by have:=Hn.out;omega⟩ X) (fun e X2 hr => ?_)
 obtain ⟨rfl,hX2⟩:=hr
 obtain rfl:=hX2.symm
 refine ⟨_,rfl,hS,?_⟩
 (try simp only [pS])
 rcases hL with ⟨hno,rfl⟩ | ⟨nd,hsm,hnd⟩
 · refine tg 6 hS (v := .nilIface) ?_ (hy:=by intro u hu;have q:=Hlk.out u hu;go_simp)
   (try simp only [pS])
   refine tg 7 hS (v := .bool true) ?_ (hy:=by intro u hu;go_simp)
   (try simp only [pS])
   refine wpAnyH_done (by kernel_rfl) ?_ _
   refine NoPanic.normal ?_
   have Hno:=Hid.mk' hno
   clear Hlk HTX kX Hh Hd HT Hn hno
   go_wp2
   go_ret
   exact .inl ⟨Hno.out,rfl,bwX⟩
 · obtain ⟨ty,u0,rfl⟩:=NdOr.form hnd
   refine tg 6 hS (v := .iface ty u0) ?_ (hy:=by intro u hu;have q:=Hlk.out u hu;go_simp)
   (try simp only [pS])
   refine tg 7 hS (v := .bool false) ?_ (hy:=by intro u hu;go_simp)
   (try simp only [pS])
   refine wpAnyH_done (by kernel_rfl) ?_ _
   refine NoPanic.normal ?_
   have cP:=put4_any ok tb mb T i ⟨Hn.out.1.1,by have:=Hn.out;omega⟩ cs d (lfR_L HR.out) X HTX.out (Hd.out.keep bwX)
   have cA:=fun (W:World) ok' (F:Int→Option Nd) (hW:DbT W) (h':TrAt ok' W tb mb ⟨T.n,F⟩)=>blankAbove_any ok' tb mb ⟨T.n,F⟩ i W hW h'
   have r3:=kX.range
   have hdb:=fun (W:World) (hb:But (fun j=>j=mb∨j=tb) w W)=>Hh.out.dbt HT.out hb
   have HD:=Hid.mk' hdb
   have Hsz:=Hid.mk' bwX
   have Hbt:=Hid.mk' (But.of_below (bad:=fun j=>j=mb) bwX)
   clear Hlk HTX kX Hd HT hnd hdb
   have Hsm:=Hid.mk' hsm
   have hil:=Hil.out
   clear hsm hX2
   go_wp2_with (first
    | (refine wpList_load_mid rfl 54 _ rfl w.heap.size 0 rfl cs _ r3 Tryz.underlying54 rfl hil ?_;(try simp only [pS]);clear r3)
    | (go_at_call 96;refine cP.mono ?_;clear cP;rintro e w3 ⟨⟨v3,rfl⟩,hT3,hb3⟩;(have bt3:=Hbt.out.trans hb3);(have c4:=cA w3 _ _ (HD.out w3 (bt3.mono fun _ h => .inl h)) hT3);clear cA)
    | (go_at_call 103;refine c4.mono ?_;clear c4;rintro e w4 ⟨⟨v4,rfl⟩,hT4,hb4⟩))
   go_ret
   have hn:=Hn.out
   have hs:=Hsz.out.size
   refine .inr ⟨by rw [Hsm.out];rfl,rfl,hT4.wide (fun b _ h=>h.imp id (fun h=>by omega)) (fun h => ?_) (fun h => ?_),bt3.trans hb4⟩
   · rcases h with h | h
     · exact Hh.out.ntb h
     · omega
   · rcases h with h | h
     · exact Hh.out.nmb h
     · omega
end Go.Proofs.YtddkbmnkbfciaaaGreatDoor
namespace Go.Proofs.YtddkbmnkbfciaaaGreatDoor
open Go.RowKit Go.Shelf
set_option maxRecDepth 20000 in
set_option maxHeartbeats 4000000 in
theorem kClone_any (v:Value) (bs:Nat→Nat) (w:World) (hv:BytesIn w v 32 bs) :
 Calls Tryz.prog 105 #[v] w fun e w'=>∃ g cap,e = .returned (.slice (some ⟨g,0,none⟩) 32 cap)∧w.heap.size≤g∧g<w'.heap.size∧32≤cap∧RowAt .u8 w' g 0 32 bs∧Below w.heap.size w w':=by
 obtain ⟨bb,ob,cap,hsl,hlb,hcap,hc⟩:∃ bb ob cap,v = .slice (some ⟨bb,ob,none⟩) 32 cap∧bb<w.heap.size∧32≤cap∧∀ j,j<32→w.cell? ⟨bb,ob+j,none⟩=some (.int .u8 (bs j)):=hv.resolve_left (fun ⟨_,_,h⟩=>by omega)
 have src0:=(BytesIn.src hv)
 subst hsl
 obtain ⟨xo,kv,hxo,hun,-,hsrc⟩:=src0
 have src1:=hsrc (w.alloc (.cells #[] 5)) ((Below.refl _ _).alloc (Nat.le_refl _) _)
 obtain ⟨rfl,rfl⟩:some (⟨bb,ob,none⟩:Addr)=xo∧cap=kv:=by injection hxo with a b c;exact ⟨a,c⟩
 clear hsrc hxo hv hc
 go_enter Tryz.func105,Tryz.ntmps105
 go_wp2_with (first
  | (refine wpList_eqnil rfl _ _ _ rfl ⟨bb,ob,none⟩ 32 cap rfl rfl ?_)
  | (at_builtin;refine wpList_append_empty rfl (.tmp 5) (.tmp 6) rfl w.heap.size bs _ rfl rfl (some ⟨bb,ob,none⟩) 32 cap rfl src1 hun (by omega) (Nat.le_refl _) ?_;intro v4 w4 own4 hb4;clear src1;(obtain ⟨g4,cap4,hv4,hg4,hgl4,hcap4,row4⟩:∃ g cap,v4 = .slice (some ⟨g,0,none⟩) 32 cap∧w.heap.size≤g∧g<w4.heap.size∧32≤cap∧RowAt .u8 w4 g 0 32 bs:=own4.form.resolve_left (fun h=>by omega));subst hv4;clear own4))
 go_ret
 exact ⟨g4,cap4,rfl,hg4,hgl4,hcap4,row4,hb4⟩
def filB (T:Tr) (xs ys:List Int):Nat→List Int
 | 0=>[]
 | k+1=>filB T xs ys k ++ (if (rso T ((ys[k]?).getD 0)).isEmpty then [] else [(ys[k]?).getD 0])
theorem filB_len (T:Tr) (xs ys:List Int):∀ m,(filB T xs ys m).length=(filK T xs ys m).length
 | 0=>rfl
 | m+1=>by have:=filB_len T xs ys m;unfold filB filK;split <;> simp <;> omega
theorem filK_mem {T:Tr} {xs ys:List Int} {z:Int}:∀ {m},z∈filK T xs ys m→∃ k,k<m∧z=(xs[k]?).getD 0
 | 0,h=>by simp [filK] at h
 | m+1,h=>by
  unfold filK at h
  rcases List.mem_append.1 h with h | h
  · obtain ⟨k,hk,e⟩:=filK_mem h;exact ⟨k,by omega,e⟩
  · split at h
    · simp at h
    · exact ⟨m,by omega,by simpa using h⟩
theorem filB_mem {T:Tr} {xs ys:List Int} {z:Int}:∀ {m},z∈filB T xs ys m→∃ k,k<m∧z=(ys[k]?).getD 0
 | 0,h=>by simp [filB] at h
 | m+1,h=>by
  unfold filB at h
  rcases List.mem_append.1 h with h | h
  · obtain ⟨k,hk,e⟩:=filB_mem h;exact ⟨k,by omega,e⟩
  · split at h
    · simp at h
    · exact ⟨m,by omega,by simpa using h⟩
def besL (T:Tr) (i:Int):List Int:=filB T (pathL i T.n) (copathL i T.n) (pathL i T.n).length
def KeysO (ok:Nat→Prop) (w:World) (v:Value) (ks:List Tx):Prop:=∃ xo co,v = .slice xo ks.length co∧ks.length≤co∧∀ (j:Nat) t,ks[j]? = some t→∃ g o u,xo=some ⟨g,o,none⟩∧ok g∧g<w.heap.size∧w.cell? ⟨g,o+j,none⟩=some u∧BO ok w u t.n t.b
theorem KeysO.same {ok:Nat→Prop} {w w':World} {v:Value} {ks:List Tx} (h:KeysO ok w v ks) (hs:w.heap.size≤w'.heap.size) (e:∀ b,b<w.heap.size→ok b→w'.heap[b]? = w.heap[b]?):KeysO ok w' v ks:=by
 obtain ⟨xo,co,h1,h0,h2⟩:=h
 refine ⟨xo,co,h1,h0,fun j t ht => ?_⟩
 obtain ⟨g,o,u,e1,h3,h4,h5,h6⟩:=h2 j t ht
 exact ⟨g,o,u,e1,h3,by omega,(World.cell?_of_block (w:=w) (e g h4 h3)).trans h5,h6.same hs e⟩
theorem KeysO.wide {ok ok':Nat→Prop} {w:World} {v:Value} {ks:List Tx} (h:KeysO ok w v ks) (e:∀ b,b<w.heap.size→ok b→ok' b):KeysO ok' w v ks:=by
 obtain ⟨xo,co,h1,h0,h2⟩:=h
 refine ⟨xo,co,h1,h0,fun j t ht => ?_⟩
 obtain ⟨g,o,u,e1,h3,h4,h5,h6⟩:=h2 j t ht
 exact ⟨g,o,u,e1,e g h4 h3,h4,h5,h6.wide e⟩
theorem KeysO.keep {ok:Nat→Prop} {w w':World} {v:Value} {ks:List Tx} (h:KeysO ok w v ks) (hb:Below w.heap.size w w'):KeysO ok w' v ks:=h.same hb.size (fun b hl _=>hb.block b hl)
theorem KeysO.cut {ok bad:Nat→Prop} {w:World} {v:Value} {ks:List Tx} (h:KeysO ok w v ks) (hn:∀ t∈ks,t.n≠0) (hb:∀ b,bad b→∀ o,w.cell? ⟨b,o,none⟩=none):KeysO (fun b=>ok b∧¬bad b) w v ks:=by
 obtain ⟨xo,co,h1,h0,h2⟩:=h
 refine ⟨xo,co,h1,h0,fun j t ht => ?_⟩
 obtain ⟨g,o,u,e1,h3,h4,h5,h6⟩:=h2 j t ht
 refine ⟨g,o,u,e1,⟨h3,fun hx=>by rw [hb g hx] at h5;cases h5⟩,h4,h5,?_⟩
 have h0:=hn t (List.mem_of_getElem? ht)
 rcases h6 with ⟨xo,-,h⟩ | ⟨bb,ob,cap,k1,k0,k2,k3,k4⟩
 · exact absurd h h0
 · exact .inr ⟨bb,ob,cap,k1,⟨k0,fun hx=>by have:=k4 0 (by omega);rw [hb bb hx] at this;cases this⟩,k2,k3,k4⟩
theorem KeysO.lens {ok:Nat→Prop} {w:World} {v:Value} {ks:List Tx} (h:KeysO ok w v ks):LensAt w v (ks.map Tx.n):=by
 obtain ⟨xo,co,h1,h0,h2⟩:=h
 refine ⟨xo,co,by rw [List.length_map];exact h1,by rw [List.length_map];exact h0,fun j n hj => ?_⟩
 rw [List.getElem?_map] at hj
 cases hk:ks[j]? with
 | none=>rw [hk] at hj;cases hj
 | some t =>
  rw [hk] at hj
  cases hj
  obtain ⟨g,o,u,e1,-,-,h5,h6⟩:=h2 j t hk
  rcases h6 with ⟨xx,rfl,h⟩ | ⟨bb,ob,cap,rfl,-⟩
  · exact ⟨g,o,xx,0,e1,by rw [h5,h]⟩
  · exact ⟨g,o,_,cap,e1,h5⟩
def keyA (ks:List Tx) (j:Nat):Tx:=(ks[j]?).getD ⟨0,fun _=>0⟩
def spP (ks:List Tx) (m:Nat) (q:(Int→Option Nd) × Tx):PrD:=⟨keyA ks m,q.2,[]⟩
def spS (n:Nat) (xs ss:List Int) (ks:List Tx) (F:Int→Option Nd):Nat→(Int→Option Nd) × Tx
 | 0=>(F,⟨0,fun _=>0⟩)
 | k+1 =>
  let q:=spS n xs ss ks F k
  let m:=xs.length - 1 - k
  let F':=upn q.1 ((xs[m]?).getD 0) (some (.pr (spP ks m q)))
  (F',⟨32,hbN ⟨n,F'⟩ (spP ks m q) ((ss[m]?).getD 0)⟩)
def spT (T:Tr) (i:Int) (ks:List Tx):Tr × Tx :=
 let q:=spS T.n (filL T i) (besL T i) ks (delL T.nd (pathL i T.n)) (filL T i).length
 (⟨T.n,q.1⟩,q.2)
theorem TrOK.sub {n:Nat} {F F':Int→Option Nd} (h:TrOK ⟨n,F⟩) (e:∀ x d,F' x=some d→F x=some d):TrOK ⟨n,F'⟩ :=
 ⟨h.may,fun x d hx=>h.rng x d (e x d hx),fun x d hx=>h.lf x d (e x _ hx),fun x d hx=>h.pr x d (e x _ hx)⟩
theorem delL_sub {F:Int→Option Nd} {l:List Int} (x:Int) (d:Nd) (h:delL F l x=some d):F x=some d:=by
 rw [delL_at] at h
 split at h
 · cases h
 · exact h
theorem TrOK.put {n:Nat} {F:Int→Option Nd} (h:TrOK ⟨n,F⟩) (x:Int) (p:PrD) (hp:prR p) (hx:0≤x∧x<2*(n:Int) - 1) (ho:x%2=1):TrOK ⟨n,upn F x (some (.pr p))⟩:=by
 refine ⟨h.may,fun y d hy => ?_,fun y d hy => ?_,fun y d hy => ?_⟩
 · unfold upn at hy
   by_cases e:y=x
   · rw [e];exact hx
   · simp only [if_neg e] at hy;exact h.rng y d hy
 · unfold upn at hy
   by_cases e:y=x
   · simp only [if_pos e] at hy;cases hy
   · simp only [if_neg e] at hy;exact h.lf y d hy
 · unfold upn at hy
   by_cases e:y=x
   · simp only [if_pos e] at hy;cases hy;rw [e];exact ⟨ho,hp⟩
   · simp only [if_neg e] at hy;exact h.pr y d hy
theorem keyA_at {ks:List Tx} {j:Nat} {t:Tx} (h:ks[j]? = some t):keyA ks j=t:=by unfold keyA;rw [h];rfl
theorem spP_R {ks:List Tx} {m:Nat} {q:(Int→Option Nd) × Tx} (h1:(keyA ks m).n=32) (h2:q.2.n=0∨q.2.n=32):prR (spP ks m q):=⟨h1,h2,rfl⟩
theorem spS_ok {n:Nat} {xs ss:List Int} {ks:List Tx} {F:Int→Option Nd} (h:TrOK ⟨n,F⟩) (hx:∀ (j:Nat) z,xs[j]? = some z→(0≤z∧z<2*(n:Int) - 1)∧z%2=1) (hk:∀ j,j<xs.length→(keyA ks j).n=32):∀ k,k≤xs.length→TrOK ⟨n,(spS n xs ss ks F k).1⟩∧((spS n xs ss ks F k).2.n=0∨(spS n xs ss ks F k).2.n=32)
 | 0,_=>⟨h,.inl rfl⟩
 | k+1,hl=>by
  obtain ⟨i1,i2⟩:=spS_ok (ss:=ss) h hx hk k (by omega)
  have hm:xs.length - 1 - k<xs.length:=by omega
  obtain ⟨h1,h2⟩:=hx (xs.length - 1 - k) _ (List.getElem?_eq_getElem hm)
  refine ⟨?_,.inr rfl⟩
  show TrOK ⟨n,upn (spS n xs ss ks F k).1 ((xs[xs.length - 1 - k]?).getD 0) (some (.pr (spP ks (xs.length - 1 - k) (spS n xs ss ks F k))))⟩
  rw [List.getElem?_eq_getElem hm,Option.getD_some]
  exact i1.put _ _ (spP_R (hk _ hm) i2) h1 h2
theorem spP_K {ks:List Tx} {m:Nat} {q:(Int→Option Nd) × Tx} (hk:∀ t∈ks,∀ j,t.b j<256) (h2:∀ j,q.2.b j<256):prK (spP ks m q):=by
 refine ⟨fun j => ?_,h2⟩
 show (keyA ks m).b j<256
 unfold keyA
 cases e:ks[m]? with
 | none=>exact Nat.zero_lt_succ _
 | some t=>exact hk t (List.mem_of_getElem? e) j
theorem spS_lt {n:Nat} {xs ss:List Int} {ks:List Tx} {F:Int→Option Nd}:∀ k j,(spS n xs ss ks F k).2.b j<256
 | 0,_=>Nat.zero_lt_succ _
 | _+1,j=>s256_lt _ _ j
theorem spS_R {n:Nat} {xs ss:List Int} {ks:List Tx} {F:Int→Option Nd} (h:TrOK ⟨n,F⟩) (hx:∀ (j:Nat) z,xs[j]? = some z→(0≤z∧z<2*(n:Int) - 1)∧z%2=1) (hk:∀ j,j<xs.length→(keyA ks j).n=32) (hb:∀ t∈ks,∀ j,t.b j<256) (hR:∀ x d,F x=some d→ndR d):∀ k,k≤xs.length→∀ x d,(spS n xs ss ks F k).1 x=some d→ndR d
 | 0,_=>hR
 | k+1,hl=>fun x d hd=>by
  have ih:=spS_R (ss:=ss) h hx hk hb hR k (by omega)
  have i2:=(spS_ok (ss:=ss) h hx hk k (by omega)).2
  have hm:xs.length - 1 - k<xs.length:=by omega
  change upn (spS n xs ss ks F k).1 ((xs[xs.length - 1 - k]?).getD 0) (some (.pr (spP ks (xs.length - 1 - k) (spS n xs ss ks F k)))) x=some d at hd
  unfold upn at hd
  split at hd
  · cases hd
    exact ⟨spP_R (hk _ hm) i2,spP_K hb (spS_lt k)⟩
  · exact ih x d hd
theorem upF_in (l:Int):∀ (f x:Nat) (y:Int),y∈upF l f x→∃ p:Nat,y=(p:Int)∧p%2=1∧p<widN l
 | 0,_,_,h=>by simp [upF] at h
 | f+1,x,y,h=>by
  unfold upF at h
  cases hp:parN (x:Int) l with
  | none=>rw [hp] at h;simp at h
  | some p =>
   rw [hp] at h
   rcases List.mem_cons.1 h with e | h
   · exact ⟨p,e,(parN_some hp).2.2.1,(parN_some hp).1⟩
   · exact upF_in l f p y h
theorem path_in {i:Int} {n:Nat} {y:Int} (h:y∈pathL i n):(0≤y∧y<2*(n:Int) - 1)∧y%2=1:=by
 unfold pathL at h
 split at h
 · rename_i ht
   obtain ⟨p,rfl,h1,h2⟩:=upF_in _ _ _ _ h
   have hm:=(theB_cases ht).1
   unfold widN at h2
   rw [if_pos hm] at h2
   omega
 · simp at h
theorem Rules32.same5 {w w':World} {b:Nat} (h:Rules32 w b) (e:w'.heap[b]? = w.heap[b]?):Rules32 w' b:=by
 have k:∀ o,w'.cell? ⟨b,o,none⟩=w.cell? ⟨b,o,none⟩:=fun o=>World.cell?_of_block (w:=w) (a:=⟨b,o,none⟩) e
 unfold Rules32 at *
 simpa only [k] using h
theorem TrAt.htab {ok:Nat→Prop} {w w':World} {tb mb:Nat} {T:Tr} (h:TrAt ok w tb mb T) {K q:Nat→Nat} (hH:HTab w K q) (hb:But (fun j=>j=mb∨j=tb) w w'):HTab w' K q:=by
 have hm:∀ b o v,w.cell? ⟨b,o,none⟩=some v→b≠mb:=fun b o v hc e=>by
  obtain ⟨f,h1,-⟩:=h.mp
  rw [e,h1.nocell] at hc;cases hc
 have n1:4≠tb:=fun e=>by
  have c:=hH.cubes 0 (by decide)
  rw [e,h.lv] at c;cases c
 have n2:2≠tb:=fun e=>by
  have c:=hH.squares 0 (by decide)
  rw [e,h.lv] at c;cases c
 have n3:0≠tb:=fun e=>by
  have c:=hH.narrow.2.1
  rw [e,h.st] at c;cases c
 have e1:w'.heap[4]? = w.heap[4]?:=hb.block _ (block_lt_of_cell (hH.cubes 0 (by decide))) (fun e=>by rcases e with e | e;exact hm _ _ _ (hH.cubes 0 (by decide)) e;exact n1 e)
 have e2:w'.heap[2]? = w.heap[2]?:=hb.block _ (block_lt_of_cell (hH.squares 0 (by decide))) (fun e=>by rcases e with e | e;exact hm _ _ _ (hH.squares 0 (by decide)) e;exact n2 e)
 have e3:w'.heap[0]? = w.heap[0]?:=hb.block _ (block_lt_of_cell hH.narrow.1) (fun e=>by rcases e with e | e;exact hm _ _ _ hH.narrow.1 e;exact n3 e)
 exact ⟨fun j hj=>(World.cell?_of_block (w:=w) e1).trans (hH.cubes j hj),fun j hj=>(World.cell?_of_block (w:=w) e2).trans (hH.squares j hj),hH.narrow.same5 e3,hH.Klt,hH.qlt⟩
end Go.Proofs.YtddkbmnkbfciaaaGreatDoor
namespace Go.Proofs.YtddkbmnkbfciaaaGreatDoor
open Go.RowKit Go.Shelf
attribute [local go_sem] Oper.semAt_some
theorem sp_boxes (tb:Nat) (v:Value) (w:World) {V:World} (hV:V=(w.alloc (.cells #[pA tb 0] 23)).alloc (.cells #[v] 32)):RW V w.heap.size 0 [pA tb 0]∧RW V (w.heap.size+1) 0 [v]∧Below w.heap.size w V∧V.heap.size=w.heap.size+2:=by
 have k1:=RW.fresh w [pA tb 0] 23
 have b1:Below w.heap.size w (w.alloc (.cells #[pA tb 0] 23)):=(Below.refl _ _).alloc (Nat.le_refl _) _
 have k2:=RW.fresh (w.alloc (.cells #[pA tb 0] 23)) [v] 32
 have b2:Below (w.alloc (.cells #[pA tb 0] 23)).heap.size (w.alloc (.cells #[pA tb 0] 23)) V:=by rw [hV];exact (Below.refl _ _).alloc (Nat.le_refl _) _
 rw [show (w.alloc (.cells #[pA tb 0] 23)).alloc (.cells [v].toArray 32)=V from hV.symm] at k2
 rw [World.size_alloc] at k2
 exact ⟨k1.still b2,k2,below_next b1 b2,by rw [hV];simp⟩
end Go.Proofs.YtddkbmnkbfciaaaGreatDoor
