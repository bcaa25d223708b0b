/- What the proof stands on: T6Q, N3lb, N3lc, N3le, N3lf, T6M, T6L. -/
import Derived.Test.YtddkbmnkbfciaaaGreatDoorCards
import Derived.Test.YtddkbmnkbfciaaaGreatDoorHRefWordsM
import Derived.Test.YtddkbmnkbfciaaaGreatDoorHStartM
import Derived.Test.YtddkbmnkbfciaaaGreatDoorI2FmM
import Derived.Test.YtddkbmnkbfciaaaGreatDoorN3rhM
import Derived.Test.YtddkbmnkbfciaaaGreatDoorT4WM
import Derived.Test.YtddkbmnkbfciaaaGreatDoorT5RM
import Derived.Test.YtddkbmnkbfciaaaGreatDoorT6CM
import Derived.Test.YtddkbmnkbfciaaaGreatDoorT6JM
import Derived.Test.YtddkbmnkbfciaaaGreatDoorTie
import Derived.Lib.LaidTab
import Derived.Lib.SmallJoins
namespace Go.Proofs.YtddkbmnkbfciaaaGreatDoor
open Go.RowKit Go.Shelf
attribute [local go_sem] Oper.semAt_some
theorem first_exit {ms:List Int} {f:Nat} (h:¬ ms[f]? = some (f:Int)):(f<ms.length∧∃ z,ms[f]? = some z∧((z == (f:Int))=false))∨¬f<ms.length:=by
 by_cases e:f<ms.length
 · left
   refine ⟨e,ms[f],List.getElem?_eq_getElem e,beq_eq_false_iff_ne.2 (fun e2=>h ?_)⟩
   rw [List.getElem?_eq_getElem e,e2]
 · exact .inr e
theorem rem_yes (ok:Nat→Prop) (tb mb:Nat) (T:Tr) (d:LfD) (k:Nat) (hk:k=fbL T.nd T.n) (hK:TrOK (addT T d)) (hn:k<(addT T d).n) (w:World) (hT:DbT w) (h:TrAt ok w tb mb (addT T d)) :
 Calls Tryz.prog 36 #[pA tb 0,.int .i64 (k:Int)] w fun e w'=>e = .returned (.int .i64 0)∧TrAt ok w' tb mb (remT (addT T d) (k:Int))∧But (fun j=>j=mb∨j=tb) w w':=by
 refine (tRemove_in ok tb mb (addT T d) hK (k:Int) w hT h ⟨Int.natCast_nonneg k,Int.ofNat_lt.2 hn⟩).mono ?_
 rintro e w' (⟨hno,-⟩ | ⟨-,h2⟩)
 · exfalso
   have h1:=addT_some (T:=T) d (2*(k:Int))
   rw [hno,←hk] at h1
   unfold upn at h1
   rw [if_pos rfl] at h1
   cases h1
 · exact h2
theorem zo_cell {ok:Nat→Prop} {w:World} {g o n c i:Nat} {z:Int} {l:List Int} (h:ZO ok w (.slice (some ⟨g,o,none⟩) n c) l) (hz:l[i]? = some z):w.cell? ⟨g,o+i,none⟩=some (.int .i64 z):=by
 obtain ⟨x,c',e,-,-,f⟩:=h
 obtain ⟨g',o',e',-,-,hc⟩:=f i z hz
 injection e with e1
 rw [e'] at e1
 cases e1
 exact hc
theorem wrN {z:Int} {m:Nat} (h:z=(m:Int)) (hm:m<1000):IntKind.i64.wrap z=(m:Int):=by
 subst h
 simp only [IntKind.wrap_i64]
 omega
set_option maxRecDepth 100000 in
set_option maxHeartbeats 16000000 in
theorem treeWidths_any (v:Value) (ss:List (Int × Int)) (w:World) (hs:StepsAt w v ss) (hT:DbT w) (hH:HTab w cubeK squareK) :
 Calls Tryz.prog 8 #[v] w fun e w'=>e = .returned (.bool true)∧Below w.heap.size w w':=by
 have cV:=live_any v ss w hs hT hH
 have hI:=lvT_I ss (min ss.length 40)
 have hc:min ss.length 40+1<64:=by omega
 generalize lvT ss (min ss.length 40)=T at *
 have hnf:=not_full hI hc
 obtain ⟨xo,c0,rfl,-⟩:=hs
 have HT:=Hid.mk' hT
 have HH:=Hid.mk' hH
 clear hT hH
 have hfa:∀ k,k≤fbL T.nd T.n→((mbs T)[k]? = some (k:Int)↔k<fbL T.nd T.n):=fun k hk=>first_at hk
 have hfl:fbL T.nd T.n≤(mbs T).length:=by
  by_cases e:fbL T.nd T.n=0
  · omega
  · have:=(List.getElem?_eq_some_iff.1 (mbL_low T.nd T.n (fbL T.nd T.n - 1) (by omega))).1
    unfold mbs;omega
 have hml:(mbs T).length≤64:=by have:=mbL_len T.nd T.n;have:=hI.gd.ok.n64;unfold mbs;omega
 have har:=add_rem hI.gd.ok hnf (lfM 500)
 have hne:=hI.ne
 obtain ⟨ms,hms⟩:∃ ms,ms=mbs T:=⟨_,rfl⟩
 obtain ⟨fb,hfb⟩:∃ fb,fb=fbL T.nd T.n:=⟨_,rfl⟩
 rw [←hms,←hfb] at hfa
 rw [←hms,←hfb] at hfl
 rw [←hms] at hml har hne
 rw [←hfb] at hnf har
 have hf64:fb≤64:=Nat.le_trans hfl hml
 obtain ⟨z0,hz0⟩:∃ z,ms[0]? = some z:=⟨_,List.getElem?_eq_getElem hne⟩
 have HI:=Hid.mk' (And.intro hI (And.intro hms (And.intro hfb (And.intro hnf har))))
 clear hI hms hnf har hfb
 go_enter Tryz.func8,Tryz.ntmps8
 go_wp2_with (first
  | (go_at_call 41;refine cV.mono ?_;clear cV;rintro e w1 ⟨tb,mb,rfl,htb,hmb,hT1,hb1⟩)
  | (go_at_call 11;refine (knows4_any w1 (HT.out.keep hb1) (HH.out.below hb1 HH.out.size)).mono ?_;rintro e w2 ⟨rfl,hb2⟩;(have hb12:=below_next hb1 hb2);(have cM:=tMembers_any _ tb mb T HI.out.1.gd.ok w2 (hT1.below hb2));(rw [show mbL T.nd T.n=ms from HI.out.2.1.symm] at cM))
  | (go_at_call 27;refine cM.mono ?_;clear cM;rintro e w5 ⟨v5,rfl,how,hb5⟩;(obtain ⟨x5,c5,rfl⟩:=how.slice);(have zo5:=ZO.own how);(obtain ⟨xz,cz,ez,-,-,hzz⟩:=id zo5);(obtain ⟨rfl,rfl⟩:x5=xz∧c5=cz:=(by injection ez with h1 h2 h3;exact ⟨h1,h3⟩));(obtain ⟨gz,oz,rfl,-,-,-⟩:=hzz 0 z0 hz0);(have bw5:=below_next hb12 hb5)))
 go_loopw [5] (fun kv wr=>∃ k:Nat,k≤fb∧kv = .int .i64 (k:Int)∧wr=w5) (fun kv _=>fb - (intOf kv).toNat)
 case atStart=>exact ⟨0,Nat.zero_le _,rfl,rfl⟩
 case round =>
  obtain ⟨k,hk,rfl,rfl⟩:=hrel
  by_cases hlt:k<fb
  · have hl:(k:Int)<(ms.length:Int):=Int.ofNat_lt.2 (Nat.lt_of_lt_of_le hlt hfl)
    have h0:(0:Int)≤(k:Int):=Int.natCast_nonneg k
    obtain ⟨g',o',e',-,-,hck⟩:=hzz k _ ((hfa k hk).2 hlt)
    cases e'
    go_wp2
    go_roundw
    case rel=>exact ⟨k+1,hlt,by first | rfl | trivial,by first | rfl | trivial⟩
    case measure=>exact q1M'' hlt
  · obtain rfl:k=fb:=Nat.le_antisymm hk (Nat.le_of_not_lt hlt)
    have hex:=first_exit (fun h=>Nat.lt_irrefl _ ((hfa k (Nat.le_refl _)).1 h))
    clear hfa hlt hk hfl
    have hK:=HI.out.1.gd.ok
    have e2:k=fbL T.nd T.n:=HI.out.2.2.1
    have b15:=below_next hb2 hb5
    have hT5:TrAt (okW w tb mb) wr tb mb T:=hT1.below b15
    have cl:=tLeaves_any _ tb mb T hK.n64.1 wr hT5
    have cL:Calls Tryz.prog 46 #[.int .i64 500] wr _:=lawLeaf_any 500 (by decide) wr
    have hn64:=hK.n64.2
    have hn1:=hK.n64.1
    have hkn:k≤T.n:=by rw [e2];exact fbL_le _ _
    obtain ⟨n',hn'⟩:∃ n',n'=(addT T (lfM 500)).n:=⟨_,rfl⟩
    have hcase:(k=T.n∧n'=2*T.n)∨(k<T.n∧n'=T.n):=by
     have e3:n'=addN T:=hn'
     unfold addN at e3
     rw [←e2] at e3
     by_cases e4:k=T.n
     · rw [if_pos e4] at e3;exact .inl ⟨e4,e3⟩
     · rw [if_neg e4] at e3;exact .inr ⟨by omega,e3⟩
    have hT2:TrOK (addT T (lfM 500)):=(HI.out.1.gd.add (by rw [←e2];exact HI.out.2.2.2.1) (lfM_R 500) (lfM_K 500)).ok
    have HM:=Hid.mk' (And.intro hK (And.intro e2 (And.intro hn' hT2)))
    have hGr:Gd (remT (addT T (lfM 500)) (k:Int)):=(HI.out.1.gd.add (by rw [←e2];exact HI.out.2.2.2.1) (lfM_R 500) (lfM_K 500)).rem _
    have hfit:tooB (remT (addT T (lfM 500)) (k:Int))=false:=rem_fit hT2.n64.2 _
    have hlw:=last_wide hfit
    have hrn:=hGr.ok.n64
    have HN:=Hid.mk' (And.intro (hT1.below hb2).tlt (And.intro (hT1.below hb2).mlt zo5))
    have HG:=Hid.mk' hGr
    rw [show mbs (remT (addT T (lfM 500)) (k:Int))=ms from HI.out.2.2.2.2] at hlw
    have HL:=Hid.mk' (And.intro hlw hrn)
    clear hK e2 hn' hT2 hb2 hb5 hT1 hb12 hGr hfit hlw hrn
    rcases hex with ⟨hl,z,hz,hzk⟩ | hl
    case' inl =>
     have hl':(k:Int)<(ms.length:Int):=Int.ofNat_lt.2 hl
     have h0:(0:Int)≤(k:Int):=Int.natCast_nonneg k
     obtain ⟨g',o',e',-,-,hck⟩:=hzz k _ hz
     cases e'
     go_upto_region 8 with (fail)
     clear hl' h0 hck hzk hz hl
    case' inr =>
     have hl':¬(k:Int)<(ms.length:Int):=fun h=>hl (Int.ofNat_lt.1 h)
     go_upto_region 8 with (fail)
     clear hl' hl
    all_goals
     go_upto_region 10 with (first
      | (go_at_call 34;refine cl.mono ?_;clear cl;rintro e wn ⟨rfl,hwn⟩;obtain rfl:=hwn.symm)
      | (go_at_call 46;go_loud (refine cL.mono ?_;clear cL;rintro e w6 ⟨cs,rfl,hlf,hb6⟩;(have cA:=tAdd_yes _ tb mb T HM.out.1 cs (lfM 500) w6 (HT.out.keep (below_next bw5 hb6)) (hT5.below hb6) hlf (lfM_R 500) (by rw [←HM.out.2.1];exact HI.out.2.2.2.1));(rw [←HM.out.2.1] at cA)))
      | (go_at_call 31;refine cA.mono ?_;clear cA;rintro e w7 ⟨rfl,hT7,bt7⟩))
     have cl:=tLeaves_any _ tb mb _ HM.out.2.2.2.n64.1 w7 hT7
     rw [show (addT T (lfM 500)).n=n' from HM.out.2.2.1.symm] at cl
     have cR:=fun (W:World) (hd:DbT W) (hb:TrAt (fun b=>okW w tb mb b∨w6.heap.size≤b) W tb mb (addT T (lfM 500)))=>rem_yes _ tb mb T (lfM 500) k HM.out.2.1 HM.out.2.2.2 (by rw [←HM.out.2.2.1];rcases hcase with ⟨h1,h2⟩ | ⟨h1,h2⟩ <;> omega) W hd hb
     have bw6:=below_next bw5 hb6
     have bw7:Below w.heap.size w w7:=bw6.trans (bt7.below bw6.size (by rintro q (rfl | rfl);exact hmb;exact htb))
     have zo7:=(HN.out.2.2.keep hb6).same bt7.size (fun b hl hok=>bt7.block b hl (by have:=HN.out.1;have:=HN.out.2.1;rintro (h | h) <;> omega))
     have cRR:=cR w7 (HT.out.keep bw7) hT7
     clear cR
     rcases hcase with ⟨h1,h2⟩ | ⟨h1,h2⟩
     case' inl=>(have f1:(T.n:Int)≤(k:Int):=by omega);(have f2:¬(k:Int)<(T.n:Int):=by omega);(have f3:(n':Int)=2*(T.n:Int):=by omega)
     case' inr=>(have f1:¬(T.n:Int)≤(k:Int):=by omega);(have f2:(k:Int)<(T.n:Int):=by omega);(have f3:(n':Int)=(T.n:Int):=by omega)
     all_goals
      rw [f3] at cl
      clear h1 h2 f3
      go_upto_region 12 with (first
       | (go_at_call 19;refine (num4_any _ _).mono ?_;rintro e wn ⟨rfl,hwn⟩;obtain rfl:=hwn.symm)
       | (go_at_call 34;refine cl.mono ?_;clear cl;rintro e wn ⟨rfl,hwn⟩;obtain rfl:=hwn.symm))
      have HZ:=Hid.mk' (And.intro hml (And.intro zo7 hne))
      clear f1 f2 hn64 hn1 hkn hzz zo5 how hlf hT5 b15 hz0 hf64 hc hne hml zo7 hb6 bw6 hb1
      have HT7:=Hid.mk' hT7
      clear hT7
      go_upto_region 14 with (first
       | (go_at_call 36;refine cRR.mono ?_;clear cRR;rintro e w8 ⟨rfl,hT8,bt8⟩;(have cM:=tMembers_any _ tb mb _ HG.out.ok w8 hT8);(rw [show mbL (remT (addT T (lfM 500)) (k:Int)).nd (remT (addT T (lfM 500)) (k:Int)).n=ms from HI.out.2.2.2.2] at cM))
       | (go_at_call 19;refine (num4_any _ _).mono ?_;rintro e wn ⟨rfl,hwn⟩;obtain rfl:=hwn.symm)
       | (go_at_call 27;refine cM.mono ?_;clear cM;rintro e w9 ⟨v9,rfl,ho9,hb9⟩;(have zo9:=(HZ.out.2.1.same bt8.size (fun b hl hok=>bt8.block b hl (by have:=HN.out.1;have:=HN.out.2.1;rintro (h | h) <;> omega))).keep hb9);(obtain ⟨x9,c9,rfl⟩:=ho9.slice);(have cI:=ints_same _ _ ms (Nat.le_trans HZ.out.1 (by decide)) w9 (ZO.own ho9).of zo9.of);(have hT9:=hT8.below hb9))
       | (go_at_call 26;refine cI.mono ?_;clear cI;rintro e w10 ⟨rfl,hb10⟩))
      have bw8:Below w.heap.size w w8:=bw7.trans (bt8.below bw7.size (by rintro q (rfl | rfl);exact hmb;exact htb))
      have hw:=below_next (below_next bw8 hb9) hb10
      have hT10:=hT9.below hb10
      have zo10:=zo9.keep hb10
      clear hb9 hb10 hT9 zo9 hT8 bt8 bt7 bw7 bw8 ho9
      obtain ⟨n'',hn''⟩:∃ n'',n''=(remT (addT T (lfM 500)) (k:Int)).n:=⟨_,rfl⟩
      have hlw:=HL.out
      rw [←hn''] at hlw
      have cl:=fun (W:World) (h:TrAt (fun b=>okW w tb mb b∨w6.heap.size≤b) W tb mb (remT (addT T (lfM 500)) (k:Int)))=>tLeaves_any _ tb mb _ HL.out.2.1 W h
      rw [←hn''] at cl
      obtain ⟨hlw,hr1,hr2⟩:=hlw
      clear hn''
      by_cases h1:n''=1
      · subst h1
        have hdr:Below w10.heap.size w10 w10.drew:=(Below.refl _ _).drew
        replace hT10:=hT10.below hdr
        replace zo10:=zo10.keep hdr
        replace hw:=below_next hw hdr
        clear hdr
        refine wp_region_noPanic ?_
        refine wp_region_held_drew (S:=fun u=>Below w10.drew.heap.size w10.drew u) (by kernel_rfl) (Below.refl _ _) (fun hS => ?_)
        generalize w10.drew=V at *
        refine tg 0 hS ?_
        (try simp only [pS])
        refine cn 1 (cl V hT10) ?_
        rintro e wn ⟨rfl,hwn⟩
        obtain rfl:=hwn.symm
        refine ⟨_,rfl,Below.refl _ _,?_⟩
        clear hS
        have hS:=Below.refl V.heap.size V
        (try simp only [pS])
        refine tg 2 hS ?_
        (try simp only [pS])
        refine tg 3 hS ?_
        (try simp only [pS])
        refine tk 4 undef hS (hy:=(Or.inr ⟨by rfl,rfl⟩)) (h := ?_)
        (try simp only [pS])
        refine tk 5 undef hS (hy:=(Or.inr ⟨by rfl,rfl⟩)) (h := ?_)
        (try simp only [pS])
        refine tk 6 undef hS (hy:=(Or.inr ⟨by rfl,rfl⟩)) (h := ?_)
        (try simp only [pS])
        refine tk 7 undef hS (hy:=(Or.inr ⟨by rfl,rfl⟩)) (h := ?_)
        (try simp only [pS])
        refine tk 8 undef hS (hy:=(Or.inr ⟨by rfl,rfl⟩)) (h := ?_)
        (try simp only [pS])
        refine tk 9 undef hS (hy:=(Or.inr ⟨by rfl,rfl⟩)) (h := ?_)
        (try simp only [pS])
        refine tk 10 undef hS (hy:=(Or.inr ⟨by rfl,rfl⟩)) (h := ?_)
        (try simp only [pS])
        refine tk 11 undef hS (hy:=(Or.inr ⟨by rfl,rfl⟩)) (h := ?_)
        (try simp only [pS])
        refine tk 12 undef hS (hy:=(Or.inr ⟨by rfl,rfl⟩)) (h := ?_)
        (try simp only [pS])
        refine tk 13 undef hS (hy:=(Or.inr ⟨by rfl,rfl⟩)) (h := ?_)
        (try simp only [pS])
        refine tg 14 hS ?_
        (try simp only [pS])
        refine tg 15 hS ?_
        (try simp only [pS])
        refine wpAnyH_done (by kernel_rfl) ?_ _
        refine NoPanic.normal ?_
        go_wp2
        go_ret
        exact ⟨rfl,hw⟩
      · obtain ⟨z,hz1,hz2⟩:∃ z,ms[ms.length - 1]? = some z∧((n'' / 2:Nat):Int)≤z:=by
         rcases hlw with h | h
         · exact absurd h (by omega)
         · exact h
        have e1:((n'':Int) == 1)=false:=beq_eq_false_iff_ne.2 (by omega)
        have hl1:=HZ.out.2.2
        have hl2:=HZ.out.1
        obtain ⟨m1,hm1⟩:∃ m1,m1=ms.length - 1:=⟨_,rfl⟩
        rw [←hm1] at hz1
        have e2:IntKind.i64.wrap ((ms.length:Int) - 1)=(m1:Int):=wrN (by omega) (by omega)
        have e3:(m1:Int)<(ms.length:Int):=by omega
        have e4:(0:Int)≤(m1:Int):=Int.natCast_nonneg m1
        obtain ⟨q,hq⟩:∃ q,q=n'' / 2:=⟨_,rfl⟩
        rw [←hq] at hz2
        have e5:IntKind.i64.wrap ((n'':Int) / 2)=(q:Int):=wrN (by omega) (by omega)
        clear hm1 hq hlw hl1 hl2 h1 hr1 hr2
        have hdr:Below w10.heap.size w10 w10.drew:=(Below.refl _ _).drew
        replace hT10:=hT10.below hdr
        replace zo10:=zo10.keep hdr
        replace hw:=below_next hw hdr
        clear hdr
        refine wp_region_noPanic ?_
        refine wp_region_held_drew (S:=fun u=>Below w10.drew.heap.size w10.drew u) (by kernel_rfl) (Below.refl _ _) (fun hS => ?_)
        generalize w10.drew=V at *
        refine tg 0 hS ?_
        (try simp only [pS])
        refine cn 1 (cl V hT10) ?_
        rintro e wn ⟨rfl,hwn⟩
        obtain rfl:=hwn.symm
        refine ⟨_,rfl,Below.refl _ _,?_⟩
        clear hS
        have hS:=Below.refl V.heap.size V
        (try simp only [pS])
        refine tg 2 hS (v := .bool false) ?_
        (try simp only [pS])
        refine tg 3 hS ?_
        (try simp only [pS])
        refine tg 4 hS ?_
        (try simp only [pS])
        refine tg 5 hS ?_
        (try simp only [pS])
        refine tg 6 hS ?_
        (try simp only [pS])
        refine tg 7 hS (v := .int .i64 (m1:Int)) ?_
        (try simp only [pS])
        refine tg 8 hS (v := .pointer (some ⟨gz,oz+m1,none⟩)) ?_
        (try simp only [pS])
        refine tc 9 hS (fun u hu=>zo_cell (zo10.keep hu) hz1) ?_
        (try simp only [pS])
        refine tg 10 hS ?_
        (try simp only [pS])
        refine cn 11 (cl V hT10) ?_
        rintro e wn ⟨rfl,hwn⟩
        obtain rfl:=hwn.symm
        refine ⟨_,rfl,Below.refl _ _,?_⟩
        clear hS
        have hS:=Below.refl V.heap.size V
        (try simp only [pS])
        refine tg 12 hS (v := .int .i64 (q:Int)) ?_
        (try simp only [pS])
        refine tg 13 hS (v := .bool true) ?_
        (try simp only [pS])
        refine tg 14 hS ?_
        (try simp only [pS])
        refine tg 15 hS ?_
        (try simp only [pS])
        refine wpAnyH_done (by kernel_rfl) ?_ _
        refine NoPanic.normal ?_
        go_wp2
        go_ret
        exact ⟨rfl,hw⟩
end Go.Proofs.YtddkbmnkbfciaaaGreatDoor
namespace Go.Proofs.YtddkbmnkbfciaaaGreatDoor
open Go.RowKit
theorem rX {P:Program} {md:Region.Mode} {ops:Array Oper} {Q:Exit→Act→World→Prop} {S:World→Prop} {fuel:Nat} {listed:Array Bool} {a:Act} {w:World} (i:Nat) {rs:List Nat} {oi:Oper} (v:Value) (cs:Array Value) (t:TypeId) (hk:S (w.alloc (.cells cs t))) (h:wpAnyH P md ops Q S fuel (listed.setIfInBounds i true) (a.put oi.dst v) (w.alloc (.cells cs t))) (hs:AllReadyH P md ops Q S fuel listed a w rs)
 (hi:ops.toList[i]? = some oi:=by rfl) (hrun:(execOp a.eval oi).run P w = .ok (.value v) (w.alloc (.cells cs t)):=by kernel_rfl) (hw:Region.wanted oi (yielded ops a.tmps)=true:=by rfl):AllReadyH P md ops Q S fuel listed a w (i :: rs):=by
 refine AllReadyH.cons (at_list hi) (fun K hK => ?_) hs
 rw [if_pos hw]
 unfold Oper.wp
 rw [hrun,Oper.upon_value]
 exact hK.out _ _ hk (fun _=>h)
def PrIx (w:World) (cs:List Value) (d:PrD):Prop:=∃ v0 v1 v2,cs=[v0,v1,v2]∧BytesIn w v0 d.enc.n d.enc.b∧BytesIn w v1 d.hash.n d.hash.b∧ZIx w v2 d.um
theorem PrIx.keep {w w':World} {cs:List Value} {d:PrD} (h:PrIx w cs d) (hb:Below w.heap.size w w'):PrIx w' cs d:=by
 obtain ⟨v0,v1,v2,e,h0,h1,h2⟩:=h
 exact ⟨v0,v1,v2,e,h0.keep hb,h1.keep hb,h2.keep hb⟩
end Go.Proofs.YtddkbmnkbfciaaaGreatDoor
namespace Go.Proofs.YtddkbmnkbfciaaaGreatDoor
open Go.RowKit
def Cv (w:World) (v:Value) (s:ByteArray):Prop:=∀ W,Below w.heap.size w W→(convert 29 9 v).run Tryz.prog W = .ok (.string s) W
theorem Cv.keep {w w':World} {v:Value} {s:ByteArray} (h:Cv w v s) (hb:Below w.heap.size w w'):Cv w' v s:=fun W hW=>h W (below_next hb hW)
end Go.Proofs.YtddkbmnkbfciaaaGreatDoor
namespace Go.Proofs.YtddkbmnkbfciaaaGreatDoor
open Go.RowKit
def k0:Nat→Nat:=fun _=>0
end Go.Proofs.YtddkbmnkbfciaaaGreatDoor
namespace Go.Proofs.YtddkbmnkbfciaaaGreatDoor
open Go.RowKit
open Classical in
open Classical in
open Classical in
noncomputable def getZ (R:Prop):Int:=if R then 0 else 21
open Classical in
noncomputable def getX {α:Type} (R:Prop) (d z:α):α:=if R then d else z
theorem GetA.same {α:Type} {R:Prop} {D:World→List Value→α→Prop} {d z:α} {zero:List Value} {e:Ending} {w:World} (h:GetA R (fun W cs=>D W cs d) zero e w) (hz:D w zero z):∃ cs,e = .returned (.tuple #[.agg cs.toArray,.int .i64 (getZ R)])∧D w cs (getX R d z):=by
 unfold GetA at h
 unfold getZ getX
 split at h
 · rename_i hR
   obtain ⟨cs,rfl,hc⟩:=h
   rw [if_pos hR,if_pos hR]
   exact ⟨cs,rfl,hc⟩
 · rename_i hR
   rw [if_neg hR,if_neg hR]
   exact ⟨zero,h,hz⟩
theorem PrIn.form {w:World} {cs:List Value} {d:PrD} (h:PrIn w cs d):∃ x0 c0 x1 c1 x2 c2,cs=[.slice x0 d.enc.n c0,.slice x1 d.hash.n c1,.slice x2 d.um.length c2]:=by
 obtain ⟨v0,v1,v2,rfl,h0,h1,h2⟩:=h
 obtain ⟨x0,c0,rfl,-⟩:=h0.src
 obtain ⟨x1,c1,rfl,-⟩:=h1.src
 obtain ⟨x2,c2,rfl,-⟩:=h2
 exact ⟨x0,c0,x1,c1,x2,c2,rfl⟩
theorem RowAt.keep {K:IntKind} {w w':World} {b o n:Nat} {X:Nat→Nat} (h:RowAt K w b o n X) (hn:0<n) (hb:Below w.heap.size w w'):RowAt K w' b o n X:=h.below hb (block_lt_of_cell (h 0 hn).1)
end Go.Proofs.YtddkbmnkbfciaaaGreatDoor
namespace Go.Proofs.YtddkbmnkbfciaaaGreatDoor
open Go.ChangeShapes Go.WideShapes Go.ChangeAt Go.RowKit Go.Joins Go.Deep
theorem cellsOfStep:Tryz.prog.cellsOf 139=2:=by kernel_rfl
set_option maxRecDepth 20000 in
theorem open_steps {H:Type} {enc:TypeId × Value→H} {W:World} {base:Nat} {v:Value} {d:DataW H} {ps:List MemPlace} (hval:Value.okWide Tryz.prog W .any base 73 v) (h:DataW.Trod enc Tryz.prog W 0 (fun _=>true) true 73 v d ps) :
 ∃ (xo:Option Addr) (ss:List (Int × Int)) (c:Nat),v = .slice xo ss.length c∧StepsAt W (.slice xo ss.length c) ss:=by
 obtain ⟨a0,len,cap,rfl⟩:=okWide_slice Tryz.underlying73 hval
 obtain ⟨fuel,hf⟩:=h
 have hc:Cell.ok Tryz.prog W .any base 73 (.slice a0 len cap):=by
  unfold Value.okWide Cell.okWide at hval
  simp only [Tryz.underlying73] at hval
  exact hval
 rcases Deep.open_slice Tryz.underlying73 hf with ⟨hcs,hx⟩ | ⟨a,len',cap',m,n,D,Pl,hcs,_,hl,hm,hmm,hx,hrow⟩
 · simp [Value.cells] at hcs
   obtain ⟨rfl,rfl,rfl⟩:=hcs
   exact ⟨none,[],0,rfl,none,0,rfl,fun j s hs=>by simp at hs⟩
 · simp [Value.cells] at hcs
   obtain ⟨rfl,rfl,rfl⟩:=hcs
   simp only [if_true] at hmm
   unfold Cell.ok at hc
   simp only [Tryz.underlying73] at hc
   obtain ⟨_,_,_,hs,_⟩:=hc
   obtain ⟨b,off,spot⟩:=a
   subst hs
   rw [cellsOfStep] at hrow
   have each:∀ i,i<len→∃ q:Int × Int,W.cell? ⟨b,off+i*2,none⟩=some (.int .i64 q.1)∧W.cell? ⟨b,off+i*2+1,none⟩=some (.int .i64 q.2):=by
    intro i hi
    obtain ⟨cs',h1,h2⟩:=hrow i (by omega)
    obtain ⟨_,hlen,hcell⟩:=World.cells?_some h1
    obtain ⟨xs,k,hk,hxy,_,hxl,hfd⟩:=DataW.trod_struct Tryz.underlying139 h2
    match xs,hxl,cs',hlen with
    | [y0,y1],_,[v0,v1],_ =>
     have g0:=hfd 0 _ rfl
     have g1:=hfd 1 _ rfl
     have k2:Tryz.prog.cellsOf 3=1:=by kernel_rfl
     simp [k2] at g0 g1
     obtain ⟨z0,hz0,-,-⟩:=DataW.trod_int Tryz.underlying3 g0
     obtain ⟨z1,hz1,-,-⟩:=DataW.trod_int Tryz.underlying3 g1
     obtain rfl:v0 = .int .i64 z0:=by simpa using hz0
     obtain rfl:v1 = .int .i64 z1:=by simpa using hz1
     have e0:=hcell 0 (by omega)
     have e1:=hcell 1 (by omega)
     rw [Addr.add_mid,Addr.add_mid] at e0 e1
     exact ⟨(z0,z1),by simpa using e0,by simpa using e1⟩
   obtain ⟨q,hq⟩:=Deep.choose_lt (α:=Int × Int) each
   refine ⟨some ⟨b,off,none⟩,(List.range len).map q,cap,by simp,some ⟨b,off,none⟩,cap,rfl,fun j s hs => ?_⟩
   have hj:j<len:=by have:=(List.getElem?_eq_some_iff.1 hs).1;simpa using this
   have e:s=q j:=by simp [hj] at hs;exact hs.symm
   subst e
   exact ⟨b,off,rfl,block_lt_of_cell (hq j hj).1,(hq j hj).1,(hq j hj).2⟩
end Go.Proofs.YtddkbmnkbfciaaaGreatDoor
namespace Go.Proofs.YtddkbmnkbfciaaaGreatDoor
open Go Go.RowKit
def lay (cs:Array Value):Obj→Obj
 | .cells _ t frozen => .cells cs t frozen
 | o=>o
theorem cellsOfI:Tryz.prog.cellsOf 3=1:=by kernel_rfl
theorem cellsOfU:Tryz.prog.cellsOf 145=1:=by kernel_rfl
theorem cellsOf3U:Tryz.prog.cellsOf 203=3:=by kernel_rfl
theorem cellsOfW:Tryz.prog.cellsOf 210=1:=by kernel_rfl
theorem cellsOf80W:Tryz.prog.cellsOf 264=80:=by kernel_rfl
theorem cellsOf8W:Tryz.prog.cellsOf 232=8:=by kernel_rfl
theorem rules_parts {H:Type} {enc:TypeId × Value→H} {w:World} {base:Nat} {sp:Nat→Bool} {held:Bool} {fuel:Nat} {cs:List Value} {a b:Int} {x y z u:List Int} {p:List MemPlace}
 (h:DataW.trod enc Tryz.prog w base sp held fuel 205 cs=some (.agg [.lit (.int .i64 a),.lit (.int .i64 b),Lib.tabData .u64 x,Lib.tabData .u64 y,Lib.tabData .u64 z,Lib.tabData .u64 u],p)) :
 (cs.drop 0).take 1=[.int .i64 a]∧(cs.drop 1).take 1=[.int .i64 b]∧(cs.drop 2).take 3=x.map (fun v=>Value.int .u64 v)∧(cs.drop 5).take 3=y.map (fun v=>Value.int .u64 v)∧(cs.drop 8).take 3=z.map (fun v=>Value.int .u64 v)∧(cs.drop 11).take 3=u.map (fun v=>Value.int .u64 v):=by
 cases fuel with
 | zero=>simp [DataW.trod] at h
 | succ fuel =>
  simp only [DataW.trod,Tryz.underlying205] at h
  split at h
  · obtain ⟨xs,hm,hx⟩:=Option.map_eq_some_iff.1 h
    have hxs:=congrArg Prod.fst hx
    simp only [DataW.agg.injEq] at hxs
    have hlen:xs.length=6:=by have:=congrArg List.length hxs;simpa using this
    have g:∀ i f,(i<6)→[(3,0),(3,1),(203,2),(203,5),(203,8),(203,11)][i]? = some f→∃ y,xs[i]? = some y∧DataW.trod enc Tryz.prog w base sp held fuel f.1 ((cs.drop f.2).take (Tryz.prog.cellsOf f.1))=some y:=fun i f hi hf=>by
     match i,hi,hf with
     | 0,_,hf=>cases hf;exact Lib.mapM_at hm 0 _ rfl
     | 1,_,hf=>cases hf;exact Lib.mapM_at hm 1 _ rfl
     | 2,_,hf=>cases hf;exact Lib.mapM_at hm 2 _ rfl
     | 3,_,hf=>cases hf;exact Lib.mapM_at hm 3 _ rfl
     | 4,_,hf=>cases hf;exact Lib.mapM_at hm 4 _ rfl
     | 5,_,hf=>cases hf;exact Lib.mapM_at hm 5 _ rfl
    match xs,hlen,hxs,g with
    | [x0,x1,x2,x3,x4,x5],_,hxs,g =>
     simp only [List.map_cons,List.map_nil,List.cons.injEq,and_true] at hxs
     obtain ⟨e0,e1,e2,e3,e4,e5⟩:=hxs
     obtain ⟨_,h0,t0⟩:=g 0 _ (by decide) rfl
     obtain ⟨_,h1,t1⟩:=g 1 _ (by decide) rfl
     obtain ⟨_,h2,t2⟩:=g 2 _ (by decide) rfl
     obtain ⟨_,h3,t3⟩:=g 3 _ (by decide) rfl
     obtain ⟨_,h4,t4⟩:=g 4 _ (by decide) rfl
     obtain ⟨_,h5,t5⟩:=g 5 _ (by decide) rfl
     cases h0;cases h1;cases h2;cases h3;cases h4;cases h5
     rw [cellsOfI] at t0 t1
     rw [cellsOf3U] at t2 t3 t4 t5
     obtain ⟨z0,c0,r0,_⟩:=DataW.trod_int Tryz.underlying3 t0
     obtain ⟨z1,c1,r1,_⟩:=DataW.trod_int Tryz.underlying3 t1
     subst r0 r1
     cases e0;cases e1
     have k:∀ {o:Nat} {v:DataW H × List MemPlace} {l:List Int},DataW.trod enc Tryz.prog w base sp held fuel 203 ((cs.drop o).take 3)=some v→v.1=Lib.tabData .u64 l→(cs.drop o).take 3=l.map (fun v=>Value.int .u64 v):=fun {o v l} ht he=>by
      obtain ⟨v1,v2⟩:=v
      cases he
      exact Lib.cells_of_tab Tryz.underlying203 Tryz.underlying145 cellsOfU cellsOf3U ht
     exact ⟨c0,c1,k t2 e2,k t3 e3,k t4 e4,k t5 e5⟩
  · cases h
theorem at_of_part {cs:List Value} {o n:Nat} {l:List Value} (h:(cs.drop o).take n=l) (i:Nat) (hi:i<n):cs[o+i]? = l[i]?:=by
 rw [←h,List.getElem?_take,if_pos hi,List.getElem?_drop]
theorem cubesL_eq:Rows.laid_synod_sha_cubes=(Lib.tabData .u64 (cubesL.map fun n:Nat=>(n:Int)):DataW Unit):=rfl
theorem squaresL_eq:Rows.laid_synod_sha_squares=(Lib.tabData .u64 (squaresL.map fun n:Nat=>(n:Int)):DataW Unit):=rfl
theorem gCubes:Tryz.prog.globalNamed "synod/sha.cubes" = some 4:=by kernel_rfl
theorem gSquares:Tryz.prog.globalNamed "synod/sha.squares" = some 2:=by kernel_rfl
theorem gNarrow:Tryz.prog.globalNamed "synod/sha.narrowRules" = some 0:=by kernel_rfl
theorem tCubes:(Tryz.prog.globals[4]?).map (·.type)=some 264:=by kernel_rfl
theorem tSquares:(Tryz.prog.globals[2]?).map (·.type)=some 232:=by kernel_rfl
theorem tNarrow:(Tryz.prog.globals[0]?).map (·.type)=some 205:=by kernel_rfl
theorem tab_cell {W:World} {name:String} {g:Nat} {l:List Nat} {cs:Array Value} (hg:Tryz.prog.globalNamed name=some g) (hv:W.var? Tryz.prog name=some cs) (hc:cs.toList=(l.map fun n:Nat=>(n:Int)).map fun z=>Value.int .u64 z) (j:Nat) (hj:j<l.length):W.cell? ⟨g,j,none⟩=some (.int .u64 ((l.getD j 0:Nat):Int)):=by
 rw [World.var?_cell hg hv j,←Array.getElem?_toList,hc]
 simp [List.getD,hj]
theorem cellsOfDb:Tryz.prog.cellsOf 253=64:=by kernel_rfl
theorem db_eq:Rows.laid_math_bits_deBruijn64tab=(Lib.tabData .u8 (Lib.deBruijn64tab.map fun n:Nat=>(n:Int)):DataW Unit):=rfl
theorem gDb:Tryz.prog.globalNamed "math/bits.deBruijn64tab" = some 3:=by kernel_rfl
theorem tDb:(Tryz.prog.globals[3]?).map (·.type)=some 253:=by kernel_rfl
theorem tree_of_laid {W:World} (h:laidMetH Tryz.prog [("math/bits.deBruijn64tab", Rows.laid_math_bits_deBruijn64tab),("synod/sha.cubes", Rows.laid_synod_sha_cubes),("synod/sha.squares", Rows.laid_synod_sha_squares),("synod/sha.narrowRules", Rows.laid_synod_sha_narrowRules)] W):DbT W∧HTab W cubeK squareK:=by
 have h':laidMet Tryz.prog [("math/bits.deBruijn64tab", Rows.laid_math_bits_deBruijn64tab),("synod/sha.cubes", Rows.laid_synod_sha_cubes),("synod/sha.squares", Rows.laid_synod_sha_squares),("synod/sha.narrowRules", Rows.laid_synod_sha_narrowRules)] W:=h
 obtain ⟨ps,⟨g0,t0,cs0,f0,p0,q0,hg0,ht0,hv0,hd0,⟨g1,t1,cs1,f1,p1,q1,hg1,ht1,hv1,hd1,⟨g2,t2,cs2,f2,p2,q2,hg2,ht2,hv2,hd2,⟨g3,t3,cs3,f3,p3,q3,hg3,ht3,hv3,hd3,_,_⟩,_⟩,_⟩,_⟩,_⟩:=h'
 obtain rfl:=Option.some.inj (gDb.symm.trans hg0)
 obtain rfl:=Option.some.inj (tDb.symm.trans ht0)
 obtain rfl:=Option.some.inj (gCubes.symm.trans hg1)
 obtain rfl:=Option.some.inj (tCubes.symm.trans ht1)
 obtain rfl:=Option.some.inj (gSquares.symm.trans hg2)
 obtain rfl:=Option.some.inj (tSquares.symm.trans ht2)
 obtain rfl:=Option.some.inj (gNarrow.symm.trans hg3)
 obtain rfl:=Option.some.inj (tNarrow.symm.trans ht3)
 rw [db_eq] at hd0
 rw [cubesL_eq] at hd1
 rw [squaresL_eq] at hd2
 have c0:=Lib.cells_of_tab Tryz.underlying253 Tryz.underlying5 cellsOfByte cellsOfDb hd0
 have hc:∀ j,j<64→W.cell? ⟨3,j,none⟩=some (.int .u8 ((Lib.deBruijn64tab.getD j 0:Nat):Int)):=by
  intro j hj
  rw [World.var?_cell gDb hv0 j,←Array.getElem?_toList,c0,List.map_map,List.getElem?_map]
  have hl:j<Lib.deBruijn64tab.length:=hj
  rw [List.getElem?_eq_getElem hl,List.getD_eq_getElem?_getD,List.getElem?_eq_getElem hl]
  rfl
 have c1:=Lib.cells_of_tab Tryz.underlying264 Tryz.underlying210 cellsOfW cellsOf80W hd1
 have c2:=Lib.cells_of_tab Tryz.underlying232 Tryz.underlying210 cellsOfW cellsOf8W hd2
 obtain ⟨a0,a1,a2,a3,a4,a5⟩:=rules_parts (a:=32) (b:=64) (x:=[7,18,3]) (y:=[17,19,10]) (z:=[2,13,22]) (u:=[6,11,25]) hd3
 have n:∀ j,W.cell? ⟨0,j,none⟩=cs3.toList[j]?:=fun j=>by rw [World.var?_cell gNarrow hv3 j,Array.getElem?_toList]
 refine ⟨⟨World.block_lt_of_cell? W _ (hc 0 (by decide)),hc⟩,fun j hj=>tab_cell gCubes hv1 c1 j hj,fun j hj=>tab_cell gSquares hv2 c2 j hj,?_,cubeK_lt,squareK_lt⟩
 exact ⟨(n 0).trans (at_of_part a0 0 (by decide)),(n 1).trans (at_of_part a1 0 (by decide)),(n 2).trans (at_of_part a2 0 (by decide)),(n 3).trans (at_of_part a2 1 (by decide)),(n 4).trans (at_of_part a2 2 (by decide)),(n 5).trans (at_of_part a3 0 (by decide)),(n 6).trans (at_of_part a3 1 (by decide)),(n 7).trans (at_of_part a3 2 (by decide)),(n 8).trans (at_of_part a4 0 (by decide)),(n 9).trans (at_of_part a4 1 (by decide)),(n 10).trans (at_of_part a4 2 (by decide)),(n 11).trans (at_of_part a5 0 (by decide)),(n 12).trans (at_of_part a5 1 (by decide)),(n 13).trans (at_of_part a5 2 (by decide))⟩
def tabA (l:List Nat):Array Value:=(l.map fun n:Nat=>Value.int .u64 (n:Int)).toArray
def rulA (m r:Nat) (l:List Nat):Array Value:=([Value.int .i64 m,.int .i64 r] ++ l.map fun n:Nat=>Value.int .u64 (n:Int)).toArray
noncomputable def laidWorldT (os:Os):World :=
 { World.holding Tryz.prog os ⟨#[],#[],[]⟩ with heap:=((((World.holding Tryz.prog os ⟨#[],#[],[]⟩).heap.modify 4 (lay (tabA cubesL))).modify 2 (lay (tabA squaresL))).modify 0 (lay (rulA 32 64 [7,18,3,17,19,10,2,13,22,6,11,25]))).modify 3 (lay (Lib.deBruijn64tab.map fun n:Nat=>Value.int .u8 (n:Int)).toArray) }
end Go.Proofs.YtddkbmnkbfciaaaGreatDoor
