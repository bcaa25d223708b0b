/- What the proof stands on: T4W, T6F, T5O, T6G, N3lb, N3lc, N3le, N3lf, N3op, T6L. -/
import Derived.Test.YtpmkiegabaidjaaGreatDoorCards
import Derived.Test.YtpmkiegabaidjaaGreatDoorHRefSmallM
import Derived.Test.YtpmkiegabaidjaaGreatDoorHWriteCM
import Derived.Test.YtpmkiegabaidjaaGreatDoorN3SM
import Derived.Test.YtpmkiegabaidjaaGreatDoorN3laM
import Derived.Test.YtpmkiegabaidjaaGreatDoorT4ZM
import Derived.Test.YtpmkiegabaidjaaGreatDoorT5GM
import Derived.Test.YtpmkiegabaidjaaGreatDoorT5KM
import Derived.Test.YtpmkiegabaidjaaGreatDoorT5RM
import Derived.Test.YtpmkiegabaidjaaGreatDoorT6AM
import Derived.Test.YtpmkiegabaidjaaGreatDoorTie
import Derived.Lib.LaidTab
namespace Go.Proofs.YtpmkiegabaidjaaGreatDoor
open Go.RowKit Go.Shelf
attribute [local go_sem] Oper.semAt_some
set_option maxRecDepth 100000 in
set_option maxHeartbeats 4000000 in
theorem add_wide (ok:Nat→Prop) (tb mb:Nat) (T:Tr) (hK:TrOK T) (cs:List Value) (d:LfD) (w:World) (hT:DbT w) (h:TrAt ok w tb mb T) (hd:LfIn w cs d) (hR:lfR d 3) (hne:fbL T.nd T.n=T.n) (hn6:T.n≠64) :
 Calls Tryz.prog 31 #[pA tb 0,.agg cs.toArray] w fun e w'=>e = .returned (.tuple #[.int .i64 (fbL T.nd T.n:Int),.int .i64 0])∧TrAt (fun b=>ok b∨w.heap.size≤b) w' tb mb (addT T d)∧But (fun j=>j=mb∨j=tb) w w':=by
 obtain ⟨W1,hW1⟩:∃ W1,W1=(w.alloc (.cells #[pA tb 0] 23)).alloc (.cells cs.toArray 54):=⟨_,rfl⟩
 obtain ⟨k1,k2,bw,hs⟩:=add_boxes tb cs w hW1
 have hil:(Tryz.prog.info? 54).map (·.size)=some cs.length:=by rw [hd.row.1];kernel_rfl
 have cM:=tmade_any tb T.n W1 (h.below bw).lv
 rw [decide_eq_true (by have:=hK.n64;omega)] at cM
 have cB:=mayBe_any cs d W1 (hd.keep bw)
 have q1:=k1.range 0 _ rfl
 have r2:=k2.range
 have hn64:=hK.n64
 have hle:=fbL_le T.nd T.n
 rw [Nat.zero_add] at q1
 have HW1:=Hid.mk' hW1
 have Hs:=Hid.mk' hs
 clear hW1 hs
 obtain ⟨i,hi⟩:∃ i,i=fbL T.nd T.n:=⟨_,rfl⟩
 have HI:=Hid.mk' hi
 rw [←hi] at hne hle ⊢
 clear hi
 have Hh:=Hid.mk' h
 have Hd:=Hid.mk' hd
 have HR:=Hid.mk' hR
 have HT:=Hid.mk' hT
 have HK:=Hid.mk' hK
 have Hn:=Hid.mk' (And.intro hne (And.intro hn6 hn64))
 clear h hd hR hT hK hne hle hn64 hn6
 obtain ⟨nn,-⟩:∃ nn:Nat,True:=⟨1,trivial⟩
 refine (callsIn_wide (n:=nn)).1 ?_
 refine callsIn_of_wp_marks Tryz.func31 rfl trivial ?_ rfl
 simp only [Tryz.ntmps31,List.size_toArray,List.length_cons,List.length_nil,Nat.reduceAdd,Nat.reduceSub,Array.replicate_succ,Array.replicate_zero,List.push_toArray,List.append_toArray,List.nil_append,List.cons_append]
 gi_wp2_with (first
  | (rw [←HW1.out];clear HW1)
  | (refine ⟨trivial,(fun h=>by cases h),?_⟩;gi_at_call 54;refine (callsIn_wide.2 cM).mono ?_;clear cM;rintro e w1 ⟨rfl,rfl⟩)
  | (refine wpListIn_load_wd rfl 54 _ rfl _ 0 rfl cs _ r2 Tryz.underlying54 rfl hil ?_)
  | (refine ⟨trivial,(fun h=>by cases h),?_⟩;gi_at_call 94;refine (callsIn_wide.2 cB).mono ?_;clear cB;rintro e w2 ⟨b,rfl,hb,hb2⟩;(obtain rfl:b=true:=hb.2 HR.out);clear hb;(have bw2:=below_next bw hb2);(have cF:=firstBlank_any ok tb mb T HK.out w2 (Hh.out.below bw2));(rw [←HI.out] at cF);(have q1':=(k1.still hb2).range 0 _ rfl);(rw [Nat.zero_add] at q1');clear q1)
  | (refine ⟨trivial,(fun h=>by cases h),?_⟩;gi_at_call 95;refine (callsIn_wide.2 cF).mono ?_;clear cF;rintro e w3 ⟨rfl,hb3⟩;(have q1'':=((k1.still hb2).still hb3).range 0 _ rfl);(rw [Nat.zero_add] at q1'');clear q1'))
 have b3:=below_next bw2 hb3
 have Hw13:=Hid.mk' (Nat.le_trans hb2.size hb3.size)
 have kA:=RW.fresh w3 [.int .i64 (i:Int)] 3
 obtain ⟨V,hV⟩:∃ V,V=(w3.alloc (.cells #[.int .i64 (i:Int)] 3)).drew:=⟨_,rfl⟩
 have bV:Below w3.heap.size w3 V:=by rw [hV];exact ((Below.refl _ _).alloc (Nat.le_refl _) _).drew
 have kI:RW V w3.heap.size 0 [.int .i64 (i:Int)]:=by rw [hV];exact kA.drew
 have sV:V.heap.size=w3.heap.size+1:=by rw [hV];exact World.size_alloc _ _
 have kT:=((k1.still hb2).still hb3).still bV
 have kL:=((k2.still hb2).still hb3).still bV
 have bVw:=below_next b3 bV
 have hV4:=Hh.out.below bVw
 have heq:((i:Int) == (T.n:Int))=true:=by have:=Hn.out.1;simp;omega
 have cW:=widen_any tb T.n Hn.out.2.2.2 V hV4.lv hV4.lf
 have hlv:=hV4.lv
 have hml:=Hh.out.mlt
 have htl:=Hh.out.tlt
 clear q1'' kA hb2 hb3 bw2
 refine wpIn_heldW (S:=fun u=>RW u w3.heap.size 0 [.int .i64 (i:Int)]∧RW u w.heap.size 0 [pA tb 0]) (by kernel_rfl) (by kernel_rfl) (by rw [←hV];exact ⟨kI,kT⟩) (fun hS => ?_)
 rw [←hV] at hS ⊢
 clear hV
 refine tc 0 hS (fun u hu=>hu.1.range 0 _ rfl) ?_
 (try simp only [pS])
 refine tc 1 hS (fun u hu=>hu.2.range 0 _ rfl) ?_
 (try simp only [pS])
 refine tg 2 hS ?_
 (try simp only [pS])
 refine tg 3 hS ?_
 (try simp only [pS])
 refine wo4 4 (v := .int .i64 (T.n:Int)) (w':=V) ?hrun hS ?_
 case hrun=>go_simp
 (try simp only [pS])
 refine tg 5 hS (v := .bool true) ?_ (hy:=by intro u _;go_simp)
 (try simp only [pS])
 refine tg 6 hS ?_
 (try simp only [pS])
 refine tc 7 hS (fun u hu=>hu.2.range 0 _ rfl) ?_
 (try simp only [pS])
 refine cl 8 cW (fun e X hr => ?_)
 rcases hr with ⟨h64,-⟩ | ⟨-,rfl,hX⟩
 · exact absurd h64 Hn.out.2.1
 have b3s:=b3.size
 have hXT:TrAt ok X tb mb ⟨2*T.n,T.nd⟩:=by rw [hX];exact (hV4.leaves (2*T.n)).1
 have hXb:But (fun j=>j=mb∨j=tb) w X:=by rw [hX];exact (But.of_below bVw).trans ((hV4.leaves (2*T.n)).2.mono (fun k e => .inr e))
 have hXd:LfIn X cs d:=by rw [hX];exact LfIn.setLv hV4 (Hd.out.keep bVw) _
 have hXN:addN T=2*T.n:=by unfold addN;rw [if_pos (HI.out.symm.trans Hn.out.1)]
 have hXi:i<2*T.n:=by have:=Hn.out;omega
 have sX:X.heap.size=w3.heap.size+1:=by rw [hX];simp;omega
 have hN64:2*T.n≤64:=by have:=mayB_cases HK.out.may;have:=Hn.out;omega
 replace kI:=kI.set2o (b:=tb) (by omega) 0 (.int .i64 ((2*T.n:Nat):Int))
 replace kT:=kT.set2o (b:=tb) (by omega) 0 (.int .i64 ((2*T.n:Nat):Int))
 replace kL:=kL.set2o (b:=tb) (by omega) 0 (.int .i64 ((2*T.n:Nat):Int))
 rw [←hX] at kI kT kL
 refine ⟨_,rfl,⟨kI,kT⟩,?_⟩
 replace hS:=And.intro kI kT
 (try simp only [pS])
 refine tg 9 hS ?_
 (try simp only [pS])
 refine tg 10 hS ?_
 (try simp only [pS])
 refine wpAnyH_done (by kernel_rfl) ?_ _
 refine OnlyN.normal ?_
 obtain ⟨N,hN⟩:∃ N,N=2*T.n:=⟨_,rfl⟩
 rw [←hN] at hXT hXN hXi hN64
 clear hX hV4 bVw heq sV bV hN cW hlv hml htl b3s
 --AFTER
 have hbw:w.heap.size+2≤w3.heap.size:=by rw [←Hs.out];exact Hw13.out
 have htl:=Hh.out.tlt
 have hml:=Hh.out.mlt
 have cP:=put4_any ok tb mb ⟨N,T.nd⟩ (i:Int) ⟨by omega,by omega⟩ cs d (lfR_L HR.out) X hXT hXd
 have qT:=kT.range 0 _ rfl
 have qI:=kI.range 0 _ rfl
 have rL:=kL.range
 rw [Nat.zero_add] at qT qI
 clear k1 k2 bw r2 b3
 gi_wp2_with (first
  | (refine wpListIn_load_mid rfl 54 _ rfl _ 0 rfl cs _ rL Tryz.underlying54 rfl hil ?_;clear rL)
  | (refine ⟨trivial,(fun h=>by cases h),?_⟩;gi_at_call 96;refine (callsIn_wide.2 cP).mono ?_;clear cP;rintro e X2 ⟨⟨v2,rfl⟩,hT2,hb2⟩;(have kT2:=kT.but hb2 (by omega));(have kI2:=kI.but hb2 (by omega));(have qT2:=kT2.range 0 _ rfl);(have qI2:=kI2.range 0 _ rfl);(rw [Nat.zero_add] at qT2 qI2);(have cA:=parentsAbove_any tb (i:Int) X2);clear qT qI)
  | (refine ⟨trivial,(fun h=>by cases h),?_⟩;gi_at_call 97;refine (callsIn_wide.2 cA).mono ?_;clear cA;rintro e X3 ⟨rfl,hX3⟩;(have HX3:=Hid.mk' hX3);clear hX3))
 have hX3:=HX3.out
 obtain ⟨f0,hF0⟩:=hT2.f
 have sX2:X.heap.size≤X2.heap.size:=hb2.size
 have bX3:Below X2.heap.size X2 X3:=by rw [hX3];exact ((Below.refl _ _).alloc (Nat.le_refl _) _).alloc (by simp) _
 have sX3:X3.heap.size=X2.heap.size+2:=by rw [hX3];simp
 have kP3:RW X3 X2.heap.size 0 [pA tb 0]:=by
  rw [hX3];exact (RW.fresh X2 [pA tb 0] 23).still ((Below.refl _ _).alloc (Nat.le_refl _) _)
 have kJ3:RW X3 (X2.heap.size+1) 0 [.int .i64 (i:Int)]:=by
  have:=RW.fresh (X2.alloc (.cells #[pA tb 0] 23)) [.int .i64 (i:Int)] 3
  rw [World.size_alloc] at this
  rw [hX3];exact this
 have kT3:=kT2.still bX3
 have kI3:=kI2.still bX3
 have hbX2:But (fun j=>j=mb∨j=tb) w X2:=hXb.trans (hb2.mono (fun k e => .inl e))
 have hbX3:=hbX2.trans (But.of_below bX3)
 have hT3:TrF (fun b=>(ok b∨X.heap.size≤b)∧b<X3.heap.size) X3 tb mb N f0 (upn T.nd (2*(i:Int)) (some (.lf d))) :=
  (hF0.same bX3.size (fun b hb _=>bX3.block b hb)).wide (fun b hb h=>⟨h,hb⟩) (fun h=>hF0.ntb h.1) (fun h=>hF0.nmb h.1)
 have hit:=parentsAbove_it (X2.heap.size+1) X2.heap.size tb mb N (i:Int) (fun k=>f0 (((pathL i N)[k]?).getD 0)) (fun k=>hF0.hd.shp _)
 have hxn:=pathL_nodup (i:Int) (N:Int)
 have hp7:=pathL_len (i:Int) (N:Int)
 have hws:w.heap.size≤X.heap.size:=hXb.size
 have hprR:∀ x p,upn T.nd (2*(i:Int)) (some (.lf d)) x=some (.pr p)→Rises p.um∧p.um.length≤1000:=fun x p hx=>by
  unfold upn at hx
  split at hx
  · cases hx
  · have:=(HK.out.pr x p hx).2
    have h2:=risU_rises this.2.2
    exact ⟨h2.1,by omega⟩
 have haT:addT T d=⟨N,umgL (i:Int) (upn T.nd (2*(i:Int)) (some (.lf d))) (pathL (i:Int) (N:Int))⟩:=by unfold addT;rw [hXN,←HI.out]
 obtain ⟨F0,hF⟩:∃ F0,F0=upn T.nd (2*(i:Int)) (some (.lf d)):=⟨_,rfl⟩
 rw [←hF] at hT3 hprR haT
 obtain ⟨xs,hxs⟩:∃ xs,xs=pathL (i:Int) (N:Int):=⟨_,rfl⟩
 rw [←hxs] at hit hxn hp7 haT
 have HaT:=Hid.mk' haT
 have hlB:w3.heap.size<X3.heap.size∧w.heap.size<X3.heap.size∧X2.heap.size+1<X3.heap.size∧X2.heap.size<X3.heap.size∧tb<X3.heap.size∧mb<X3.heap.size:=by omega
 have hwB:w.heap.size≤X3.heap.size:=by omega
 clear hX3 HX3 hF0 hT2 kT2 kI2 qT2 qI2 hF hxs haT kT kI kL bX3 hbX2
 have HsX:=Hid.mk' (And.intro sX (And.intro sX3 (And.intro sX2 (And.intro hbw (And.intro htl hml)))))
 clear sX sX3 sX2 hbw hXd hXT hXb hb2 hS
 have hDb:=Hid.mk' (fun (W:World) (hb:But (fun j=>j=mb∨j=tb) w W)=>Hh.out.dbt HT.out hb)
 refine range_it hit rfl (enters_of Tryz.func165 (by kernel_rfl) rfl)
  (fun k=>AddJ w X3.heap.size w3.heap.size w.heap.size (X2.heap.size+1) X2.heap.size tb mb N (i:Int) (fun b=>(ok b∨X.heap.size≤b)∧b<X3.heap.size) f0 F0 xs k)
  (fun _ _ _=>False) (fun _=>False) ?_ ?_ ?_ ?_ ?_ (fun b hb=>hb.elim) ?_ ?_ ?_ ?_
 · intro k M V V' hj hL;exact hj.loc hL hlB (fun b h=>h.2) hwB
 · intro c M V V' h;exact h.elim
 · intro k M V hk hj
   obtain ⟨f,h4,h5⟩:=hj.tr
   exact ⟨⟨hj.kP.range 0 _ rfl,h4.lv,h4.st⟩,hj.kJ.range 0 _ rfl,hDb.out V hj.bt,fun x hx=>⟨f,h4.mp,by show f x=f0 ((xs[k]?).getD 0);rw [hx];exact h5 k x (Nat.le_refl _) hx⟩⟩
 · intro k M V hk ha hj
   obtain ⟨f,h4,h5⟩:=hj.tr
   obtain ⟨x,hx⟩:∃ x,xs[k]? = some x:=⟨_,List.getElem?_eq_getElem hk⟩
   rw [hx] at ha
   simp only [Option.getD_some] at ha
   refine ⟨hj.kT,hj.kI,hj.kP,hj.kJ,⟨f,?_,fun j y hkj=>h5 j y (by omega)⟩,hj.bt,hj.mB⟩
   have e:umgL (i:Int) F0 (xs.take (k+1))=umgL (i:Int) F0 (xs.take k):=by
    rw [List.take_add_one,hx]
    show umgL (i:Int) F0 (xs.take k ++ [x])=_
    rw [umgL_append]
    rcases h4.hd.pr x with ⟨-,hno⟩ | ⟨cs',p,hp,-⟩
    · funext y
      unfold upn
      by_cases ey:y=x
      · rw [if_pos ey,ey]
        cases hc:umgL (i:Int) F0 (xs.take k) x with
        | none=>rfl
        | some nd=>cases nd with
         | lf d'=>rfl
         | pr p=>exact absurd hc (hno p)
      · rw [if_neg ey]
    · rw [h5 k x (Nat.le_refl _) hx] at hp
      rw [hp] at ha;cases ha
   rw [e];exact h4
 · intro k a' ha
   cases hl:prV (f0 ((xs[k]?).getD 0)) with
   | none=>rw [hl] at ha;cases ha
   | some A=>rw [hl] at ha;cases ha;rfl
 · intro V hb
   exact ⟨kT3.still hb,kI3.still hb,kP3.still hb,kJ3.still hb,⟨f0,(hT3.same hb.size (fun b hl _=>hb.block b hl)).wide (fun b _ h => .inl h) (fun h=>by rcases h with h | h;exact hT3.ntb h;exact h) (fun h=>by rcases h with h | h;exact hT3.nmb h;exact h),fun j x _ _=>rfl⟩,hbX3.trans (But.of_below hb),fun b h=>h.elim⟩
 · intro k M V l a' hk ha hj hl1 hl2 hl3
   obtain ⟨f,h4,h5⟩:=id hj.tr
   obtain ⟨x,hx⟩:∃ x,xs[k]? = some x:=⟨_,List.getElem?_eq_getElem hk⟩
   rw [hx] at ha
   simp only [Option.getD_some] at ha
   rcases h4.hd.pr x with ⟨hno,-⟩ | ⟨cp,p,hp,hFx,hO⟩
   · rw [h5 k x (Nat.le_refl _) hx] at hno
     rw [hno] at ha;cases ha
   have hp0:=hp
   rw [h5 k x (Nat.le_refl _) hx] at hp
   rw [hp] at ha
   cases ha
   have hFx0:=hFx
   rw [umgL_out _ _ _ (nodup_take hxn hx)] at hFx0
   obtain ⟨hris,hlen⟩:=hprR x p hFx0
   have h3:cp.length=3∧cp.toArray.all (·.oneCell')=true:=by
    obtain ⟨x0,c0,x1,c1,x2,c2,rfl,-⟩:=hO.form
    exact ⟨rfl,by rw [List.all_toArray];simp [Value.oneCell']⟩
   have hi3:=iszP cp.toArray (by simpa using h3.1)
   have thV:=thPr4 V cp.toArray (by simpa using h3.1)
   obtain ⟨V1,hV1⟩:∃ V1,V1=(V.alloc (.cells #[.slice none 0 0,.slice none 0 0,.slice none 0 0] 121)).setCells V.heap.size 0 cp:=⟨_,rfl⟩
   obtain ⟨kV1,bV1⟩:=stPr4 V cp.toArray (by simpa using h3.1) hV1
   have HV1:=Hid.mk' hV1
   have HbV1:=Hid.mk' bV1
   clear hit hFx0 hp0 hp hV1 bV1
   gi_wp2_with (refine wpListIn_store_rd rfl 121 _ _ rfl _ 0 cp.toArray rfl rfl thV hi3 h3.2 ?_;rw [List.toList_toArray,←HV1.out];clear HV1 thV)
   refine ⟨HbV1.out,fun V2 hbt hsz hj2 => ?_⟩
   obtain ⟨f2,g4,g5⟩:=id hj2.tr
   have hXl:X3.heap.size<l:=hl1
   have bV1:=HbV1.out
   have hlV1:l<V1.heap.size:=Nat.lt_of_lt_of_le hl2 bV1.size
   have hOk:∀ b,b<V.heap.size→((ok b∨X.heap.size≤b)∧b<X3.heap.size∨M b)→V2.heap[b]? = V.heap[b]?:=fun b hb ho =>
    (hbt.block b (Nat.lt_of_lt_of_le hb bV1.size) (fun e=>by subst e;rcases ho with ho | ho;omega;exact hl3 ho)).trans (bV1.block b hb)
   have hO2:=hO.same (by rw [hsz];exact bV1.size) hOk
   have kV2:=kV1.but hbt (by omega)
   have hVs:V.heap.size≤V2.heap.size:=by rw [hsz];exact bV1.size
   obtain ⟨U,hU⟩:∃ U,U=V2.drew:=⟨_,rfl⟩
   have bU:Below V2.heap.size V2 U:=by rw [hU];exact (Below.refl _ _).drew
   have hiU:(Tryz.prog.info? 121).map (·.size)=some cp.length:=by rw [h3.1];kernel_rfl
   have kU:=kV2.still bU
   have kTU:=hj2.kT.still bU
   have kIU:=hj2.kI.still bU
   have g4U:=g4.same bU.size (fun b hb _=>bU.block b hb)
   have hOU:=hO2.same bU.size (fun b hb _=>bU.block b hb)
   have sU:V2.heap.size≤U.heap.size:=bU.size
   clear kV1 hj h4 h5 hO hbt HbV1 bV1 hOk hO2
   gi_wp2
   refine wpIn_last4 9 (S:=fun u=>Below U.heap.size U u) (by kernel_rfl) (by kernel_rfl) (by kernel_rfl) (by kernel_rfl) (by kernel_rfl) (by rw [hU];exact Below.refl _ _) (fun hS => ?_)
   rw [←hU] at hS ⊢
   clear hU
   refine tc 0 hS (fun u hu=>(kTU.still hu).range 0 _ rfl) ?_
   (try simp only [pS])
   refine tg 1 hS ?_
   (try simp only [pS])
   refine tg 2 hS ?_
   (try simp only [pS])
   refine tc 3 hS (fun u hu=>(g4U.same hu.size (fun b hb _=>hu.block b hb)).st) ?_
   (try simp only [pS])
   refine tg 4 hS ?_
   (try simp only [pS])
   refine tl 5 kU hS 121 Tryz.underlying121 hiU ?_
   (try simp only [pS])
   refine tc 6 hS (fun u hu=>(kIU.still hu).range 0 _ rfl) ?_
   (try simp only [pS])
   refine cl 7 (withUnmerged_any _ cp p (i:Int) hris hlen U hOU) (fun e U2 hr => ?_)
   obtain ⟨cp',rfl,hO',hbU2⟩:=hr
   refine ⟨_,rfl,hbU2,?_⟩
   (try simp only [pS])
   refine tg 8 hbU2 (v := .iface 121 (.agg cp'.toArray)) ?_ (hy:=by intro u _;rfl)
   (try simp only [pS])
   have g5U:=g4U.same hbU2.size (fun b hb _=>hbU2.block b hb)
   have hMn:∀ b,(M b∨V.heap.size≤b)→X3.heap.size≤b:=fun b hb=>by rcases hb with hb | hb;exact hj2.mB b hb;omega
   have g6U:TrF (fun b=>(ok b∨X.heap.size≤b)∧b<X3.heap.size∨(M b∨V.heap.size≤b)) U2 tb mb N f2 (umgL (i:Int) F0 (xs.take k)) :=
    g5U.wide (fun b _ h=>h.imp id .inl) (fun h=>by rcases h with h | h;exact g4U.ntb (.inl h);have:=hMn _ h;omega) (fun h=>by rcases h with h | h;exact g4U.nmb (.inl h);have:=hMn _ h;omega)
   have hO6:PrO (fun b=>(ok b∨X.heap.size≤b)∧b<X3.heap.size∨(M b∨V.heap.size≤b)) U2 cp' { p with um:=insZ p.um (i:Int) }:=hO'.wide (fun b _ h=>by rcases h with (h | h) | h;exact .inl h;exact .inr (.inl h);exact .inr (.inr (by omega)))
   obtain ⟨U3,hrun,h7,hb3,hs3⟩:=g6U.put x (.iface 121 (.agg cp'.toArray)) (d := .pr { p with um:=insZ p.um (i:Int) }) ⟨cp',rfl,hO6⟩
   refine wpAnyH_done (by kernel_rfl) ?_ _
   refine lastRun 9 (w':=U3) ?_ (hrun:=ex_mapUpdate 69 (.tmp 42) (.tmp 43) (.tmp 47) rfl rfl rfl rfl hrun)
   refine OnlyN.normal ?_
   have bUU:=below_next bU hbU2
   have hmbn:mb<X3.heap.size:=hlB.2.2.2.2.2
   have eN:umgL (i:Int) F0 (xs.take (k+1))=upn (umgL (i:Int) F0 (xs.take k)) x (some (.pr { p with um:=insZ p.um (i:Int) })):=by
    rw [List.take_add_one,hx]
    show umgL (i:Int) F0 (xs.take k ++ [x])=_
    rw [umgL_append,hFx];rfl
   have nb:∀ b,b≠mb→∀ {cs:List Value},RW V2 b 0 cs→RW U3 b 0 cs:=fun b hb _ hr=>(hr.still bUU).but hb3 hb
   have hin:RoundQ X3.heap.size V.heap.size M (AddJ w X3.heap.size w3.heap.size w.heap.size (X2.heap.size+1) X2.heap.size tb mb N (i:Int) (fun b=>(ok b∨X.heap.size≤b)∧b<X3.heap.size) f0 F0 xs (k+1)) (fun _ _ _=>False) V2 .normal { tmps:=#[],defers:=[] } U3:=by
    refine ⟨(Fro.of_below bUU).trans (Fro.of_but hb3 (fun b hb => .inl (by rw [hb];exact hmbn))),fun b=>M b∨V.heap.size≤b,fun b hb=>hb,?_⟩
    have hq:=HsX.out
    refine ⟨nb _ (by omega) hj2.kT,nb _ (by omega) hj2.kI,nb _ (by omega) hj2.kP,nb _ (by omega) hj2.kJ,⟨_,by rw [eN];exact h7,fun j y hkj hy => ?_⟩,hj2.bt.trans ((But.of_below bUU).trans (hb3.mono (fun b h => .inl h))),hMn⟩
    unfold upm
    rw [if_neg (fun e=>by subst e;have:=nodup_at hxn hx hy;omega)]
    exact g5 j y (by omega) hy
   clear hrun h7 hb3 g6U hO6 g5U
   gi_wp2
   exact hin
 · intro D M V hD hDl hDm hj hdf
   obtain ⟨f,h4,-⟩:=id hj.tr
   rw [List.take_length] at h4
   have qI:=hj.kI.range 0 _ rfl
   rw [Nat.zero_add] at qI
   have hq:=Hid.mk' HsX.out
   clear hit
   gi_wp2
   have hq:=hq.out
   have hbD:=but_put V D (.deferred none)
   refine ⟨by simp,.inl ⟨_,_,rfl,run_takeDeferred hdf,?_⟩⟩
   have h5:=h4.same (w':=V.putObj D (.deferred none)) hbD.size (fun b hb ho=>hbD.block b hb (fun e=>by
    subst e
    rcases ho with (ho | ho) | ho | ho
    · omega
    · exact hDm ho
    · omega
    · omega))
   refine ⟨_,results_tmp2 rfl _ _ _,rfl,?_,⟨hbD.os.trans hj.bt.os,hbD.tape.trans hj.bt.tape,hbD.output.trans hj.bt.output,Nat.le_trans hj.bt.size hbD.size,fun b hb hn=>(hbD.block b (Nat.lt_of_lt_of_le hb hj.bt.size) (by omega)).trans (hj.bt.block b hb hn)⟩⟩
   rw [HaT.out]
   exact (h5.wide (fun b _ h=>by
    rcases h with h | h
    · exact h.1.imp id (fun h=>by omega)
    · exact .inr (by have:=hj.mB b h;omega)) (fun h=>by rcases h with h | h;exact Hh.out.ntb h;omega) (fun h=>by rcases h with h | h;exact Hh.out.nmb h;omega)).at
 · intro D c M V hD hDl hDm hj hdf
   exact hj.elim
end Go.Proofs.YtpmkiegabaidjaaGreatDoor
namespace Go.Proofs.YtpmkiegabaidjaaGreatDoor
open Go.RowKit Go.Shelf
attribute [local go_sem] Oper.semAt_some
theorem num4_any (e:Int) (w:World):Calls Tryz.prog 19 #[.int .i64 e] w fun r w'=>r = .returned (.int .i64 e)∧w'=w:=by
 go_enter Tryz.func19,Tryz.ntmps19
 go_wp2
 go_ret
 exact ⟨rfl,rfl⟩
def kT0:Tr:=⟨1,fun _=>none⟩
def kT1:Tr:=addT kT0 (lfM 1)
def kT2:Tr:=addT kT1 (lfM 2)
def ks9:List Tx:=[⟨32,keyB 9⟩]
def kT3:Tr:=(spT kT2 0 ks9).1
theorem k0f:fbL kT0.nd kT0.n=0:=by kernel_rfl
theorem k1n:kT1.n=1:=by kernel_rfl
theorem k1f:fbL kT1.nd kT1.n=1:=by kernel_rfl
theorem k2n:kT2.n=2:=by kernel_rfl
theorem k2r:rso kT2 1=[0,2]:=by kernel_rfl
theorem k2l:(filL kT2 0).length=1:=by kernel_rfl
theorem k3n:kT3.n=2:=by kernel_rfl
theorem k3r:rso kT3 1=[1]:=by kernel_rfl
theorem kG1:Gd kT1:=Gd.add Gd.new (.inl (by rw [show fbL (⟨1,fun _=>none⟩:Tr).nd 1=0 from k0f];decide)) (lfM_R 1) (lfM_K 1)
theorem kG2:Gd kT2:=Gd.add kG1 (.inr (by rw [k1n];decide)) (lfM_R 2) (lfM_K 2)
theorem kG3:Gd kT3:=Gd.sp kG2 (by rw [k2l];rfl) (fun t ht=>by simp [ks9] at ht;rw [ht]) (fun t ht j=>by simp [ks9] at ht;rw [ht];exact s256_lt _ _ j)
theorem zin_row {w:World} {g:Nat} {l:List Int} (r:RW w g 0 (l.map fun z=>Value.int .i64 z)):ZIn w (.slice (some ⟨g,0,none⟩) l.length l.length) l :=
 ⟨_,_,rfl,fun i z hz=>⟨g,0,rfl,r.lt,r.range i _ (by rw [List.getElem?_map,hz];rfl)⟩⟩
theorem keys_one {w:World} {g:Nat} {v:Value} {n:Nat} {X:Nat→Nat} (r:RW w g 0 [v]) (h:BytesIn w v n X):KeysO (fun _=>True) w (.slice (some ⟨g,0,none⟩) 1 1) [⟨n,X⟩] :=
 ⟨_,1,rfl,Nat.le_refl _,fun j t ht=>by
   have e:j=0:=by
    obtain ⟨h,-⟩:=List.getElem?_eq_some_iff.1 ht
    simp at h;exact h
   subst e
   cases ht
   exact ⟨g,0,v,rfl,trivial,r.lt,r.range 0 _ rfl,BO.all h⟩⟩
set_option maxRecDepth 100000 in
set_option maxHeartbeats 4000000 in
theorem knows4_any (w:World) (hT:DbT w) (hH:HTab w cubeK squareK):Calls Tryz.prog 11 #[] w fun e w'=>e = .returned (.bool true)∧Below w.heap.size w w':=by
 have cN:=newTree_any w
 have HT:=Hid.mk' hT
 have HH:=Hid.mk' hH
 clear hT hH
 go_enter Tryz.func11,Tryz.ntmps11
 go_upto_region 2 with (go_at_call 9;refine cN.mono ?_;clear cN;rintro e w1 ⟨tb,mb,rfl,htb,hmb,hT1,hb1⟩)
 have cL:Calls Tryz.prog 46 #[.int .i64 1] w1 _:=lawLeaf_any 1 (by decide) w1
 go_upto_region 3 with (first
  | (go_at_call 46;refine cL.mono ?_;clear cL;rintro e w2 ⟨cs1,rfl,hl1,hb2⟩;(have cA:=add_near _ tb mb kT0 Gd.new.ok cs1 (lfM 1) w2 (HT.out.keep (below_next hb1 hb2)) (hT1.below hb2) hl1 (lfM_R 1) (by rw [k0f];decide));(rw [k0f,show ((0:Nat):Int)=0 from rfl] at cA))
  | (go_at_call 31;refine cA.mono ?_;clear cA;rintro e w3 ⟨rfl,hT3,bt3⟩))
 have bw3:Below w.heap.size w w3:=(below_next hb1 hb2).trans (bt3.below (below_next hb1 hb2).size (fun k hk=>by omega))
 have hT3':TrAt _ w3 tb mb kT1:=hT3
 clear hT1 hl1 hb1 hb2 bt3 hT3
 have cL:Calls Tryz.prog 46 #[.int .i64 2] w3 _:=lawLeaf_any 2 (by decide) w3
 go_upto_region 4 with (first
  | (go_at_call 46;( refine cL.mono ?_;clear cL;rintro e w4 ⟨cs2,rfl,hl2,hb4⟩;(have cA:=add_wide _ tb mb kT1 kG1.ok cs2 (lfM 2) w4 (HT.out.keep (below_next bw3 hb4)) (hT3'.below hb4) hl2 (lfM_R 2) (by rw [k1f,k1n]) (by rw [k1n];decide));(rw [k1f,show ((1:Nat):Int)=1 from rfl] at cA)))
  | (go_at_call 31;refine cA.mono ?_;clear cA;rintro e w5 ⟨rfl,hT5,bt5⟩))
 have bw5:Below w.heap.size w w5:=(below_next bw3 hb4).trans (bt5.below (below_next bw3 hb4).size (fun k hk=>by omega))
 clear hT3' hl2 hb4 bt5 bw3
 have hT5':TrAt _ w5 tb mb kT2:=hT5
 have cR:=tResolution_any _ tb mb kT2 kG2.ok 1 (by rw [k2n];decide) w5 (HT.out.keep bw5) hT5'
 rw [k2r] at cR
 go_upto_region 5 with (go_at_call 39;refine cR.mono ?_;clear cR;rintro e w6 ⟨v6,rfl,how6,hb6⟩)
 obtain ⟨x6,c6,rfl⟩:=how6.slice
 have z6:=ZO.own how6
 have htl:=hT5.tlt
 have hml:=hT5.mlt
 have bw6:=below_next bw5 hb6
 have hT6:=hT5'.below hb6
 clear how6 hT5 hT5'
 have cK:Calls Tryz.prog 47 #[.int .i64 9] w6 _:=key_any 9 w6
 have cS:=fun (W:World) (v:Value) (hb:Below w6.heap.size w6 W) (hk:KeysO (fun _=>True) W v ks9)=>tSetPath_yes _ (fun _=>True) tb mb kT2 kG2.ok kG2.rk 0 (by rw [k2n];decide) v ks9 W (HT.out.keep (below_next bw6 hb)) (HH.out.below (below_next bw6 hb) HH.out.size) (hT6.below hb) hk (by rw [k2l];rfl) (fun t ht=>by simp [ks9] at ht;rw [ht]) (fun t ht j=>by simp [ks9] at ht;rw [ht];exact s256_lt _ _ j)
 go_upto_region 6 with (first
  | (go_at_call 47;refine cK.mono ?_;clear cK;rintro e w7 ⟨vk,rfl,ok7,hb7⟩;(obtain ⟨xk,ck,rfl⟩:=ok7.slice);(have bX:Below w7.heap.size w7 (w7.alloc (.cells #[.slice xk 32 ck] 29)):=(Below.refl _ _).alloc (Nat.le_refl _) _);(have rX:=RW.fresh w7 [.slice xk 32 ck] 29);(have cS2:=cS _ (.slice (some ⟨w7.heap.size,0,none⟩) 1 1) (below_next hb7 bX) (keys_one rX ((BytesIn.of_own ok7).keep bX))))
  | (go_at_call 33;refine cS2.mono ?_;clear cS2;rintro e w8 ⟨v8,rfl,-,hT8,bt8⟩))
 have z8:ZO (fun b=>w5.heap.size≤b) w8 (.slice x6 [0,2].length c6) [0,2]:=(z6.keep (below_next hb7 bX)).same bt8.size (fun b hb ho=>bt8.block b hb (by omega))
 have hT8':TrAt _ w8 tb mb kT3:=hT8
 have bw8:Below w.heap.size w w8:=(below_next bw6 (below_next hb7 bX)).trans (bt8.below (below_next bw6 (below_next hb7 bX)).size (fun k hk=>by omega))
 have cV:=tLeaves_any _ tb mb kT3 (by rw [k3n];decide) w8 hT8'
 rw [k3n,show ((2:Nat):Int)=2 from rfl] at cV
 have bA:Below w8.heap.size w8 (w8.alloc (.cells #[.int .i64 0,.int .i64 2] 3)):=(Below.refl _ _).alloc (Nat.le_refl _) _
 have cI:=ints_same (.slice x6 [0,2].length c6) (.slice (some ⟨w8.heap.size,0,none⟩) 2 2) [0,2] (by decide) _ ((z8.keep bA).of) (zin_row (l:=[0,2]) (RW.fresh w8 [.int .i64 0,.int .i64 2] 3))
 have cR3:=fun (W:World) (hb:Below w8.heap.size w8 W)=>tResolution_any _ tb mb kT3 kG3.ok 1 (by rw [k3n];decide) W (HT.out.keep (below_next bw8 hb)) (hT8'.below hb)
 rw [k3r] at cR3
 clear hT8 bt8 ok7 hb7 bX rX z6 z8 cS hT6 hb6
 go_wp2_with (first
  | (go_at_call 19;refine (num4_any _ _).mono ?_;rintro e wn ⟨rfl,hwn⟩;obtain rfl:=hwn.symm)
  | (go_at_call 34;refine cV.mono ?_;clear cV;rintro e wl ⟨rfl,hwl⟩;obtain rfl:=hwl.symm)
  | (go_at_call 26;refine cI.mono ?_;clear cI;rintro e w9 ⟨rfl,hb9⟩;(have cR4:=cR3 w9 (below_next bA hb9)))
  | (go_at_call 39;refine cR4.mono ?_;clear cR4;rintro e w10 ⟨v10,rfl,how,hb10⟩;(obtain ⟨x10,c10,rfl⟩:=how.slice);(have cI5:=ints_same (.slice x10 [1].length c10) (.slice (some ⟨w10.heap.size,0,none⟩) 1 1) [1] (by decide) _ (((ZO.own how).keep ((Below.refl _ _).alloc (Nat.le_refl _) (.cells #[.int .i64 1] 3))).of) (zin_row (l:=[1]) (RW.fresh w10 [.int .i64 1] 3))))
  | (go_at_call 26;refine cI5.mono ?_;clear cI5;rintro e w11 ⟨rfl,hb11⟩))
 go_ret
 exact ⟨rfl,below_next (below_next (below_next (below_next (below_next bw8 bA) hb9) hb10) ((Below.refl _ _).alloc (Nat.le_refl _) _)) hb11⟩
end Go.Proofs.YtpmkiegabaidjaaGreatDoor
namespace Go.Proofs.YtpmkiegabaidjaaGreatDoor
open Go.RowKit
theorem tHashAt_none (p:Value) (x:Int) (w:World) (c:Calls Tryz.prog 91 #[p,.int .i64 x] w fun e w'=>e = .returned (.bool false)∧w'=w):Calls Tryz.prog 40 #[p,.int .i64 x] w fun e w'=>e = .returned (.slice none 0 0)∧w'=w:=by
 go_enter Tryz.func40,Tryz.ntmps40
 go_wp2_with (go_at_call 91;refine c.mono ?_;clear c;rintro e w1 ⟨rfl,rfl⟩)
 go_ret
 exact ⟨rfl,rfl⟩
end Go.Proofs.YtpmkiegabaidjaaGreatDoor
namespace Go.Proofs.YtpmkiegabaidjaaGreatDoor
open Go.RowKit Go.Shelf
attribute [local go_sem] Oper.semAt_some
theorem ttL (w:World):(w.alloc (.cells #[.slice none 0 0,.slice none 0 0,.slice none 0 0,.int .i64 0,.slice none 0 0,.slice none 0 0] 54)).there w.heap.size 0 6:=(RW.fresh w [.slice none 0 0,.slice none 0 0,.slice none 0 0,.int .i64 0,.slice none 0 0,.slice none 0 0] 54).there
theorem ttP (w:World):(w.alloc (.cells #[.slice none 0 0,.slice none 0 0,.slice none 0 0] 58)).there w.heap.size 0 3:=(RW.fresh w [.slice none 0 0,.slice none 0 0,.slice none 0 0] 58).there
theorem stL_b (w:World):Below w.heap.size w ((w.alloc (.cells #[.slice none 0 0,.slice none 0 0,.slice none 0 0,.int .i64 0,.slice none 0 0,.slice none 0 0] 54)).setCells w.heap.size 0 zLf.toArray.toList):=below_setCells (Nat.le_refl _) _ _ _ ((Below.refl _ _).alloc (Nat.le_refl _) _)
theorem stP_b (w:World):Below w.heap.size w ((w.alloc (.cells #[.slice none 0 0,.slice none 0 0,.slice none 0 0] 58)).setCells w.heap.size 0 zPr.toArray.toList):=below_setCells (Nat.le_refl _) _ _ _ ((Below.refl _ _).alloc (Nat.le_refl _) _)
theorem hiL:(Tryz.prog.info? 54).map (·.size)=some 6:=iszL54 zLf.toArray rfl
theorem h1L:zLf.toArray.all (·.oneCell')=true:=by rw [List.all_toArray];simp [zLf,Value.oneCell']
theorem hiP:(Tryz.prog.info? 58).map (·.size)=some 3:=by kernel_rfl
theorem h1P:zPr.toArray.all (·.oneCell')=true:=by rw [List.all_toArray];simp [zPr,Value.oneCell']
set_option maxRecDepth 100000 in
set_option maxHeartbeats 8000000 in
theorem treeNil_any (i:Int) (cs:List Value) (d:LfD) (hl:lfL d) (w:World) (hd:LfIn w cs d) (hT:DbT w) (hH:HTab w cubeK squareK):Calls Tryz.prog 5 #[.int .i64 i,.agg cs.toArray] w fun e w'=>e = .returned (.bool true)∧Below w.heap.size w w':=by
 obtain ⟨V,hV⟩:∃ V,V=w.alloc (.cells cs.toArray 31):=⟨_,rfl⟩
 have k1:RW V w.heap.size 0 cs:=by rw [hV];exact RW.fresh w cs 31
 have b1:Below w.heap.size w V:=by rw [hV];exact (Below.refl _ _).alloc (Nat.le_refl _) _
 have HV:=Hid.mk' hV
 have Hd:=Hid.mk' hd
 have HT:=Hid.mk' hT
 have HH:=Hid.mk' hH
 clear hV hd hT hH
 go_enter Tryz.func5,Tryz.ntmps5
 go_wp2_with (rw [←HV.out];clear HV)
 go_loopw [5,6,7,8,9,10,11,12,13,14] (fun tv kv _ _ _ _ _ _ _ _ wr=>∃ k:Nat,k≤2∧kv = .int .i64 (k:Int)∧NoP tv wr∧Below V.heap.size V wr) (fun _ kv _ _ _ _ _ _ _ _ _=>2 - (intOf kv).toNat)
 case atStart=>exact ⟨0,by decide,rfl,.inl rfl,Below.refl _ _⟩
 case round =>
  obtain ⟨k,hk,rfl,hN,hbw⟩:=hrel
  have hil:(Tryz.prog.info? 31).map (·.size)=some cs.length:=by rw [Hd.out.row.1];kernel_rfl
  by_cases hlt:k<2
  · have hlt':(k:Int)<2:=by omega
    have bw:Below wr.heap.size wr wr:=Below.refl _ _
    go_wp2_with (first
     | (go_at_call 29;refine (no_Leaf _ i _ (hN.keep bw)).mono ?_;rintro e w1 ⟨rfl,hb⟩;replace bw:=below_next bw hb;clear hb)
     | (refine wpList_store_mid rfl 54 _ _ rfl w1.heap.size 0 _ rfl rfl (ttL w1) hiL h1L ?_;replace bw:=below_next bw (stL_b w1);generalize (w1.alloc (.cells #[.slice none 0 0,.slice none 0 0,.slice none 0 0,.int .i64 0,.slice none 0 0,.slice none 0 0] 54)).setCells w1.heap.size 0 zLf.toArray.toList=w2 at *)
     | (go_at_call 30;refine (no_Parent _ i _ (hN.keep bw)).mono ?_;rintro e w3 ⟨rfl,hb⟩;replace bw:=below_next bw hb;clear hb)
     | (refine wpList_store_mid rfl 58 _ _ rfl w3.heap.size 0 _ rfl rfl (ttP w3) hiP h1P ?_;replace bw:=below_next bw (stP_b w3);generalize (w3.alloc (.cells #[.slice none 0 0,.slice none 0 0,.slice none 0 0] 58)).setCells w3.heap.size 0 zPr.toArray.toList=w4 at *)
     | (refine wpList_load_wd4 rfl 31 _ rfl w.heap.size 0 rfl cs _ ((k1.still (hbw.trans (bw.mono hbw.size))).range) Tryz.underlying31 rfl hil ?_)
     | (go_at_call 32;refine (mkLeaf_any cs d hl _ (Hd.out.keep (below_next b1 (hbw.trans (bw.mono hbw.size))))).mono ?_;rintro e w5 ⟨cl,rfl,hcl,hb⟩;replace bw:=below_next bw hb;clear hb)
     | (go_at_call 31;refine (no_Add _ cl _ (hN.keep bw)).mono ?_;rintro e w6 ⟨rfl,hb⟩;replace bw:=below_next bw hb;clear hb)
     | (go_at_call 33;refine (no_SetPath _ i none 0 0 _ (hN.keep bw)).mono ?_;rintro e w7 ⟨rfl,hb⟩;replace bw:=below_next bw hb;clear hb)
     | (go_at_call 19;refine (num4_any _ _).mono ?_;rintro e wn ⟨rfl,hwn⟩;obtain rfl:=hwn.symm)
     | (go_at_call 13;refine (no_Copy _ _ (hN.keep bw).no).mono ?_;rintro e wn ⟨rfl,hwn⟩;obtain rfl:=hwn.symm)
     | (go_at_call 34;refine (no_Leaves _ _ (hN.keep bw).no).mono ?_;rintro e wn ⟨rfl,hwn⟩;obtain rfl:=hwn.symm)
     | (go_at_call 36;refine (no_Remove _ i _ (hN.keep bw).no).mono ?_;rintro e wn ⟨rfl,hwn⟩;obtain rfl:=hwn.symm)
     | (go_at_call 20;refine (no_Valid _ _ (hN.keep bw).no).mono ?_;rintro e wn ⟨rfl,hwn⟩;obtain rfl:=hwn.symm)
     | (go_at_call 27;refine (no_Members _ _ (hN.keep bw).no).mono ?_;rintro e wn ⟨rfl,hwn⟩;obtain rfl:=hwn.symm)
     | (go_at_call 38;refine (tFiltered_none _ i _ ((hN.keep bw).no.leaf i)).mono ?_;rintro e wn ⟨rfl,hwn⟩;obtain rfl:=hwn.symm)
     | (go_at_call 39;refine (tResolution_none _ i _ ((hN.keep bw).no.place i)).mono ?_;rintro e wn ⟨rfl,hwn⟩;obtain rfl:=hwn.symm)
     | (go_at_call 17;refine (no_Hash _ _ (hN.keep bw).no).mono ?_;rintro e wn ⟨rfl,hwn⟩;obtain rfl:=hwn.symm)
     | (go_at_call 40;refine (tHashAt_none _ i _ ((hN.keep bw).no.place i)).mono ?_;rintro e wn ⟨rfl,hwn⟩;obtain rfl:=hwn.symm)
     | (go_at_call 15;refine (no_Encode _ _ (hN.keep bw).no).mono ?_;rintro e wn ⟨rfl,hwn⟩;obtain rfl:=hwn.symm)
     | (go_at_call 35;refine (no_Set _ i cl _ _ hcl (hN.keep bw)).mono ?_;rintro e w8 ⟨rfl,hb⟩;replace bw:=below_next bw hb;clear hb)
     | (go_at_call 37;refine (no_PutLeaf _ i cl _ _ hcl (hN.keep bw)).mono ?_;rintro e w10 ⟨rfl,hb⟩;replace bw:=below_next bw hb;clear hb))
    have rz:RW (w10.alloc (.cells #[.int .i64 0,.map none] 71)) w10.heap.size 0 [.int .i64 0,.map none]:=RW.fresh w10 [.int .i64 0,.map none] 71
    have q0:=rz.range 0 _ rfl
    rw [Nat.zero_add] at q0
    refine ⟨⟨k+1,by omega,by rfl,.inr ⟨w10.heap.size,rfl,q0⟩,(hbw.trans (bw.mono hbw.size)).trans ((Below.refl _ _).alloc (Nat.le_trans hbw.size bw.size) _)⟩,by simp [intOf];omega⟩
  · obtain rfl:k=2:=by omega
    have cK:=knows4_any wr (HT.out.keep (below_next b1 hbw)) (HH.out.below (below_next b1 hbw) HH.out.size)
    go_wp2_with (go_at_call 11;refine cK.mono ?_;clear cK;rintro e w9 ⟨rfl,hb9⟩)
    go_ret
    exact ⟨rfl,below_next (below_next b1 hbw) hb9⟩
end Go.Proofs.YtpmkiegabaidjaaGreatDoor
namespace Go.Proofs.YtpmkiegabaidjaaGreatDoor
open Go.RowKit
theorem rX {P:Program} {md:Region.Mode} {ops:Array Oper} {Q:Exit→Act→World→Prop} {S:World→Prop} {fuel:Nat} {listed:Array Bool} {a:Act} {w:World} (i:Nat) {rs:List Nat} {oi:Oper} (v:Value) (cs:Array Value) (t:TypeId) (hk:S (w.alloc (.cells cs t))) (h:wpAnyH P md ops Q S fuel (listed.setIfInBounds i true) (a.put oi.dst v) (w.alloc (.cells cs t))) (hs:AllReadyH P md ops Q S fuel listed a w rs)
 (hi:ops.toList[i]? = some oi:=by rfl) (hrun:(execOp a.eval oi).run P w = .ok (.value v) (w.alloc (.cells cs t)):=by kernel_rfl) (hw:Region.wanted oi (yielded ops a.tmps)=true:=by rfl):AllReadyH P md ops Q S fuel listed a w (i :: rs):=by
 refine AllReadyH.cons (at_list hi) (fun K hK => ?_) hs
 rw [if_pos hw]
 unfold Oper.wp
 rw [hrun,Oper.upon_value]
 exact hK.out _ _ hk (fun _=>h)
def PrIx (w:World) (cs:List Value) (d:PrD):Prop:=∃ v0 v1 v2,cs=[v0,v1,v2]∧BytesIn w v0 d.enc.n d.enc.b∧BytesIn w v1 d.hash.n d.hash.b∧ZIx w v2 d.um
theorem PrIx.keep {w w':World} {cs:List Value} {d:PrD} (h:PrIx w cs d) (hb:Below w.heap.size w w'):PrIx w' cs d:=by
 obtain ⟨v0,v1,v2,e,h0,h1,h2⟩:=h
 exact ⟨v0,v1,v2,e,h0.keep hb,h1.keep hb,h2.keep hb⟩
end Go.Proofs.YtpmkiegabaidjaaGreatDoor
namespace Go.Proofs.YtpmkiegabaidjaaGreatDoor
open Go.RowKit
def Cv (w:World) (v:Value) (s:ByteArray):Prop:=∀ W,Below w.heap.size w W→(convert 29 9 v).run Tryz.prog W = .ok (.string s) W
theorem Cv.keep {w w':World} {v:Value} {s:ByteArray} (h:Cv w v s) (hb:Below w.heap.size w w'):Cv w' v s:=fun W hW=>h W (below_next hb hW)
end Go.Proofs.YtpmkiegabaidjaaGreatDoor
namespace Go.Proofs.YtpmkiegabaidjaaGreatDoor
open Go.RowKit
def k0:Nat→Nat:=fun _=>0
end Go.Proofs.YtpmkiegabaidjaaGreatDoor
namespace Go.Proofs.YtpmkiegabaidjaaGreatDoor
open Go.RowKit
open Classical in
open Classical in
open Classical in
noncomputable def getZ (R:Prop):Int:=if R then 0 else 21
open Classical in
noncomputable def getX {α:Type} (R:Prop) (d z:α):α:=if R then d else z
theorem GetA.same {α:Type} {R:Prop} {D:World→List Value→α→Prop} {d z:α} {zero:List Value} {e:Ending} {w:World} (h:GetA R (fun W cs=>D W cs d) zero e w) (hz:D w zero z):∃ cs,e = .returned (.tuple #[.agg cs.toArray,.int .i64 (getZ R)])∧D w cs (getX R d z):=by
 unfold GetA at h
 unfold getZ getX
 split at h
 · rename_i hR
   obtain ⟨cs,rfl,hc⟩:=h
   rw [if_pos hR,if_pos hR]
   exact ⟨cs,rfl,hc⟩
 · rename_i hR
   rw [if_neg hR,if_neg hR]
   exact ⟨zero,h,hz⟩
theorem PrIn.form {w:World} {cs:List Value} {d:PrD} (h:PrIn w cs d):∃ x0 c0 x1 c1 x2 c2,cs=[.slice x0 d.enc.n c0,.slice x1 d.hash.n c1,.slice x2 d.um.length c2]:=by
 obtain ⟨v0,v1,v2,rfl,h0,h1,h2⟩:=h
 obtain ⟨x0,c0,rfl,-⟩:=h0.src
 obtain ⟨x1,c1,rfl,-⟩:=h1.src
 obtain ⟨x2,c2,rfl,-⟩:=h2
 exact ⟨x0,c0,x1,c1,x2,c2,rfl⟩
theorem RowAt.keep {K:IntKind} {w w':World} {b o n:Nat} {X:Nat→Nat} (h:RowAt K w b o n X) (hn:0<n) (hb:Below w.heap.size w w'):RowAt K w' b o n X:=h.below hb (block_lt_of_cell (h 0 hn).1)
end Go.Proofs.YtpmkiegabaidjaaGreatDoor
namespace Go.Proofs.YtpmkiegabaidjaaGreatDoor
open Go.ChangeShapes Go.WideShapes Go.ChangeAt Go.RowKit
theorem plainC {w:World} {b o:Nat} {sp:Option Nat} {v:Value} (h:w.cell? ((⟨b,o,sp⟩:Addr).add 0)=some v):sp=none:=by
 cases sp with
 | none=>rfl
 | some k =>
  exfalso
  unfold World.cell? Addr.add at h
  simp at h
  split at h <;> simp at h
section
variable {H:Type} {enc:TypeId × Value→H} {W:World} {fuel:Nat} {x:DataW H × List MemPlace}
theorem bytesC {v:Value} (h:DataW.trod enc Tryz.prog W 0 (fun _=>true) true fuel 29 [v]=some x):∃ t:Tx,BytesIn W v t.n t.b∧(∀ j,t.b j<256)∧(t.n=0∨∃ elems spare,x.1 = .slice elems spare∧elems.length=t.n):=by
 rcases open_ints Tryz.underlying29 Tryz.underlying5 cellsOfByte h with ⟨hcs,hx⟩ | ⟨a,len,cap,zs,hcs,_,hl,hm,hz,hx,hcell,hwz⟩
 · obtain rfl:v = .slice none 0 0:=by simpa using hcs
   exact ⟨tx0,.inl ⟨none,rfl,rfl⟩,fun _=>Nat.zero_lt_succ _,.inl rfl⟩
 · obtain rfl:v = .slice (some a) len cap:=by simpa using hcs
   simp only [if_true] at hz
   have hn:∀ j,0≤zs.getD j 0∧zs.getD j 0<256:=fun j=>by
    rw [List.getD_eq_getElem?_getD]
    cases h:zs[j]? with
    | none=>simp
    | some x =>
     have:=hwz x (List.mem_of_getElem? h)
     have h0:(0:Int)≤x∧x≤255:=by simpa [Lit.wf,IntKind.min,IntKind.max,IntKind.signed,IntKind.bits] using this
     show 0≤x∧x<256
     omega
   refine ⟨⟨len,fun j=>(zs.getD j 0).toNat⟩,?_,fun j=>by have:=hn j;show (zs.getD j 0).toNat<256;omega,.inr ⟨_,_,by rw [hx],?_⟩⟩
   · by_cases hC:cap=0
     · exact .inl ⟨some a,by rw [hC,show len=0 by omega],show len=0 by omega⟩
     · obtain ⟨b,o,sp⟩:=a
       have hc0:=hcell 0 (by omega)
       obtain rfl:=plainC hc0
       rw [Addr.add_mid] at hc0
       refine .inr ⟨b,o,cap,rfl,block_lt_of_cell hc0,hl,fun j hj => ?_⟩
       replace hj:j<len:=hj
       have h:=hcell j (by omega)
       rw [Addr.add_mid] at h
       rw [h]
       show _=some (Value.int .u8 (((zs.getD j 0).toNat:Nat):Int))
       rw [Int.toNat_of_nonneg (hn j).1]
   · simp [lits]
     omega
theorem cellsOfInt:Tryz.prog.cellsOf 3=1:=by kernel_rfl
end
theorem under_leaf:∃ f0 f1 f2 f3 f4 f5:Field,Tryz.prog.underlying 31=some (.struct #[f0,f1,f2,f3,f4,f5])∧(f0.type=29∧f1.type=29∧f2.type=29∧f3.type=3∧f4.type=29∧f5.type=29)∧(f0.offset=0∧f1.offset=1∧f2.offset=2∧f3.offset=3∧f4.offset=4∧f5.offset=5):=⟨_,_,_,_,_,_,Tryz.underlying31,⟨rfl,rfl,rfl,rfl,rfl,rfl⟩,⟨rfl,rfl,rfl,rfl,rfl,rfl⟩⟩
theorem cellsOfBytes:Tryz.prog.cellsOf 29=1:=by kernel_rfl
theorem cellsOfLeaf:Tryz.prog.cellsOf 31=6:=by kernel_rfl
section
variable {H:Type} {enc:TypeId × Value→H} {W:World} {fuel:Nat} {x:DataW H × List MemPlace}
set_option maxRecDepth 20000 in
theorem leafC {cs:List Value} (h:DataW.trod enc Tryz.prog W 0 (fun _=>true) true fuel 31 cs=some x) (hR:(DataW.weightsEach Tryz.prog [31] [x.1]).all (·≤reachBytes)=true):∃ d,LfIn W cs d∧lfK d∧lfL d:=by
 obtain ⟨f0,f1,f2,f3,f4,f5,hu,⟨t0,t1,t2,t3,t4,t5⟩,o0,o1,o2,o3,o4,o5⟩:=under_leaf
 obtain ⟨xs,n,_,rfl,hl,hlen,hf⟩:=DataW.trod_struct hu h
 rw [cellsOfLeaf] at hl
 match xs,hlen,cs,hl with
 | [y0,y1,y2,y3,y4,y5],_,[v0,v1,v2,v3,v4,v5],_ =>
  have g0:=hf 0 f0 rfl
  have g1:=hf 1 f1 rfl
  have g2:=hf 2 f2 rfl
  have g3:=hf 3 f3 rfl
  have g4:=hf 4 f4 rfl
  have g5:=hf 5 f5 rfl
  rw [t0,o0,cellsOfBytes] at g0
  rw [t1,o1,cellsOfBytes] at g1
  rw [t2,o2,cellsOfBytes] at g2
  rw [t3,o3,cellsOfInt] at g3
  rw [t4,o4,cellsOfBytes] at g4
  rw [t5,o5,cellsOfBytes] at g5
  obtain ⟨a0,i0,l0,d0⟩:=bytesC (x:=y0) g0
  obtain ⟨a1,i1,l1,d1⟩:=bytesC (x:=y1) g1
  obtain ⟨a2,i2,l2,d2⟩:=bytesC (x:=y2) g2
  obtain ⟨a4,i4,l4,d4⟩:=bytesC (x:=y4) g4
  obtain ⟨a5,i5,l5,d5⟩:=bytesC (x:=y5) g5
  obtain ⟨z,rfl⟩:∃ z,v3 = .int .i64 z:=by
   obtain ⟨z,hz,-⟩:=DataW.trod_int Tryz.underlying3 (show DataW.trod enc Tryz.prog W 0 (fun _=>true) true n 3 [v3]=some y3 from g3)
   exact ⟨z,by simpa using hz⟩
  have hR':(DataW.weightsEach Tryz.prog [29,29,29,3,29,29] [y0.1,y1.1,y2.1,y3.1,y4.1,y5.1]).all (·≤reachBytes)=true:=by
   refine List.all_eq_true.2 fun x hx=>List.all_eq_true.1 hR x (DataW.weights_mem_each (j:=0) rfl rfl x ?_)
   simp only [List.map_cons,List.map_nil,DataW.weights,hu,t0,t1,t2,t3,t4,t5]
   exact hx
  exact ⟨⟨a0,a1,a2,z,a4,a5⟩,⟨v0,v1,v2,v4,v5,rfl,i0,i1,i2,i4,i5⟩,⟨l0,l1,l2,l4,l5⟩,⟨bytes_reach hR' (j:=0) rfl rfl d0,bytes_reach hR' (j:=1) rfl rfl d1,bytes_reach hR' (j:=2) rfl rfl d2,bytes_reach hR' (j:=4) rfl rfl d4,bytes_reach hR' (j:=5) rfl rfl d5⟩⟩
set_option maxRecDepth 20000 in
theorem open_leaf {base:Nat} {v:Value} {d:DataW H} {ps:List MemPlace} {ts:List TypeId} {ds:List (DataW H)} (hval:Value.okWide Tryz.prog W .any base 31 v) (h:DataW.Trod enc Tryz.prog W 0 (fun _=>true) true 31 v d ps)
 (hR:(DataW.weightsEach Tryz.prog ts ds).all (·≤reachBytes)=true) {j:Nat} (ht:ts[j]? = some 31) (hd:ds[j]? = some d):∃ cs e,v = .agg cs.toArray∧LfIn W cs e∧lfK e∧lfL e:=by
 obtain ⟨f0,f1,f2,f3,f4,f5,hu,-⟩:=under_leaf
 obtain ⟨cs,rfl,-⟩:=okWide_struct hu hval
 obtain ⟨fuel,hf⟩:=h
 have hR':(DataW.weightsEach Tryz.prog [31] [d]).all (·≤reachBytes)=true:=List.all_eq_true.2 fun x hx=>List.all_eq_true.1 hR x (DataW.weights_mem_each ht hd x (by simpa [DataW.weightsEach] using hx))
 obtain ⟨e,h1,h2,h3⟩:=leafC (x:=(d,ps)) (cs:=cs.toList) hf hR'
 exact ⟨cs.toList,e,by simp,h1,h2,h3⟩
end
end Go.Proofs.YtpmkiegabaidjaaGreatDoor
namespace Go.Proofs.YtpmkiegabaidjaaGreatDoor
open Go Go.RowKit
def lay (cs:Array Value):Obj→Obj
 | .cells _ t frozen => .cells cs t frozen
 | o=>o
theorem cellsOfI:Tryz.prog.cellsOf 3=1:=by kernel_rfl
theorem cellsOfU:Tryz.prog.cellsOf 145=1:=by kernel_rfl
theorem cellsOf3U:Tryz.prog.cellsOf 203=3:=by kernel_rfl
theorem cellsOfW:Tryz.prog.cellsOf 210=1:=by kernel_rfl
theorem cellsOf80W:Tryz.prog.cellsOf 264=80:=by kernel_rfl
theorem cellsOf8W:Tryz.prog.cellsOf 232=8:=by kernel_rfl
theorem rules_parts {H:Type} {enc:TypeId × Value→H} {w:World} {base:Nat} {sp:Nat→Bool} {held:Bool} {fuel:Nat} {cs:List Value} {a b:Int} {x y z u:List Int} {p:List MemPlace}
 (h:DataW.trod enc Tryz.prog w base sp held fuel 205 cs=some (.agg [.lit (.int .i64 a),.lit (.int .i64 b),Lib.tabData .u64 x,Lib.tabData .u64 y,Lib.tabData .u64 z,Lib.tabData .u64 u],p)) :
 (cs.drop 0).take 1=[.int .i64 a]∧(cs.drop 1).take 1=[.int .i64 b]∧(cs.drop 2).take 3=x.map (fun v=>Value.int .u64 v)∧(cs.drop 5).take 3=y.map (fun v=>Value.int .u64 v)∧(cs.drop 8).take 3=z.map (fun v=>Value.int .u64 v)∧(cs.drop 11).take 3=u.map (fun v=>Value.int .u64 v):=by
 cases fuel with
 | zero=>simp [DataW.trod] at h
 | succ fuel =>
  simp only [DataW.trod,Tryz.underlying205] at h
  split at h
  · obtain ⟨xs,hm,hx⟩:=Option.map_eq_some_iff.1 h
    have hxs:=congrArg Prod.fst hx
    simp only [DataW.agg.injEq] at hxs
    have hlen:xs.length=6:=by have:=congrArg List.length hxs;simpa using this
    have g:∀ i f,(i<6)→[(3,0),(3,1),(203,2),(203,5),(203,8),(203,11)][i]? = some f→∃ y,xs[i]? = some y∧DataW.trod enc Tryz.prog w base sp held fuel f.1 ((cs.drop f.2).take (Tryz.prog.cellsOf f.1))=some y:=fun i f hi hf=>by
     match i,hi,hf with
     | 0,_,hf=>cases hf;exact Lib.mapM_at hm 0 _ rfl
     | 1,_,hf=>cases hf;exact Lib.mapM_at hm 1 _ rfl
     | 2,_,hf=>cases hf;exact Lib.mapM_at hm 2 _ rfl
     | 3,_,hf=>cases hf;exact Lib.mapM_at hm 3 _ rfl
     | 4,_,hf=>cases hf;exact Lib.mapM_at hm 4 _ rfl
     | 5,_,hf=>cases hf;exact Lib.mapM_at hm 5 _ rfl
    match xs,hlen,hxs,g with
    | [x0,x1,x2,x3,x4,x5],_,hxs,g =>
     simp only [List.map_cons,List.map_nil,List.cons.injEq,and_true] at hxs
     obtain ⟨e0,e1,e2,e3,e4,e5⟩:=hxs
     obtain ⟨_,h0,t0⟩:=g 0 _ (by decide) rfl
     obtain ⟨_,h1,t1⟩:=g 1 _ (by decide) rfl
     obtain ⟨_,h2,t2⟩:=g 2 _ (by decide) rfl
     obtain ⟨_,h3,t3⟩:=g 3 _ (by decide) rfl
     obtain ⟨_,h4,t4⟩:=g 4 _ (by decide) rfl
     obtain ⟨_,h5,t5⟩:=g 5 _ (by decide) rfl
     cases h0;cases h1;cases h2;cases h3;cases h4;cases h5
     rw [cellsOfI] at t0 t1
     rw [cellsOf3U] at t2 t3 t4 t5
     obtain ⟨z0,c0,r0,_⟩:=DataW.trod_int Tryz.underlying3 t0
     obtain ⟨z1,c1,r1,_⟩:=DataW.trod_int Tryz.underlying3 t1
     subst r0 r1
     cases e0;cases e1
     have k:∀ {o:Nat} {v:DataW H × List MemPlace} {l:List Int},DataW.trod enc Tryz.prog w base sp held fuel 203 ((cs.drop o).take 3)=some v→v.1=Lib.tabData .u64 l→(cs.drop o).take 3=l.map (fun v=>Value.int .u64 v):=fun {o v l} ht he=>by
      obtain ⟨v1,v2⟩:=v
      cases he
      exact Lib.cells_of_tab Tryz.underlying203 Tryz.underlying145 cellsOfU cellsOf3U ht
     exact ⟨c0,c1,k t2 e2,k t3 e3,k t4 e4,k t5 e5⟩
  · cases h
theorem at_of_part {cs:List Value} {o n:Nat} {l:List Value} (h:(cs.drop o).take n=l) (i:Nat) (hi:i<n):cs[o+i]? = l[i]?:=by
 rw [←h,List.getElem?_take,if_pos hi,List.getElem?_drop]
theorem cubesL_eq:Rows.laid_synod_sha_cubes=(Lib.tabData .u64 (cubesL.map fun n:Nat=>(n:Int)):DataW Unit):=rfl
theorem squaresL_eq:Rows.laid_synod_sha_squares=(Lib.tabData .u64 (squaresL.map fun n:Nat=>(n:Int)):DataW Unit):=rfl
theorem gCubes:Tryz.prog.globalNamed "synod/sha.cubes" = some 4:=by kernel_rfl
theorem gSquares:Tryz.prog.globalNamed "synod/sha.squares" = some 2:=by kernel_rfl
theorem gNarrow:Tryz.prog.globalNamed "synod/sha.narrowRules" = some 0:=by kernel_rfl
theorem tCubes:(Tryz.prog.globals[4]?).map (·.type)=some 264:=by kernel_rfl
theorem tSquares:(Tryz.prog.globals[2]?).map (·.type)=some 232:=by kernel_rfl
theorem tNarrow:(Tryz.prog.globals[0]?).map (·.type)=some 205:=by kernel_rfl
theorem tab_cell {W:World} {name:String} {g:Nat} {l:List Nat} {cs:Array Value} (hg:Tryz.prog.globalNamed name=some g) (hv:W.var? Tryz.prog name=some cs) (hc:cs.toList=(l.map fun n:Nat=>(n:Int)).map fun z=>Value.int .u64 z) (j:Nat) (hj:j<l.length):W.cell? ⟨g,j,none⟩=some (.int .u64 ((l.getD j 0:Nat):Int)):=by
 rw [World.var?_cell hg hv j,←Array.getElem?_toList,hc]
 simp [List.getD,hj]
theorem cellsOfDb:Tryz.prog.cellsOf 253=64:=by kernel_rfl
theorem db_eq:Rows.laid_math_bits_deBruijn64tab=(Lib.tabData .u8 (Lib.deBruijn64tab.map fun n:Nat=>(n:Int)):DataW Unit):=rfl
theorem gDb:Tryz.prog.globalNamed "math/bits.deBruijn64tab" = some 3:=by kernel_rfl
theorem tDb:(Tryz.prog.globals[3]?).map (·.type)=some 253:=by kernel_rfl
theorem tree_of_laid {W:World} (h:laidMetH Tryz.prog [("math/bits.deBruijn64tab", Rows.laid_math_bits_deBruijn64tab),("synod/sha.cubes", Rows.laid_synod_sha_cubes),("synod/sha.squares", Rows.laid_synod_sha_squares),("synod/sha.narrowRules", Rows.laid_synod_sha_narrowRules)] W):DbT W∧HTab W cubeK squareK:=by
 have h':laidMet Tryz.prog [("math/bits.deBruijn64tab", Rows.laid_math_bits_deBruijn64tab),("synod/sha.cubes", Rows.laid_synod_sha_cubes),("synod/sha.squares", Rows.laid_synod_sha_squares),("synod/sha.narrowRules", Rows.laid_synod_sha_narrowRules)] W:=h
 obtain ⟨ps,⟨g0,t0,cs0,f0,p0,q0,hg0,ht0,hv0,hd0,⟨g1,t1,cs1,f1,p1,q1,hg1,ht1,hv1,hd1,⟨g2,t2,cs2,f2,p2,q2,hg2,ht2,hv2,hd2,⟨g3,t3,cs3,f3,p3,q3,hg3,ht3,hv3,hd3,_,_⟩,_⟩,_⟩,_⟩,_⟩:=h'
 obtain rfl:=Option.some.inj (gDb.symm.trans hg0)
 obtain rfl:=Option.some.inj (tDb.symm.trans ht0)
 obtain rfl:=Option.some.inj (gCubes.symm.trans hg1)
 obtain rfl:=Option.some.inj (tCubes.symm.trans ht1)
 obtain rfl:=Option.some.inj (gSquares.symm.trans hg2)
 obtain rfl:=Option.some.inj (tSquares.symm.trans ht2)
 obtain rfl:=Option.some.inj (gNarrow.symm.trans hg3)
 obtain rfl:=Option.some.inj (tNarrow.symm.trans ht3)
 rw [db_eq] at hd0
 rw [cubesL_eq] at hd1
 rw [squaresL_eq] at hd2
 have c0:=Lib.cells_of_tab Tryz.underlying253 Tryz.underlying5 cellsOfByte cellsOfDb hd0
 have hc:∀ j,j<64→W.cell? ⟨3,j,none⟩=some (.int .u8 ((Lib.deBruijn64tab.getD j 0:Nat):Int)):=by
  intro j hj
  rw [World.var?_cell gDb hv0 j,←Array.getElem?_toList,c0,List.map_map,List.getElem?_map]
  have hl:j<Lib.deBruijn64tab.length:=hj
  rw [List.getElem?_eq_getElem hl,List.getD_eq_getElem?_getD,List.getElem?_eq_getElem hl]
  rfl
 have c1:=Lib.cells_of_tab Tryz.underlying264 Tryz.underlying210 cellsOfW cellsOf80W hd1
 have c2:=Lib.cells_of_tab Tryz.underlying232 Tryz.underlying210 cellsOfW cellsOf8W hd2
 obtain ⟨a0,a1,a2,a3,a4,a5⟩:=rules_parts (a:=32) (b:=64) (x:=[7,18,3]) (y:=[17,19,10]) (z:=[2,13,22]) (u:=[6,11,25]) hd3
 have n:∀ j,W.cell? ⟨0,j,none⟩=cs3.toList[j]?:=fun j=>by rw [World.var?_cell gNarrow hv3 j,Array.getElem?_toList]
 refine ⟨⟨World.block_lt_of_cell? W _ (hc 0 (by decide)),hc⟩,fun j hj=>tab_cell gCubes hv1 c1 j hj,fun j hj=>tab_cell gSquares hv2 c2 j hj,?_,cubeK_lt,squareK_lt⟩
 exact ⟨(n 0).trans (at_of_part a0 0 (by decide)),(n 1).trans (at_of_part a1 0 (by decide)),(n 2).trans (at_of_part a2 0 (by decide)),(n 3).trans (at_of_part a2 1 (by decide)),(n 4).trans (at_of_part a2 2 (by decide)),(n 5).trans (at_of_part a3 0 (by decide)),(n 6).trans (at_of_part a3 1 (by decide)),(n 7).trans (at_of_part a3 2 (by decide)),(n 8).trans (at_of_part a4 0 (by decide)),(n 9).trans (at_of_part a4 1 (by decide)),(n 10).trans (at_of_part a4 2 (by decide)),(n 11).trans (at_of_part a5 0 (by decide)),(n 12).trans (at_of_part a5 1 (by decide)),(n 13).trans (at_of_part a5 2 (by decide))⟩
def tabA (l:List Nat):Array Value:=(l.map fun n:Nat=>Value.int .u64 (n:Int)).toArray
def rulA (m r:Nat) (l:List Nat):Array Value:=([Value.int .i64 m,.int .i64 r] ++ l.map fun n:Nat=>Value.int .u64 (n:Int)).toArray
noncomputable def laidWorldT (os:Os):World :=
 { World.holding Tryz.prog os ⟨#[],#[],[]⟩ with heap:=((((World.holding Tryz.prog os ⟨#[],#[],[]⟩).heap.modify 4 (lay (tabA cubesL))).modify 2 (lay (tabA squaresL))).modify 0 (lay (rulA 32 64 [7,18,3,17,19,10,2,13,22,6,11,25]))).modify 3 (lay (Lib.deBruijn64tab.map fun n:Nat=>Value.int .u8 (n:Int)).toArray) }
end Go.Proofs.YtpmkiegabaidjaaGreatDoor
