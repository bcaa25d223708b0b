/- What the proof stands on: T4W, T6F, T6H, I2LH. -/
import Derived.Test.YtddkbmnkbfciaaaGreatDoorT4SM
import Derived.Test.YtddkbmnkbfciaaaGreatDoorT6CM
namespace Go.Proofs.YtddkbmnkbfciaaaGreatDoor
open Go.RowKit Go.Shelf
attribute [local go_sem] Oper.semAt_some
set_option maxRecDepth 100000 in
set_option maxHeartbeats 4000000 in
theorem add_wide (ok:Nat→Prop) (tb mb:Nat) (T:Tr) (hK:TrOK T) (cs:List Value) (d:LfD) (w:World) (hT:DbT w) (h:TrAt ok w tb mb T) (hd:LfIn w cs d) (hR:lfR d 3) (hne:fbL T.nd T.n=T.n) (hn6:T.n≠64) :
 Calls Tryz.prog 31 #[pA tb 0,.agg cs.toArray] w fun e w'=>e = .returned (.tuple #[.int .i64 (fbL T.nd T.n:Int),.int .i64 0])∧TrAt (fun b=>ok b∨w.heap.size≤b) w' tb mb (addT T d)∧But (fun j=>j=mb∨j=tb) w w':=by
 obtain ⟨W1,hW1⟩:∃ W1,W1=(w.alloc (.cells #[pA tb 0] 23)).alloc (.cells cs.toArray 54):=⟨_,rfl⟩
 obtain ⟨k1,k2,bw,hs⟩:=add_boxes tb cs w hW1
 have hil:(Tryz.prog.info? 54).map (·.size)=some cs.length:=by rw [hd.row.1];kernel_rfl
 have cM:=tmade_any tb T.n W1 (h.below bw).lv
 rw [decide_eq_true (by have:=hK.n64;omega)] at cM
 have cB:=mayBe_any cs d W1 (hd.keep bw)
 have q1:=k1.range 0 _ rfl
 have r2:=k2.range
 have hn64:=hK.n64
 have hle:=fbL_le T.nd T.n
 rw [Nat.zero_add] at q1
 have HW1:=Hid.mk' hW1
 have Hs:=Hid.mk' hs
 clear hW1 hs
 obtain ⟨i,hi⟩:∃ i,i=fbL T.nd T.n:=⟨_,rfl⟩
 have HI:=Hid.mk' hi
 rw [←hi] at hne hle ⊢
 clear hi
 have Hh:=Hid.mk' h
 have Hd:=Hid.mk' hd
 have HR:=Hid.mk' hR
 have HT:=Hid.mk' hT
 have HK:=Hid.mk' hK
 have Hn:=Hid.mk' (And.intro hne (And.intro hn6 hn64))
 clear h hd hR hT hK hne hle hn64 hn6
 obtain ⟨nn,-⟩:∃ nn:Nat,True:=⟨1,trivial⟩
 refine (callsIn_wide (n:=nn)).1 ?_
 refine callsIn_of_wp_marks Tryz.func31 rfl trivial ?_ rfl
 simp only [Tryz.ntmps31,List.size_toArray,List.length_cons,List.length_nil,Nat.reduceAdd,Nat.reduceSub,Array.replicate_succ,Array.replicate_zero,List.push_toArray,List.append_toArray,List.nil_append,List.cons_append]
 gi_wp2_with (first
  | (rw [←HW1.out];clear HW1)
  | (refine ⟨trivial,(fun h=>by cases h),?_⟩;gi_at_call 54;refine (callsIn_wide.2 cM).mono ?_;clear cM;rintro e w1 ⟨rfl,rfl⟩)
  | (refine wpListIn_load_wd rfl 54 _ rfl _ 0 rfl cs _ r2 Tryz.underlying54 rfl hil ?_)
  | (refine ⟨trivial,(fun h=>by cases h),?_⟩;gi_at_call 94;refine (callsIn_wide.2 cB).mono ?_;clear cB;rintro e w2 ⟨b,rfl,hb,hb2⟩;(obtain rfl:b=true:=hb.2 HR.out);clear hb;(have bw2:=below_next bw hb2);(have cF:=firstBlank_any ok tb mb T HK.out w2 (Hh.out.below bw2));(rw [←HI.out] at cF);(have q1':=(k1.still hb2).range 0 _ rfl);(rw [Nat.zero_add] at q1');clear q1)
  | (refine ⟨trivial,(fun h=>by cases h),?_⟩;gi_at_call 95;refine (callsIn_wide.2 cF).mono ?_;clear cF;rintro e w3 ⟨rfl,hb3⟩;(have q1'':=((k1.still hb2).still hb3).range 0 _ rfl);(rw [Nat.zero_add] at q1'');clear q1'))
 have b3:=below_next bw2 hb3
 have Hw13:=Hid.mk' (Nat.le_trans hb2.size hb3.size)
 have kA:=RW.fresh w3 [.int .i64 (i:Int)] 3
 obtain ⟨V,hV⟩:∃ V,V=(w3.alloc (.cells #[.int .i64 (i:Int)] 3)).drew:=⟨_,rfl⟩
 have bV:Below w3.heap.size w3 V:=by rw [hV];exact ((Below.refl _ _).alloc (Nat.le_refl _) _).drew
 have kI:RW V w3.heap.size 0 [.int .i64 (i:Int)]:=by rw [hV];exact kA.drew
 have sV:V.heap.size=w3.heap.size+1:=by rw [hV];exact World.size_alloc _ _
 have kT:=((k1.still hb2).still hb3).still bV
 have kL:=((k2.still hb2).still hb3).still bV
 have bVw:=below_next b3 bV
 have hV4:=Hh.out.below bVw
 have heq:((i:Int) == (T.n:Int))=true:=by have:=Hn.out.1;simp;omega
 have cW:=widen_any tb T.n Hn.out.2.2.2 V hV4.lv hV4.lf
 have hlv:=hV4.lv
 have hml:=Hh.out.mlt
 have htl:=Hh.out.tlt
 clear q1'' kA hb2 hb3 bw2
 refine wpIn_heldW (S:=fun u=>RW u w3.heap.size 0 [.int .i64 (i:Int)]∧RW u w.heap.size 0 [pA tb 0]) (by kernel_rfl) (by kernel_rfl) (by rw [←hV];exact ⟨kI,kT⟩) (fun hS => ?_)
 rw [←hV] at hS ⊢
 clear hV
 refine tc 0 hS (fun u hu=>hu.1.range 0 _ rfl) ?_
 (try simp only [pS])
 refine tc 1 hS (fun u hu=>hu.2.range 0 _ rfl) ?_
 (try simp only [pS])
 refine tg 2 hS ?_
 (try simp only [pS])
 refine tg 3 hS ?_
 (try simp only [pS])
 refine wo4 4 (v := .int .i64 (T.n:Int)) (w':=V) ?hrun hS ?_
 case hrun=>go_simp
 (try simp only [pS])
 refine tg 5 hS (v := .bool true) ?_ (hy:=by intro u _;go_simp)
 (try simp only [pS])
 refine tg 6 hS ?_
 (try simp only [pS])
 refine tc 7 hS (fun u hu=>hu.2.range 0 _ rfl) ?_
 (try simp only [pS])
 refine cl 8 cW (fun e X hr => ?_)
 rcases hr with ⟨h64,-⟩ | ⟨-,rfl,hX⟩
 · exact absurd h64 Hn.out.2.1
 have b3s:=b3.size
 have hXT:TrAt ok X tb mb ⟨2*T.n,T.nd⟩:=by rw [hX];exact (hV4.leaves (2*T.n)).1
 have hXb:But (fun j=>j=mb∨j=tb) w X:=by rw [hX];exact (But.of_below bVw).trans ((hV4.leaves (2*T.n)).2.mono (fun k e => .inr e))
 have hXd:LfIn X cs d:=by rw [hX];exact LfIn.setLv hV4 (Hd.out.keep bVw) _
 have hXN:addN T=2*T.n:=by unfold addN;rw [if_pos (HI.out.symm.trans Hn.out.1)]
 have hXi:i<2*T.n:=by have:=Hn.out;omega
 have sX:X.heap.size=w3.heap.size+1:=by rw [hX];simp;omega
 have hN64:2*T.n≤64:=by have:=mayB_cases HK.out.may;have:=Hn.out;omega
 replace kI:=kI.set2o (b:=tb) (by omega) 0 (.int .i64 ((2*T.n:Nat):Int))
 replace kT:=kT.set2o (b:=tb) (by omega) 0 (.int .i64 ((2*T.n:Nat):Int))
 replace kL:=kL.set2o (b:=tb) (by omega) 0 (.int .i64 ((2*T.n:Nat):Int))
 rw [←hX] at kI kT kL
 refine ⟨_,rfl,⟨kI,kT⟩,?_⟩
 replace hS:=And.intro kI kT
 (try simp only [pS])
 refine tg 9 hS ?_
 (try simp only [pS])
 refine tg 10 hS ?_
 (try simp only [pS])
 refine wpAnyH_done (by kernel_rfl) ?_ _
 refine OnlyN.normal ?_
 obtain ⟨N,hN⟩:∃ N,N=2*T.n:=⟨_,rfl⟩
 rw [←hN] at hXT hXN hXi hN64
 clear hX hV4 bVw heq sV bV hN cW hlv hml htl b3s
 --AFTER
 have hbw:w.heap.size+2≤w3.heap.size:=by rw [←Hs.out];exact Hw13.out
 have htl:=Hh.out.tlt
 have hml:=Hh.out.mlt
 have cP:=put4_any ok tb mb ⟨N,T.nd⟩ (i:Int) ⟨by omega,by omega⟩ cs d (lfR_L HR.out) X hXT hXd
 have qT:=kT.range 0 _ rfl
 have qI:=kI.range 0 _ rfl
 have rL:=kL.range
 rw [Nat.zero_add] at qT qI
 clear k1 k2 bw r2 b3
 gi_wp2_with (first
  | (refine wpListIn_load_mid rfl 54 _ rfl _ 0 rfl cs _ rL Tryz.underlying54 rfl hil ?_;clear rL)
  | (refine ⟨trivial,(fun h=>by cases h),?_⟩;gi_at_call 96;refine (callsIn_wide.2 cP).mono ?_;clear cP;rintro e X2 ⟨⟨v2,rfl⟩,hT2,hb2⟩;(have kT2:=kT.but hb2 (by omega));(have kI2:=kI.but hb2 (by omega));(have qT2:=kT2.range 0 _ rfl);(have qI2:=kI2.range 0 _ rfl);(rw [Nat.zero_add] at qT2 qI2);(have cA:=parentsAbove_any tb (i:Int) X2);clear qT qI)
  | (refine ⟨trivial,(fun h=>by cases h),?_⟩;gi_at_call 97;refine (callsIn_wide.2 cA).mono ?_;clear cA;rintro e X3 ⟨rfl,hX3⟩;(have HX3:=Hid.mk' hX3);clear hX3))
 have hX3:=HX3.out
 obtain ⟨f0,hF0⟩:=hT2.f
 have sX2:X.heap.size≤X2.heap.size:=hb2.size
 have bX3:Below X2.heap.size X2 X3:=by rw [hX3];exact ((Below.refl _ _).alloc (Nat.le_refl _) _).alloc (by simp) _
 have sX3:X3.heap.size=X2.heap.size+2:=by rw [hX3];simp
 have kP3:RW X3 X2.heap.size 0 [pA tb 0]:=by
  rw [hX3];exact (RW.fresh X2 [pA tb 0] 23).still ((Below.refl _ _).alloc (Nat.le_refl _) _)
 have kJ3:RW X3 (X2.heap.size+1) 0 [.int .i64 (i:Int)]:=by
  have:=RW.fresh (X2.alloc (.cells #[pA tb 0] 23)) [.int .i64 (i:Int)] 3
  rw [World.size_alloc] at this
  rw [hX3];exact this
 have kT3:=kT2.still bX3
 have kI3:=kI2.still bX3
 have hbX2:But (fun j=>j=mb∨j=tb) w X2:=hXb.trans (hb2.mono (fun k e => .inl e))
 have hbX3:=hbX2.trans (But.of_below bX3)
 have hT3:TrF (fun b=>(ok b∨X.heap.size≤b)∧b<X3.heap.size) X3 tb mb N f0 (upn T.nd (2*(i:Int)) (some (.lf d))) :=
  (hF0.same bX3.size (fun b hb _=>bX3.block b hb)).wide (fun b hb h=>⟨h,hb⟩) (fun h=>hF0.ntb h.1) (fun h=>hF0.nmb h.1)
 have hit:=parentsAbove_it (X2.heap.size+1) X2.heap.size tb mb N (i:Int) (fun k=>f0 (((pathL i N)[k]?).getD 0)) (fun k=>hF0.hd.shp _)
 have hxn:=pathL_nodup (i:Int) (N:Int)
 have hp7:=pathL_len (i:Int) (N:Int)
 have hws:w.heap.size≤X.heap.size:=hXb.size
 have hprR:∀ x p,upn T.nd (2*(i:Int)) (some (.lf d)) x=some (.pr p)→Rises p.um∧p.um.length≤1000:=fun x p hx=>by
  unfold upn at hx
  split at hx
  · cases hx
  · have:=(HK.out.pr x p hx).2
    have h2:=risU_rises this.2.2
    exact ⟨h2.1,by omega⟩
 have haT:addT T d=⟨N,umgL (i:Int) (upn T.nd (2*(i:Int)) (some (.lf d))) (pathL (i:Int) (N:Int))⟩:=by unfold addT;rw [hXN,←HI.out]
 obtain ⟨F0,hF⟩:∃ F0,F0=upn T.nd (2*(i:Int)) (some (.lf d)):=⟨_,rfl⟩
 rw [←hF] at hT3 hprR haT
 obtain ⟨xs,hxs⟩:∃ xs,xs=pathL (i:Int) (N:Int):=⟨_,rfl⟩
 rw [←hxs] at hit hxn hp7 haT
 have HaT:=Hid.mk' haT
 have hlB:w3.heap.size<X3.heap.size∧w.heap.size<X3.heap.size∧X2.heap.size+1<X3.heap.size∧X2.heap.size<X3.heap.size∧tb<X3.heap.size∧mb<X3.heap.size:=by omega
 have hwB:w.heap.size≤X3.heap.size:=by omega
 clear hX3 HX3 hF0 hT2 kT2 kI2 qT2 qI2 hF hxs haT kT kI kL bX3 hbX2
 have HsX:=Hid.mk' (And.intro sX (And.intro sX3 (And.intro sX2 (And.intro hbw (And.intro htl hml)))))
 clear sX sX3 sX2 hbw hXd hXT hXb hb2 hS
 have hDb:=Hid.mk' (fun (W:World) (hb:But (fun j=>j=mb∨j=tb) w W)=>Hh.out.dbt HT.out hb)
 refine range_it hit rfl (enters_of Tryz.func165 (by kernel_rfl) rfl)
  (fun k=>AddJ w X3.heap.size w3.heap.size w.heap.size (X2.heap.size+1) X2.heap.size tb mb N (i:Int) (fun b=>(ok b∨X.heap.size≤b)∧b<X3.heap.size) f0 F0 xs k)
  (fun _ _ _=>False) (fun _=>False) ?_ ?_ ?_ ?_ ?_ (fun b hb=>hb.elim) ?_ ?_ ?_ ?_
 · intro k M V V' hj hL;exact hj.loc hL hlB (fun b h=>h.2) hwB
 · intro c M V V' h;exact h.elim
 · intro k M V hk hj
   obtain ⟨f,h4,h5⟩:=hj.tr
   exact ⟨⟨hj.kP.range 0 _ rfl,h4.lv,h4.st⟩,hj.kJ.range 0 _ rfl,hDb.out V hj.bt,fun x hx=>⟨f,h4.mp,by show f x=f0 ((xs[k]?).getD 0);rw [hx];exact h5 k x (Nat.le_refl _) hx⟩⟩
 · intro k M V hk ha hj
   obtain ⟨f,h4,h5⟩:=hj.tr
   obtain ⟨x,hx⟩:∃ x,xs[k]? = some x:=⟨_,List.getElem?_eq_getElem hk⟩
   rw [hx] at ha
   simp only [Option.getD_some] at ha
   refine ⟨hj.kT,hj.kI,hj.kP,hj.kJ,⟨f,?_,fun j y hkj=>h5 j y (by omega)⟩,hj.bt,hj.mB⟩
   have e:umgL (i:Int) F0 (xs.take (k+1))=umgL (i:Int) F0 (xs.take k):=by
    rw [List.take_add_one,hx]
    show umgL (i:Int) F0 (xs.take k ++ [x])=_
    rw [umgL_append]
    rcases h4.hd.pr x with ⟨-,hno⟩ | ⟨cs',p,hp,-⟩
    · funext y
      unfold upn
      by_cases ey:y=x
      · rw [if_pos ey,ey]
        cases hc:umgL (i:Int) F0 (xs.take k) x with
        | none=>rfl
        | some nd=>cases nd with
         | lf d'=>rfl
         | pr p=>exact absurd hc (hno p)
      · rw [if_neg ey]
    · rw [h5 k x (Nat.le_refl _) hx] at hp
      rw [hp] at ha;cases ha
   rw [e];exact h4
 · intro k a' ha
   cases hl:prV (f0 ((xs[k]?).getD 0)) with
   | none=>rw [hl] at ha;cases ha
   | some A=>rw [hl] at ha;cases ha;rfl
 · intro V hb
   exact ⟨kT3.still hb,kI3.still hb,kP3.still hb,kJ3.still hb,⟨f0,(hT3.same hb.size (fun b hl _=>hb.block b hl)).wide (fun b _ h => .inl h) (fun h=>by rcases h with h | h;exact hT3.ntb h;exact h) (fun h=>by rcases h with h | h;exact hT3.nmb h;exact h),fun j x _ _=>rfl⟩,hbX3.trans (But.of_below hb),fun b h=>h.elim⟩
 · intro k M V l a' hk ha hj hl1 hl2 hl3
   obtain ⟨f,h4,h5⟩:=id hj.tr
   obtain ⟨x,hx⟩:∃ x,xs[k]? = some x:=⟨_,List.getElem?_eq_getElem hk⟩
   rw [hx] at ha
   simp only [Option.getD_some] at ha
   rcases h4.hd.pr x with ⟨hno,-⟩ | ⟨cp,p,hp,hFx,hO⟩
   · rw [h5 k x (Nat.le_refl _) hx] at hno
     rw [hno] at ha;cases ha
   have hp0:=hp
   rw [h5 k x (Nat.le_refl _) hx] at hp
   rw [hp] at ha
   cases ha
   have hFx0:=hFx
   rw [umgL_out _ _ _ (nodup_take hxn hx)] at hFx0
   obtain ⟨hris,hlen⟩:=hprR x p hFx0
   have h3:cp.length=3∧cp.toArray.all (·.oneCell')=true:=by
    obtain ⟨x0,c0,x1,c1,x2,c2,rfl,-⟩:=hO.form
    exact ⟨rfl,by rw [List.all_toArray];simp [Value.oneCell']⟩
   have hi3:=iszP cp.toArray (by simpa using h3.1)
   have thV:=thPr4 V cp.toArray (by simpa using h3.1)
   obtain ⟨V1,hV1⟩:∃ V1,V1=(V.alloc (.cells #[.slice none 0 0,.slice none 0 0,.slice none 0 0] 121)).setCells V.heap.size 0 cp:=⟨_,rfl⟩
   obtain ⟨kV1,bV1⟩:=stPr4 V cp.toArray (by simpa using h3.1) hV1
   have HV1:=Hid.mk' hV1
   have HbV1:=Hid.mk' bV1
   clear hit hFx0 hp0 hp hV1 bV1
   gi_wp2_with (refine wpListIn_store_rd rfl 121 _ _ rfl _ 0 cp.toArray rfl rfl thV hi3 h3.2 ?_;rw [List.toList_toArray,←HV1.out];clear HV1 thV)
   refine ⟨HbV1.out,fun V2 hbt hsz hj2 => ?_⟩
   obtain ⟨f2,g4,g5⟩:=id hj2.tr
   have hXl:X3.heap.size<l:=hl1
   have bV1:=HbV1.out
   have hlV1:l<V1.heap.size:=Nat.lt_of_lt_of_le hl2 bV1.size
   have hOk:∀ b,b<V.heap.size→((ok b∨X.heap.size≤b)∧b<X3.heap.size∨M b)→V2.heap[b]? = V.heap[b]?:=fun b hb ho =>
    (hbt.block b (Nat.lt_of_lt_of_le hb bV1.size) (fun e=>by subst e;rcases ho with ho | ho;omega;exact hl3 ho)).trans (bV1.block b hb)
   have hO2:=hO.same (by rw [hsz];exact bV1.size) hOk
   have kV2:=kV1.but hbt (by omega)
   have hVs:V.heap.size≤V2.heap.size:=by rw [hsz];exact bV1.size
   obtain ⟨U,hU⟩:∃ U,U=V2.drew:=⟨_,rfl⟩
   have bU:Below V2.heap.size V2 U:=by rw [hU];exact (Below.refl _ _).drew
   have hiU:(Tryz.prog.info? 121).map (·.size)=some cp.length:=by rw [h3.1];kernel_rfl
   have kU:=kV2.still bU
   have kTU:=hj2.kT.still bU
   have kIU:=hj2.kI.still bU
   have g4U:=g4.same bU.size (fun b hb _=>bU.block b hb)
   have hOU:=hO2.same bU.size (fun b hb _=>bU.block b hb)
   have sU:V2.heap.size≤U.heap.size:=bU.size
   clear kV1 hj h4 h5 hO hbt HbV1 bV1 hOk hO2
   gi_wp2
   refine wpIn_last4 9 (S:=fun u=>Below U.heap.size U u) (by kernel_rfl) (by kernel_rfl) (by kernel_rfl) (by kernel_rfl) (by kernel_rfl) (by rw [hU];exact Below.refl _ _) (fun hS => ?_)
   rw [←hU] at hS ⊢
   clear hU
   refine tc 0 hS (fun u hu=>(kTU.still hu).range 0 _ rfl) ?_
   (try simp only [pS])
   refine tg 1 hS ?_
   (try simp only [pS])
   refine tg 2 hS ?_
   (try simp only [pS])
   refine tc 3 hS (fun u hu=>(g4U.same hu.size (fun b hb _=>hu.block b hb)).st) ?_
   (try simp only [pS])
   refine tg 4 hS ?_
   (try simp only [pS])
   refine tl 5 kU hS 121 Tryz.underlying121 hiU ?_
   (try simp only [pS])
   refine tc 6 hS (fun u hu=>(kIU.still hu).range 0 _ rfl) ?_
   (try simp only [pS])
   refine cl 7 (withUnmerged_any _ cp p (i:Int) hris hlen U hOU) (fun e U2 hr => ?_)
   obtain ⟨cp',rfl,hO',hbU2⟩:=hr
   refine ⟨_,rfl,hbU2,?_⟩
   (try simp only [pS])
   refine tg 8 hbU2 (v := .iface 121 (.agg cp'.toArray)) ?_ (hy:=by intro u _;rfl)
   (try simp only [pS])
   have g5U:=g4U.same hbU2.size (fun b hb _=>hbU2.block b hb)
   have hMn:∀ b,(M b∨V.heap.size≤b)→X3.heap.size≤b:=fun b hb=>by rcases hb with hb | hb;exact hj2.mB b hb;omega
   have g6U:TrF (fun b=>(ok b∨X.heap.size≤b)∧b<X3.heap.size∨(M b∨V.heap.size≤b)) U2 tb mb N f2 (umgL (i:Int) F0 (xs.take k)) :=
    g5U.wide (fun b _ h=>h.imp id .inl) (fun h=>by rcases h with h | h;exact g4U.ntb (.inl h);have:=hMn _ h;omega) (fun h=>by rcases h with h | h;exact g4U.nmb (.inl h);have:=hMn _ h;omega)
   have hO6:PrO (fun b=>(ok b∨X.heap.size≤b)∧b<X3.heap.size∨(M b∨V.heap.size≤b)) U2 cp' { p with um:=insZ p.um (i:Int) }:=hO'.wide (fun b _ h=>by rcases h with (h | h) | h;exact .inl h;exact .inr (.inl h);exact .inr (.inr (by omega)))
   obtain ⟨U3,hrun,h7,hb3,hs3⟩:=g6U.put x (.iface 121 (.agg cp'.toArray)) (d := .pr { p with um:=insZ p.um (i:Int) }) ⟨cp',rfl,hO6⟩
   refine wpAnyH_done (by kernel_rfl) ?_ _
   refine lastRun 9 (w':=U3) ?_ (hrun:=ex_mapUpdate 69 (.tmp 42) (.tmp 43) (.tmp 47) rfl rfl rfl rfl hrun)
   refine OnlyN.normal ?_
   have bUU:=below_next bU hbU2
   have hmbn:mb<X3.heap.size:=hlB.2.2.2.2.2
   have eN:umgL (i:Int) F0 (xs.take (k+1))=upn (umgL (i:Int) F0 (xs.take k)) x (some (.pr { p with um:=insZ p.um (i:Int) })):=by
    rw [List.take_add_one,hx]
    show umgL (i:Int) F0 (xs.take k ++ [x])=_
    rw [umgL_append,hFx];rfl
   have nb:∀ b,b≠mb→∀ {cs:List Value},RW V2 b 0 cs→RW U3 b 0 cs:=fun b hb _ hr=>(hr.still bUU).but hb3 hb
   have hin:RoundQ X3.heap.size V.heap.size M (AddJ w X3.heap.size w3.heap.size w.heap.size (X2.heap.size+1) X2.heap.size tb mb N (i:Int) (fun b=>(ok b∨X.heap.size≤b)∧b<X3.heap.size) f0 F0 xs (k+1)) (fun _ _ _=>False) V2 .normal { tmps:=#[],defers:=[] } U3:=by
    refine ⟨(Fro.of_below bUU).trans (Fro.of_but hb3 (fun b hb => .inl (by rw [hb];exact hmbn))),fun b=>M b∨V.heap.size≤b,fun b hb=>hb,?_⟩
    have hq:=HsX.out
    refine ⟨nb _ (by omega) hj2.kT,nb _ (by omega) hj2.kI,nb _ (by omega) hj2.kP,nb _ (by omega) hj2.kJ,⟨_,by rw [eN];exact h7,fun j y hkj hy => ?_⟩,hj2.bt.trans ((But.of_below bUU).trans (hb3.mono (fun b h => .inl h))),hMn⟩
    unfold upm
    rw [if_neg (fun e=>by subst e;have:=nodup_at hxn hx hy;omega)]
    exact g5 j y (by omega) hy
   clear hrun h7 hb3 g6U hO6 g5U
   gi_wp2
   exact hin
 · intro D M V hD hDl hDm hj hdf
   obtain ⟨f,h4,-⟩:=id hj.tr
   rw [List.take_length] at h4
   have qI:=hj.kI.range 0 _ rfl
   rw [Nat.zero_add] at qI
   have hq:=Hid.mk' HsX.out
   clear hit
   gi_wp2
   have hq:=hq.out
   have hbD:=but_put V D (.deferred none)
   refine ⟨by simp,.inl ⟨_,_,rfl,run_takeDeferred hdf,?_⟩⟩
   have h5:=h4.same (w':=V.putObj D (.deferred none)) hbD.size (fun b hb ho=>hbD.block b hb (fun e=>by
    subst e
    rcases ho with (ho | ho) | ho | ho
    · omega
    · exact hDm ho
    · omega
    · omega))
   refine ⟨_,results_tmp2 rfl _ _ _,rfl,?_,⟨hbD.os.trans hj.bt.os,hbD.tape.trans hj.bt.tape,hbD.output.trans hj.bt.output,Nat.le_trans hj.bt.size hbD.size,fun b hb hn=>(hbD.block b (Nat.lt_of_lt_of_le hb hj.bt.size) (by omega)).trans (hj.bt.block b hb hn)⟩⟩
   rw [HaT.out]
   exact (h5.wide (fun b _ h=>by
    rcases h with h | h
    · exact h.1.imp id (fun h=>by omega)
    · exact .inr (by have:=hj.mB b h;omega)) (fun h=>by rcases h with h | h;exact Hh.out.ntb h;omega) (fun h=>by rcases h with h | h;exact Hh.out.nmb h;omega)).at
 · intro D c M V hD hDl hDm hj hdf
   exact hj.elim
set_option maxRecDepth 100000 in
set_option maxHeartbeats 4000000 in
theorem add_full (ok:Nat→Prop) (tb mb:Nat) (T:Tr) (hK:TrOK T) (cs:List Value) (d:LfD) (w:World) (h:TrAt ok w tb mb T) (hd:LfIn w cs d) (hR:lfR d 3) (hne:fbL T.nd T.n=T.n) (hn6:T.n=64) :
 Calls Tryz.prog 31 #[pA tb 0,.agg cs.toArray] w fun e w'=>e = .returned (.tuple #[.int .i64 0,.int .i64 64])∧Below w.heap.size w w':=by
 obtain ⟨W1,hW1⟩:∃ W1,W1=(w.alloc (.cells #[pA tb 0] 23)).alloc (.cells cs.toArray 54):=⟨_,rfl⟩
 obtain ⟨k1,k2,bw,hs⟩:=add_boxes tb cs w hW1
 have hil:(Tryz.prog.info? 54).map (·.size)=some cs.length:=by rw [hd.row.1];kernel_rfl
 have cM:=tmade_any tb T.n W1 (h.below bw).lv
 rw [decide_eq_true (by have:=hK.n64;omega)] at cM
 have cB:=mayBe_any cs d W1 (hd.keep bw)
 have q1:=k1.range 0 _ rfl
 have r2:=k2.range
 have hn64:=hK.n64
 have hle:=fbL_le T.nd T.n
 rw [Nat.zero_add] at q1
 have HW1:=Hid.mk' hW1
 have Hs:=Hid.mk' hs
 clear hW1 hs
 obtain ⟨i,hi⟩:∃ i,i=fbL T.nd T.n:=⟨_,rfl⟩
 have HI:=Hid.mk' hi
 rw [←hi] at hne hle
 clear hi
 have Hh:=Hid.mk' h
 have Hd:=Hid.mk' hd
 have HR:=Hid.mk' hR
 have HK:=Hid.mk' hK
 have Hn:=Hid.mk' (And.intro hne (And.intro hn6 hn64))
 clear h hd hR hK hne hle hn64 hn6
 go_enter Tryz.func31,Tryz.ntmps31
 go_wp2_with (first
  | (rw [←HW1.out];clear HW1)
  | (go_at_call 54;refine cM.mono ?_;clear cM;rintro e w1 ⟨rfl,rfl⟩)
  | (refine wpList_load_wd4 rfl 54 _ rfl _ 0 rfl cs _ r2 Tryz.underlying54 rfl hil ?_)
  | (go_at_call 94;refine cB.mono ?_;clear cB;rintro e w2 ⟨b,rfl,hb,hb2⟩;(obtain rfl:b=true:=hb.2 HR.out);clear hb;(have bw2:=below_next bw hb2);(have cF:=firstBlank_any ok tb mb T HK.out w2 (Hh.out.below bw2));(rw [←HI.out] at cF);(have q1':=(k1.still hb2).range 0 _ rfl);(rw [Nat.zero_add] at q1');clear q1)
  | (go_at_call 95;refine cF.mono ?_;clear cF;rintro e w3 ⟨rfl,hb3⟩;(have q1'':=((k1.still hb2).still hb3).range 0 _ rfl);(rw [Nat.zero_add] at q1'');clear q1'))
 have b3:=below_next bw2 hb3
 have Hw13:=Hid.mk' (Nat.le_trans hb2.size hb3.size)
 have kA:=RW.fresh w3 [.int .i64 (i:Int)] 3
 obtain ⟨V,hV⟩:∃ V,V=(w3.alloc (.cells #[.int .i64 (i:Int)] 3)).drew:=⟨_,rfl⟩
 have bV:Below w3.heap.size w3 V:=by rw [hV];exact ((Below.refl _ _).alloc (Nat.le_refl _) _).drew
 have kI:RW V w3.heap.size 0 [.int .i64 (i:Int)]:=by rw [hV];exact kA.drew
 have sV:V.heap.size=w3.heap.size+1:=by rw [hV];exact World.size_alloc _ _
 have kT:=((k1.still hb2).still hb3).still bV
 have kL:=((k2.still hb2).still hb3).still bV
 have bVw:=below_next b3 bV
 have hV4:=Hh.out.below bVw
 have heq:((i:Int) == (T.n:Int))=true:=by have:=Hn.out.1;simp;omega
 have cW:=widen_any tb T.n Hn.out.2.2.2 V hV4.lv hV4.lf
 have hlv:=hV4.lv
 have hml:=Hh.out.mlt
 have htl:=Hh.out.tlt
 clear q1'' kA hb2 hb3 bw2
 refine wp_region_noPanic ?_
 refine wp_region_held_drew (S:=fun u=>RW u w3.heap.size 0 [.int .i64 (i:Int)]∧RW u w.heap.size 0 [pA tb 0]) (by kernel_rfl) (by rw [←hV];exact ⟨kI,kT⟩) (fun hS => ?_)
 rw [←hV] at hS ⊢
 clear hV
 refine tc 0 hS (fun u hu=>hu.1.range 0 _ rfl) ?_
 (try simp only [pS])
 refine tc 1 hS (fun u hu=>hu.2.range 0 _ rfl) ?_
 (try simp only [pS])
 refine tg 2 hS ?_
 (try simp only [pS])
 refine tg 3 hS ?_
 (try simp only [pS])
 refine wo4 4 (v := .int .i64 (T.n:Int)) (w':=V) ?hrun hS ?_
 case hrun=>go_simp
 (try simp only [pS])
 refine tg 5 hS (v := .bool true) ?_ (hy:=by intro u _;go_simp)
 (try simp only [pS])
 refine tg 6 hS ?_
 (try simp only [pS])
 refine tc 7 hS (fun u hu=>hu.2.range 0 _ rfl) ?_
 (try simp only [pS])
 refine cl 8 cW (fun e X hr => ?_)
 rcases hr with ⟨-,rfl,hX⟩ | ⟨h64,-⟩
 · rw [hX]
   refine ⟨_,rfl,hS,?_⟩
   (try simp only [pS])
   refine tg 9 hS ?_
   (try simp only [pS])
   refine tg 10 hS ?_
   (try simp only [pS])
   refine wpAnyH_done (by kernel_rfl) ?_ _
   refine NoPanic.normal ?_
   clear cW
   go_wp2
   go_ret2
   exact ⟨rfl,bVw⟩
 · exact absurd Hn.out.2.1 h64
end Go.Proofs.YtddkbmnkbfciaaaGreatDoor
namespace Go.Proofs.YtddkbmnkbfciaaaGreatDoor
open Go.RowKit Go.Shelf
attribute [local go_sem] Oper.semAt_some
theorem num4_any (e:Int) (w:World):Calls Tryz.prog 19 #[.int .i64 e] w fun r w'=>r = .returned (.int .i64 e)∧w'=w:=by
 go_enter Tryz.func19,Tryz.ntmps19
 go_wp2
 go_ret
 exact ⟨rfl,rfl⟩
def kT0:Tr:=⟨1,fun _=>none⟩
def kT1:Tr:=addT kT0 (lfM 1)
def kT2:Tr:=addT kT1 (lfM 2)
def ks9:List Tx:=[⟨32,keyB 9⟩]
def kT3:Tr:=(spT kT2 0 ks9).1
theorem k0f:fbL kT0.nd kT0.n=0:=by kernel_rfl
theorem k1n:kT1.n=1:=by kernel_rfl
theorem k1f:fbL kT1.nd kT1.n=1:=by kernel_rfl
theorem k2n:kT2.n=2:=by kernel_rfl
theorem k2r:rso kT2 1=[0,2]:=by kernel_rfl
theorem k2l:(filL kT2 0).length=1:=by kernel_rfl
theorem k3n:kT3.n=2:=by kernel_rfl
theorem k3r:rso kT3 1=[1]:=by kernel_rfl
theorem kG1:Gd kT1:=Gd.add Gd.new (.inl (by rw [show fbL (⟨1,fun _=>none⟩:Tr).nd 1=0 from k0f];decide)) (lfM_R 1) (lfM_K 1)
theorem kG2:Gd kT2:=Gd.add kG1 (.inr (by rw [k1n];decide)) (lfM_R 2) (lfM_K 2)
theorem kG3:Gd kT3:=Gd.sp kG2 (by rw [k2l];rfl) (fun t ht=>by simp [ks9] at ht;rw [ht]) (fun t ht j=>by simp [ks9] at ht;rw [ht];exact s256_lt _ _ j)
theorem zin_row {w:World} {g:Nat} {l:List Int} (r:RW w g 0 (l.map fun z=>Value.int .i64 z)):ZIn w (.slice (some ⟨g,0,none⟩) l.length l.length) l :=
 ⟨_,_,rfl,fun i z hz=>⟨g,0,rfl,r.lt,r.range i _ (by rw [List.getElem?_map,hz];rfl)⟩⟩
theorem keys_one {w:World} {g:Nat} {v:Value} {n:Nat} {X:Nat→Nat} (r:RW w g 0 [v]) (h:BytesIn w v n X):KeysO (fun _=>True) w (.slice (some ⟨g,0,none⟩) 1 1) [⟨n,X⟩] :=
 ⟨_,1,rfl,Nat.le_refl _,fun j t ht=>by
   have e:j=0:=by
    obtain ⟨h,-⟩:=List.getElem?_eq_some_iff.1 ht
    simp at h;exact h
   subst e
   cases ht
   exact ⟨g,0,v,rfl,trivial,r.lt,r.range 0 _ rfl,BO.all h⟩⟩
set_option maxRecDepth 100000 in
set_option maxHeartbeats 4000000 in
theorem knows4_any (w:World) (hT:DbT w) (hH:HTab w cubeK squareK):Calls Tryz.prog 11 #[] w fun e w'=>e = .returned (.bool true)∧Below w.heap.size w w':=by
 have cN:=newTree_any w
 have HT:=Hid.mk' hT
 have HH:=Hid.mk' hH
 clear hT hH
 go_enter Tryz.func11,Tryz.ntmps11
 go_upto_region 2 with (go_at_call 9;refine cN.mono ?_;clear cN;rintro e w1 ⟨tb,mb,rfl,htb,hmb,hT1,hb1⟩)
 have cL:Calls Tryz.prog 46 #[.int .i64 1] w1 _:=lawLeaf_any 1 (by decide) w1
 go_upto_region 3 with (first
  | (go_at_call 46;refine cL.mono ?_;clear cL;rintro e w2 ⟨cs1,rfl,hl1,hb2⟩;(have cA:=add_near _ tb mb kT0 Gd.new.ok cs1 (lfM 1) w2 (HT.out.keep (below_next hb1 hb2)) (hT1.below hb2) hl1 (lfM_R 1) (by rw [k0f];decide));(rw [k0f,show ((0:Nat):Int)=0 from rfl] at cA))
  | (go_at_call 31;refine cA.mono ?_;clear cA;rintro e w3 ⟨rfl,hT3,bt3⟩))
 have bw3:Below w.heap.size w w3:=(below_next hb1 hb2).trans (bt3.below (below_next hb1 hb2).size (fun k hk=>by omega))
 have hT3':TrAt _ w3 tb mb kT1:=hT3
 clear hT1 hl1 hb1 hb2 bt3 hT3
 have cL:Calls Tryz.prog 46 #[.int .i64 2] w3 _:=lawLeaf_any 2 (by decide) w3
 go_upto_region 4 with (first
  | (go_at_call 46;( refine cL.mono ?_;clear cL;rintro e w4 ⟨cs2,rfl,hl2,hb4⟩;(have cA:=add_wide _ tb mb kT1 kG1.ok cs2 (lfM 2) w4 (HT.out.keep (below_next bw3 hb4)) (hT3'.below hb4) hl2 (lfM_R 2) (by rw [k1f,k1n]) (by rw [k1n];decide));(rw [k1f,show ((1:Nat):Int)=1 from rfl] at cA)))
  | (go_at_call 31;refine cA.mono ?_;clear cA;rintro e w5 ⟨rfl,hT5,bt5⟩))
 have bw5:Below w.heap.size w w5:=(below_next bw3 hb4).trans (bt5.below (below_next bw3 hb4).size (fun k hk=>by omega))
 clear hT3' hl2 hb4 bt5 bw3
 have hT5':TrAt _ w5 tb mb kT2:=hT5
 have cR:=tResolution_any _ tb mb kT2 kG2.ok 1 (by rw [k2n];decide) w5 (HT.out.keep bw5) hT5'
 rw [k2r] at cR
 go_upto_region 5 with (go_at_call 39;refine cR.mono ?_;clear cR;rintro e w6 ⟨v6,rfl,how6,hb6⟩)
 obtain ⟨x6,c6,rfl⟩:=how6.slice
 have z6:=ZO.own how6
 have htl:=hT5.tlt
 have hml:=hT5.mlt
 have bw6:=below_next bw5 hb6
 have hT6:=hT5'.below hb6
 clear how6 hT5 hT5'
 have cK:Calls Tryz.prog 47 #[.int .i64 9] w6 _:=key_any 9 w6
 have cS:=fun (W:World) (v:Value) (hb:Below w6.heap.size w6 W) (hk:KeysO (fun _=>True) W v ks9)=>tSetPath_yes _ (fun _=>True) tb mb kT2 kG2.ok kG2.rk 0 (by rw [k2n];decide) v ks9 W (HT.out.keep (below_next bw6 hb)) (HH.out.below (below_next bw6 hb) HH.out.size) (hT6.below hb) hk (by rw [k2l];rfl) (fun t ht=>by simp [ks9] at ht;rw [ht]) (fun t ht j=>by simp [ks9] at ht;rw [ht];exact s256_lt _ _ j)
 go_upto_region 6 with (first
  | (go_at_call 47;refine cK.mono ?_;clear cK;rintro e w7 ⟨vk,rfl,ok7,hb7⟩;(obtain ⟨xk,ck,rfl⟩:=ok7.slice);(have bX:Below w7.heap.size w7 (w7.alloc (.cells #[.slice xk 32 ck] 29)):=(Below.refl _ _).alloc (Nat.le_refl _) _);(have rX:=RW.fresh w7 [.slice xk 32 ck] 29);(have cS2:=cS _ (.slice (some ⟨w7.heap.size,0,none⟩) 1 1) (below_next hb7 bX) (keys_one rX ((BytesIn.of_own ok7).keep bX))))
  | (go_at_call 33;refine cS2.mono ?_;clear cS2;rintro e w8 ⟨v8,rfl,-,hT8,bt8⟩))
 have z8:ZO (fun b=>w5.heap.size≤b) w8 (.slice x6 [0,2].length c6) [0,2]:=(z6.keep (below_next hb7 bX)).same bt8.size (fun b hb ho=>bt8.block b hb (by omega))
 have hT8':TrAt _ w8 tb mb kT3:=hT8
 have bw8:Below w.heap.size w w8:=(below_next bw6 (below_next hb7 bX)).trans (bt8.below (below_next bw6 (below_next hb7 bX)).size (fun k hk=>by omega))
 have cV:=tLeaves_any _ tb mb kT3 (by rw [k3n];decide) w8 hT8'
 rw [k3n,show ((2:Nat):Int)=2 from rfl] at cV
 have bA:Below w8.heap.size w8 (w8.alloc (.cells #[.int .i64 0,.int .i64 2] 3)):=(Below.refl _ _).alloc (Nat.le_refl _) _
 have cI:=ints_same (.slice x6 [0,2].length c6) (.slice (some ⟨w8.heap.size,0,none⟩) 2 2) [0,2] (by decide) _ ((z8.keep bA).of) (zin_row (l:=[0,2]) (RW.fresh w8 [.int .i64 0,.int .i64 2] 3))
 have cR3:=fun (W:World) (hb:Below w8.heap.size w8 W)=>tResolution_any _ tb mb kT3 kG3.ok 1 (by rw [k3n];decide) W (HT.out.keep (below_next bw8 hb)) (hT8'.below hb)
 rw [k3r] at cR3
 clear hT8 bt8 ok7 hb7 bX rX z6 z8 cS hT6 hb6
 go_wp2_with (first
  | (go_at_call 19;refine (num4_any _ _).mono ?_;rintro e wn ⟨rfl,hwn⟩;obtain rfl:=hwn.symm)
  | (go_at_call 34;refine cV.mono ?_;clear cV;rintro e wl ⟨rfl,hwl⟩;obtain rfl:=hwl.symm)
  | (go_at_call 26;refine cI.mono ?_;clear cI;rintro e w9 ⟨rfl,hb9⟩;(have cR4:=cR3 w9 (below_next bA hb9)))
  | (go_at_call 39;refine cR4.mono ?_;clear cR4;rintro e w10 ⟨v10,rfl,how,hb10⟩;(obtain ⟨x10,c10,rfl⟩:=how.slice);(have cI5:=ints_same (.slice x10 [1].length c10) (.slice (some ⟨w10.heap.size,0,none⟩) 1 1) [1] (by decide) _ (((ZO.own how).keep ((Below.refl _ _).alloc (Nat.le_refl _) (.cells #[.int .i64 1] 3))).of) (zin_row (l:=[1]) (RW.fresh w10 [.int .i64 1] 3))))
  | (go_at_call 26;refine cI5.mono ?_;clear cI5;rintro e w11 ⟨rfl,hb11⟩))
 go_ret
 exact ⟨rfl,below_next (below_next (below_next (below_next (below_next bw8 bA) hb9) hb10) ((Below.refl _ _).alloc (Nat.le_refl _) _)) hb11⟩
end Go.Proofs.YtddkbmnkbfciaaaGreatDoor
namespace Go.Proofs.YtddkbmnkbfciaaaGreatDoor
open Go.RowKit Go.Shelf
theorem mbL_mem (F:Int→Option Nd):∀ (m:Nat) (z:Int),z∈mbL F m↔∃ k:Nat,k<m∧z=(k:Int)∧(F (2*(k:Int))).isSome=true
 | 0,z=>⟨fun h=>(by simp [mbL] at h),fun ⟨k,hk,_⟩=>absurd hk (Nat.not_lt_zero _)⟩
 | m+1,z=>by
  unfold mbL
  rw [List.mem_append,mbL_mem F m z]
  constructor
  · rintro (⟨k,h1,h2⟩ | h)
    · exact ⟨k,by omega,h2⟩
    · split at h
      · rename_i hs
        rw [List.mem_singleton] at h
        exact ⟨m,by omega,h,hs⟩
      · simp at h
  · rintro ⟨k,h1,rfl,h3⟩
    by_cases e:k=m
    · subst e;right;rw [if_pos h3];simp
    · exact .inl ⟨k,by omega,rfl,h3⟩
theorem mbL_congr {F G:Int→Option Nd}:∀ {m:Nat},(∀ k:Nat,k<m→(F (2*(k:Int))).isSome=(G (2*(k:Int))).isSome)→mbL F m=mbL G m
 | 0,_=>rfl
 | m+1,h=>by
  unfold mbL
  rw [mbL_congr (m:=m) (fun k hk=>h k (by omega)),h m (by omega)]
theorem mbL_more {F:Int→Option Nd} {m:Nat}:∀ {d:Nat},(∀ k:Nat,m≤k→k<m+d→F (2*(k:Int))=none)→mbL F (m+d)=mbL F m
 | 0,_=>rfl
 | d+1,h=>by
  have h1:=mbL_more (F:=F) (m:=m) (d:=d) (fun k h1 h2=>h k h1 (by omega))
  have h2:mbL F (m+(d+1))=mbL F (m+d) ++ (if (F (2*((m+d:Nat):Int))).isSome then [((m+d:Nat):Int)] else []):=rfl
  rw [h2,h1,h (m+d) (by omega) (by omega)]
  simp
theorem mbL_put (F:Int→Option Nd) (i:Int) (o:Option Nd):∀ m,(mbL (upn F (2*i) o) m).length≤(mbL F m).length+1∧(mbL F m).length≤(mbL (upn F (2*i) o) m).length+1
 | 0=>by simp [mbL]
 | m+1=>by
  have ih:=mbL_put F i o m
  unfold mbL
  rw [List.length_append,List.length_append]
  by_cases e:(m:Int)=i
  · have h1:mbL (upn F (2*i) o) m=mbL F m:=mbL_congr (fun k hk=>by
     unfold upn;rw [if_neg (by omega)])
    rw [h1]
    constructor <;> split <;> split <;> simp <;> omega
  · have h1:upn F (2*i) o (2*(m:Int))=F (2*(m:Int)):=by unfold upn;rw [if_neg (by omega)]
    rw [h1]
    omega
def mbs (T:Tr):List Int:=mbL T.nd T.n
theorem um1_some4 (i:Int) (o:Option Nd):(um1 i o).isSome=o.isSome:=by
 cases o with
 | none=>rfl
 | some d=>cases d <;> rfl
theorem umgL_some (i:Int):∀ (l:List Int) (F:Int→Option Nd) (x:Int),(umgL i F l x).isSome=(F x).isSome
 | [],_,_=>rfl
 | y :: r,F,x=>by
  show (umgL i (upn F y (um1 i (F y))) r x).isSome=_
  rw [umgL_some i r]
  unfold upn
  split
  · rename_i h;rw [h,um1_some4]
  · rfl
theorem delL_leaf {F:Int→Option Nd} {n:Nat} {i x:Int} (hx:x%2=0):delL F (pathL i n) x=F x:=by
 rw [delL_at,if_neg]
 intro h
 have:=(path_in h).2
 omega
theorem spS_leaf {n:Nat} {xs ss:List Int} {ks:List Tx} {F:Int→Option Nd} (hx:∀ (j:Nat) z,xs[j]? = some z→(0≤z∧z<2*(n:Int) - 1)∧z%2=1) {x:Int} (he:x%2=0):∀ k,k≤xs.length→(spS n xs ss ks F k).1 x=F x
 | 0,_=>rfl
 | k+1,hl=>by
  have hm:xs.length - 1 - k<xs.length:=by omega
  obtain ⟨-,h2⟩:=hx (xs.length - 1 - k) _ (List.getElem?_eq_getElem hm)
  show upn (spS n xs ss ks F k).1 ((xs[xs.length - 1 - k]?).getD 0) _ x=_
  rw [List.getElem?_eq_getElem hm,Option.getD_some]
  unfold upn
  rw [if_neg (fun e=>by rw [e] at he;omega)]
  exact spS_leaf hx he k (by omega)
theorem spT_leaf {T:Tr} {i:Int} {ks:List Tx} {x:Int} (he:x%2=0):(spT T i ks).1.nd x=T.nd x:=by
 show (spS T.n (filL T i) (besL T i) ks (delL T.nd (pathL i T.n)) (filL T i).length).1 x=_
 rw [spS_leaf filL_in he _ (Nat.le_refl _),delL_leaf he]
theorem addT_some {T:Tr} (d:LfD) (x:Int):((addT T d).nd x).isSome=(upn T.nd (2*(fbL T.nd T.n:Int)) (some (.lf d)) x).isSome:=umgL_some _ _ _ _
theorem mbs_wide {T:Tr} (hK:TrOK T) {m:Nat} (hm:T.n≤m):mbL T.nd m=mbs T:=by
 obtain ⟨d,rfl⟩:∃ d,m=T.n+d:=⟨m - T.n,by omega⟩
 refine mbL_more (fun k h1 h2 => ?_)
 cases hF:T.nd (2*(k:Int)) with
 | none=>rfl
 | some d=>have:=hK.rng _ d hF;omega
theorem add_mbs {T:Tr} (hK:TrOK T) (hf:fbL T.nd T.n≠T.n∨T.n≠64) (d:LfD):(mbs (addT T d)).length≤(mbs T).length+1∧(∀ z,z∈mbs (addT T d)↔z∈mbs T∨z=(fbL T.nd T.n:Int)):=by
 obtain ⟨-,h2,h3⟩:=addN_may hK hf
 have e:mbs (addT T d)=mbL (upn T.nd (2*(fbL T.nd T.n:Int)) (some (.lf d))) (addN T):=mbL_congr (fun k _=>addT_some d _)
 constructor
 · rw [e,←mbs_wide hK h2]
   exact (mbL_put _ _ _ _).1
 · intro z
   rw [e,←mbs_wide hK h2,mbL_mem,mbL_mem]
   constructor
   · rintro ⟨k,h4,rfl,h5⟩
     unfold upn at h5
     by_cases e2:(k:Int)=(fbL T.nd T.n:Int)
     · exact .inr e2
     · rw [if_neg (by omega)] at h5
       exact .inl ⟨k,h4,rfl,h5⟩
   · rintro (⟨k,h4,rfl,h5⟩ | rfl)
     · refine ⟨k,h4,rfl,?_⟩
       unfold upn
       split
       · rfl
       · exact h5
     · refine ⟨fbL T.nd T.n,h3,rfl,?_⟩
       unfold upn;rw [if_pos rfl];rfl
theorem half_mbs {T:Tr} (hw:tooB T=true):mbs (halfT T)=mbs T:=by
 unfold tooB at hw
 rw [Bool.and_eq_true,decide_eq_true_eq,Bool.not_eq_true'] at hw
 have h0:∀ k:Nat,k<T.n→T.n / 2≤k→T.nd (2*(k:Int))=none:=fun k h1 h2=>by
  cases hF:T.nd (2*(k:Int)) with
  | none=>rfl
  | some d =>
   have:=(rightN_iff T.nd (T.n / 2) T.n).2 ⟨k,h1,h2,by rw [hF];rfl⟩
   rw [this] at hw;cases hw.2
 have h1:mbs T=mbL T.nd (T.n / 2):=by
  unfold mbs
  have e:T.n=T.n / 2+(T.n - T.n / 2):=by omega
  conv=>lhs;rw [e]
  exact mbL_more (fun k h1 h2=>h0 k (by omega) h1)
 rw [h1]
 refine mbL_congr (fun k hk => ?_)
 show (cutN ((T.n / 2:Nat):Int) T.nd (2*(k:Int))).isSome=_
 have hk':k<T.n / 2:=hk
 unfold cutN offB
 rw [decide_eq_true (by omega:(0:Int)≤2*(k:Int)),decide_eq_true (by omega:2*(k:Int)<2*((T.n / 2:Nat):Int) - 1)]
 rfl
theorem shr_mbs:∀ (f:Nat) (T:Tr),mbs (shrT f T)=mbs T
 | 0,_=>rfl
 | f+1,T=>by
  unfold shrT
  by_cases e:tooB T=true
  · rw [if_pos e,shr_mbs f,half_mbs e]
  · rw [if_neg e]
theorem shr_fit:∀ (f:Nat) (T:Tr),T.n<2 ^ f→tooB (shrT f T)=false
 | 0,T,h=>by
  cases e:tooB (shrT 0 T) with
  | false=>rfl
  | true=>have:=tooB_n (T:=T) e;omega
 | f+1,T,h=>by
  unfold shrT
  by_cases e:tooB T=true
  · rw [if_pos e]
    refine shr_fit f (halfT T) ?_
    show T.n / 2<2 ^ f
    have:2 ^ (f+1)=2 ^ f*2:=rfl
    omega
  · rw [if_neg e];exact Bool.eq_false_iff.2 e
theorem rem_len (T:Tr) (i:Int):(mbs (remT T i)).length≤(mbs T).length∧(mbs T).length≤(mbs (remT T i)).length+1:=by
 have e:mbs (remT T i)=mbL (upn T.nd (2*i) none) T.n:=by
  unfold remT
  rw [shr_mbs]
  exact mbL_congr (fun k _=>congrArg Option.isSome (delL_leaf (F:=upn T.nd (2*i) none) (n:=T.n) (i:=i) (x:=2*(k:Int)) (by omega)))
 refine ⟨?_,by rw [e];exact (mbL_put _ _ _ _).2⟩
 rw [e]
 unfold mbs
 clear e
 induction T.n with
 | zero=>simp [mbL]
 | succ m ih =>
  unfold mbL
  rw [List.length_append,List.length_append]
  by_cases e2:(m:Int)=i
  · rw [show upn T.nd (2*i) none (2*(m:Int))=none by unfold upn;rw [if_pos (by omega)]]
    simp;omega
  · rw [show upn T.nd (2*i) none (2*(m:Int))=T.nd (2*(m:Int)) by unfold upn;rw [if_neg (by omega)]]
    omega
end Go.Proofs.YtddkbmnkbfciaaaGreatDoor
namespace Go.Proofs.YtddkbmnkbfciaaaGreatDoor
open Go.RowKit
theorem norm_place (x:Int) (m:Nat) (hm:0<m) (hm2:m<1000):∃ y:Nat,y<m∧Int.tmod (wrap64 (Int.tmod x (m:Int)+(m:Int))) (m:Int)=(y:Int):=by
 have h1:=Int.tmod_lt_of_pos x (show (0:Int)<(m:Int) by omega)
 have h2:=Int.lt_tmod_of_pos x (show (0:Int)<(m:Int) by omega)
 have e1:wrap64 (Int.tmod x (m:Int)+(m:Int))=Int.tmod x (m:Int)+(m:Int):=by unfold wrap64;omega
 rw [e1]
 have h3:=Int.tmod_nonneg (m:Int) (show 0≤Int.tmod x (m:Int)+(m:Int) by omega)
 have h4:=Int.tmod_lt_of_pos (Int.tmod x (m:Int)+(m:Int)) (show (0:Int)<(m:Int) by omega)
 exact ⟨(Int.tmod (Int.tmod x (m:Int)+(m:Int)) (m:Int)).toNat,by omega,by omega⟩
end Go.Proofs.YtddkbmnkbfciaaaGreatDoor
