/- What the proof stands on: T4S, T5L, T5M. -/
import Derived.Test.YtddkbmnkbfciaaaGreatDoorT4PM
import Derived.Test.YtddkbmnkbfciaaaGreatDoorT4ZM
import Derived.Test.YtddkbmnkbfciaaaGreatDoorT5EM
namespace Go.Proofs.YtddkbmnkbfciaaaGreatDoor
open Go.RowKit Go.Shelf
attribute [local go_sem] Oper.semAt_some
set_option maxRecDepth 100000 in
set_option maxHeartbeats 4000000 in
theorem add_near (ok:Nat→Prop) (tb mb:Nat) (T:Tr) (hK:TrOK T) (cs:List Value) (d:LfD) (w:World) (hT:DbT w) (h:TrAt ok w tb mb T) (hd:LfIn w cs d) (hR:lfR d 3) (hne:fbL T.nd T.n≠T.n) :
 Calls Tryz.prog 31 #[pA tb 0,.agg cs.toArray] w fun e w'=>e = .returned (.tuple #[.int .i64 (fbL T.nd T.n:Int),.int .i64 0])∧TrAt (fun b=>ok b∨w.heap.size≤b) w' tb mb (addT T d)∧But (fun j=>j=mb∨j=tb) w w':=by
 obtain ⟨W1,hW1⟩:∃ W1,W1=(w.alloc (.cells #[pA tb 0] 23)).alloc (.cells cs.toArray 54):=⟨_,rfl⟩
 obtain ⟨k1,k2,bw,hs⟩:=add_boxes tb cs w hW1
 have hil:(Tryz.prog.info? 54).map (·.size)=some cs.length:=by rw [hd.row.1];kernel_rfl
 have cM:=tmade_any tb T.n W1 (h.below bw).lv
 rw [decide_eq_true (by have:=hK.n64;omega)] at cM
 have cB:=mayBe_any cs d W1 (hd.keep bw)
 have q1:=k1.range 0 _ rfl
 have r2:=k2.range
 have hn64:=hK.n64
 have hle:=fbL_le T.nd T.n
 rw [Nat.zero_add] at q1
 have HW1:=Hid.mk' hW1
 have Hs:=Hid.mk' hs
 clear hW1 hs
 obtain ⟨i,hi⟩:∃ i,i=fbL T.nd T.n:=⟨_,rfl⟩
 have HI:=Hid.mk' hi
 rw [←hi] at hne hle ⊢
 clear hi
 have Hh:=Hid.mk' h
 have Hd:=Hid.mk' hd
 have HR:=Hid.mk' hR
 have HT:=Hid.mk' hT
 have HK:=Hid.mk' hK
 have Hn:=Hid.mk' (And.intro hne (And.intro hle hn64))
 clear h hd hR hT hK hne hle hn64
 obtain ⟨nn,-⟩:∃ nn:Nat,True:=⟨1,trivial⟩
 refine (callsIn_wide (n:=nn)).1 ?_
 refine callsIn_of_wp_marks Tryz.func31 rfl trivial ?_ rfl
 simp only [Tryz.ntmps31,List.size_toArray,List.length_cons,List.length_nil,Nat.reduceAdd,Nat.reduceSub,Array.replicate_succ,Array.replicate_zero,List.push_toArray,List.append_toArray,List.nil_append,List.cons_append]
 gi_wp2_with (first
  | (rw [←HW1.out];clear HW1)
  | (refine ⟨trivial,(fun h=>by cases h),?_⟩;gi_at_call 54;refine (callsIn_wide.2 cM).mono ?_;clear cM;rintro e w1 ⟨rfl,rfl⟩)
  | (refine wpListIn_load_wd rfl 54 _ rfl _ 0 rfl cs _ r2 Tryz.underlying54 rfl hil ?_)
  | (refine ⟨trivial,(fun h=>by cases h),?_⟩;gi_at_call 94;refine (callsIn_wide.2 cB).mono ?_;clear cB;rintro e w2 ⟨b,rfl,hb,hb2⟩;(obtain rfl:b=true:=hb.2 HR.out);clear hb;(have bw2:=below_next bw hb2);(have cF:=firstBlank_any ok tb mb T HK.out w2 (Hh.out.below bw2));(rw [←HI.out] at cF);(have q1':=(k1.still hb2).range 0 _ rfl);(rw [Nat.zero_add] at q1');clear q1)
  | (refine ⟨trivial,(fun h=>by cases h),?_⟩;gi_at_call 95;refine (callsIn_wide.2 cF).mono ?_;clear cF;rintro e w3 ⟨rfl,hb3⟩;(have q1'':=((k1.still hb2).still hb3).range 0 _ rfl);(rw [Nat.zero_add] at q1'');clear q1'))
 have b3:=below_next bw2 hb3
 have Hw13:=Hid.mk' (Nat.le_trans hb2.size hb3.size)
 have kA:=RW.fresh w3 [.int .i64 (i:Int)] 3
 obtain ⟨V,hV⟩:∃ V,V=(w3.alloc (.cells #[.int .i64 (i:Int)] 3)).drew:=⟨_,rfl⟩
 have bV:Below w3.heap.size w3 V:=by rw [hV];exact ((Below.refl _ _).alloc (Nat.le_refl _) _).drew
 have kI:RW V w3.heap.size 0 [.int .i64 (i:Int)]:=by rw [hV];exact kA.drew
 have sV:V.heap.size=w3.heap.size+1:=by rw [hV];exact World.size_alloc _ _
 have kT:=((k1.still hb2).still hb3).still bV
 have kL:=((k2.still hb2).still hb3).still bV
 have bVw:=below_next b3 bV
 have hV4:=Hh.out.below bVw
 have heq:((i:Int) == (T.n:Int))=false:=by have:=Hn.out.1;simp;omega
 clear q1'' kA hb2 hb3 bw2
 refine wpIn_heldW (S:=fun u=>Below V.heap.size V u) (by kernel_rfl) (by kernel_rfl) (by rw [hV];exact Below.refl _ _) (fun hS => ?_)
 rw [←hV] at hS ⊢
 clear hV
 refine tc 0 hS (fun u hu=>(kI.still hu).range 0 _ rfl) ?_
 (try simp only [pS])
 refine tc 1 hS (fun u hu=>(kT.still hu).range 0 _ rfl) ?_
 (try simp only [pS])
 refine tg 2 hS ?_
 (try simp only [pS])
 refine tg 3 hS ?_
 (try simp only [pS])
 refine tc 4 hS (fun u hu=>(hV4.below hu).lv) ?_
 (try simp only [pS])
 refine tg 5 hS (v := .bool false) ?_ (hy:=by intro u _;go_simp)
 (try simp only [pS])
 refine tg 6 hS ?_
 (try simp only [pS])
 refine tn 7 hS ?_
 (try simp only [pS])
 refine tn 8 hS ?_
 (try simp only [pS])
 refine tn 9 hS ?_
 (try simp only [pS])
 refine tg 10 hS ?_
 (try simp only [pS])
 refine wpAnyH_done (by kernel_rfl) ?_ _
 refine OnlyN.normal ?_
 obtain ⟨X,hX⟩:∃ X,X=V:=⟨_,rfl⟩
 have hXT:TrAt ok X tb mb ⟨T.n,T.nd⟩:=by rw [hX];exact hV4
 have hXb:But (fun j=>j=mb∨j=tb) w X:=by rw [hX];exact But.of_below bVw
 have hXd:LfIn X cs d:=by rw [hX];exact Hd.out.keep bVw
 have hXN:addN T=T.n:=by unfold addN;rw [if_neg (fun e=>Hn.out.1 (HI.out.trans e))]
 have hXi:i<T.n:=by have:=Hn.out;omega
 have sX:X.heap.size=w3.heap.size+1:=by rw [hX];exact sV
 rw [←hX] at kI kT kL ⊢
 obtain ⟨N,hN⟩:∃ N,N=T.n:=⟨_,rfl⟩
 have hN64:N≤64:=by have:=Hn.out;omega
 rw [←hN] at hXT hXN hXi
 clear hX hV4 bVw heq sV bV hN
 --AFTER
 have hbw:w.heap.size+2≤w3.heap.size:=by rw [←Hs.out];exact Hw13.out
 have htl:=Hh.out.tlt
 have hml:=Hh.out.mlt
 have cP:=put4_any ok tb mb ⟨N,T.nd⟩ (i:Int) ⟨by omega,by omega⟩ cs d (lfR_L HR.out) X hXT hXd
 have qT:=kT.range 0 _ rfl
 have qI:=kI.range 0 _ rfl
 have rL:=kL.range
 rw [Nat.zero_add] at qT qI
 clear k1 k2 bw r2 b3
 gi_wp2_with (first
  | (refine wpListIn_load_mid rfl 54 _ rfl _ 0 rfl cs _ rL Tryz.underlying54 rfl hil ?_;clear rL)
  | (refine ⟨trivial,(fun h=>by cases h),?_⟩;gi_at_call 96;refine (callsIn_wide.2 cP).mono ?_;clear cP;rintro e X2 ⟨⟨v2,rfl⟩,hT2,hb2⟩;(have kT2:=kT.but hb2 (by omega));(have kI2:=kI.but hb2 (by omega));(have qT2:=kT2.range 0 _ rfl);(have qI2:=kI2.range 0 _ rfl);(rw [Nat.zero_add] at qT2 qI2);(have cA:=parentsAbove_any tb (i:Int) X2);clear qT qI)
  | (refine ⟨trivial,(fun h=>by cases h),?_⟩;gi_at_call 97;refine (callsIn_wide.2 cA).mono ?_;clear cA;rintro e X3 ⟨rfl,hX3⟩;(have HX3:=Hid.mk' hX3);clear hX3))
 have hX3:=HX3.out
 obtain ⟨f0,hF0⟩:=hT2.f
 have sX2:X.heap.size≤X2.heap.size:=hb2.size
 have bX3:Below X2.heap.size X2 X3:=by rw [hX3];exact ((Below.refl _ _).alloc (Nat.le_refl _) _).alloc (by simp) _
 have sX3:X3.heap.size=X2.heap.size+2:=by rw [hX3];simp
 have kP3:RW X3 X2.heap.size 0 [pA tb 0]:=by
  rw [hX3];exact (RW.fresh X2 [pA tb 0] 23).still ((Below.refl _ _).alloc (Nat.le_refl _) _)
 have kJ3:RW X3 (X2.heap.size+1) 0 [.int .i64 (i:Int)]:=by
  have:=RW.fresh (X2.alloc (.cells #[pA tb 0] 23)) [.int .i64 (i:Int)] 3
  rw [World.size_alloc] at this
  rw [hX3];exact this
 have kT3:=kT2.still bX3
 have kI3:=kI2.still bX3
 have hbX2:But (fun j=>j=mb∨j=tb) w X2:=hXb.trans (hb2.mono (fun k e => .inl e))
 have hbX3:=hbX2.trans (But.of_below bX3)
 have hT3:TrF (fun b=>(ok b∨X.heap.size≤b)∧b<X3.heap.size) X3 tb mb N f0 (upn T.nd (2*(i:Int)) (some (.lf d))) :=
  (hF0.same bX3.size (fun b hb _=>bX3.block b hb)).wide (fun b hb h=>⟨h,hb⟩) (fun h=>hF0.ntb h.1) (fun h=>hF0.nmb h.1)
 have hit:=parentsAbove_it (X2.heap.size+1) X2.heap.size tb mb N (i:Int) (fun k=>f0 (((pathL i N)[k]?).getD 0)) (fun k=>hF0.hd.shp _)
 have hxn:=pathL_nodup (i:Int) (N:Int)
 have hp7:=pathL_len (i:Int) (N:Int)
 have hws:w.heap.size≤X.heap.size:=hXb.size
 have hprR:∀ x p,upn T.nd (2*(i:Int)) (some (.lf d)) x=some (.pr p)→Rises p.um∧p.um.length≤1000:=fun x p hx=>by
  unfold upn at hx
  split at hx
  · cases hx
  · have:=(HK.out.pr x p hx).2
    have h2:=risU_rises this.2.2
    exact ⟨h2.1,by omega⟩
 have haT:addT T d=⟨N,umgL (i:Int) (upn T.nd (2*(i:Int)) (some (.lf d))) (pathL (i:Int) (N:Int))⟩:=by unfold addT;rw [hXN,←HI.out]
 obtain ⟨F0,hF⟩:∃ F0,F0=upn T.nd (2*(i:Int)) (some (.lf d)):=⟨_,rfl⟩
 rw [←hF] at hT3 hprR haT
 obtain ⟨xs,hxs⟩:∃ xs,xs=pathL (i:Int) (N:Int):=⟨_,rfl⟩
 rw [←hxs] at hit hxn hp7 haT
 have HaT:=Hid.mk' haT
 have hlB:w3.heap.size<X3.heap.size∧w.heap.size<X3.heap.size∧X2.heap.size+1<X3.heap.size∧X2.heap.size<X3.heap.size∧tb<X3.heap.size∧mb<X3.heap.size:=by omega
 have hwB:w.heap.size≤X3.heap.size:=by omega
 clear hX3 HX3 hF0 hT2 kT2 kI2 qT2 qI2 hF hxs haT kT kI kL bX3 hbX2
 have HsX:=Hid.mk' (And.intro sX (And.intro sX3 (And.intro sX2 (And.intro hbw (And.intro htl hml)))))
 clear sX sX3 sX2 hbw hXd hXT hXb hb2 hS
 have hDb:=Hid.mk' (fun (W:World) (hb:But (fun j=>j=mb∨j=tb) w W)=>Hh.out.dbt HT.out hb)
 refine range_it hit rfl (enters_of Tryz.func165 (by kernel_rfl) rfl)
  (fun k=>AddJ w X3.heap.size w3.heap.size w.heap.size (X2.heap.size+1) X2.heap.size tb mb N (i:Int) (fun b=>(ok b∨X.heap.size≤b)∧b<X3.heap.size) f0 F0 xs k)
  (fun _ _ _=>False) (fun _=>False) ?_ ?_ ?_ ?_ ?_ (fun b hb=>hb.elim) ?_ ?_ ?_ ?_
 · intro k M V V' hj hL;exact hj.loc hL hlB (fun b h=>h.2) hwB
 · intro c M V V' h;exact h.elim
 · intro k M V hk hj
   obtain ⟨f,h4,h5⟩:=hj.tr
   exact ⟨⟨hj.kP.range 0 _ rfl,h4.lv,h4.st⟩,hj.kJ.range 0 _ rfl,hDb.out V hj.bt,fun x hx=>⟨f,h4.mp,by show f x=f0 ((xs[k]?).getD 0);rw [hx];exact h5 k x (Nat.le_refl _) hx⟩⟩
 · intro k M V hk ha hj
   obtain ⟨f,h4,h5⟩:=hj.tr
   obtain ⟨x,hx⟩:∃ x,xs[k]? = some x:=⟨_,List.getElem?_eq_getElem hk⟩
   rw [hx] at ha
   simp only [Option.getD_some] at ha
   refine ⟨hj.kT,hj.kI,hj.kP,hj.kJ,⟨f,?_,fun j y hkj=>h5 j y (by omega)⟩,hj.bt,hj.mB⟩
   have e:umgL (i:Int) F0 (xs.take (k+1))=umgL (i:Int) F0 (xs.take k):=by
    rw [List.take_add_one,hx]
    show umgL (i:Int) F0 (xs.take k ++ [x])=_
    rw [umgL_append]
    rcases h4.hd.pr x with ⟨-,hno⟩ | ⟨cs',p,hp,-⟩
    · funext y
      unfold upn
      by_cases ey:y=x
      · rw [if_pos ey,ey]
        cases hc:umgL (i:Int) F0 (xs.take k) x with
        | none=>rfl
        | some nd=>cases nd with
         | lf d'=>rfl
         | pr p=>exact absurd hc (hno p)
      · rw [if_neg ey]
    · rw [h5 k x (Nat.le_refl _) hx] at hp
      rw [hp] at ha;cases ha
   rw [e];exact h4
 · intro k a' ha
   cases hl:prV (f0 ((xs[k]?).getD 0)) with
   | none=>rw [hl] at ha;cases ha
   | some A=>rw [hl] at ha;cases ha;rfl
 · intro V hb
   exact ⟨kT3.still hb,kI3.still hb,kP3.still hb,kJ3.still hb,⟨f0,(hT3.same hb.size (fun b hl _=>hb.block b hl)).wide (fun b _ h => .inl h) (fun h=>by rcases h with h | h;exact hT3.ntb h;exact h) (fun h=>by rcases h with h | h;exact hT3.nmb h;exact h),fun j x _ _=>rfl⟩,hbX3.trans (But.of_below hb),fun b h=>h.elim⟩
 · intro k M V l a' hk ha hj hl1 hl2 hl3
   obtain ⟨f,h4,h5⟩:=id hj.tr
   obtain ⟨x,hx⟩:∃ x,xs[k]? = some x:=⟨_,List.getElem?_eq_getElem hk⟩
   rw [hx] at ha
   simp only [Option.getD_some] at ha
   rcases h4.hd.pr x with ⟨hno,-⟩ | ⟨cp,p,hp,hFx,hO⟩
   · rw [h5 k x (Nat.le_refl _) hx] at hno
     rw [hno] at ha;cases ha
   have hp0:=hp
   rw [h5 k x (Nat.le_refl _) hx] at hp
   rw [hp] at ha
   cases ha
   have hFx0:=hFx
   rw [umgL_out _ _ _ (nodup_take hxn hx)] at hFx0
   obtain ⟨hris,hlen⟩:=hprR x p hFx0
   have h3:cp.length=3∧cp.toArray.all (·.oneCell')=true:=by
    obtain ⟨x0,c0,x1,c1,x2,c2,rfl,-⟩:=hO.form
    exact ⟨rfl,by rw [List.all_toArray];simp [Value.oneCell']⟩
   have hi3:=iszP cp.toArray (by simpa using h3.1)
   have thV:=thPr4 V cp.toArray (by simpa using h3.1)
   obtain ⟨V1,hV1⟩:∃ V1,V1=(V.alloc (.cells #[.slice none 0 0,.slice none 0 0,.slice none 0 0] 121)).setCells V.heap.size 0 cp:=⟨_,rfl⟩
   obtain ⟨kV1,bV1⟩:=stPr4 V cp.toArray (by simpa using h3.1) hV1
   have HV1:=Hid.mk' hV1
   have HbV1:=Hid.mk' bV1
   clear hit hFx0 hp0 hp hV1 bV1
   gi_wp2_with (refine wpListIn_store_rd rfl 121 _ _ rfl _ 0 cp.toArray rfl rfl thV hi3 h3.2 ?_;rw [List.toList_toArray,←HV1.out];clear HV1 thV)
   refine ⟨HbV1.out,fun V2 hbt hsz hj2 => ?_⟩
   obtain ⟨f2,g4,g5⟩:=id hj2.tr
   have hXl:X3.heap.size<l:=hl1
   have bV1:=HbV1.out
   have hlV1:l<V1.heap.size:=Nat.lt_of_lt_of_le hl2 bV1.size
   have hOk:∀ b,b<V.heap.size→((ok b∨X.heap.size≤b)∧b<X3.heap.size∨M b)→V2.heap[b]? = V.heap[b]?:=fun b hb ho =>
    (hbt.block b (Nat.lt_of_lt_of_le hb bV1.size) (fun e=>by subst e;rcases ho with ho | ho;omega;exact hl3 ho)).trans (bV1.block b hb)
   have hO2:=hO.same (by rw [hsz];exact bV1.size) hOk
   have kV2:=kV1.but hbt (by omega)
   have hVs:V.heap.size≤V2.heap.size:=by rw [hsz];exact bV1.size
   obtain ⟨U,hU⟩:∃ U,U=V2.drew:=⟨_,rfl⟩
   have bU:Below V2.heap.size V2 U:=by rw [hU];exact (Below.refl _ _).drew
   have hiU:(Tryz.prog.info? 121).map (·.size)=some cp.length:=by rw [h3.1];kernel_rfl
   have kU:=kV2.still bU
   have kTU:=hj2.kT.still bU
   have kIU:=hj2.kI.still bU
   have g4U:=g4.same bU.size (fun b hb _=>bU.block b hb)
   have hOU:=hO2.same bU.size (fun b hb _=>bU.block b hb)
   have sU:V2.heap.size≤U.heap.size:=bU.size
   clear kV1 hj h4 h5 hO hbt HbV1 bV1 hOk hO2
   gi_wp2
   refine wpIn_last4 9 (S:=fun u=>Below U.heap.size U u) (by kernel_rfl) (by kernel_rfl) (by kernel_rfl) (by kernel_rfl) (by kernel_rfl) (by rw [hU];exact Below.refl _ _) (fun hS => ?_)
   rw [←hU] at hS ⊢
   clear hU
   refine tc 0 hS (fun u hu=>(kTU.still hu).range 0 _ rfl) ?_
   (try simp only [pS])
   refine tg 1 hS ?_
   (try simp only [pS])
   refine tg 2 hS ?_
   (try simp only [pS])
   refine tc 3 hS (fun u hu=>(g4U.same hu.size (fun b hb _=>hu.block b hb)).st) ?_
   (try simp only [pS])
   refine tg 4 hS ?_
   (try simp only [pS])
   refine tl 5 kU hS 121 Tryz.underlying121 hiU ?_
   (try simp only [pS])
   refine tc 6 hS (fun u hu=>(kIU.still hu).range 0 _ rfl) ?_
   (try simp only [pS])
   refine cl 7 (withUnmerged_any _ cp p (i:Int) hris hlen U hOU) (fun e U2 hr => ?_)
   obtain ⟨cp',rfl,hO',hbU2⟩:=hr
   refine ⟨_,rfl,hbU2,?_⟩
   (try simp only [pS])
   refine tg 8 hbU2 (v := .iface 121 (.agg cp'.toArray)) ?_ (hy:=by intro u _;rfl)
   (try simp only [pS])
   have g5U:=g4U.same hbU2.size (fun b hb _=>hbU2.block b hb)
   have hMn:∀ b,(M b∨V.heap.size≤b)→X3.heap.size≤b:=fun b hb=>by rcases hb with hb | hb;exact hj2.mB b hb;omega
   have g6U:TrF (fun b=>(ok b∨X.heap.size≤b)∧b<X3.heap.size∨(M b∨V.heap.size≤b)) U2 tb mb N f2 (umgL (i:Int) F0 (xs.take k)) :=
    g5U.wide (fun b _ h=>h.imp id .inl) (fun h=>by rcases h with h | h;exact g4U.ntb (.inl h);have:=hMn _ h;omega) (fun h=>by rcases h with h | h;exact g4U.nmb (.inl h);have:=hMn _ h;omega)
   have hO6:PrO (fun b=>(ok b∨X.heap.size≤b)∧b<X3.heap.size∨(M b∨V.heap.size≤b)) U2 cp' { p with um:=insZ p.um (i:Int) }:=hO'.wide (fun b _ h=>by rcases h with (h | h) | h;exact .inl h;exact .inr (.inl h);exact .inr (.inr (by omega)))
   obtain ⟨U3,hrun,h7,hb3,hs3⟩:=g6U.put x (.iface 121 (.agg cp'.toArray)) (d := .pr { p with um:=insZ p.um (i:Int) }) ⟨cp',rfl,hO6⟩
   refine wpAnyH_done (by kernel_rfl) ?_ _
   refine lastRun 9 (w':=U3) ?_ (hrun:=ex_mapUpdate 69 (.tmp 42) (.tmp 43) (.tmp 47) rfl rfl rfl rfl hrun)
   refine OnlyN.normal ?_
   have bUU:=below_next bU hbU2
   have hmbn:mb<X3.heap.size:=hlB.2.2.2.2.2
   have eN:umgL (i:Int) F0 (xs.take (k+1))=upn (umgL (i:Int) F0 (xs.take k)) x (some (.pr { p with um:=insZ p.um (i:Int) })):=by
    rw [List.take_add_one,hx]
    show umgL (i:Int) F0 (xs.take k ++ [x])=_
    rw [umgL_append,hFx];rfl
   have nb:∀ b,b≠mb→∀ {cs:List Value},RW V2 b 0 cs→RW U3 b 0 cs:=fun b hb _ hr=>(hr.still bUU).but hb3 hb
   have hin:RoundQ X3.heap.size V.heap.size M (AddJ w X3.heap.size w3.heap.size w.heap.size (X2.heap.size+1) X2.heap.size tb mb N (i:Int) (fun b=>(ok b∨X.heap.size≤b)∧b<X3.heap.size) f0 F0 xs (k+1)) (fun _ _ _=>False) V2 .normal { tmps:=#[],defers:=[] } U3:=by
    refine ⟨(Fro.of_below bUU).trans (Fro.of_but hb3 (fun b hb => .inl (by rw [hb];exact hmbn))),fun b=>M b∨V.heap.size≤b,fun b hb=>hb,?_⟩
    have hq:=HsX.out
    refine ⟨nb _ (by omega) hj2.kT,nb _ (by omega) hj2.kI,nb _ (by omega) hj2.kP,nb _ (by omega) hj2.kJ,⟨_,by rw [eN];exact h7,fun j y hkj hy => ?_⟩,hj2.bt.trans ((But.of_below bUU).trans (hb3.mono (fun b h => .inl h))),hMn⟩
    unfold upm
    rw [if_neg (fun e=>by subst e;have:=nodup_at hxn hx hy;omega)]
    exact g5 j y (by omega) hy
   clear hrun h7 hb3 g6U hO6 g5U
   gi_wp2
   exact hin
 · intro D M V hD hDl hDm hj hdf
   obtain ⟨f,h4,-⟩:=id hj.tr
   rw [List.take_length] at h4
   have qI:=hj.kI.range 0 _ rfl
   rw [Nat.zero_add] at qI
   have hq:=Hid.mk' HsX.out
   clear hit
   gi_wp2
   have hq:=hq.out
   have hbD:=but_put V D (.deferred none)
   refine ⟨by simp,.inl ⟨_,_,rfl,run_takeDeferred hdf,?_⟩⟩
   have h5:=h4.same (w':=V.putObj D (.deferred none)) hbD.size (fun b hb ho=>hbD.block b hb (fun e=>by
    subst e
    rcases ho with (ho | ho) | ho | ho
    · omega
    · exact hDm ho
    · omega
    · omega))
   refine ⟨_,results_tmp2 rfl _ _ _,rfl,?_,⟨hbD.os.trans hj.bt.os,hbD.tape.trans hj.bt.tape,hbD.output.trans hj.bt.output,Nat.le_trans hj.bt.size hbD.size,fun b hb hn=>(hbD.block b (Nat.lt_of_lt_of_le hb hj.bt.size) (by omega)).trans (hj.bt.block b hb hn)⟩⟩
   rw [HaT.out]
   exact (h5.wide (fun b _ h=>by
    rcases h with h | h
    · exact h.1.imp id (fun h=>by omega)
    · exact .inr (by have:=hj.mB b h;omega)) (fun h=>by rcases h with h | h;exact Hh.out.ntb h;omega) (fun h=>by rcases h with h | h;exact Hh.out.nmb h;omega)).at
 · intro D c M V hD hDl hDm hj hdf
   exact hj.elim
end Go.Proofs.YtddkbmnkbfciaaaGreatDoor
namespace Go.Proofs.YtddkbmnkbfciaaaGreatDoor
open Go.RowKit Go.Shelf
def woN (gone:List Int):Option Nd→Option Nd
 | some (.pr p)=>some (.pr { p with um:=stay gone p.um })
 | o=>o
def isP:Option Nd→Bool
 | some (.pr _)=>true
 | _=>false
theorem isP_pr {o:Option Nd} (h:isP o=true):∃ p,o=some (.pr p):=by
 match o,h with
 | some (.pr p),_=>exact ⟨p,rfl⟩
def woD (F:Int→Option Nd) (gone:List Int):Int→Option Nd:=delL F (gone.map fun z=>2*z)
def woK (F:Int→Option Nd) (gone:List Int) (k:Nat):Int→Option Nd:=fun x=>if 0≤x∧x<(k:Int)∧isP (F x)=true then woN gone (F x) else woD F gone x
def woT (T:Tr) (gone:List Int):Tr:=⟨T.n,woK T.nd gone (2*T.n - 1)⟩
theorem woK_zero (F:Int→Option Nd) (gone:List Int):woK F gone 0=woD F gone:=by
 funext x
 unfold woK
 rw [if_neg (fun h=>by omega)]
theorem woK_same {F:Int→Option Nd} {gone:List Int} {k:Nat} {x:Int} (e:¬(x=(k:Int)∧isP (F x)=true)):woK F gone (k+1) x=woK F gone k x:=by
 unfold woK
 by_cases h':0≤x∧x<(k:Int)∧isP (F x)=true
 · rw [if_pos h',if_pos ⟨h'.1,by omega,h'.2.2⟩]
 · rw [if_neg h',if_neg (fun c=>h' ⟨c.1,by
    have:x≠(k:Int):=fun q=>e ⟨q,c.2.2⟩
    omega,c.2.2⟩)]
theorem woK_skip (F:Int→Option Nd) (gone:List Int) (k:Nat) (h:∀ p,F (k:Int)≠some (.pr p)):woK F gone (k+1)=woK F gone k:=by
 funext x
 refine woK_same fun ⟨e,c⟩ => ?_
 obtain ⟨p,hp⟩:=isP_pr c
 rw [e] at hp
 exact h p hp
theorem woK_more (F:Int→Option Nd) (gone:List Int) (k:Nat) (p:PrD) (h:F (k:Int)=some (.pr p)):woK F gone (k+1)=upn (woK F gone k) (k:Int) (some (.pr { p with um:=stay gone p.um })):=by
 funext x
 unfold upn
 by_cases e:x=(k:Int)
 · rw [if_pos e,e]
   unfold woK
   rw [if_pos ⟨by omega,by omega,by rw [h];rfl⟩,h]
   rfl
 · rw [if_neg e]
   exact woK_same fun c=>e c.1
structure WoJ (w:World) (B gb ob pB tb mb t2 m2 N:Nat) (gs:Value) (gone:List Int) (okS okG okO:Nat→Prop) (f0:Int→Option Value) (F0:Int→Option Nd) (k:Nat) (M:Nat→Prop) (W:World):Prop where
 kG:RW W gb 0 [gs]
 kO:RW W ob 0 [pA t2 0]
 kP:RW W pB 0 [pA tb 0]
 src:TrF okS W tb mb N f0 F0
 zg:ZO okG W gs gone
 out:∃ f,TrF (fun b=>okO b∨M b) W t2 m2 N f (woK F0 gone k)
 bel:Below w.heap.size w W
 mB:∀ b,M b→B≤b
theorem WoJ.loc {w:World} {B gb ob pB tb mb t2 m2 N:Nat} {gs:Value} {gone:List Int} {okS okG okO:Nat→Prop} {f0:Int→Option Value} {F0:Int→Option Nd} {k:Nat} {M:Nat→Prop} {W W':World} (h:WoJ w B gb ob pB tb mb t2 m2 N gs gone okS okG okO f0 F0 k M W) (hL:Loc B M W W') (h1:gb<B∧ob<B∧pB<B∧tb<B∧mb<B∧t2<B∧m2<B) (h2:∀ b,okS b→b<B) (h3:∀ b,okG b→b<B) (h4:∀ b,okO b→b<B) (hw:w.heap.size≤B):WoJ w B gb ob pB tb mb t2 m2 N gs gone okS okG okO f0 F0 k M W':=by
 obtain ⟨f,h5⟩:=h.out
 refine ⟨hL.rw h.kG (.inl h1.1),hL.rw h.kO (.inl h1.2.1),hL.rw h.kP (.inl h1.2.2.1),h.src.same hL.size (fun b hb ho=>hL.block b hb (.inl ?_)),h.zg.same hL.size (fun b hb ho=>hL.block b hb (.inl (h3 b ho))),⟨f,h5.same hL.size (fun b hb ho=>hL.block b hb ?_)⟩,?_,h.mB⟩
 · rcases ho with ho | rfl | rfl
   · exact h2 b ho
   · exact h1.2.2.2.1
   · exact h1.2.2.2.2.1
 · rcases ho with (ho | ho) | rfl | rfl
   · exact .inl (h4 b ho)
   · exact .inr ho
   · exact .inl h1.2.2.2.2.2.1
   · exact .inl h1.2.2.2.2.2.2
 · exact h.bel.trans ((hL.mono hw).below h.bel.size)
end Go.Proofs.YtddkbmnkbfciaaaGreatDoor
namespace Go.Proofs.YtddkbmnkbfciaaaGreatDoor
open Go.RowKit Go.Shelf
section
variable {P:Program} {md:Region.Mode} {ops:Array Oper} {Q:Exit→Act→World→Prop} {S:World→Prop} {fuel:Nat} {listed:Array Bool} {a:Act} {w:World}
theorem onr (i:Nat) {oi:Oper} {v:Value} {w':World} (hrun:(execOp a.eval oi).run P w = .ok (.value v) w') (hk:S w') (h:wpAnyH P md ops Q S fuel (listed.setIfInBounds i true) (a.put oi.dst v) w')
 (hi:ops.toList[i]? = some oi:=by rfl) (hr:Region.ready md ops listed=[i]:=by kernel_rfl) (hw:Region.wanted oi (yielded ops a.tmps)=true:=by rfl):wpAnyH P md ops Q S (fuel+1) listed a w :=
 wpAnyH_ready hr (by simp) (AllReadyH.cons (at_list hi) (fun K hK=>by
  rw [if_pos hw]
  unfold Oper.wp
  rw [hrun,Oper.upon_value]
  exact hK.out _ _ hk (fun _=>h)) AllReadyH.nil)
end
theorem ex_delete {P:Program} {a:Act} {oi:Oper} {w w':World} {u v r:Value} (ts:Array TypeId) (m k:Operand) (ho:oi.op = .call { callee := .builtin .delete,args:=#[m,k],argTypes:=ts }) (hm:a.eval m=u) (hk:a.eval k=v) (hrun:(Builtin.delete_ ts oi.type #[u,v]).run P w = .ok r w'):(execOp a.eval oi).run P w = .ok (.value r) w':=by
 simp [execOp,ho,resolve,invoke,builtin,hm,hk,hrun,Result.andThen]
attribute [local go_sem] Oper.semAt_some
set_option maxRecDepth 100000 in
set_option maxHeartbeats 4000000 in
theorem without_any (ok:Nat→Prop) (tb mb:Nat) (T:Tr) (hK:TrOK T) (gs:Value) (gone:List Int) (hgl:gone.length≤1000) (hg:∀ z∈gone,0≤z∧z<64) {okg:Nat→Prop} (w:World) (h:TrAt ok w tb mb T) (hgo:ZO okg w gs gone) :
 Calls Tryz.prog 173 #[pA tb 0,gs] w fun e w'=>∃ t2 m2 ok2,e = .returned (pA t2 0)∧w.heap.size≤t2∧TrAt ok2 w' t2 m2 (woT T gone)∧Below w.heap.size w w':=by
 obtain ⟨W1,hW1⟩:∃ W1,W1=w.alloc (.cells #[gs] 51):=⟨_,rfl⟩
 have k1:RW W1 w.heap.size 0 [gs]:=by rw [hW1];exact RW.fresh w [gs] 51
 have bw:Below w.heap.size w W1:=by rw [hW1];exact (Below.refl _ _).alloc (Nat.le_refl _) _
 have s1:W1.heap.size=w.heap.size+1:=by rw [hW1];exact World.size_alloc _ _
 have hn64:=hK.n64
 have cC:=tCopy_any ok tb mb T hn64.1 W1 (h.below bw)
 have HW1:=Hid.mk' hW1
 have Hs1:=Hid.mk' s1
 have Hh:=Hid.mk' h
 have HK:=Hid.mk' hK
 have Hgo:=Hid.mk' hgo
 have Hn:=Hid.mk' hn64
 clear hW1 s1 h hK hgo hn64
 obtain ⟨nn,-⟩:∃ nn:Nat,True:=⟨1,trivial⟩
 refine (callsIn_wide (n:=nn)).1 ?_
 refine callsIn_of_wp_marks Tryz.func173 rfl trivial ?_ rfl
 simp only [Tryz.ntmps173,List.size_toArray,List.length_cons,List.length_nil,Nat.reduceAdd,Nat.reduceSub,Array.replicate_succ,Array.replicate_zero,List.push_toArray,List.append_toArray,List.nil_append,List.cons_append]
 obtain ⟨xg,cg,rfl,hcg,-,hzc⟩:=id Hgo.out
 gi_wp2_with (first
  | (rw [←HW1.out];clear HW1)
  | (refine ⟨trivial,(fun h=>by cases h),?_⟩;gi_at_call 13;refine (callsIn_wide.2 cC).mono ?_;clear cC;rintro e w2 ⟨t2,m2,rfl,ht2,hm2,hT2,hb2⟩;(have bX:Below w2.heap.size w2 (w2.alloc (.cells #[pA t2 0] 23)):=(Below.refl _ _).alloc (Nat.le_refl _) _);(have qg:=((k1.still hb2).still bX).range 0 _ rfl);(rw [Nat.zero_add] at qg)))
 have kG:=(k1.still hb2).still bX
 have kO:=RW.fresh w2 [pA t2 0] 23
 replace kO:RW (w2.alloc (.cells #[pA t2 0] 23)) w2.heap.size 0 [pA t2 0]:=kO
 have sX:(w2.alloc (.cells #[pA t2 0] 23)).heap.size=w2.heap.size+1:=World.size_alloc _ _
 have bw2:=below_next bw hb2
 have bwX:=below_next bw2 bX
 have hTX:=hT2.below bX
 have htl:=hT2.tlt
 have hml:=hT2.mlt
 generalize w2.alloc (.cells #[pA t2 0] 23)=X at *
 have HsX:=Hid.mk' sX
 clear qg sX k1 bX
 gi_loopw [14] (fun s wr=>∃ k:Nat,k≤gone.length∧s = .int .i64 (k:Int)∧TrAt (fun b=>ok b∧b<W1.heap.size) wr t2 m2 ⟨T.n,delL T.nd ((gone.map fun z=>2*z).take k)⟩∧But (fun j=>j=m2) X wr) (fun s _=>gone.length - (intOf s).toNat)
 case atStart=>exact ⟨0,Nat.zero_le _,rfl,hTX,But.of_below (Below.refl _ _)⟩
 case round =>
  obtain ⟨k,hk,rfl,hTr,hbt⟩:=hrel
  have hs1:=Hs1.out
  have hsX:=HsX.out
  have hzr:ZO okg wr (.slice xg gone.length cg) gone:=Hgo.out.same (Nat.le_trans bwX.size hbt.size) (fun b hb _=>(hbt.block b (Nat.lt_of_lt_of_le hb bwX.size) (by omega)).trans (bwX.block b hb))
  have kOr:=kO.but hbt (by omega:¬w2.heap.size=m2)
  by_cases hlt:k<gone.length
  · obtain ⟨z,hz⟩:∃ z,gone[k]? = some z:=⟨_,List.getElem?_eq_getElem hlt⟩
    obtain ⟨hz0,hz1⟩:=hg z (List.mem_of_getElem? hz)
    have hlt':(k:Int)<(gone.length:Int):=by omega
    have hk0:(0:Int)≤(k:Int):=by omega
    obtain ⟨xa',ca',e,-,-,hzc'⟩:=id hzr
    cases e
    obtain ⟨g,o,rfl,-,-,hgc⟩:=hzc' k z hz
    have e9:delL T.nd ((gone.map fun z=>2*z).take (k+1))=upn (delL T.nd ((gone.map fun z=>2*z).take k)) (2*z) none:=by
     rw [List.take_add_one,List.getElem?_map,hz];exact delL_append _ _ _
    obtain ⟨U,hU⟩:∃ U,U=wr.drew:=⟨_,rfl⟩
    have bU:Below wr.heap.size wr U:=by rw [hU];exact (Below.refl _ _).drew
    have kU:=kOr.still bU
    have hTU:=hTr.below bU
    have Hq:=Hid.mk' (And.intro hs1 hsX)
    clear hzc hzc' hzr hs1 hsX
    gi_wp2
    refine wpIn_heldW (S:=fun u=>But (fun j=>j=m2) U u) (by kernel_rfl) (by kernel_rfl) (by rw [hU];exact But.of_below (Below.refl _ _)) (fun hS => ?_)
    rw [←hU] at hS ⊢
    clear hU
    have hne:¬w2.heap.size=m2:=by omega
    have hst:∀ u,But (fun j=>j=m2) U u→u.cell? ⟨t2,1,none⟩=some (.map (some m2)):=fun u hu=>by
     have e2:=hu.block t2 hTU.tlt hTU.ne
     have:=hTU.st
     unfold World.cell? at this ⊢
     rw [e2]
     exact this
    refine tc 0 hS (fun u hu=>(kU.but hu hne).range 0 _ rfl) ?_
    (try simp only [pS])
    refine tg 1 hS ?_
    (try simp only [pS])
    refine tg 2 hS ?_
    (try simp only [pS])
    refine tc 3 hS hst ?_
    (try simp only [pS])
    refine tg 4 hS ?_
    (try simp only [pS])
    refine cl 5 (placeOf_any z ⟨hz0,by omega⟩ U) (fun e U2 hr => ?_)
    obtain ⟨rfl,rfl⟩:=hr
    refine ⟨_,rfl,hS,?_⟩
    (try simp only [pS])
    obtain ⟨w',hdel,hT',hb',hs'⟩:=hTU.del (2*z) 0
    refine onr 6 (ex_delete #[69,3] (.tmp 21) (.tmp 23) rfl rfl rfl hdel) hb' ?_
    refine wpAnyH_done (by kernel_rfl) ?_ _
    refine OnlyN.normal ?_
    have hfin:TrAt (fun b=>ok b∧b<W1.heap.size) w' t2 m2 ⟨T.n,delL T.nd ((gone.map fun z=>2*z).take (k+1))⟩∧But (fun j=>j=m2) X w':=⟨by rw [e9];exact hT',hbt.trans ((But.of_below bU).trans hb')⟩
    clear hdel hT' hb' hs' hTU hst e9 hTr
    gi_wp2
    exact ⟨⟨k+1,hlt,by simp,hfin⟩,by simp [intOf];omega⟩
  · obtain rfl:k=gone.length:=by omega
    have hlt':¬((gone.length:Nat):Int)<(gone.length:Int):=by omega
    have eD:delL T.nd ((gone.map fun z=>2*z).take gone.length)=woK T.nd gone 0:=by
     rw [woK_zero,show gone.length=(gone.map fun z=>2*z).length by rw [List.length_map],List.take_length];rfl
    rw [eD] at hTr
    have bX:Below w.heap.size w wr:=bwX.trans (hbt.below bwX.size (fun k e=>by omega))
    have hsrc0:=Hh.out.below bX
    have kGr:=kG.but hbt (by omega:¬w.heap.size=m2)
    have cP:=parents_any tb wr
    have Hq:=Hid.mk' (And.intro hs1 hsX)
    clear hs1 hsX
    gi_wp2_with (first
     | (refine ⟨trivial,(fun h=>by cases h),?_⟩;gi_at_call 141;refine (callsIn_wide.2 cP).mono ?_;clear cP;rintro e X3 ⟨rfl,hX3⟩;(have HX3:=Hid.mk' hX3);clear hX3))
    have hX3:=HX3.out
    have b3:Below wr.heap.size wr X3:=by rw [hX3];exact (Below.refl _ _).alloc (Nat.le_refl _) _
    have s3:X3.heap.size=wr.heap.size+1:=by rw [hX3];exact World.size_alloc _ _
    have kP3:RW X3 wr.heap.size 0 [pA tb 0]:=by rw [hX3];exact RW.fresh wr [pA tb 0] 23
    have kG3:=kGr.still b3
    have kO3:=kOr.still b3
    have z3:ZO (fun b=>okg b∧b<w.heap.size) X3 (.slice xg gone.length cg) gone:=(Hgo.out.wide (ok':=fun b=>okg b∧b<w.heap.size) (fun b hb h=>⟨h,hb⟩)).same (Nat.le_trans bX.size b3.size) (fun b hb _=>(b3.block b (Nat.lt_of_lt_of_le hb bX.size)).trans (bX.block b hb))
    obtain ⟨f0,hS3⟩:=((Hh.out.wide (ok':=fun b=>ok b∧b<w.heap.size) (fun b hb h=>⟨h,hb⟩) (fun h=>Hh.out.ntb h.1) (fun h=>Hh.out.nmb h.1)).below (below_next bX b3)).f
    obtain ⟨fo,hFo⟩:=(hTr.below b3).f
    have htl0:=Hh.out.tlt
    have hml0:=Hh.out.mlt
    have bw3:=below_next bX b3
    have hit:=parents_it wr.heap.size tb mb T.n HK.out.may (fun k=>f0 (k:Int)) (fun k=>hS3.hd.shp _)
    have hq:=Hq.out
    have hws:=bX.size
    have hXs:=hbt.size
    have hlB:w.heap.size<X3.heap.size∧w2.heap.size<X3.heap.size∧wr.heap.size<X3.heap.size∧tb<X3.heap.size∧mb<X3.heap.size∧t2<X3.heap.size∧m2<X3.heap.size:=by omega
    have hwB:w.heap.size≤X3.heap.size:=by omega
    have hwm:w.heap.size<m2∧w.heap.size<t2∧W1.heap.size<X3.heap.size∧m2<wr.heap.size∧t2<wr.heap.size∧w2.heap.size<wr.heap.size:=by omega
    have hum:∀ x p,T.nd x=some (.pr p)→p.um.length≤1000:=fun x p hx=>by
     have h2:=risU_rises (HK.out.pr x p hx).2.2.2
     omega
    have Hlw:=Hid.mk' (And.intro hlB (And.intro hwm (And.intro hml htl)))
    have HhT:=Hid.mk' (HK.out.rng)
    clear hX3 HX3 hTr hsrc0 Hq hq kGr kOr kG kO hTX hT2 hb2 bw bw2 bwX s3 b3 hbt hzr hzc
    refine range_it hit rfl (enters_of Tryz.func198 (by kernel_rfl) rfl)
     (fun k=>WoJ w X3.heap.size w.heap.size w2.heap.size wr.heap.size tb mb t2 m2 T.n (.slice xg gone.length cg) gone (fun b=>ok b∧b<w.heap.size) (fun b=>okg b∧b<w.heap.size) (fun b=>ok b∧b<W1.heap.size) f0 T.nd k)
     (fun _ _ _=>False) (fun _=>False) ?_ ?_ ?_ ?_ ?_ (fun b hb=>hb.elim) ?_ ?_ ?_ ?_
    · intro k M V V' hj hL
      exact hj.loc hL hlB (fun b h=>by omega) (fun b h=>by omega) (fun b h=>by omega) hwB
    · intro c M V V' h;exact h.elim
    · intro k M V hk hj
      exact ⟨⟨hj.kP.range 0 _ rfl,hj.src.lv,hj.src.st⟩,fun _=>⟨f0,hj.src.mp,rfl⟩⟩
    · intro k M V hk ha hj
      obtain ⟨f,h5⟩:=hj.out
      refine ⟨hj.kG,hj.kO,hj.kP,hj.src,hj.zg,⟨f,?_⟩,hj.bel,hj.mB⟩
      rw [woK_skip]
      · exact h5
      · intro p hp
        rcases hj.src.hd.pr (k:Int) with ⟨-,hno⟩ | ⟨cs',p',hp',-⟩
        · exact hno p hp
        · rw [hp'] at ha;cases ha
    · intro k a' ha
      cases hl:prV (f0 (k:Int)) with
      | none=>rw [hl] at ha;cases ha
      | some A=>rw [hl] at ha;cases ha;rfl
    · intro V hb
      exact ⟨kG3.still hb,kO3.still hb,kP3.still hb,hS3.same hb.size (fun b hl _=>hb.block b hl),z3.same hb.size (fun b hl _=>hb.block b hl),⟨fo,(hFo.same hb.size (fun b hl _=>hb.block b hl)).wide (fun b _ h => .inl h) (fun h=>by rcases h with h | h;exact hFo.ntb h;exact h) (fun h=>by rcases h with h | h;exact hFo.nmb h;exact h)⟩,below_next bw3 hb,fun b h=>h.elim⟩
    · intro k M V l a' hk ha hj hl1 hl2 hl3
      rcases hj.src.hd.pr (k:Int) with ⟨hno,-⟩ | ⟨cp,p,hp,hFx,hO⟩
      · rw [hno] at ha;cases ha
      rw [hp] at ha
      cases ha
      have hlen:=hum _ p hFx
      have h3:cp.length=3∧cp.toArray.all (·.oneCell')=true:=by
       obtain ⟨x0,c0,x1,c1,x2,c2,rfl,-⟩:=hO.form
       exact ⟨rfl,by rw [List.all_toArray];simp [Value.oneCell']⟩
      have hi3:=iszP cp.toArray (by simpa using h3.1)
      have thV:=thPr4 V cp.toArray (by simpa using h3.1)
      obtain ⟨V1,hV1⟩:∃ V1,V1=(V.alloc (.cells #[.slice none 0 0,.slice none 0 0,.slice none 0 0] 121)).setCells V.heap.size 0 cp:=⟨_,rfl⟩
      obtain ⟨kV1,bV1⟩:=stPr4 V cp.toArray (by simpa using h3.1) hV1
      have HV1:=Hid.mk' hV1
      have HbV1:=Hid.mk' bV1
      clear hit hp hV1 bV1
      gi_wp2_with (refine wpListIn_store_rd rfl 121 _ _ rfl _ 0 cp.toArray rfl rfl thV hi3 h3.2 ?_;rw [List.toList_toArray,←HV1.out];clear HV1 thV)
      refine ⟨HbV1.out,fun V2 hbt hsz hj2 => ?_⟩
      obtain ⟨f2,g4⟩:=id hj2.out
      have hXl:X3.heap.size<l:=hl1
      have bV1:=HbV1.out
      have hlV1:l<V1.heap.size:=Nat.lt_of_lt_of_le hl2 bV1.size
      have hOk:∀ b,b<V.heap.size→(ok b∧b<w.heap.size)→V2.heap[b]? = V.heap[b]?:=fun b hb ho =>
       (hbt.block b (Nat.lt_of_lt_of_le hb bV1.size) (fun e=>by omega)).trans (bV1.block b hb)
      have hO2:=hO.same (by rw [hsz];exact bV1.size) hOk
      have kV2:=kV1.but hbt (by omega)
      have hVs:V.heap.size≤V2.heap.size:=by rw [hsz];exact bV1.size
      obtain ⟨U,hU⟩:∃ U,U=V2.drew:=⟨_,rfl⟩
      have bU:Below V2.heap.size V2 U:=by rw [hU];exact (Below.refl _ _).drew
      have hiU:(Tryz.prog.info? 121).map (·.size)=some cp.length:=by rw [h3.1];kernel_rfl
      have kU:=kV2.still bU
      have kOU:=hj2.kO.still bU
      have kGU:=hj2.kG.still bU
      have g4U:=g4.same bU.size (fun b hb _=>bU.block b hb)
      have hOU:=hO2.same bU.size (fun b hb _=>bU.block b hb)
      have zU:=hj2.zg.same bU.size (fun b hb _=>bU.block b hb)
      have sU:V2.heap.size≤U.heap.size:=bU.size
      clear kV1 hj hO hbt HbV1 bV1 hOk hO2
      gi_wp2
      refine wpIn_last4 9 (S:=fun u=>Below U.heap.size U u) (by kernel_rfl) (by kernel_rfl) (by kernel_rfl) (by kernel_rfl) (by kernel_rfl) (by rw [hU];exact Below.refl _ _) (fun hS => ?_)
      rw [←hU] at hS ⊢
      clear hU
      refine tc 0 hS (fun u hu=>(kOU.still hu).range 0 _ rfl) ?_
      (try simp only [pS])
      refine tg 1 hS ?_
      (try simp only [pS])
      refine tg 2 hS ?_
      (try simp only [pS])
      refine tc 3 hS (fun u hu=>(g4U.same hu.size (fun b hb _=>hu.block b hb)).st) ?_
      (try simp only [pS])
      refine tg 4 hS ?_
      (try simp only [pS])
      refine tl 5 kU hS 121 Tryz.underlying121 hiU ?_
      (try simp only [pS])
      refine tc 6 hS (fun u hu=>(kGU.still hu).range 0 _ rfl) ?_
      (try simp only [pS])
      refine cl 7 (withoutUnmerged_any _ cp p hlen _ gone hgl U hOU zU) (fun e U2 hr => ?_)
      obtain ⟨cp',rfl,hO',hbU2⟩:=hr
      refine ⟨_,rfl,hbU2,?_⟩
      (try simp only [pS])
      refine tg 8 hbU2 (v := .iface 121 (.agg cp'.toArray)) ?_ (hy:=by intro u _;rfl)
      (try simp only [pS])
      have hq:=Hlw.out
      have hW1s:=Hs1.out
      have g5U:=g4U.same hbU2.size (fun b hb _=>hbU2.block b hb)
      have hMn:∀ b,(M b∨V.heap.size≤b)→X3.heap.size≤b:=fun b hb=>by rcases hb with hb | hb;exact hj2.mB b hb;omega
      have g6U:TrF (fun b=>(ok b∧b<W1.heap.size)∨(M b∨V.heap.size≤b)) U2 t2 m2 T.n f2 (woK T.nd gone k) :=
       g5U.wide (fun b _ h=>h.imp id .inl) (fun h=>by rcases h with h | h;exact g4U.ntb (.inl h);have:=hMn _ h;omega) (fun h=>by rcases h with h | h;exact g4U.nmb (.inl h);have:=hMn _ h;omega)
      have hO6:PrO (fun b=>(ok b∧b<W1.heap.size)∨(M b∨V.heap.size≤b)) U2 cp' { p with um:=stay gone p.um }:=hO'.wide (fun b _ h=>by rcases h with h | h;exact .inl ⟨h.1,by omega⟩;exact .inr (.inr (by omega)))
      obtain ⟨U3,hrun,h7,hb3,hs3⟩:=g6U.put (k:Int) (.iface 121 (.agg cp'.toArray)) (d := .pr { p with um:=stay gone p.um }) ⟨cp',rfl,hO6⟩
      refine wpAnyH_done (by kernel_rfl) ?_ _
      refine lastRun 9 (w':=U3) ?_ (hrun:=ex_mapUpdate 69 (.tmp 32) (.tmp 33) (.tmp 37) rfl rfl rfl rfl hrun)
      refine OnlyN.normal ?_
      have bUU:=below_next bU hbU2
      have eN:=woK_more T.nd gone k p hFx
      have nb:∀ b,b≠m2→∀ {cs:List Value},RW V2 b 0 cs→RW U3 b 0 cs:=fun b hb _ hr=>(hr.still bUU).but hb3 hb
      have hin:RoundQ X3.heap.size V.heap.size M (WoJ w X3.heap.size w.heap.size w2.heap.size wr.heap.size tb mb t2 m2 T.n (.slice xg gone.length cg) gone (fun b=>ok b∧b<w.heap.size) (fun b=>okg b∧b<w.heap.size) (fun b=>ok b∧b<W1.heap.size) f0 T.nd (k+1)) (fun _ _ _=>False) V2 .normal { tmps:=#[],defers:=[] } U3:=by
       refine ⟨(Fro.of_below bUU).trans (Fro.of_but hb3 (fun b hb => .inl (by rw [hb];exact hq.1.2.2.2.2.2.2))),fun b=>M b∨V.heap.size≤b,fun b hb=>hb,?_⟩
       have hsame:∀ b,b<V2.heap.size→b≠m2→U3.heap[b]? = V2.heap[b]?:=fun b hb hn=>(hb3.block b (Nat.lt_of_lt_of_le hb bUU.size) hn).trans (bUU.block b hb)
       have hle:V2.heap.size≤U3.heap.size:=Nat.le_trans bUU.size hb3.size
       refine ⟨nb _ (by omega) hj2.kG,nb _ (by omega) hj2.kO,nb _ (by omega) hj2.kP,hj2.src.same hle (fun b hb ho=>hsame b hb (by rcases ho with ho | rfl | rfl <;> omega)),hj2.zg.same hle (fun b hb ho=>hsame b hb (by omega)),⟨_,by rw [eN];exact h7⟩,hj2.bel.trans ((hb3.below (Nat.le_trans hj2.bel.size bUU.size) (fun b e=>by omega) |> fun q=>(bUU.mono hj2.bel.size).trans q)),hMn⟩
      clear hrun h7 hb3 g6U hO6 g5U
      gi_wp2
      exact hin
    · intro D M V hD hDl hDm hj hdf
      obtain ⟨f,h4⟩:=id hj.out
      have qO:=hj.kO.range 0 _ rfl
      rw [Nat.zero_add] at qO
      have hq:=Hid.mk' Hlw.out
      clear hit
      gi_wp2
      have hq:=hq.out
      have hbD:=but_put V D (.deferred none)
      refine ⟨by simp,.inl ⟨_,_,rfl,run_takeDeferred hdf,?_⟩⟩
      have h5:=h4.same (w':=V.putObj D (.deferred none)) hbD.size (fun b hb ho=>hbD.block b hb (fun e=>by
       subst e
       rcases ho with (ho | ho) | ho | ho
       · omega
       · exact hDm ho
       · omega
       · omega))
      refine ⟨_,results_tmp rfl _ _ _,t2,rfl,by omega,⟨m2,_,h5.at⟩,hj.bel.trans (hbD.below hj.bel.size (fun b e=>by omega))⟩
    · intro D c M V hD hDl hDm hj hdf
      exact hj.elim
end Go.Proofs.YtddkbmnkbfciaaaGreatDoor
