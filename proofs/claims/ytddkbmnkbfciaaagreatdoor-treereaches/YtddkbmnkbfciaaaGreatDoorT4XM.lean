/- What the proof stands on: T4X, T4Y. -/
import Derived.Test.YtddkbmnkbfciaaaGreatDoorT4PM
namespace Go.Proofs.YtddkbmnkbfciaaaGreatDoor
open Go.RowKit Go.Shelf
def rsoF (F:Int→Option Nd):Nat→Int→List Int
 | 0,_=>[]
 | f+1,x=>match F x with
  | some (.lf _)=>[x]
  | some (.pr p)=>x :: p.um.map (fun z=>2*z)
  | none=>if innB x then rsoF F f (lftN x.toNat) ++ rsoF F f (rgtN x.toNat) else []
theorem rsoF_len {T:Tr} (hK:TrOK T):∀ (f:Nat) (x:Int),(rsoF T.nd f x).length≤65*2 ^ f
 | 0,_=>by simp [rsoF]
 | f+1,x=>by
  have h1:=fun y=>rsoF_len hK f y
  have hp:65*2 ^ (f+1)=65*2 ^ f+65*2 ^ f:=by rw [Nat.pow_succ];omega
  have hq:1≤2 ^ f:=Nat.one_le_two_pow
  unfold rsoF
  split
  · simp;omega
  · rename_i p hp'
    have:=(risU_rises (hK.pr x p hp').2.2.2).2.1
    simp;omega
  · split
    · have a:=h1 (lftN x.toNat);have b:=h1 (rgtN x.toNat)
      simp;omega
    · simp
theorem OwnZ.one (base:Nat) (w:World) (x:Int) (h:base≤w.heap.size):OwnZ base (w.alloc (.cells #[.int .i64 x] 3)) (.slice (some ⟨w.heap.size,0,none⟩) 1 1) [x]:=World.ownsRow_lit w #[.int .i64 x] 1 h (by decide) rfl
theorem OwnZ.mono {base base':Nat} {w:World} {v:Value} {l:List Int} (h:OwnZ base w v l) (hb:base'≤base):OwnZ base' w v l:=by
 obtain ⟨h1,h2 | ⟨g,cap,cur,e,h3,h4⟩⟩:=h
 · exact ⟨h1,.inl h2⟩
 · exact ⟨h1,.inr ⟨g,cap,cur,e,Nat.le_trans hb h3,h4⟩⟩
theorem innB_parts {x:Int} (h:innB x=true):0≤x∧x<127∧lftN x.toNat<127∧rgtN x.toNat<127∧levN (lftN x.toNat)+1=levN x.toNat∧levN (rgtN x.toNat)+1=levN x.toNat:=by
 simp only [innB,Bool.and_eq_true,decide_eq_true_eq] at h
 obtain ⟨⟨h0,h1⟩,h2⟩:=h
 have e:x.toNat<127∧x.toNat%2=1:=by omega
 have hl:=lev_parts x.toNat e.1 e.2
 have ht:=left_tab x.toNat e.1 e.2
 have hb:∀ y,y<127→y%2=1→lftN y<127∧rgtN y<127:=by decide
 have:=hb x.toNat e.1 e.2
 omega
set_option maxRecDepth 20000 in
set_option maxHeartbeats 4000000 in
theorem resolution_any (ok:Nat→Prop) (tb mb:Nat) (T:Tr) (hK:TrOK T):∀ (f:Nat) (x:Int),f≤7→0≤x→x<127→levN x.toNat<f→∀ w:World,DbT w→TrAt ok w tb mb T →
 Calls Tryz.prog 108 #[pA tb 0,.int .i64 x] w fun e w'=>∃ v,e = .returned v∧OwnZ w.heap.size w' v (rsoF T.nd f x)∧Below w.heap.size w w':=by
 intro f
 induction f with
 | zero=>intro x _ _ _ h;omega
 | succ f ih =>
  intro x hf hx0 hx1 hlev w hT h
  obtain ⟨fm,hF⟩:=h.f
  have hst:=h.st
  have hlk:=look_any hF.mp x
  rcases hF.hd.look x with ⟨e1,e2⟩ | ⟨nd,v,e1,e2,hnd⟩
  · have hta:=fun W=>ta_ln W
    have htb:=fun W=>ta_pn W
    rw [e2] at hlk
    simp only [Option.getD_none] at hlk
    unfold zLf at hta
    unfold zPr at htb
    have cL:=iLeft_any x w hT
    by_cases hin:innB x=true
    · obtain ⟨-,-,l1,l2,l3,l4⟩:=innB_parts hin
      have er:rsoF T.nd (f+1) x=rsoF T.nd f (lftN x.toNat) ++ rsoF T.nd f (rgtN x.toNat):=by rw [rsoF,e1];simp only [hin,if_true]
      have cA:=fun W hW1 hW2=>ih (lftN x.toNat) (by omega) (by omega) (by omega) (by rw [Int.toNat_natCast];omega) W hW1 hW2
      have cB:=fun W hW1 hW2=>ih (rgtN x.toNat) (by omega) (by omega) (by omega) (by rw [Int.toNat_natCast];omega) W hW1 hW2
      have cR:=fun W hW=>iRight_any x W hW
      have hlA:=rsoF_len hK f (lftN x.toNat)
      have hlB:=rsoF_len hK f (rgtN x.toNat)
      have h27:65*2 ^ f≤8320:=by
       have:2 ^ f≤2 ^ 7:=Nat.pow_le_pow_right (by decide) (by omega)
       omega
      have ea:lftA x=((lftN x.toNat:Int),true):=by unfold lftA;rw [if_pos hin]
      have eb:rgtA x=((rgtN x.toNat:Int),true):=by unfold rgtA;rw [if_pos hin]
      rw [ea] at cL
      rw [eb] at cR
      rw [er]
      generalize lftN x.toNat=a at *
      generalize rgtN x.toNat=b at *
      have HT:=Hid.mk' hT
      have Hh:=Hid.mk' h
      have Hla:=Hid.mk' (And.intro hlA (And.intro hlB h27))
      clear ih hF e1 e2 er h hT ea eb hin l1 l2 l3 l4 hlA hlB h27 hlev hf hx0 hx1
      go_enter Tryz.func108,Tryz.ntmps108
      go_wp2_with (first
       | (go_at_call 44;refine cL.mono ?_;clear cL;rintro e w1 ⟨rfl,b1⟩)
       | (go_at_call 45;refine (cR w1 (HT.out.keep b1)).mono ?_;clear cR;rintro e w2 ⟨rfl,b2⟩;(replace b2:=below_next b1 b2))
       | (go_at_call 108;refine (cA w2 (HT.out.keep b2) (Hh.out.below b2)).mono ?_;clear cA;rintro e w3 ⟨v3,rfl,o3,b3⟩;(have b3w:=below_next b2 b3);(obtain ⟨x3,c3,rfl⟩:=o3.slice))
       | (go_at_call 108;refine (cB w3 (HT.out.keep b3w) (Hh.out.below b3w)).mono ?_;clear cB;rintro e w4 ⟨v4,rfl,o4,b4⟩;(have b4w:=below_next b3w b4);(replace o3:=o3.below b4);(have z4:=ZO.own o4);(obtain ⟨x4,c4,rfl⟩:=o4.slice);(have s2:=b2.size);(have s4:=b4w.size);(have s34:=Nat.le_trans b3.size b4.size))
       | (at_builtin;refine wpList_append_zs rfl (.tmp 58) (.tmp 61) rfl w2.heap.size _ _ _ rfl o3 _ _ _ rfl z4 (by have:=Hla.out;omega) s34 ?_;intro v5 w5 o5 _ _ b5))
      go_ret
      refine ⟨_,rfl,?_,b4w.trans (b5.mono s2)⟩
      exact OwnZ.mono o5 s2
    · have ea:lftA x=(-1,false):=by unfold lftA;rw [if_neg hin]
      have er:rsoF T.nd (f+1) x=[]:=by rw [rsoF,e1];simp [hin]
      rw [ea] at cL
      rw [er]
      clear ih hF e1 e2 er h hT ea hin
      go_enter Tryz.func108,Tryz.ntmps108
      go_wp2_with (go_at_call 44;refine cL.mono ?_;clear cL;rintro e w1 ⟨rfl,b1⟩)
      go_ret
      exact ⟨_,rfl,OwnZ.nil _ _,b1⟩
  · cases nd with
    | lf d =>
     obtain ⟨cs,rfl,hO⟩:=hnd
     have hr:=hO.of.row
     have hta:=fun W=>ta_ll (.agg cs.toArray) W
     rw [e2] at hlk
     simp only [Option.getD_some] at hlk
     have hi:=iszL cs.toArray (by simpa using hr.1)
     have th:=fun W=>thLf4 W cs.toArray (by simpa using hr.1)
     have er:rsoF T.nd (f+1) x=[x]:=by unfold rsoF;rw [e1]
     rw [er]
     clear ih hF hO e1 e2 er h hT
     go_enter Tryz.func108,Tryz.ntmps108
     go_wp2_with (refine wpList_store_mid rfl 117 _ _ rfl _ 0 cs.toArray rfl rfl (th _) hi hr.2 ?_;obtain ⟨X,hX⟩:∃ X,X=(w.alloc (.cells #[.slice none 0 0,.slice none 0 0,.slice none 0 0,.int .i64 0,.slice none 0 0,.slice none 0 0] 117)).setCells w.heap.size 0 cs.toArray.toList:=⟨_,rfl⟩;rw [←hX];have bX:=(stLf4 w cs.toArray (by simpa using hr.1) hX).2;clear hX)
     go_ret
     exact ⟨_,rfl,OwnZ.one _ _ _ bX.size,bX.trans (((Below.refl _ _).alloc (Nat.le_refl _) _).mono bX.size)⟩
    | pr p =>
     obtain ⟨cs,rfl,hO⟩:=hnd
     have hr:cs.length=3∧cs.toArray.all (·.oneCell')=true:=by
      obtain ⟨x0,c0,x1,c1,x2,c2,rfl,-⟩:=hO.form
      exact ⟨rfl,by rw [List.all_toArray];simp [Value.oneCell']⟩
     have hta:=fun W=>ta_lp (.agg cs.toArray) W
     have htb:=fun W=>ta_pp (.agg cs.toArray) W
     rw [e2] at hlk
     simp only [Option.getD_some] at hlk
     have hi:=iszP cs.toArray (by simpa using hr.1)
     have th:=fun W=>thPr4 W cs.toArray (by simpa using hr.1)
     have er:rsoF T.nd (f+1) x=x :: p.um.map (fun z=>2*z):=by unfold rsoF;rw [e1]
     obtain ⟨-,hl64,hum⟩:=risU_rises (hK.pr x p e1).2.2.2
     rw [er]
     unfold zLf at hta
     obtain ⟨X,hX⟩:∃ X,X=(w.alloc (.cells #[.slice none 0 0,.slice none 0 0,.slice none 0 0] 121)).setCells w.heap.size 0 cs:=⟨_,rfl⟩
     obtain ⟨kX,bX⟩:=stPr4 w cs.toArray (by simpa using hr.1) hX
     rw [List.toList_toArray] at kX
     obtain ⟨x0,c0,x1,c1,x2,c2,ecs,-,-,hz⟩:=hO.form
     have hzX:=hz.keep bX
     rw [ecs] at kX
     have q2:=kX.range 2 _ rfl
     rw [Nat.zero_add] at q2
     have HX:=Hid.mk' hX
     obtain ⟨X2,hX2⟩:∃ X2,X2=X.alloc (.cells #[.int .i64 x] 3):=⟨_,rfl⟩
     have oX2:=OwnZ.one w.heap.size X x bX.size
     rw [←hX2] at oX2
     have bX2:Below X.heap.size X X2:=by rw [hX2];exact (Below.refl _ _).alloc (Nat.le_refl _) _
     have q22:=(kX.still bX2).range 2 _ rfl
     rw [Nat.zero_add] at q22
     have bw2:=below_next bX bX2
     have hzX2:=hz.keep bw2
     have HX2:=Hid.mk' hX2
     have Hum:=Hid.mk' hum
     have Hz:=Hid.mk' hz
     have hsX:=bX.size
     clear ih hzX hzX2 hF hO e1 e2 er h hT hX hX2 hum hz hK ecs kX
     go_enter Tryz.func108,Tryz.ntmps108
     go_wp2_with (first
      | (refine wpList_store_mid rfl 121 _ _ rfl _ 0 cs.toArray rfl rfl (th _) hi hr.2 ?_;rw [List.toList_toArray,←HX.out];clear HX th)
      | (rw [←HX2.out];clear HX2 q2))
     clear q22
     go_loopw [7,33] (fun o s wr=>∃ k:Nat,k≤p.um.length∧s = .int .i64 (k:Int)∧(∃ xo co,o = .slice xo (k+1) co∧OwnZ w.heap.size wr (.slice xo (k+1) co) (x :: (p.um.take k).map fun z=>2*z))∧Below w.heap.size w wr) (fun _ s _=>p.um.length - (intOf s).toNat)
     case atStart=>exact ⟨0,Nat.zero_le _,rfl,⟨_,_,rfl,oX2⟩,bw2⟩
     case round =>
      clear oX2 bw2 bX bX2
      obtain ⟨k,hk,rfl,⟨xo,co,rfl,own⟩,hb⟩:=hrel
      by_cases hlt:k<p.um.length
      · have hlt':(k:Int)<(p.um.length:Int):=by omega
        have hk0:(0:Int)≤(k:Int):=by omega
        obtain ⟨z,hz⟩:∃ z,p.um[k]? = some z:=⟨_,List.getElem?_eq_getElem hlt⟩
        obtain ⟨xa,ca,e,hca,-,hzc⟩:=Hz.out.keep hb
        cases e
        obtain ⟨g,o,rfl,-,-,hgc⟩:=hzc k z hz
        have hzr:=Hum.out z (List.mem_of_getElem? hz)
        have cP:=placeOf_any z ⟨hzr.1,by omega⟩
        have e9:(x :: (p.um.take k).map fun z=>2*z) ++ [2*z]=x :: (p.um.take (k+1)).map fun z=>2*z:=by
         rw [List.take_add_one,hz];simp
        have hll:(x :: (p.um.take k).map fun z=>2*z).length=k+1:=by simp;omega
        have Hl:=Hid.mk' hll
        have He:=Hid.mk' e9
        have hbs:=hb.size
        clear hzc hzr hll e9
        go_wp2_with (first
         | (go_at_call 89;refine (cP _).mono ?_;clear cP;rintro e w1 ⟨rfl,rfl⟩)
         | (at_builtin;refine wpList_append_z rfl (.tmp 37) (.tmp 40) rfl w.heap.size _ _ (2*z) rfl own rfl (by rw [Hl.out];omega) hbs ?_;intro v2 w2 own2 hb2;rw [He.out] at own2;(obtain ⟨y2,d2,rfl⟩:=own2.slice)))
        have hl2:(x :: (p.um.take (k+1)).map fun z=>2*z).length=k+1+1:=by simp;omega
        have hm:min (k+1) p.um.length+1=k+1+1:=by omega
        rw [hl2] at own2
        exact ⟨⟨k+1,hlt,by simp,⟨y2,d2,by rw [hm],own2⟩,hb.trans hb2⟩,by simp [intOf];omega⟩
      · obtain rfl:k=p.um.length:=by omega
        have hlt':¬((p.um.length:Nat):Int)<(p.um.length:Int):=by omega
        rw [List.take_length] at own
        go_wp2
        go_ret
        exact ⟨_,rfl,own,hb⟩
end Go.Proofs.YtddkbmnkbfciaaaGreatDoor
namespace Go.Proofs.YtddkbmnkbfciaaaGreatDoor
open Go.RowKit Go.Shelf
attribute [local go_sem] Oper.semAt_some
section
variable {P:Program} {n:Nat} {md:Region.Mode} {ops:Array Oper} {Q:Exit→Act→World→Prop} {fuel:Nat} {listed:Array Bool} {a:Act} {w:World}
theorem yg (i:Nat) {oi:Oper} {v:Value} (h:wpAnyIn Fence.wide n P md ops Q fuel (listed.setIfInBounds i true) (a.put oi.dst v) w) (hi:ops.toList[i]? = some oi:=by rfl)
 (hy:∀ w,(execOp a.eval oi).run P w = .ok (.value v) w:=by intro w;go_simp;try with_reducible rfl) (hab:∀ w,oi.about P w a.eval=none:=by intro w;rfl) (hw:Region.wanted oi (yielded ops a.tmps)=true:=by rfl)
 (hQ:∀ c b w,Q (.panic c) (b.put oi.dst v) w→Q (.panic c) b w:=by exact fun _ _ _ h=>h) (hs:Region.noSelect ops=true:=by kernel_rfl) (hf:Region.free md ops listed i=true:=by kernel_rfl) (hr:(Region.ready md ops listed).contains i=true:=by kernel_rfl):wpAnyIn Fence.wide n P md ops Q (fuel+1) listed a w :=
 wpAnyIn_take rfl (at_list hi) hs hf hr hQ ⟨.inl ⟨hw,hy⟩,hab⟩ h
theorem yn (i:Nat) {oi:Oper} (h:wpAnyIn Fence.wide n P md ops Q fuel (listed.setIfInBounds i true) (a.put oi.dst undef) w) (hi:ops.toList[i]? = some oi:=by rfl) (hab:∀ w,oi.about P w a.eval=none:=by intro w;rfl) (hw:Region.wanted oi (yielded ops a.tmps)=false:=by rfl)
 (hQ:∀ c b w,Q (.panic c) (b.put oi.dst undef) w→Q (.panic c) b w:=by exact fun _ _ _ h=>h) (hs:Region.noSelect ops=true:=by kernel_rfl) (hf:Region.free md ops listed i=true:=by kernel_rfl) (hr:(Region.ready md ops listed).contains i=true:=by kernel_rfl):wpAnyIn Fence.wide n P md ops Q (fuel+1) listed a w :=
 wpAnyIn_take rfl (at_list hi) hs hf hr hQ ⟨.inr ⟨hw,rfl⟩,hab⟩ h
theorem yv {i:Nat} {rs:List Nat} {oi:Oper} {v:Value} {w':World} (hrun:(execOp a.eval oi).run P w = .ok (.value v) w') (h:wpAnyIn Fence.wide n P md ops Q fuel (listed.setIfInBounds i true) (a.put oi.dst v) w') (hs:AllReadyIn Fence.wide n P md ops Q fuel listed a w rs)
 (hi:ops.toList[i]? = some oi:=by rfl) (hw:Region.wanted oi (yielded ops a.tmps)=true:=by rfl):AllReadyIn Fence.wide n P md ops Q fuel listed a w (i :: rs) :=
 AllReadyIn.cons (at_list hi) (fun K hK=>by
  rw [if_pos hw]
  refine ⟨fun _ _=>trivial,?_⟩
  rw [show oi.semAt Fence.wide.round a.eval=execOp a.eval oi from rfl,hrun,Oper.uponIn_value]
  exact hK _ _ h) hs
theorem yo (i:Nat) {oi:Oper} {v:Value} {w':World} (hrun:(execOp a.eval oi).run P w = .ok (.value v) w') (h:wpAnyIn Fence.wide n P md ops Q fuel (listed.setIfInBounds i true) (a.put oi.dst v) w')
 (hi:ops.toList[i]? = some oi:=by rfl) (hr:Region.ready md ops listed=[i]:=by kernel_rfl) (hw:Region.wanted oi (yielded ops a.tmps)=true:=by rfl):wpAnyIn Fence.wide n P md ops Q (fuel+1) listed a w :=
 wpAnyIn_ready hr (by simp) (yv hrun h AllReadyIn.nil hi hw)
theorem yc (i:Nat) {oi:Oper} {f:FuncId} {args:Array Value} {R:Ending→World→Prop} (c:Calls P f args w R) (h:∀ e w',R e w'→∃ r,e = .returned r∧wpAnyIn Fence.wide n P md ops Q fuel (listed.setIfInBounds i true) (a.put oi.dst r) w')
 (hi:ops.toList[i]? = some oi:=by rfl) (hr:Region.ready md ops listed=[i]:=by kernel_rfl) (hw:Region.wanted oi (yielded ops a.tmps)=true:=by rfl) (hrun:(execOp a.eval oi).run P w = .ok (.enter f args) w:=by kernel_rfl):wpAnyIn Fence.wide n P md ops Q (fuel+1) listed a w :=
 wpAnyIn_ready hr (by simp) (AllReadyIn.cons (at_list hi) (fun K hK=>by
  rw [if_pos hw]
  refine ⟨fun _ _=>trivial,?_⟩
  rw [show oi.semAt Fence.wide.round a.eval=execOp a.eval oi from rfl,hrun,Oper.uponIn_enter]
  refine ⟨(fun h=>by cases h),(callsIn_wide.2 c).mono ?_⟩
  intro e w' hR
  obtain ⟨r,rfl,h'⟩:=h e w' hR
  exact hK _ _ h') AllReadyIn.nil)
theorem yy (i:Nat) {oi:Oper} {l:Nat} {args:Array Value} {R:Ending→World→Prop} (c:YieldAt Fence.wide 0 P l args w R) (h:∀ e w',R e w'→∃ r,e = .returned r∧wpAnyIn Fence.wide n P md ops Q fuel (listed.setIfInBounds i true) (a.put oi.dst r) w')
 (hi:ops.toList[i]? = some oi:=by rfl) (hr:Region.ready md ops listed=[i]:=by kernel_rfl) (hw:Region.wanted oi (yielded ops a.tmps)=true:=by rfl) (hrun:(execOp a.eval oi).run P w=(Instr.yield l args).run P w:=by rfl):wpAnyIn Fence.wide n P md ops Q (fuel+1) listed a w :=
 wpAnyIn_ready hr (by simp) (AllReadyIn.cons (at_list hi) (fun K hK=>by
  obtain ⟨fn,tmps,assign,body,hy,hR⟩:=c
  rw [if_pos hw]
  refine ⟨fun _ _=>trivial,?_⟩
  rw [show oi.semAt Fence.wide.round a.eval=execOp a.eval oi from rfl,hrun,hy,Oper.uponIn_round]
  refine ⟨(fun h=>by cases h),(roundIn_deep hR).mono ?_⟩
  intro e w' hR
  obtain ⟨r,rfl,h'⟩:=h e w' hR
  exact hK _ _ h') AllReadyIn.nil)
end
theorem coF_at (l:Int):∀ (f x k:Nat),(coF l f x).length=(upF l f x).length∧∀ y,(coF l f x)[k]? = some y→0≤y∧y<127∧levN y.toNat<7
 | 0,_,_=>⟨rfl,fun y h=>by simp [coF] at h⟩
 | f+1,x,k=>by
  unfold coF upF
  cases hp:parN (x:Int) l with
  | none=>exact ⟨rfl,fun y h=>by simp at h⟩
  | some p =>
   have ih:=coF_at l f p
   refine ⟨by simp [(ih 0).1],fun y h => ?_⟩
   cases k with
   | succ k=>exact (ih k).2 y (by simpa using h)
   | zero =>
    simp only [List.getElem?_cons_zero,Option.some.injEq] at h
    subst h
    have hh:=(parF_some _ _ _ hp).2.2
    have hp127:=(par_lev hp).1
    simp only [hitB,Bool.and_eq_true,Bool.or_eq_true,beq_iff_eq] at hh
    have hb:∀ y,y<127→y%2=1→lftN y<127∧rgtN y<127:=by decide
    have h1:=hb p hp127 hh.1
    have hq:=lev_parts p hp127 hh.1
    have h6:=lev_le6 hp127
    rcases hh.2 with e | e
    · rw [show (lftN p:Int)+(rgtN p:Int) - (x:Int)=(rgtN p:Int) by omega,Int.toNat_natCast];omega
    · rw [show (lftN p:Int)+(rgtN p:Int) - (x:Int)=(lftN p:Int) by omega,Int.toNat_natCast];omega
theorem copath_at (i l:Int):(copathL i l).length=(pathL i l).length∧∀ (k:Nat) (y:Int),(copathL i l)[k]? = some y→0≤y∧y<127∧levN y.toNat<7:=by
 unfold copathL pathL
 split
 · exact ⟨(coF_at l 7 _ 0).1,fun k y h=>(coF_at l 7 _ k).2 y h⟩
 · exact ⟨rfl,fun k y h=>by simp at h⟩
def rso (T:Tr) (x:Int):List Int:=rsoF T.nd 7 x
def filA (T:Tr) (xs ys:List Int) (k:Nat):Option (Array Value):=if (rso T ((ys[k]?).getD 0)).isEmpty then none else some #[.int .i64 ((xs[k]?).getD 0),.int .i64 ((ys[k]?).getD 0)]
def HasFi (ok:Nat→Prop) (ib pb tb mb:Nat) (T:Tr) (i:Int) (_:Nat) (W:World):Prop:=W.cell? ⟨pb,0,none⟩=some (pA tb 0)∧W.cell? ⟨ib,0,none⟩=some (.int .i64 i)∧DbT W∧TrAt ok W tb mb T
theorem filtered_call (tb:Nat) (i:Int) (w:World):Calls Tryz.prog 102 #[pA tb 0,.int .i64 i] w fun e w'=>e = .returned (.func (.func 170) #[] #[pA (w.heap.size+1) 0,pA w.heap.size 0])∧w'=(w.alloc (.cells #[pA tb 0] 23)).alloc (.cells #[.int .i64 i] 3):=by
 go_enter Tryz.func102,Tryz.ntmps102
 go_wp2
 go_ret
 exact ⟨rfl,rfl⟩
set_option maxRecDepth 100000 in
set_option maxHeartbeats 4000000 in
theorem filtered_it (ok:Nat→Prop) (ib pb tb mb:Nat) (T:Tr) (hK:TrOK T) (i:Int) :
 Iter Tryz.prog 170 #[pA ib 0,pA pb 0] (pathL i T.n).length (filA T (pathL i T.n) (copathL i T.n)) (HasFi ok ib pb tb mb T i):=by
 intro l B Inv Brk hI hBr hH hsk hY M W hBW hM h0
 obtain ⟨c1,c4,hT,hTr⟩:=hH 0 M W (Nat.zero_le _) h0
 have bd:Below W.heap.size W W.drew:=(Below.refl _ _).drew
 have cC:=iCopathO_any i T.n W.drew (hT.keep bd)
 have cW:=fun (V:World) (hb:Below W.heap.size W V)=>iPathO_any i T.n V (hT.keep hb)
 have hxl:=pathL_len i T.n
 have hyl:=(copath_at i T.n).1
 have hyr:=(copath_at i T.n).2
 generalize pathL i T.n=xs at *
 generalize copathL i T.n=ys at *
 have c1':∀ u,Below W.heap.size W u→u.cell? ⟨pb,0,none⟩=some (pA tb 0):=fun u hu=>(hu.cell (p:=⟨pb,0,none⟩) (block_lt_of_cell c1)).trans c1
 have c2':∀ u,Below W.heap.size W u→u.cell? ⟨tb,0,none⟩=some (.int .i64 (T.n:Int)):=fun u hu=>(hTr.below hu).lv
 have c4':∀ u,Below W.heap.size W u→u.cell? ⟨ib,0,none⟩=some (.int .i64 i):=fun u hu=>(hu.cell (p:=⟨ib,0,none⟩) (block_lt_of_cell c4)).trans c4
 clear c1 c4 hTr hT
 obtain ⟨nn,-⟩:∃ nn:Nat,True:=⟨1,trivial⟩
 refine (callsIn_wide (n:=nn)).1 ?_
 refine callsIn_of_wp Tryz.func170 rfl trivial ?_ rfl
 simp only [Tryz.ntmps170,List.size_toArray,List.length_cons,List.length_nil,Nat.reduceAdd,Nat.reduceSub,Array.replicate_succ,Array.replicate_zero,List.push_toArray,List.append_toArray,List.nil_append,List.cons_append]
 gi_wp2
 refine wpIn_heldW (S:=fun u=>Below W.heap.size W u) (by kernel_rfl) (by kernel_rfl) bd (fun hS => ?_)
 refine tc 0 hS c4' ?_
 (try simp only [pS])
 refine tc 1 hS c1' ?_
 (try simp only [pS])
 refine tg 2 hS ?_
 (try simp only [pS])
 refine tg 3 hS ?_
 (try simp only [pS])
 refine tc 4 hS c2' ?_
 (try simp only [pS])
 refine cl 5 cC ?_
 rintro e W1 ⟨v,rfl,hv,hb1⟩
 replace hb1:=below_next bd hb1
 replace hv:OwnZ W.heap.size W1 v ys:=hv
 obtain ⟨ya,da,rfl⟩:=hv.slice
 refine ⟨_,rfl,hb1,?_⟩
 (try simp only [pS])
 refine tg 6 hb1 ?_
 (try simp only [pS])
 refine wpAnyH_done (by kernel_rfl) ?_ _
 refine OnlyN.normal ?_
 clear cC hS
 have bd1:Below W1.heap.size W1 W1.drew:=(Below.refl _ _).drew
 have cP:=cW W1.drew (below_next hb1 bd1)
 clear cW
 have hb1d:=below_next hb1 bd1
 gi_wp2
 refine wpIn_heldW (S:=fun u=>Below W.heap.size W u) (by kernel_rfl) (by kernel_rfl) hb1d (fun hS => ?_)
 refine tc 0 hS c4' ?_
 (try simp only [pS])
 refine tc 1 hS c1' ?_
 (try simp only [pS])
 refine tg 2 hS ?_
 (try simp only [pS])
 refine tg 3 hS ?_
 (try simp only [pS])
 refine tc 4 hS c2' ?_
 (try simp only [pS])
 refine tg 7 hS ?_
 (try simp only [pS])
 refine cl 5 cP ?_
 rintro e W2 ⟨v,rfl,hx,hb2⟩
 replace hb2:=below_next bd1 hb2
 have hbW2:=below_next hb1 hb2
 replace hx:OwnZ W1.heap.size W2 v xs:=hx
 obtain ⟨xa,ca,rfl⟩:=hx.slice
 refine ⟨_,rfl,hbW2,?_⟩
 (try simp only [pS])
 refine tg 6 hbW2 ?_
 (try simp only [pS])
 refine wpAnyH_done (by kernel_rfl) ?_ _
 refine OnlyN.normal ?_
 have hsz2:=hbW2.size
 have zx:ZO (fun b=>W.heap.size≤b∧b<W2.heap.size∧¬M b) W2 (.slice xa xs.length ca) xs:=(ZO.own hx).wide (fun b hb h=>⟨Nat.le_trans hb1.size h,hb,fun h'=>by have:=hM b h';have:=hb1.size;omega⟩)
 have zy:ZO (fun b=>W.heap.size≤b∧b<W2.heap.size∧¬M b) W2 (.slice ya ys.length da) ys:=((ZO.own hv).keep hb2).wide (fun b hb h=>⟨h,hb,fun h'=>by have:=hM b h';omega⟩)
 have hI1:=hI 0 M W W2 h0 (Loc.of_below hbW2)
 rw [hyl] at zy
 clear cP hS h0 hM hb1d bd bd1 hv hx c1' c2' c4' hb1 hb2 hbW2
 gi_wp2
 gi_loopw [20] (fun s wr=>∃ k:Nat,k≤xs.length∧s = .int .i64 (k:Int)∧W2.heap.size≤wr.heap.size∧∃ M,Inv k M wr∧ZO (fun b=>W.heap.size≤b∧b<W2.heap.size∧¬M b) wr (.slice xa xs.length ca) xs∧ZO (fun b=>W.heap.size≤b∧b<W2.heap.size∧¬M b) wr (.slice ya xs.length da) ys) (fun s _=>xs.length - (intOf s).toNat)
 case atStart=>exact ⟨0,Nat.zero_le _,rfl,Nat.le_refl _,M,hI1,zx,zy⟩
 case round =>
  clear hI1 zx zy
  obtain ⟨k,hk,rfl,hsz,M,hI0,zx,zy⟩:=hrel
  by_cases hlt:k<xs.length
  · obtain ⟨c1,-,hT,hTr⟩:=hH k M wr hk hI0
    obtain ⟨x,hx⟩:∃ x,xs[k]? = some x:=⟨_,List.getElem?_eq_getElem hlt⟩
    obtain ⟨y,hy⟩:∃ y,ys[k]? = some y:=⟨_,List.getElem?_eq_getElem (by omega)⟩
    have hyk:=hyr k y hy
    have hlt':(k:Int)<(xs.length:Int):=by omega
    have hk0:(0:Int)≤(k:Int):=by omega
    obtain ⟨xa',ca',e,hca,-,hzc⟩:=id zx
    cases e
    obtain ⟨g,o,rfl,-,-,hgc⟩:=hzc k x hx
    obtain ⟨ya',da',e,hda,-,hwc⟩:=id zy
    have e2:ya'=ya∧da'=da:=by injection e with a1 _ a3;exact ⟨a1.symm,a3.symm⟩
    obtain ⟨rfl,rfl⟩:=e2
    obtain ⟨g2,o2,rfl,-,-,hgd⟩:=hwc k y hy
    have bV:Below wr.heap.size wr wr.drew:=(Below.refl _ _).drew
    have c1V:wr.drew.cell? ⟨pb,0,none⟩=some (pA tb 0):=c1
    have hgdV:wr.drew.cell? ⟨g2,o2+k,none⟩=some (.int .i64 y):=hgd
    have cR:=resolution_any ok tb mb T hK 7 y (Nat.le_refl _) hyk.1 hyk.2.1 hyk.2.2 wr.drew (hT.keep bV) (hTr.below bV)
    have ear:filA T xs ys k=if (rso T y).isEmpty then none else some #[.int .i64 x,.int .i64 y]:=by unfold filA;rw [hx,hy];rfl
    have hskk:=hsk k M
    have hYk:=hY k M
    rw [ear] at hskk hYk
    clear hzc hwc hyk hH hsk hY hTr hT c1 hgd e ear
    gi_wp2
    refine wpIn_region_any (by kernel_rfl) ?_
    show wpAnyIn Fence.wide nn Tryz.prog .any _ _ _ _ _ wr.drew
    refine yg 1 ?_
    (try simp only [pS])
    refine yg 2 ?_
    (try simp only [pS])
    refine yg 3 (v:=pA g2 (o2+k)) ?_
    (try simp only [pS])
    refine wpAnyIn_ready (rs:=[0,4]) (by kernel_rfl) (by simp) (yv (i:=0) (v:=pA tb 0) (w':=wr.drew) ?hr0 ?A (yv (i:=4) (v := .int .i64 y) (w':=wr.drew) ?hr4 ?B AllReadyIn.nil))
    case hr0=>go_simp
    case hr4=>go_simp
    case A =>
     (try simp only [pS])
     refine yo 4 (v := .int .i64 y) (w':=wr.drew) ?hr4 ?_
     case hr4=>go_simp
     (try simp only [pS])
     refine yc 5 cR ?_
     rintro e W3 ⟨v5,rfl,h5,b3⟩
     refine ⟨_,rfl,?_⟩
     replace h5:OwnZ wr.heap.size W3 v5 (rso T y):=h5
     replace b3:=below_next bV b3
     obtain ⟨ra,rc,rfl⟩:=h5.slice
     clear h5 cR
     have hIX:=hI k M wr W3 hI0 (Loc.of_below b3)
     have hb3:=b3.size
     have zx3:=zx.keep b3
     have zy3:=zy.keep b3
     have hgd3:W3.cell? ⟨g2,o2+k,none⟩=some (.int .i64 y):=(b3.cell (p:=⟨g2,o2+k,none⟩) (block_lt_of_cell hgdV)).trans hgdV
     generalize rso T y=R at hskk hYk ⊢
     cases R with
     | nil =>
      have hI2:=hskk W3 hlt rfl hIX
      clear hYk hskk
      (try simp only [pS])
      refine yg 6 (v := .int .i64 0) ?_
      (try simp only [pS])
      refine yg 7 (v := .bool false) ?_
      (try simp only [pS])
      refine yg 8 (v := .bool false) ?_
      (try simp only [pS])
      refine yn 9 ?_
      (try simp only [pS])
      refine yn 10 ?_
      (try simp only [pS])
      refine yn 11 ?_
      (try simp only [pS])
      refine yn 12 ?_
      (try simp only [pS])
      refine yn 13 ?_
      (try simp only [pS])
      refine yn 14 ?_
      (try simp only [pS])
      refine yn 15 ?_
      (try simp only [pS])
      refine yn 16 ?_
      (try simp only [pS])
      refine yg 17 (v := .bool false) ?_
      (try simp only [pS])
      refine wpAnyIn_done (by kernel_rfl) ?_ _
      clear hgd3 hgdV hgc
      gi_wp2
      go_roundw
      case rel=>exact ⟨k+1,by omega,by go_num,by omega,M,hI2,zx3,zy3⟩
      case measure=>simp [intOf];omega
     | cons r0 R =>
      have hYX:=hYk W3 _ hlt rfl hIX (by omega)
      clear hYk hskk
      have hne:(r0 :: R).length≠0:=by simp
      generalize (r0 :: R).length=L at hne ⊢
      (try simp only [pS])
      refine yg 6 (v := .int .i64 (L:Int)) ?_
      (try simp only [pS])
      refine yg 7 (v := .bool true) ?_
      (try simp only [pS])
      refine yg 8 (v := .bool true) ?_
      (try simp only [pS])
      refine yg 9 ?_
      (try simp only [pS])
      refine yg 10 ?_
      (try simp only [pS])
      refine yg 11 ?_
      (try simp only [pS])
      refine yg 12 ?_
      (try simp only [pS])
      refine yg 13 (v:=pA g2 (o2+k)) ?_
      (try simp only [pS])
      refine yo 14 (v := .int .i64 y) (w':=W3) ?hr14 ?_
      case hr14=>go_simp
      (try simp only [pS])
      refine yy 15 hYX ?_ (hrun:=by first | rfl | kernel_rfl | (unfold execOp;rfl) | (go_simp;trace_state;rfl))
      rintro e W' ⟨hF,M2,hM2,⟨rfl,hI'⟩ | ⟨rfl,hB'⟩⟩
      · refine ⟨_,rfl,?_⟩
        (try simp only [pS])
        refine yg 16 (v := .bool false) ?_
        (try simp only [pS])
        refine yg 17 (v := .bool false) ?_
        (try simp only [pS])
        refine wpAnyIn_done (by kernel_rfl) ?_ _
        clear hgd3 hgdV hgc hYX
        have hfs:=hF.size
        gi_wp2
        go_roundw
        case rel=>exact ⟨k+1,by omega,by go_num,by omega,M2,hI',(zx3.same hF.size (fun b hb h=>hF.block b hb (by omega) h.2.2)).wide (fun b hb h=>⟨h.1,h.2.1,fun h'=>by rcases hM2 b h' with h2 | h2;exact h.2.2 h2;omega⟩),(zy3.same hF.size (fun b hb h=>hF.block b hb (by omega) h.2.2)).wide (fun b hb h=>⟨h.1,h.2.1,fun h'=>by rcases hM2 b h' with h2 | h2;exact h.2.2 h2;omega⟩)⟩
        case measure=>simp [intOf];omega
      · refine ⟨_,rfl,?_⟩
        (try simp only [pS])
        refine yg 16 (v := .bool true) ?_
        (try simp only [pS])
        refine yg 17 (v := .bool true) ?_
        (try simp only [pS])
        refine wpAnyIn_done (by kernel_rfl) ?_ _
        clear hgd3 hgdV hgc hYX
        have hfs:=hF.size
        gi_wp2
        refine bodyPost_ret (results_none rfl _ _ _) rfl ?_
        exact ⟨⟨_,rfl⟩,by omega,M2,.inr hB'⟩
    case B =>
     (try simp only [pS])
     refine yo 0 (v:=pA tb 0) (w':=wr.drew) ?hr0 ?_
     case hr0=>go_simp
     (try simp only [pS])
     refine yc 5 cR ?_
     rintro e W3 ⟨v5,rfl,h5,b3⟩
     refine ⟨_,rfl,?_⟩
     replace h5:OwnZ wr.heap.size W3 v5 (rso T y):=h5
     replace b3:=below_next bV b3
     obtain ⟨ra,rc,rfl⟩:=h5.slice
     clear h5 cR
     have hIX:=hI k M wr W3 hI0 (Loc.of_below b3)
     have hb3:=b3.size
     have zx3:=zx.keep b3
     have zy3:=zy.keep b3
     have hgd3:W3.cell? ⟨g2,o2+k,none⟩=some (.int .i64 y):=(b3.cell (p:=⟨g2,o2+k,none⟩) (block_lt_of_cell hgdV)).trans hgdV
     generalize rso T y=R at hskk hYk ⊢
     cases R with
     | nil =>
      have hI2:=hskk W3 hlt rfl hIX
      clear hYk hskk
      (try simp only [pS])
      refine yg 6 (v := .int .i64 0) ?_
      (try simp only [pS])
      refine yg 7 (v := .bool false) ?_
      (try simp only [pS])
      refine yg 8 (v := .bool false) ?_
      (try simp only [pS])
      refine yn 9 ?_
      (try simp only [pS])
      refine yn 10 ?_
      (try simp only [pS])
      refine yn 11 ?_
      (try simp only [pS])
      refine yn 12 ?_
      (try simp only [pS])
      refine yn 13 ?_
      (try simp only [pS])
      refine yn 14 ?_
      (try simp only [pS])
      refine yn 15 ?_
      (try simp only [pS])
      refine yn 16 ?_
      (try simp only [pS])
      refine yg 17 (v := .bool false) ?_
      (try simp only [pS])
      refine wpAnyIn_done (by kernel_rfl) ?_ _
      clear hgd3 hgdV hgc
      gi_wp2
      go_roundw
      case rel=>exact ⟨k+1,by omega,by go_num,by omega,M,hI2,zx3,zy3⟩
      case measure=>simp [intOf];omega
     | cons r0 R =>
      have hYX:=hYk W3 _ hlt rfl hIX (by omega)
      clear hYk hskk
      have hne:(r0 :: R).length≠0:=by simp
      generalize (r0 :: R).length=L at hne ⊢
      (try simp only [pS])
      refine yg 6 (v := .int .i64 (L:Int)) ?_
      (try simp only [pS])
      refine yg 7 (v := .bool true) ?_
      (try simp only [pS])
      refine yg 8 (v := .bool true) ?_
      (try simp only [pS])
      refine yg 9 ?_
      (try simp only [pS])
      refine yg 10 ?_
      (try simp only [pS])
      refine yg 11 ?_
      (try simp only [pS])
      refine yg 12 ?_
      (try simp only [pS])
      refine yg 13 (v:=pA g2 (o2+k)) ?_
      (try simp only [pS])
      refine yo 14 (v := .int .i64 y) (w':=W3) ?hr14 ?_
      case hr14=>go_simp
      (try simp only [pS])
      refine yy 15 hYX ?_ (hrun:=by first | rfl | kernel_rfl | (unfold execOp;rfl) | (go_simp;trace_state;rfl))
      rintro e W' ⟨hF,M2,hM2,⟨rfl,hI'⟩ | ⟨rfl,hB'⟩⟩
      · refine ⟨_,rfl,?_⟩
        (try simp only [pS])
        refine yg 16 (v := .bool false) ?_
        (try simp only [pS])
        refine yg 17 (v := .bool false) ?_
        (try simp only [pS])
        refine wpAnyIn_done (by kernel_rfl) ?_ _
        clear hgd3 hgdV hgc hYX
        have hfs:=hF.size
        gi_wp2
        go_roundw
        case rel=>exact ⟨k+1,by omega,by go_num,by omega,M2,hI',(zx3.same hF.size (fun b hb h=>hF.block b hb (by omega) h.2.2)).wide (fun b hb h=>⟨h.1,h.2.1,fun h'=>by rcases hM2 b h' with h2 | h2;exact h.2.2 h2;omega⟩),(zy3.same hF.size (fun b hb h=>hF.block b hb (by omega) h.2.2)).wide (fun b hb h=>⟨h.1,h.2.1,fun h'=>by rcases hM2 b h' with h2 | h2;exact h.2.2 h2;omega⟩)⟩
        case measure=>simp [intOf];omega
      · refine ⟨_,rfl,?_⟩
        (try simp only [pS])
        refine yg 16 (v := .bool true) ?_
        (try simp only [pS])
        refine yg 17 (v := .bool true) ?_
        (try simp only [pS])
        refine wpAnyIn_done (by kernel_rfl) ?_ _
        clear hgd3 hgdV hgc hYX
        have hfs:=hF.size
        gi_wp2
        refine bodyPost_ret (results_none rfl _ _ _) rfl ?_
        exact ⟨⟨_,rfl⟩,by omega,M2,.inr hB'⟩
  · obtain rfl:k=xs.length:=by omega
    have hlt':¬((xs.length:Nat):Int)<(xs.length:Int):=by omega
    clear hY hH hsk
    gi_wp2
    refine bodyPost_end (results_none rfl _ _ _) rfl ?_
    exact ⟨⟨_,rfl⟩,by omega,M,.inl hI0⟩
end Go.Proofs.YtddkbmnkbfciaaaGreatDoor
