/- What the proof stands on: T4P, T4Q, T5Q, T4T. -/
import Derived.Test.YtddkbmnkbfciaaaGreatDoorN3rhM
namespace Go.Proofs.YtddkbmnkbfciaaaGreatDoor
open Go.RowKit Go.Shelf
attribute [local go_sem] Oper.semAt_some
structure TrOK (T:Tr):Prop where
 may:mayB (T.n:Int)=true
 rng:∀ x d,T.nd x=some d→0≤x∧x<2*(T.n:Int) - 1
 lf:∀ x d,T.nd x=some (.lf d)→x%2=0∧lfR d 3
 pr:∀ x d,T.nd x=some (.pr d)→x%2=1∧prR d
theorem TrOK.n64 {T:Tr} (h:TrOK T):1≤T.n∧T.n≤64:=by have:=mayB_cases h.may;omega
theorem NdO.shp {ok:Nat→Prop} {w:World} {v:Value} {d:Nd} (h:NdO ok w v d):Shp (some v):=by
 cases d with
 | lf d =>
  obtain ⟨cs,rfl,h⟩:=h
  exact .inr (.inl ⟨_,rfl,by simpa using h.of.row.1,h.of.row.2⟩)
 | pr d =>
  obtain ⟨cs,rfl,h⟩:=h
  obtain ⟨x0,c0,x1,c1,x2,c2,rfl,-⟩:=h.form
  exact .inr (.inr ⟨_,rfl,rfl,by rw [List.all_toArray];simp [Value.oneCell']⟩)
theorem HoldsN.shp {ok:Nat→Prop} {w:World} {f:Int→Option Value} {F:Int→Option Nd} (h:HoldsN ok w f F) (x:Int):Shp (f x):=by
 rcases h.look x with ⟨-,e⟩ | ⟨d,v,-,e,hd⟩
 · rw [e];exact .inl rfl
 · rw [e];exact hd.shp
theorem HoldsN.lf {ok:Nat→Prop} {w:World} {f:Int→Option Value} {F:Int→Option Nd} (h:HoldsN ok w f F) (x:Int):(lfV (f x)=none∧∀ d,F x≠some (.lf d))∨∃ cs d,lfV (f x)=some cs.toArray∧F x=some (.lf d)∧LfO ok w cs d:=by
 rcases h.look x with ⟨e1,e⟩ | ⟨d,v,e1,e,hd⟩
 · rw [e,e1];exact .inl ⟨rfl,fun d h=>by cases h⟩
 · rw [e,e1]
   cases d with
   | lf d=>obtain ⟨cs,rfl,hd⟩:=hd;exact .inr ⟨cs,d,by simp [lfV],rfl,hd⟩
   | pr d=>obtain ⟨cs,rfl,hd⟩:=hd;exact .inl ⟨by simp [lfV],fun d h=>by cases h⟩
theorem HoldsN.pr {ok:Nat→Prop} {w:World} {f:Int→Option Value} {F:Int→Option Nd} (h:HoldsN ok w f F) (x:Int):(prV (f x)=none∧∀ d,F x≠some (.pr d))∨∃ cs d,prV (f x)=some cs.toArray∧F x=some (.pr d)∧PrO ok w cs d:=by
 rcases h.look x with ⟨e1,e⟩ | ⟨d,v,e1,e,hd⟩
 · rw [e,e1];exact .inl ⟨rfl,fun d h=>by cases h⟩
 · rw [e,e1]
   cases d with
   | pr d=>obtain ⟨cs,rfl,hd⟩:=hd;exact .inr ⟨cs,d,by simp [prV],rfl,hd⟩
   | lf d=>obtain ⟨cs,rfl,hd⟩:=hd;exact .inl ⟨by simp [prV],fun d h=>by cases h⟩
def fbL (F:Int→Option Nd):Nat→Nat
 | 0=>0
 | m+1=>if fbL F m=m∧(F (2*(m:Int))).isSome=true then m+1 else fbL F m
theorem fbL_le (F:Int→Option Nd):∀ m,fbL F m≤m
 | 0=>Nat.le_refl _
 | m+1=>by
  unfold fbL
  have:=fbL_le F m
  split <;> omega
theorem fbL_stay (F:Int→Option Nd) {m:Nat} (h:fbL F m≠m):∀ d,fbL F (m+d)=fbL F m
 | 0=>rfl
 | d+1=>by
  have h1:=fbL_stay F h d
  have h2:=fbL_le F m
  show (if fbL F (m+d)=m+d∧_ then _ else fbL F (m+d))=_
  rw [if_neg (by omega),h1]
theorem fbL_yes (F:Int→Option Nd) {m:Nat} (h:fbL F m=m) {d:Nd} (hd:F (2*(m:Int))=some d):fbL F (m+1)=m+1:=by
 unfold fbL;rw [if_pos ⟨h,by rw [hd];rfl⟩]
theorem fbL_no (F:Int→Option Nd) {m:Nat} (hd:F (2*(m:Int))=none):fbL F (m+1)=fbL F m:=by
 rw [fbL,if_neg (by rw [hd];simp)]
structure FbJ (w:World) (ib pb tb:Nat) (z:Nat) (M:Nat→Prop) (W:World):Prop where
 bx:RW W ib 0 [.int .i64 (z:Int)]
 pb:RW W pb 0 [pA tb 0]
 bel:Below w.heap.size w W
 no:∀ b,¬M b
set_option maxRecDepth 100000 in
set_option maxHeartbeats 4000000 in
theorem firstBlank_any (ok:Nat→Prop) (tb mb:Nat) (T:Tr) (hK:TrOK T) (w:World) (h:TrAt ok w tb mb T) :
 Calls Tryz.prog 95 #[pA tb 0] w fun e w'=>e = .returned (.int .i64 (fbL T.nd T.n:Int))∧Below w.heap.size w w':=by
 obtain ⟨f,hmp,hh⟩:=h.mp
 have hlv:=h.lv
 have hst:=h.st
 have htl:=h.tlt
 have hml:=h.mlt
 obtain ⟨W0,hW0⟩:∃ W0,W0=(w.alloc (.cells #[.int .i64 0] 3)):=⟨_,rfl⟩
 have r0:RW W0 w.heap.size 0 [.int .i64 0]:=by rw [hW0];exact RW.fresh w [.int .i64 0] 3
 have q0:=r0.range 0 _ rfl
 have q1:=(r0.there 0 (by simp)).2
 rw [Nat.zero_add] at q0 q1
 obtain ⟨W1,hW1⟩:∃ W1,W1=W0.setCell ⟨w.heap.size,0,none⟩ (.int .i64 0):=⟨_,rfl⟩
 have r1:RW W1 w.heap.size 0 [.int .i64 0]:=by rw [hW1];exact r0.stored [.int .i64 0] rfl
 have b1:Below w.heap.size w W1:=by rw [hW1,hW0];exact ((Below.refl _ _).alloc (Nat.le_refl _) _).setCell (Nat.le_refl _) _
 have s1:W1.heap.size=w.heap.size+1:=by rw [hW1,hW0];simp
 have cM:=members_any tb W1
 obtain ⟨W2,hW2⟩:∃ W2,W2=W1.alloc (.cells #[pA tb 0] 23):=⟨_,rfl⟩
 have r2:RW W2 W1.heap.size 0 [pA tb 0]:=by rw [hW2];exact RW.fresh W1 [pA tb 0] 23
 have b2:Below W1.heap.size W1 W2:=by rw [hW2];exact (Below.refl _ _).alloc (Nat.le_refl _) _
 have s2:W2.heap.size=w.heap.size+2:=by rw [hW2];simp;omega
 rw [←hW2] at cM
 rw [s1] at cM r2
 replace r1:=r1.still b2
 have bw:=below_next b1 b2
 have hit:=members_it (w.heap.size+1) tb mb T.n hK.may (fun k=>f (k:Int)) (fun k=>hh.shp _)
 have HW0:=Hid.mk' hW0
 have HW1:=Hid.mk' hW1
 have Hs2:=Hid.mk' s2
 clear hW0 hW1 hW2 b1 b2 s1 r0
 obtain ⟨nn,-⟩:∃ nn:Nat,True:=⟨1,trivial⟩
 refine (callsIn_wide (n:=nn)).1 ?_
 refine callsIn_of_wp_marks Tryz.func95 rfl trivial ?_ rfl
 simp only [Tryz.ntmps95,List.size_toArray,List.length_cons,List.length_nil,Nat.reduceAdd,Nat.reduceSub,Array.replicate_succ,Array.replicate_zero,List.push_toArray,List.append_toArray,List.nil_append,List.cons_append]
 gi_wp2_with (first
  | (rw [←HW0.out];clear HW0)
  | (rw [←HW1.out];clear HW1 q0 q1)
  | (refine ⟨trivial,(fun h=>by cases h),?_⟩;gi_at_call 86;refine (callsIn_wide.2 cM).mono ?_;clear cM;rintro e w1 ⟨rfl,rfl⟩))
 have s2:=Hs2.out
 have hn64:=hK.n64
 have hjb:∀ (z:Nat) (M:Nat→Prop) (V V':World),FbJ w w.heap.size (w.heap.size+1) tb z M V→Loc w1.heap.size M V V'→FbJ w w.heap.size (w.heap.size+1) tb z M V':=fun z M V V' hj hL =>
  ⟨hL.rw hj.bx (.inl (by omega)),hL.rw hj.pb (.inl (by omega)),hj.bel.trans (hL.below (by have:=hj.pb.lt;omega) |>.mono (by omega)),hj.no⟩
 refine range_it hit rfl (enters_of Tryz.func162 (by kernel_rfl) rfl)
  (fun k=>FbJ w w.heap.size (w.heap.size+1) tb (fbL T.nd ((k+1) / 2)))
  (fun c M' V'=>c = .exit 0∧FbJ w w.heap.size (w.heap.size+1) tb (fbL T.nd T.n) M' V') (fun _=>False) ?_ ?_ ?_ ?_ ?_ (fun b hb=>hb.elim) ?_ ?_ ?_ ?_
 · intro k M V V' hj hL;exact hjb _ M V V' hj hL
 · rintro c M V V' ⟨rfl,hj⟩ hL;exact ⟨rfl,hjb _ M V V' hj hL⟩
 · intro k M V hk hj
   exact ⟨⟨hj.pb.range 0 _ rfl,(hj.bel.cell (p:=⟨tb,0,none⟩) htl).trans hlv,(hj.bel.cell (p:=⟨tb,1,none⟩) htl).trans hst⟩,fun _=>⟨f,hmp.below hj.bel hml,rfl⟩⟩
 · intro k M V hk ha hj
   have e:fbL T.nd ((k+1+1) / 2)=fbL T.nd ((k+1) / 2):=by
    rcases Nat.mod_two_eq_zero_or_one k with h0 | h0
    · have e1:(k+1+1) / 2=(k+1) / 2+1:=by omega
      rw [e1]
      refine fbL_no _ ?_
      rw [show 2*(((k+1) / 2:Nat):Int)=(k:Int) by omega]
      rcases hh.lf (k:Int) with ⟨-,hno⟩ | ⟨cs,d,hl,-⟩
      · cases hF:T.nd (k:Int) with
        | none=>rfl
        | some d =>
         cases d with
         | lf d=>exact absurd hF (hno d)
         | pr d=>have:=(hK.pr _ _ hF).1;omega
      · rw [hl] at ha;cases ha
    · rw [show (k+1+1) / 2=(k+1) / 2 by omega]
   show FbJ w w.heap.size (w.heap.size+1) tb (fbL T.nd ((k+1+1) / 2)) M V
   rw [e];exact hj
 · intro k a' ha
   cases hl:lfV (f (k:Int)) with
   | none=>rw [hl] at ha;cases ha
   | some A=>rw [hl] at ha;cases ha;rfl
 · intro V hb
   exact ⟨r1.still hb,r2.still hb,below_next bw hb,fun _ h=>h⟩
 · intro k M V l a' hk ha hj hl1 hl2 hl3
   rcases hh.lf (k:Int) with ⟨hn,-⟩ | ⟨cs,d,hl,hF,-⟩
   · rw [hn] at ha;cases ha
   rw [hl] at ha
   cases ha
   have hev:=(hK.lf _ _ hF).1
   obtain ⟨m,rfl⟩:∃ m,k=2*m:=⟨k / 2,by omega⟩
   rw [show 2*m / 2=m by omega]
   have em:(2*m+1) / 2=m:=by omega
   have em2:(2*m+1+1) / 2=m+1:=by omega
   rw [em] at hj
   rw [em,em2]
   have hle:=fbL_le T.nd m
   clear hl hit hj
   by_cases hi:fbL T.nd m=m
   · have ey:=fbL_yes T.nd hi (d := .lf d) (by rw [←hF];congr 1)
     rw [hi,ey]
     have hw:wrap64 ((m:Int)+1)=((m+1:Nat):Int):=(wrapK (show m≤100000 by omega)).1
     clear hi ey hle hF hev em em2 hh hmp
     gi_wp2
     refine ⟨Below.refl _ _,fun V2 hbt hsz hj2 => ?_⟩
     have q0:=hj2.bx.range 0 _ rfl
     have q1:=(hj2.bx.there 0 (by simp)).2
     rw [Nat.zero_add] at q0 q1
     gi_wp2
     have hlt:=hj2.bx.lt
     refine ⟨Fro.of_but (bad:=fun b=>b=w.heap.size) ⟨rfl,rfl,rfl,by simp,fun b _ hb=>Below.heap_setCell _ _ _ _ hb⟩ (fun b hb => .inl (by omega)),M,fun b hb => .inl hb,?_⟩
     exact ⟨hj2.bx.stored [.int .i64 (((m+1:Nat)):Int)] rfl,hj2.pb.far w.heap.size 0 [_] (.inl (by omega)),hj2.bel.setCell (Nat.le_refl _) _,hj2.no⟩
   · have ey:fbL T.nd T.n=fbL T.nd m:=by
      have:=fbL_stay T.nd hi (T.n - m)
      rwa [show m+(T.n - m)=T.n by omega] at this
     rw [ey]
     obtain ⟨z,hz⟩:∃ z,z=fbL T.nd m:=⟨_,rfl⟩
     rw [←hz] at hle hi ⊢
     have hb:((m:Int) == (z:Int))=false:=by simp;omega
     clear hz ey hF hev em em2 hh hmp hi hle
     gi_wp2
     refine ⟨Below.refl _ _,fun V2 hbt hsz hj2 => ?_⟩
     have q0:=hj2.bx.range 0 _ rfl
     rw [Nat.zero_add] at q0
     gi_wp2
     exact ⟨Fro.refl _ _ _,M,fun b hb => .inl hb,rfl,hj2⟩
 · intro D M V hD hDl hDm hj hdf
   have e:(2*T.n - 1+1) / 2=T.n:=by omega
   rw [e] at hj
   have q0:=hj.bx.range 0 _ rfl
   rw [Nat.zero_add] at q0
   clear hit hh hmp
   gi_wp2
   refine ⟨by simp,.inl ⟨_,_,rfl,run_takeDeferred hdf,?_⟩⟩
   exact ⟨_,results_tmp rfl _ _ _,rfl,hj.bel.trans ((but_put V D _).below (by have:=hj.pb.lt;omega) (fun k hk=>by omega))⟩
 · rintro D c M V hD hDl hDm ⟨rfl,hj⟩ hdf
   have q0:=hj.bx.range 0 _ rfl
   rw [Nat.zero_add] at q0
   clear hit hh hmp
   gi_wp2
   refine ⟨by simp,.inl ⟨_,_,rfl,run_takeDeferred hdf,?_⟩⟩
   exact ⟨_,results_tmp rfl _ _ _,rfl,hj.bel.trans ((but_put V D _).below (by have:=hj.pb.lt;omega) (fun k hk=>by omega))⟩
end Go.Proofs.YtddkbmnkbfciaaaGreatDoor
namespace Go.Proofs.YtddkbmnkbfciaaaGreatDoor
open Go.RowKit Go.Shelf
attribute [local go_sem] Oper.semAt_some
section
variable {P:Program} {md:Region.Mode} {ops:Array Oper} {Q:Exit→Act→World→Prop} {S:World→Prop} {fuel:Nat} {listed:Array Bool} {a:Act} {w:World}
theorem wpIn_last4 {l n id:Nat} (t:Nat) (hm:P.follows .mixedOrders=true) (hd:noDefer ops=true) (ht:t+1=ops.size) (hb:backward .any ops=true) (hw:waitsAll .any ops t=true) (hS:S w.drew)
 (h:S w.drew→wpAnyH P .any ops (LastQ P ops (OnlyN Q) t) S t ((Array.replicate (t+1) false).setIfInBounds t true) a w.drew):(Code.region id ops true).wpIn (Fence.wide.inRound l) n P Q a w:=by
 refine wpIn_mono (wpIn_region_any hm (any_in hd OnlyN.stays _ _ _ _ ?_)) OnlyN.imp
 rw [←ht]
 refine wpAny_last (by omega) hb hw t _ a _ (by simp [ht]) (by simp) ?_
 exact wpAny_of_held _ _ _ _ (h hS)
theorem tn (i:Nat) (hS:S w) {oi:Oper} (h:wpAnyH P md ops Q S fuel (listed.setIfInBounds i true) (a.put oi.dst undef) w) (hi:ops.toList[i]? = some oi:=by rfl) (hw:Region.wanted oi (yielded ops a.tmps)=false:=by rfl)
 (hQ:∀ c b w,Q (.panic c) (b.put oi.dst undef) w→Q (.panic c) b w:=by exact fun _ _ _ h=>h) (hs:Region.noSelect ops=true:=by kernel_rfl) (hf:Region.free md ops listed i=true:=by kernel_rfl) (hr:(Region.ready md ops listed).contains i=true:=by kernel_rfl):wpAnyH P md ops Q S (fuel+1) listed a w :=
 tkH i oi undef hS (.inr ⟨hw,rfl⟩) h hQ (at_list hi) hs hf hr
end
def um1 (i:Int):Option Nd→Option Nd
 | some (.pr p)=>some (.pr { p with um:=insZ p.um i })
 | o=>o
def umgL (i:Int) (F:Int→Option Nd):List Int→Int→Option Nd
 | []=>F
 | x :: r=>umgL i (upn F x (um1 i (F x))) r
theorem umgL_append (i:Int) (r:List Int) (x:Int):∀ F,umgL i F (r ++ [x])=upn (umgL i F r) x (um1 i (umgL i F r x)):=by
 induction r with
 | nil=>intro F;rfl
 | cons y r ih=>intro F;exact ih _
def addN (T:Tr):Nat:=if fbL T.nd T.n=T.n then 2*T.n else T.n
def addT (T:Tr) (d:LfD):Tr:=⟨addN T,umgL (fbL T.nd T.n) (upn T.nd (2*(fbL T.nd T.n:Int)) (some (.lf d))) (pathL (fbL T.nd T.n) (addN T))⟩
theorem lfR_L {d:LfD} {z:Int} (h:lfR d z):lfL d:=by
 obtain ⟨h0,h1,h2,-,h4,h5⟩:=h
 refine ⟨by omega,by omega,by omega,?_,by omega⟩
 split at h4 <;> omega
theorem TrAt.leaves {ok:Nat→Prop} {w:World} {tb mb:Nat} {T:Tr} (h:TrAt ok w tb mb T) (m:Nat):TrAt ok (w.setCell ⟨tb,0,none⟩ (.int .i64 (m:Int))) tb mb ⟨m,T.nd⟩∧But (fun j=>j=tb) w (w.setCell ⟨tb,0,none⟩ (.int .i64 (m:Int))):=by
 have hb:But (fun j=>j=tb) w (w.setCell ⟨tb,0,none⟩ (.int .i64 (m:Int))):=⟨rfl,rfl,rfl,by simp,fun b _ hb=>Below.heap_setCell _ _ _ _ hb⟩
 obtain ⟨f,h1,h2⟩:=h.mp
 refine ⟨⟨World.cell?_setCell_same _ _ _ h.lv,by rw [World.frozen?_setCell];exact h.lf,?_,⟨f,h1.same (hb.block mb h1.lt (fun e=>h.ne e.symm)),h2.same hb.size (fun b hl ho=>hb.block b hl (fun e=>h.ntb (e ▸ ho)))⟩,h.ntb,h.nmb⟩,hb⟩
 rw [World.cell?_setCell_other _ _ _ _ (fun e=>by cases e)];exact h.st
theorem wpList_load_wd4 {P:Program} {ops:Array Oper} {rest:List Oper} {op:Oper} {a:Act} {w:World} {Q:Exit→Act→World→Prop} (hw:Region.wanted op (yielded ops a.tmps)=true) (ty:TypeId) (x:Operand) (ho:op.op = .load ty x)
 (b o:Nat) (hx:a.eval x = .pointer (some ⟨b,o,none⟩)) (cs:List Value) (d:TypeDesc) (hc:w.rangeAt b o cs)
 (hu:P.underlying ty=some d) (hd:d.isRow=true) (hi:(P.info? ty).map (·.size)=some cs.length)
 (h:wpList P ops Q rest (a.put op.dst (.agg cs.toArray)) w):wpList P ops Q (op :: rest) a w :=
 wpList_step fun K hK=>by
  simp only [hw,if_true]
  unfold Oper.wp execOp
  simp only [ho,hx,Instr.loadAt,Instr.sureAddr,Sem.run_bind,Sem.run_pure,Result.andThen_ok,run_loadVar_mid w b o ty cs d hc hu hd hi]
  exact hK _ _ h
theorem add_boxes (tb:Nat) (cs:List Value) (w:World) {W1:World} (hW:W1=(w.alloc (.cells #[pA tb 0] 23)).alloc (.cells cs.toArray 54)):RW W1 w.heap.size 0 [pA tb 0]∧RW W1 (w.heap.size+1) 0 cs∧Below w.heap.size w W1∧W1.heap.size=w.heap.size+2:=by
 have k1:=RW.fresh w [pA tb 0] 23
 have b1:Below w.heap.size w (w.alloc (.cells #[pA tb 0] 23)):=(Below.refl _ _).alloc (Nat.le_refl _) _
 have k2:=RW.fresh (w.alloc (.cells #[pA tb 0] 23)) cs 54
 have b2:Below (w.alloc (.cells #[pA tb 0] 23)).heap.size (w.alloc (.cells #[pA tb 0] 23)) W1:=by rw [hW];exact (Below.refl _ _).alloc (Nat.le_refl _) _
 rw [←hW] at k2
 rw [World.size_alloc] at k2
 exact ⟨k1.still b2,k2,below_next b1 b2,by rw [hW];simp⟩
structure TrF (ok:Nat→Prop) (w:World) (tb mb n:Nat) (f:Int→Option Value) (F:Int→Option Nd):Prop where
 lv:w.cell? ⟨tb,0,none⟩=some (.int .i64 (n:Int))
 lf:w.frozen? ⟨tb,0,none⟩=false
 st:w.cell? ⟨tb,1,none⟩=some (.map (some mb))
 mp:MpAt w mb f
 hd:HoldsN ok w f F
 ntb:¬ok tb
 nmb:¬ok mb
theorem TrAt.f {ok:Nat→Prop} {w:World} {tb mb:Nat} {T:Tr} (h:TrAt ok w tb mb T):∃ f,TrF ok w tb mb T.n f T.nd:=by
 obtain ⟨f,h1,h2⟩:=h.mp
 exact ⟨f,h.lv,h.lf,h.st,h1,h2,h.ntb,h.nmb⟩
theorem TrF.at {ok:Nat→Prop} {w:World} {tb mb n:Nat} {f:Int→Option Value} {F:Int→Option Nd} (h:TrF ok w tb mb n f F):TrAt ok w tb mb ⟨n,F⟩:=⟨h.lv,h.lf,h.st,⟨f,h.mp,h.hd⟩,h.ntb,h.nmb⟩
theorem TrF.same {ok:Nat→Prop} {w w':World} {tb mb n:Nat} {f:Int→Option Value} {F:Int→Option Nd} (h:TrF ok w tb mb n f F) (hs:w.heap.size≤w'.heap.size) (e:∀ b,b<w.heap.size→(ok b∨b=tb∨b=mb)→w'.heap[b]? = w.heap[b]?):TrF ok w' tb mb n f F:=by
 have et:=e tb (block_lt_of_cell h.lv) (.inr (.inl rfl))
 exact ⟨(World.cell?_of_block (w:=w) et).trans h.lv,(World.frozen?_of_block (w:=w) et).trans h.lf,(World.cell?_of_block (w:=w) et).trans h.st,h.mp.same (e mb h.mp.lt (.inr (.inr rfl))),h.hd.same hs (fun b hb ho=>e b hb (.inl ho)),h.ntb,h.nmb⟩
theorem TrF.wide {ok ok':Nat→Prop} {w:World} {tb mb n:Nat} {f:Int→Option Value} {F:Int→Option Nd} (h:TrF ok w tb mb n f F) (e:∀ b,b<w.heap.size→ok b→ok' b) (h1:¬ok' tb) (h2:¬ok' mb):TrF ok' w tb mb n f F:=⟨h.lv,h.lf,h.st,h.mp,h.hd.wide e,h1,h2⟩
theorem TrF.ne {ok:Nat→Prop} {w:World} {tb mb n:Nat} {f:Int→Option Value} {F:Int→Option Nd} (h:TrF ok w tb mb n f F):tb≠mb:=h.at.ne
theorem TrF.put {ok:Nat→Prop} {w:World} {tb mb n:Nat} {f:Int→Option Value} {F:Int→Option Nd} (h:TrF ok w tb mb n f F) (k:Int) (v:Value) {d:Nd} (hd:NdO ok w v d):∃ w',(Instr.mapUpdate 69 (.map (some mb)) (.int .i64 k) v).run Tryz.prog w = .ok () w'∧TrF ok w' tb mb n (upm f k (some v)) (upn F k (some d))∧But (fun j=>j=mb) w w'∧w'.heap.size=w.heap.size:=by
 obtain ⟨w',hr,hm,hb,hs⟩:=mput_any h.mp k v
 have et:=hb.block tb (block_lt_of_cell h.lv) h.ne
 exact ⟨w',hr,⟨(World.cell?_of_block (w:=w) et).trans h.lv,(World.frozen?_of_block (w:=w) et).trans h.lf,(World.cell?_of_block (w:=w) et).trans h.st,hm,(h.hd.put k hd).same hb.size (fun b hl ho=>hb.block b hl (fun e=>h.nmb (e ▸ ho))),h.ntb,h.nmb⟩,hb,hs⟩
theorem TrAt.dbt {ok:Nat→Prop} {w w':World} {tb mb:Nat} {T:Tr} (h:TrAt ok w tb mb T) (hT:DbT w) (hb:But (fun j=>j=mb∨j=tb) w w'):DbT w':=by
 have n1:3≠tb:=fun e=>by
  have c:=hT.cell 0 (by decide)
  rw [e,h.lv] at c;cases c
 have n2:3≠mb:=fun e=>by
  obtain ⟨f,h1,-⟩:=h.mp
  have c:=hT.cell 0 (by decide)
  rw [e,h1.nocell] at c;cases c
 exact ⟨Nat.lt_of_lt_of_le hT.lt hb.size,fun j hj=>hb.cell (hT.cell j hj) (fun e=>by rcases e with e | e;exact n2 e;exact n1 e)⟩
theorem LfIn.setLv {ok:Nat→Prop} {w:World} {tb mb:Nat} {T:Tr} (h:TrAt ok w tb mb T) {cs:List Value} {d:LfD} (hd:LfIn w cs d) (v:Value):LfIn (w.setCell ⟨tb,0,none⟩ v) cs d:=by
 have k:∀ {u:Value} {n:Nat} {b:Nat→Nat},BytesIn w u n b→BytesIn (w.setCell ⟨tb,0,none⟩ v) u n b:=fun hu=>((BI.all hu).put h.lv (fun z e=>by cases e) v).of (by simp)
 obtain ⟨v0,v1,v2,v4,v5,e,h0,h1,h2,h4,h5⟩:=hd
 exact ⟨v0,v1,v2,v4,v5,e,k h0,k h1,k h2,k h4,k h5⟩
end Go.Proofs.YtddkbmnkbfciaaaGreatDoor
namespace Go.Proofs.YtddkbmnkbfciaaaGreatDoor
open Go.RowKit Go.Shelf
section
variable {P:Program} {md:Region.Mode} {ops:Array Oper} {Q:Exit→Act→World→Prop} {S:World→Prop} {fuel:Nat} {listed:Array Bool} {a:Act} {w:World}
def waitsN (md:Region.Mode) (ops:Array Oper):Nat→Nat→Nat→Bool
 | 0,_,_=>false
 | n+1,t,i=>match ops[t]? with
  | none=>false
  | some o=>o.after.toList.any fun e=>Region.binds md e && (decide (e.on=i) || waitsN md ops n e.on i)
def waitsBut (md:Region.Mode) (ops:Array Oper) (t d:Nat):Bool:=(List.range ops.size).all fun i=>decide (i=t) || decide (i=d) || waitsN md ops 8 t i
theorem waitsBut_at {t d:Nat} (h:waitsBut md ops t d=true) {i:Nat} (hi:i<ops.size) (hne:i≠t) (hnd:i≠d):waitsN md ops 8 t i=true:=by
 unfold waitsBut at h
 have h1:=List.all_eq_true.1 h i (List.mem_range.2 hi)
 rwa [decide_eq_false hne,decide_eq_false hnd,Bool.false_or,Bool.false_or] at h1
theorem waitsN_one {n t i:Nat} (h:waitsN md ops (n+1) t i=true):∃ o e,ops[t]? = some o∧e∈o.after∧Region.binds md e=true∧(e.on=i∨waitsN md ops n e.on i=true):=by
 unfold waitsN at h
 split at h
 · cases h
 · rename_i o ho
   obtain ⟨e,he,h2⟩:=List.any_eq_true.1 h
   rw [Bool.and_eq_true,Bool.or_eq_true,decide_eq_true_eq] at h2
   exact ⟨o,e,ho,Array.mem_toList_iff.1 he,h2.1,h2.2⟩
theorem waitsN_lt (hb:backward md ops=true):∀ {n t i:Nat},waitsN md ops n t i=true→i<t
 | 0,_,_,h=>by simp [waitsN] at h
 | n+1,t,i,h=>by
  obtain ⟨o,e,ho,he,hbe,h2⟩:=waitsN_one h
  have h1:=backward_at hb ho he hbe
  rcases h2 with h2 | h2
  · omega
  · have:=waitsN_lt hb h2
    omega
def Closed (md:Region.Mode) (ops:Array Oper) (t:Nat) (l:Array Bool):Prop:=∀ k o,k<t→ops[k]? = some o→l.getD k true=true→∀ e∈o.after,Region.binds md e=true→l.getD e.on true=true
theorem waitsN_listed (hb:backward md ops=true) {t:Nat} {l:Array Bool} (hc:Closed md ops t l):∀ {n k i:Nat},k≤t→(∀ o,ops[k]? = some o→∀ e∈o.after,Region.binds md e=true→l.getD e.on true=true)→waitsN md ops n k i=true→l.getD i true=true
 | 0,_,_,_,_,h=>by simp [waitsN] at h
 | n+1,k,i,hk,h0,h=>by
  obtain ⟨o,e,ho,he,hbe,h2⟩:=waitsN_one h
  have h1:=backward_at hb ho he hbe
  have hl:=h0 o ho e he hbe
  rcases h2 with h2 | h2
  · rw [←h2];exact hl
  · exact waitsN_listed hb hc (by omega) (fun o' ho' e' he' hb'=>hc e.on o' (by omega) ho' hl e' he' hb') h2
theorem getD_stay {l:Array Bool} {i d:Nat} (h:l.getD d true=true):(l.setIfInBounds i true).getD d true=true:=by
 by_cases e:i=d
 · subst e
   by_cases hs:i<l.size
   · simp [hs]
   · simp [hs]
 · rw [getD_set_ne true e]
   exact h
theorem Closed.add {t i:Nat} {l:Array Bool} (h:Closed md ops t l) (hi:∀ o,ops[i]? = some o→∀ e∈o.after,Region.binds md e=true→l.getD e.on true=true):Closed md ops t (l.setIfInBounds i true):=fun k o hk ho hl e he hbe=>by
 by_cases e1:k=i
 · subst e1
   exact getD_stay (hi o ho e he hbe)
 · rw [getD_set_ne true (Ne.symm e1)] at hl
   exact getD_stay (h k o hk ho hl e he hbe)
theorem wpAny_lastD {t d:Nat} (ht:t<ops.size) (hb:backward md ops=true) (hw:waitsBut md ops t d=true) (htd:t<d):∀ (fuel:Nat) (listed:Array Bool) (a:Act) (w:World),listed.size=ops.size→listed.getD t true=false→listed.getD d true=true→Closed md ops t listed →
 wpAny P md ops (LastQ P ops Q t) fuel (listed.setIfInBounds t true) a w→wpAny P md ops Q (fuel+1) listed a w:=by
 intro fuel
 induction fuel with
 | zero =>
  intro listed a w hz hlt hld hcl h
  have hall:=all_listed hb hz h.1
  have hq:wpOp P ops Q t (Q .normal) a w:=h.2
  obtain ⟨o,ho⟩:∃ o,ops[t]? = some o:=⟨_,Array.getElem?_eq_getElem ht⟩
  have hmt:t∈Region.ready md ops listed:=mem_ready.2 ⟨hlt,o,ho,fun e he hbe=>by
   have h1:=backward_at hb ho he hbe
   have h2:=hall e.on (by omega) (by omega)
   have hs:e.on<listed.size:=by omega
   simp [hs] at h2 ⊢
   exact h2⟩
  refine ⟨fun h0=>(by rw [h0] at hmt;cases hmt),fun i hi => ?_⟩
  by_cases hit:i=t
  · subst hit
    exact wpOp_mono (fun a' w' h'=>wpAny_end h.1 h' _) hq
  · have:=ready_mono hi hit
    rw [h.1] at this
    cases this
 | succ fuel ih =>
  intro listed a w hz hlt hld hcl h
  by_cases hr:Region.ready md ops (listed.setIfInBounds t true)=[]
  · have hall:=all_listed hb hz hr
    have hq:wpOp P ops Q t (Q .normal) a w:=h.1 hr
    obtain ⟨o,ho⟩:∃ o,ops[t]? = some o:=⟨_,Array.getElem?_eq_getElem ht⟩
    have hmt:t∈Region.ready md ops listed:=mem_ready.2 ⟨hlt,o,ho,fun e he hbe=>by
     have h1:=backward_at hb ho he hbe
     have h2:=hall e.on (by omega) (by omega)
     have hs:e.on<listed.size:=by omega
     simp [hs] at h2 ⊢
     exact h2⟩
    refine ⟨fun h0=>(by rw [h0] at hmt;cases hmt),fun i hi => ?_⟩
    by_cases hit:i=t
    · subst hit
      exact wpOp_mono (fun a' w' h'=>wpAny_end hr h' _) hq
    · have:=ready_mono hi hit
      rw [hr] at this
      cases this
  · obtain ⟨o,ho⟩:∃ o,ops[t]? = some o:=⟨_,Array.getElem?_eq_getElem ht⟩
    obtain ⟨j,hj⟩:=List.exists_mem_of_ne_nil _ hr
    obtain ⟨hju,oj,hoj,hjall⟩:=mem_ready.1 hj
    have hjs:j<ops.size:=(Array.getElem?_eq_some_iff.1 hoj).1
    have hjt:j≠t:=fun e=>by
     subst e
     have:j<listed.size:=by omega
     simp [this] at hju
    have hnt:t ∉ Region.ready md ops listed:=fun hm=>by
     obtain ⟨-,o',ho',hall⟩:=mem_ready.1 hm
     rw [getD_set_ne true (Ne.symm hjt)] at hju
     have hjd:j≠d:=fun e=>by rw [e,hld] at hju;cases hju
     have h1:=waitsN_listed hb hcl (Nat.le_refl t) (fun o2 ho2 e he hbe=>by
      rw [ho'] at ho2
      cases ho2
      have h2:=hall e he hbe
      have h3:=backward_at hb ho' he hbe
      have hs:e.on<listed.size:=by omega
      simp [hs] at h2 ⊢
      exact h2) (waitsBut_at hw hjs hjt hjd)
     rw [hju] at h1
     cases h1
    have hsome:∃ i,i∈Region.ready md ops listed:=by
     have hex:∃ i,i<ops.size∧i≠t∧listed.getD i true=false:=⟨j,hjs,hjt,by rwa [getD_set_ne true (Ne.symm hjt)] at hju⟩
     refine Classical.byContradiction fun hno => ?_
     obtain ⟨i,hi,hit,hiu⟩:=hex
     have hall:∀ i,i<ops.size→i≠t→listed.getD i true=true:=by
      intro i
      induction i using Nat.strongRecOn with
      | ind i ihh =>
       intro hi hne
       cases hc:listed.getD i true with
       | true=>rfl
       | false =>
        exfalso
        by_cases hti:∃ e∈ops[i].after,Region.binds md e=true∧e.on=t
        · obtain ⟨e1,he1,hb1,h1t⟩:=hti
          have g2:=waitsN_lt hb (waitsBut_at hw hi hne (fun e=>by rw [e,hld] at hc;cases hc))
          have g1:=backward_at hb (Array.getElem?_eq_getElem hi) he1 hb1
          omega
        · refine hno ⟨i,mem_ready.2 ⟨hc,ops[i],Array.getElem?_eq_getElem hi,fun e he hbe => ?_⟩⟩
          have hlt':=backward_at hb (Array.getElem?_eq_getElem hi) he hbe
          have h1:=ihh e.on hlt' (by omega) (fun het=>hti ⟨e,he,hbe,het⟩)
          have hs:e.on<listed.size:=by omega
          simp [hs] at h1 ⊢
          exact h1
     rw [hall i hi hit] at hiu
     cases hiu
    refine ⟨fun h0=>(by obtain ⟨i,hi⟩:=hsome;rw [h0] at hi;cases hi),fun i hi => ?_⟩
    have hit:i≠t:=fun e=>hnt (e ▸ hi)
    have h1:=h.2 i (ready_mono hi hit)
    refine wpOp_swap (Q':=LastQ P ops Q t) (fun _ _ _ h=>h) (fun h=>h) (wpOp_mono (fun a' w' h' => ?_) h1)
    refine ih (listed.setIfInBounds i true) a' w' (by simpa using hz) (by rw [getD_set_ne true hit];exact hlt) (getD_stay hld) (hcl.add (fun o2 ho2 e he hbe=>by
     obtain ⟨-,o3,ho3,h3⟩:=mem_ready.1 hi
     rw [ho3] at ho2
     cases ho2
     have h2:=h3 e he hbe
     have h4:=backward_at hb ho3 he hbe
     have hs:e.on<listed.size:=by
      have:=(Array.getElem?_eq_some_iff.1 ho3).1
      omega
     simp [hs] at h2 ⊢
     exact h2)) ?_
    rw [Array.setIfInBounds_comm _ _ hit]
    exact h'
theorem wpIn_last2 {l n id:Nat} (t:Nat) (hm:P.follows .mixedOrders=true) (hd:noDefer ops=true) (ht:t+2=ops.size) (hb:backward .any ops=true) (hw:waitsAll .any ops (t+1)=true) (hw2:waitsBut .any ops t (t+1)=true) (hS:S w.drew)
 (h:S w.drew→wpAnyH P .any ops (LastQ P ops (LastQ P ops (OnlyN Q) (t+1)) t) S t (((Array.replicate (t+2) false).setIfInBounds (t+1) true).setIfInBounds t true) a w.drew):(Code.region id ops true).wpIn (Fence.wide.inRound l) n P Q a w:=by
 refine wpIn_mono (wpIn_region_any hm (any_in hd OnlyN.stays _ _ _ _ ?_)) OnlyN.imp
 rw [←ht]
 refine wpAny_last (by omega) hb hw (t+1) _ a _ (by simp [ht]) (by simp) ?_
 refine wpAny_lastD (d:=t+1) (by omega) hb hw2 (by omega) t _ a _ (by simp [ht]) (by rw [getD_set_ne true (by omega)];simp) (by simp) (fun k o hk ho hl=>by rw [getD_set_ne true (show t+1≠k by omega)] at hl;have hk2:k<t+2:=(by omega);simp [hk2] at hl) ?_
 exact wpAny_of_held _ _ _ _ (h hS)
end
end Go.Proofs.YtddkbmnkbfciaaaGreatDoor
namespace Go.Proofs.YtddkbmnkbfciaaaGreatDoor
open Go.RowKit Go.Shelf
theorem upF_lev (l:Int):∀ (f x:Nat) (y:Int),y∈upF l f x→∃ p:Nat,y=(p:Int)∧levN x<levN p
 | 0,_,_,h=>by simp [upF] at h
 | f+1,x,y,h=>by
  unfold upF at h
  split at h
  · rename_i p hp
    have hl:=(par_lev hp).2
    rcases List.mem_cons.1 h with rfl | h
    · exact ⟨p,rfl,by omega⟩
    · obtain ⟨q,e,hq⟩:=upF_lev l f p y h
      exact ⟨q,e,by omega⟩
  · cases h
theorem upF_nodup (l:Int):∀ (f x:Nat),(upF l f x).Nodup
 | 0,_=>by simp [upF]
 | f+1,x=>by
  unfold upF
  split
  · rename_i p hp
    refine List.nodup_cons.2 ⟨fun h => ?_,upF_nodup l f p⟩
    obtain ⟨q,e,hq⟩:=upF_lev l f p _ h
    have:p=q:=by omega
    subst this;omega
  · simp
theorem pathL_nodup (i l:Int):(pathL i l).Nodup:=by
 unfold pathL
 split
 · exact upF_nodup _ _ _
 · simp
theorem nodup_take {l:List Int} (h:l.Nodup) {k:Nat} {x:Int} (hx:l[k]? = some x):x ∉ l.take k:=fun hm=>by
 obtain ⟨j,hj⟩:=List.getElem?_of_mem hm
 have hjk:j<k:=by have:=(List.getElem?_eq_some_iff.1 hj).1;simp at this;omega
 rw [List.getElem?_take_of_lt hjk] at hj
 have:=nodup_at h hj hx
 omega
theorem umgL_out (i:Int) {x:Int}:∀ (l:List Int) (F:Int→Option Nd),x ∉ l→umgL i F l x=F x
 | [],_,_=>rfl
 | y :: r,F,h=>by
  show umgL i (upn F y _) r x=F x
  rw [umgL_out i r _ (fun hm=>h (List.mem_cons_of_mem _ hm))]
  unfold upn
  rw [if_neg (fun e=>h (by rw [e];exact List.mem_cons_self))]
theorem lastZ_eq (l:List Int):∀ k,lastZ l k=if k=0 then -1 else zat l (k - 1)
 | 0=>rfl
 | k+1=>by simp [lastZ]
theorem risU_at4 {l:List Int}:∀ n,risU l n=true→∀ k,k<n→lastZ l k<zat l k∧zat l k<64
 | 0,_,k,hk=>by omega
 | n+1,h,k,hk=>by
  simp only [risU,Bool.and_eq_true,decide_eq_true_eq] at h
  by_cases e:k=n
  · subst e;exact h.2
  · exact risU_at4 n h.1 k (by omega)
theorem zat_some {l:List Int} {k:Nat} {z:Int} (h:l[k]? = some z):zat l k=z:=by unfold zat;rw [h];rfl
theorem risU_more {l:List Int} (h:risU l l.length=true):∀ (d i:Nat),i+d<l.length→zat l i+(d:Int)≤zat l (i+d)
 | 0,i,_=>by simp
 | d+1,i,hi=>by
  have h1:=risU_more h d i (by omega)
  have h2:=(risU_at4 _ h (i+d+1) (by omega)).1
  rw [lastZ_eq,if_neg (by omega)] at h2
  simp only [Nat.add_sub_cancel] at h2
  rw [show i+(d+1)=i+d+1 by omega]
  omega
theorem risU_rises {l:List Int} (h:risU l l.length=true):Rises l∧l.length≤64∧∀ z∈l,0≤z∧z<64:=by
 have h0:∀ k,k<l.length→(k:Int)≤zat l k:=fun k hk=>by
  have h1:=risU_more h k 0 (by omega)
  have h2:=(risU_at4 _ h 0 (by omega)).1
  simp only [lastZ] at h2
  rw [Nat.zero_add] at h1
  omega
 refine ⟨fun i j a b hi hj hl => ?_,?_,fun z hz => ?_⟩
 · have hj':=(List.getElem?_eq_some_iff.1 hj).1
   have h1:=risU_more h (j - i) i (by omega)
   rw [show i+(j - i)=j by omega,zat_some hi,zat_some hj] at h1
   omega
 · by_cases hl:l.length=0
   · omega
   · have h1:=(risU_at4 _ h (l.length - 1) (by omega)).2
     have h2:=h0 (l.length - 1) (by omega)
     omega
 · obtain ⟨k,hk⟩:=List.getElem?_of_mem hz
   have hk':=(List.getElem?_eq_some_iff.1 hk).1
   have h1:=(risU_at4 _ h k hk').2
   have h2:=h0 k hk'
   rw [zat_some hk] at h1 h2
   omega
structure AddJ (w:World) (B ib tB jb pB tb mb N:Nat) (i:Int) (ok3:Nat→Prop) (f0:Int→Option Value) (F0:Int→Option Nd) (xs:List Int) (k:Nat) (M:Nat→Prop) (W:World):Prop where
 kT:RW W tB 0 [pA tb 0]
 kI:RW W ib 0 [.int .i64 i]
 kP:RW W pB 0 [pA tb 0]
 kJ:RW W jb 0 [.int .i64 i]
 tr:∃ f,TrF (fun b=>ok3 b∨M b) W tb mb N f (umgL i F0 (xs.take k))∧∀ j x,k≤j→xs[j]? = some x→f x=f0 x
 bt:But (fun j=>j=mb∨j=tb) w W
 mB:∀ b,M b→B≤b
theorem Loc.but {B:Nat} {M:Nat→Prop} {W W':World} (h:Loc B M W W') (w:World) (hw:w.heap.size≤B) (hW:w.heap.size≤W.heap.size) {bad:Nat→Prop} (hb:But bad w W):But bad w W' :=
 ⟨h.os.trans hb.os,h.tape.trans hb.tape,h.output.trans hb.output,Nat.le_trans hb.size h.size,fun k hk hn=>(h.block k (by omega) (.inl (by omega))).trans (hb.block k hk hn)⟩
theorem AddJ.loc {w:World} {B ib tB jb pB tb mb N:Nat} {i:Int} {ok3:Nat→Prop} {f0:Int→Option Value} {F0:Int→Option Nd} {xs:List Int} {k:Nat} {M:Nat→Prop} {W W':World} (h:AddJ w B ib tB jb pB tb mb N i ok3 f0 F0 xs k M W) (hL:Loc B M W W') (h1:ib<B∧tB<B∧jb<B∧pB<B∧tb<B∧mb<B) (h3:∀ b,ok3 b→b<B) (hw:w.heap.size≤B):AddJ w B ib tB jb pB tb mb N i ok3 f0 F0 xs k M W':=by
 obtain ⟨f,h4,h5⟩:=h.tr
 exact ⟨hL.rw h.kT (.inl h1.2.1),hL.rw h.kI (.inl h1.1),hL.rw h.kP (.inl h1.2.2.2.1),hL.rw h.kJ (.inl h1.2.2.1),⟨f,h4.same hL.size (fun b hb ho=>hL.block b hb (by
  rcases ho with (ho | ho) | rfl | rfl
  · exact .inl (h3 b ho)
  · exact .inr ho
  · exact .inl h1.2.2.2.2.1
  · exact .inl h1.2.2.2.2.2)),h5⟩,hL.but w hw h.bt.size h.bt,h.mB⟩
end Go.Proofs.YtddkbmnkbfciaaaGreatDoor
