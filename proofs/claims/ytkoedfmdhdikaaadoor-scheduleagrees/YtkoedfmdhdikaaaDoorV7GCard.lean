/- The law ScheduleAgrees returns true for every argument, and leaves all as it was, where the program's variables start as its text lays them: the row, and the card that ties the variables to the text. -/
import Derived.Test.YtkoedfmdhdikaaaDoorBaseM
import Derived.Test.YtkoedfmdhdikaaaDoorL5AM
import Derived.Test.YtkoedfmdhdikaaaDoorQAppM
import Derived.Test.YtkoedfmdhdikaaaDoorV7AM
import Derived.Test.YtkoedfmdhdikaaaDoorV7F
import Derived.ChangeMaps5
namespace Go.Proofs.YtkoedfmdhdikaaaDoor.ScheduleAgreesCard
open Go.ChangeShapes Go.WideShapes Go.ChangeAt Go.RowKit
set_option maxRecDepth 20000 in
theorem contract (H:Type) (enc:TypeId × Value→H) (W:World) (base:Nat) (args:Array Value) (ds gs:List (DataW H)) (before:List MemPlace)
 (hval:∀ (j:Nat) t v,Tryd.f4.params[j]? = some t→args[j]? = some v→Value.okWide Tryd.prog W .any base t v)
 (hW:DataW.Whole enc Tryd.prog Tryd.f4.params.toList Rows.scheduleAgreesSpec.vars false W args.toList ds gs before) (hR:(DataW.weightsEach Tryd.prog (Tryd.f4.params.toList ++ (OpenSpec.ofChange Rows.scheduleAgreesSpec).bare.plain.varTypes Tryd.prog) (ds ++ gs)).all (·≤reachBytes)=true) (hL:laidMetH Tryd.prog Rows.scheduleAgreesRow.laid W) :
 Calls Tryd.prog 4 args W fun e W'=>∃ v,e = .returned v∧Rows.scheduleAgreesSpec.post enc Tryd.prog Tryd.f4 false true false false W args v W':=by
 have hW':=hW
 obtain ⟨p,q,hA0,hV,rfl,hfz,hnd⟩:=hW
 have hA:DataW.TrodAll enc Tryd.prog W 0 (fun _=>true) true Tryd.f4.params.toList args.toList ds p:=hA0
 rw [Tryd.params4] at hA hval hR
 obtain ⟨v0,vs0,d0,ds0,p0,q0,hargs,rfl,rfl,h0,r0⟩:=trodAll_cons hA
 obtain ⟨v1,vs1,d1,ds1,p1,q1,rfl,rfl,rfl,h1,r1⟩:=trodAll_cons r0
 obtain ⟨v2,vs2,d2,ds2,p2,q2,rfl,rfl,rfl,h2,r2⟩:=trodAll_cons r1
 obtain ⟨v3,vs3,d3,ds3,p3,q3,rfl,rfl,rfl,h3,r3⟩:=trodAll_cons r2
 obtain ⟨v4,vs4,d4,ds4,p4,q4,rfl,rfl,rfl,h4,r4⟩:=trodAll_cons r3
 obtain ⟨rfl,rfl,rfl⟩:=trodAll_nil r4
 obtain rfl:args=#[v0,v1,v2,v3,v4]:=by cases args;simp_all
 obtain ⟨rfl,rfl⟩:=trodVars_none hV
 have lt0:∀ x∈p0,x.block<W.heap.size:=by obtain ⟨m,hm⟩:=h0;exact DataW.trod_lt m _ _ _ hm
 obtain ⟨n0,bs0,hb0,hl0,hd0⟩:=open_bytes (hval 0 24 v0 rfl rfl) h0
 have hn0:=bytes_reach2 hR (j:=0) rfl rfl hd0
 have lt1:∀ x∈p1,x.block<W.heap.size:=by obtain ⟨m,hm⟩:=h1;exact DataW.trod_lt m _ _ _ hm
 obtain ⟨n1,bs1,hb1,hl1,hd1⟩:=open_bytes (hval 1 24 v1 rfl rfl) h1
 have hn1:=bytes_reach2 hR (j:=1) rfl rfl hd1
 have lt2:∀ x∈p2,x.block<W.heap.size:=by obtain ⟨m,hm⟩:=h2;exact DataW.trod_lt m _ _ _ hm
 obtain ⟨xo2,cnt2,cap2,D2,rfl,hc2,ip2,ib2,il2⟩:=open_psks (hval 2 22 v2 rfl rfl) h2 hR (j:=2) rfl rfl
 have lt3:∀ x∈p3,x.block<W.heap.size:=by obtain ⟨m,hm⟩:=h3;exact DataW.trod_lt m _ _ _ hm
 obtain ⟨cs3,e3,rfl,ic3,ib3,il3⟩:=open_cx (hval 3 38 v3 rfl rfl) h3 hR (j:=3) rfl rfl
 have lt4:∀ x∈p4,x.block<W.heap.size:=by obtain ⟨m,hm⟩:=h4;exact DataW.trod_lt m _ _ _ hm
 obtain ⟨cs4,e4,rfl,ic4,ib4,il4⟩:=open_cx (hval 4 38 v4 rfl rfl) h4 hR (j:=4) rfl rfl
 have hT:TabAt W:=⟨sha_of_laid hL⟩
 clear hA0 hR
 refine (schedAgrees_any v0 v1 n0 n1 bs0 bs1 hl0 hl1 (by omega) (by omega) xo2 cnt2 cap2 D2 ib2 cs3 cs4 e3 e4 ib3 ib4 ⟨by have:=il3.1;omega,by have:=il3.2.1;omega,by have:=il3.2.2;omega⟩ ⟨by have:=il4.1;omega,by have:=il4.2.1;omega,by have:=il4.2.2;omega⟩ W hT hb0 hb1 ip2 ic3 ic4).mono fun e W' ⟨he,bel⟩ => ?_
 subst he
 exact ⟨_,rfl,_,_,_,[],_,[],hW',trodAll_mk1 (shut_bool Tryd.underlying4 _),(trodAll_cons_mk (Below.trod laidOut (by kernel_rfl) (of_decide_eq_true (by kernel_rfl)) h0 bel lt0) (trodAll_cons_mk (Below.trod laidOut (by kernel_rfl) (of_decide_eq_true (by kernel_rfl)) h1 bel lt1) (trodAll_cons_mk (Below.trod laidOut (by kernel_rfl) (of_decide_eq_true (by kernel_rfl)) h2 bel lt2) (trodAll_cons_mk (Below.trod laidOut (by kernel_rfl) (of_decide_eq_true (by kernel_rfl)) h3 bel lt3) (trodAll_cons_mk (Below.trod laidOut (by kernel_rfl) (of_decide_eq_true (by kernel_rfl)) h4 bel lt4) trodAll_mk0))))),rfl,bel.frame _,fun h=>by cases h⟩
theorem laid_met (os:Os):laidMet Tryd.prog Rows.scheduleAgreesRow.laid ((laidWorldH os).forCall (fun _ _=>0) ⟨#[],#[.slice none 0 0,.slice none 0 0,.slice none 0 0,.agg #[.slice none 0 0,.int .i64 0,.slice none 0 0,.slice none 0 0],.agg #[.slice none 0 0,.int .i64 0,.slice none 0 0,.slice none 0 0]],[]⟩).memory :=
 laidMet_of_run' 8 (by kernel_rfl) (by kernel_rfl)
theorem reads (os:Os) {H:Type} (enc:TypeId × Value→H):∃ places,DataW.whole enc Tryd.prog ((laidWorldH os).forCall (fun _ _=>0) ⟨#[],#[.slice none 0 0,.slice none 0 0,.slice none 0 0,.agg #[.slice none 0 0,.int .i64 0,.slice none 0 0,.slice none 0 0],.agg #[.slice none 0 0,.int .i64 0,.slice none 0 0,.slice none 0 0]],[]⟩).memory Tryd.f4.params.toList Rows.scheduleAgreesSpec.vars false #[Value.slice none 0 0,Value.slice none 0 0,Value.slice none 0 0,Value.agg #[.slice none 0 0,.int .i64 0,.slice none 0 0,.slice none 0 0],Value.agg #[.slice none 0 0,.int .i64 0,.slice none 0 0,.slice none 0 0]].toList 8=some ([.nil,.nil,.nil,.agg [.nil,.lit (.int .i64 0),.nil,.nil],.agg [.nil,.lit (.int .i64 0),.nil,.nil]],[],places) :=
 ⟨[],by kernel_rfl⟩
set_option maxRecDepth 100000 in
theorem lifted (os:Os) (started:os.Started) (H:Type) (enc:TypeId × Value→H) (F:Stop.Interp) :
 ReturnsInHanded {} Tryd.checked os 4 .any ((OpenSpec.ofChange Rows.scheduleAgreesSpec).preRow enc Tryd.prog Tryd.f4 Rows.scheduleAgreesRow.domain false Rows.scheduleAgreesRow.laid) (((OpenSpec.ofChange Rows.scheduleAgreesSpec).at F).post enc Tryd.prog Tryd.f4 false true false false):=by
 obtain ⟨places,hx⟩:=reads os enc
 refine returnsInHanded_of_row (C:=Tryd.checked) (s:=OpenSpec.ofChange Rows.scheduleAgreesSpec) ownKnobs started (by kernel_rfl) Tryd.func4
  (witness_row_at (enc:=enc) (C:=Tryd.checked) false (laidWorldH os) #[.slice none 0 0,.slice none 0 0,.slice none 0 0,.agg #[.slice none 0 0,.int .i64 0,.slice none 0 0,.slice none 0 0],.agg #[.slice none 0 0,.int .i64 0,.slice none 0 0,.slice none 0 0]] rfl (by kernel_rfl) (by kernel_rfl) (by kernel_rfl)
    (OpenSpec.preRow_of_cond 8 hx (by kernel_rfl) (fun k hk=>by cases hk) (by kernel_rfl) (laid_met os))) ?_
 intro W base args ds gs before hval hW _ _ hR hL _ _
 exact contract H enc W base args ds gs before hval hW hR hL
theorem said:Rows.ScheduleAgreesSaid :=
 OpenClaim.holds_of_cond 4 Tryd.f4 rfl rfl rfl rfl rfl rfl rfl ⟨rfl,rfl,rfl,rfl,rfl⟩ rfl rfl rfl rfl rfl (by kernel_rfl) Tryd.func4 (by kernel_rfl)
  (of_decide_eq_true (by kernel_rfl)) (by unfold Func.isWrapper;first | (rw [if_pos (by decide +kernel)];kernel_rfl) | (rw [if_neg (by decide +kernel)];exact ⟨rfl,rfl⟩))
  (fun os started H enc _ F=>by rw [OpenClaim.pre_eq_preRow];exact lifted os started H enc F)
theorem plain (f:FuncId) (fn:Func) (hf:Tryd.pinned.checked.prog.funcNamed "synod/synodlaw16.ScheduleAgrees" = some f) (hfn:Tryd.pinned.checked.prog.funcs[f]? = some fn) :
 false=Tryd.pinned.checked.prog.looks []∧∀ (j:Nat) t,fn.params[j]? = some t→Tryd.pinned.checked.prog.wantsStandIn t=false:=by
 obtain rfl:f=4:=Option.some.inj ((show Tryd.prog.funcNamed "synod/synodlaw16.ScheduleAgrees" = some 4 by kernel_rfl).symm.trans hf) |>.symm
 obtain rfl:fn=Tryd.f4:=(Option.some.inj (Tryd.func4.symm.trans hfn)).symm
 refine ⟨by kernel_rfl,fun j t ht => ?_⟩
 rw [Tryd.params4] at ht
 have h:t=24∨t=24∨t=22∨t=38∨t=38:=by simpa using Array.mem_of_getElem? ht
 rcases h with rfl | rfl | rfl | rfl | rfl
 · exact (show Tryd.prog.wantsStandIn 24=false by kernel_rfl)
 · exact (show Tryd.prog.wantsStandIn 24=false by kernel_rfl)
 · exact (show Tryd.prog.wantsStandIn 22=false by kernel_rfl)
 · exact (show Tryd.prog.wantsStandIn 38=false by kernel_rfl)
 · exact (show Tryd.prog.wantsStandIn 38=false by kernel_rfl)
end Go.Proofs.YtkoedfmdhdikaaaDoor.ScheduleAgreesCard
namespace Go.Proofs.YtkoedfmdhdikaaaDoor
theorem scheduleAgrees_card:Rows.ScheduleAgreesCardSaid :=
 Claim7.holds_tied_plain_at .later [] _ _ _ _ ScheduleAgreesCard.said (fun _ h=>by cases h) (by kernel_rfl) (fun _ h=>by cases h) scheduleAgrees_row_tie rfl ⟨rfl,rfl⟩ (by kernel_rfl) rfl ScheduleAgreesCard.plain (by kernel_rfl)
end Go.Proofs.YtkoedfmdhdikaaaDoor
