/- The law LabelsKeys returns true for every argument, and leaves all as it was, where the program's variables start as its text lays them: the row, and the card that ties the variables to the text. -/
import Derived.Test.YtibdhadbflfdpaaDoorL5DM
namespace Go.Proofs.YtibdhadbflfdpaaDoor.LabelsKeysCard
open Go.ChangeShapes Go.WideShapes Go.ChangeAt Go.RowKit
set_option maxRecDepth 20000 in
theorem contract (H:Type) (enc:TypeId × Value→H) (W:World) (base:Nat) (args:Array Value) (ds gs:List (DataW H)) (before:List MemPlace)
 (hval:∀ (j:Nat) t v,Tryd.f3.params[j]? = some t→args[j]? = some v→Value.okWide Tryd.prog W .any base t v)
 (hW:DataW.Whole enc Tryd.prog Tryd.f3.params.toList Rows.labelsKeysSpec.vars false W args.toList ds gs before) (hR:(DataW.weightsEach Tryd.prog (Tryd.f3.params.toList ++ (OpenSpec.ofChange Rows.labelsKeysSpec).bare.plain.varTypes Tryd.prog) (ds ++ gs)).all (·≤reachBytes)=true) (hL:laidMetH Tryd.prog Rows.labelsKeysRow.laid W) :
 Calls Tryd.prog 3 args W fun e W'=>∃ v,e = .returned v∧Rows.labelsKeysSpec.post enc Tryd.prog Tryd.f3 false true false false W args v W':=by
 have hW':=hW
 obtain ⟨p,q,hA0,hV,rfl,hfz,hnd⟩:=hW
 have hA:DataW.TrodAll enc Tryd.prog W 0 (fun _=>true) true Tryd.f3.params.toList args.toList ds p:=hA0
 rw [Tryd.params3] at hA hval hR
 obtain ⟨v0,vs0,d0,ds0,p0,q0,hargs,rfl,rfl,h0,r0⟩:=trodAll_cons hA
 obtain ⟨v1,vs1,d1,ds1,p1,q1,rfl,rfl,rfl,h1,r1⟩:=trodAll_cons r0
 obtain ⟨v2,vs2,d2,ds2,p2,q2,rfl,rfl,rfl,h2,r2⟩:=trodAll_cons r1
 obtain ⟨v3,vs3,d3,ds3,p3,q3,rfl,rfl,rfl,h3,r3⟩:=trodAll_cons r2
 obtain ⟨rfl,rfl,rfl⟩:=trodAll_nil r3
 obtain rfl:args=#[v0,v1,v2,v3]:=by cases args;simp_all
 obtain ⟨rfl,rfl⟩:=trodVars_none hV
 have lt0:∀ x∈p0,x.block<W.heap.size:=by obtain ⟨m,hm⟩:=h0;exact DataW.trod_lt m _ _ _ hm
 obtain ⟨n0,bs0,hb0,hl0,hd0⟩:=open_bytes (hval 0 22 v0 rfl rfl) h0
 have hn0:=bytes_reach hR (j:=0) rfl rfl hd0
 obtain ⟨s1,rfl,rfl,rfl,hs1⟩:=ChangeMaps.open_string Tryd.underlying9 (hval 1 9 v1 rfl rfl) h1
 have hw1:=str_lit s1
 have hz1:s1.size<140737488355000:=str_reach hR (j:=1) rfl rfl
 have lt2:∀ x∈p2,x.block<W.heap.size:=by obtain ⟨m,hm⟩:=h2;exact DataW.trod_lt m _ _ _ hm
 obtain ⟨n2,bs2,hb2,hl2,hd2⟩:=open_bytes (hval 2 22 v2 rfl rfl) h2
 have hn2:=bytes_reach hR (j:=2) rfl rfl hd2
 obtain ⟨z3,rfl,rfl,rfl,w3⟩:=open_int Tryd.underlying3 (hval 3 3 v3 rfl rfl) h3
 have hT:TabAt W:=⟨sha_of_laid hL⟩
 clear hA0 hR
 refine (hw1 ▸ labelsKeys_any v0 v2 _ (litS_lt s1) n0 n2 bs0 bs2 hl0 hl2 hn0 hn2 z3 W hT hb0 hb2).mono fun e W' ⟨he,bel⟩ => ?_
 subst he
 exact ⟨_,rfl,_,_,_,[],_,[],hW',trodAll_mk1 (shut_bool Tryd.underlying4 _),(trodAll_cons_mk (Below.trod laidOut (by kernel_rfl) (of_decide_eq_true (by kernel_rfl)) h0 bel lt0) (trodAll_cons_mk (ChangeMaps.shut_string Tryd.underlying9 hs1) (trodAll_cons_mk (Below.trod laidOut (by kernel_rfl) (of_decide_eq_true (by kernel_rfl)) h2 bel lt2) (trodAll_cons_mk (shut_int Tryd.underlying3 w3) trodAll_mk0)))),rfl,bel.frame _,fun h=>by cases h⟩
theorem laid_met (os:Os):laidMet Tryd.prog Rows.labelsKeysRow.laid ((laidWorldH os).forCall (fun _ _=>0) ⟨#[],#[.slice none 0 0,.string ⟨#[]⟩,.slice none 0 0,.int .i64 0],[]⟩).memory :=
 laidMet_of_run' 8 (by kernel_rfl) (by kernel_rfl)
theorem reads (os:Os) {H:Type} (enc:TypeId × Value→H):∃ places,DataW.whole enc Tryd.prog ((laidWorldH os).forCall (fun _ _=>0) ⟨#[],#[.slice none 0 0,.string ⟨#[]⟩,.slice none 0 0,.int .i64 0],[]⟩).memory Tryd.f3.params.toList Rows.labelsKeysSpec.vars false #[Value.slice none 0 0,Value.string ⟨#[]⟩,Value.slice none 0 0,Value.int .i64 0].toList 8=some ([.nil,.lit (.string []),.nil,.lit (.int .i64 0)],[],places) :=
 ⟨[],by kernel_rfl⟩
set_option maxRecDepth 100000 in
theorem lifted (os:Os) (started:os.Started) (H:Type) (enc:TypeId × Value→H) (F:Stop.Interp) :
 ReturnsInHanded {} Tryd.checked os 3 .any ((OpenSpec.ofChange Rows.labelsKeysSpec).preRow enc Tryd.prog Tryd.f3 Rows.labelsKeysRow.domain false Rows.labelsKeysRow.laid) (((OpenSpec.ofChange Rows.labelsKeysSpec).at F).post enc Tryd.prog Tryd.f3 false true false false):=by
 obtain ⟨places,hx⟩:=reads os enc
 refine returnsInHanded_of_row (C:=Tryd.checked) (s:=OpenSpec.ofChange Rows.labelsKeysSpec) ownKnobs started (by kernel_rfl) Tryd.func3
  (witness_row_at (enc:=enc) (C:=Tryd.checked) false (laidWorldH os) #[.slice none 0 0,.string ⟨#[]⟩,.slice none 0 0,.int .i64 0] rfl (by kernel_rfl) (by kernel_rfl) (by kernel_rfl)
    (OpenSpec.preRow_of_cond 8 hx (by kernel_rfl) (fun k hk=>by cases hk) (by kernel_rfl) (laid_met os))) ?_
 intro W base args ds gs before hval hW _ _ hR hL _ _
 exact contract H enc W base args ds gs before hval hW hR hL
theorem said:Rows.LabelsKeysSaid :=
 OpenClaim.holds_of_cond 3 Tryd.f3 rfl rfl rfl rfl rfl rfl rfl ⟨rfl,rfl,rfl,rfl,rfl⟩ rfl rfl rfl rfl rfl (by kernel_rfl) Tryd.func3 (by kernel_rfl)
  (of_decide_eq_true (by kernel_rfl)) (by unfold Func.isWrapper;first | (rw [if_pos (by decide +kernel)];kernel_rfl) | (rw [if_neg (by decide +kernel)];exact ⟨rfl,rfl⟩))
  (fun os started H enc _ F=>by rw [OpenClaim.pre_eq_preRow];exact lifted os started H enc F)
theorem plain (f:FuncId) (fn:Func) (hf:Tryd.pinned.checked.prog.funcNamed "synod/synodlaw15.LabelsKeys" = some f) (hfn:Tryd.pinned.checked.prog.funcs[f]? = some fn) :
 false=Tryd.pinned.checked.prog.looks []∧∀ (j:Nat) t,fn.params[j]? = some t→Tryd.pinned.checked.prog.wantsStandIn t=false:=by
 obtain rfl:f=3:=Option.some.inj ((show Tryd.prog.funcNamed "synod/synodlaw15.LabelsKeys" = some 3 by kernel_rfl).symm.trans hf) |>.symm
 obtain rfl:fn=Tryd.f3:=(Option.some.inj (Tryd.func3.symm.trans hfn)).symm
 refine ⟨by kernel_rfl,fun j t ht => ?_⟩
 rw [Tryd.params3] at ht
 have h:t=22∨t=9∨t=22∨t=3:=by simpa using Array.mem_of_getElem? ht
 rcases h with rfl | rfl | rfl | rfl
 · exact (show Tryd.prog.wantsStandIn 22=false by kernel_rfl)
 · exact (show Tryd.prog.wantsStandIn 9=false by kernel_rfl)
 · exact (show Tryd.prog.wantsStandIn 22=false by kernel_rfl)
 · exact (show Tryd.prog.wantsStandIn 3=false by kernel_rfl)
end Go.Proofs.YtibdhadbflfdpaaDoor.LabelsKeysCard
namespace Go.Proofs.YtibdhadbflfdpaaDoor
theorem labelsKeys_card:Rows.LabelsKeysCardSaid :=
 Claim7.holds_tied_plain_at .later [] _ _ _ _ LabelsKeysCard.said (fun _ h=>by cases h) (by kernel_rfl) (fun _ h=>by cases h) labelsKeys_row_tie rfl ⟨rfl,rfl⟩ (by kernel_rfl) rfl LabelsKeysCard.plain (by kernel_rfl)
end Go.Proofs.YtibdhadbflfdpaaDoor
