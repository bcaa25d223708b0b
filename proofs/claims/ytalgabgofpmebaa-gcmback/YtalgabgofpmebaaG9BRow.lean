/- The law GcmBack returns true for every argument, and leaves all as it was. -/
import Derived.Test.YtalgabgofpmebaaG9HM
import Derived.Test.YtalgabgofpmebaaKitM
namespace Go.Proofs.Ytalgabgofpmebaa.GcmBackRow
open Go.ChangeShapes Go.WideShapes Go.ChangeAt Go.RowKit
theorem contract (H:Type) (enc:TypeId × Value→H) (W:World) (base:Nat) (args:Array Value) (ds gs:List (DataW H)) (before:List MemPlace)
 (hval:∀ (j:Nat) t v,Try.f7.params[j]? = some t→args[j]? = some v→Value.okWide Try.prog W .any base t v)
 (hW:DataW.Whole enc Try.prog Try.f7.params.toList Rows.gcmBackSpec.vars false W args.toList ds gs before) (hR:(DataW.weightsEach Try.prog (Try.f7.params.toList ++ (OpenSpec.ofChange Rows.gcmBackSpec).bare.plain.varTypes Try.prog) (ds ++ gs)).all (·≤reachBytes)=true) :
 Calls Try.prog 7 args W fun e W'=>∃ v,e = .returned v∧Rows.gcmBackSpec.post enc Try.prog Try.f7 false true false false W args v W':=by
 have hW':=hW
 obtain ⟨p,q,hA0,hV,rfl,hfz,hnd⟩:=hW
 have hA:DataW.TrodAll enc Try.prog W 0 (fun _=>true) true Try.f7.params.toList args.toList ds p:=hA0
 rw [Try.params7] at hA hval hR
 obtain ⟨v0,vs0,d0,ds0,p0,q0,hargs,rfl,rfl,h0,r0⟩:=trodAll_cons hA
 obtain ⟨v1,vs1,d1,ds1,p1,q1,rfl,rfl,rfl,h1,r1⟩:=trodAll_cons r0
 obtain ⟨v2,vs2,d2,ds2,p2,q2,rfl,rfl,rfl,h2,r2⟩:=trodAll_cons r1
 obtain ⟨v3,vs3,d3,ds3,p3,q3,rfl,rfl,rfl,h3,r3⟩:=trodAll_cons r2
 obtain ⟨rfl,rfl,rfl⟩:=trodAll_nil r3
 obtain rfl:args=#[v0,v1,v2,v3]:=by cases args;simp_all
 obtain ⟨rfl,rfl⟩:=trodVars_none hV
 have lt0:∀ x∈p0,x.block<W.heap.size:=by obtain ⟨m,hm⟩:=h0;exact DataW.trod_lt m _ _ _ hm
 obtain ⟨y0,y1,y2,y3,m0,m1,m2,m3,c0,c1,c2,c3,rfl,⟨ib0,il0,in0⟩,⟨ib1,il1,in1⟩,⟨ib2,il2,in2⟩,⟨ib3,il3,in3⟩⟩:=open_case (hval 0 33 v0 rfl rfl) h0 hR (j:=0) rfl rfl
 have lt1:∀ x∈p1,x.block<W.heap.size:=by obtain ⟨m,hm⟩:=h1;exact DataW.trod_lt m _ _ _ hm
 obtain ⟨n1,bs1,hb1,hl1,hd1⟩:=open_bytes (hval 1 22 v1 rfl rfl) h1
 have hn1:=bytes_reach hR (j:=1) rfl rfl hd1
 obtain ⟨z2,rfl,rfl,rfl,w2⟩:=open_int Try.underlying3 (hval 2 3 v2 rfl rfl) h2
 obtain ⟨z3,rfl,rfl,rfl,w3⟩:=open_int Try.underlying5 (hval 3 5 v3 rfl rfl) h3
 clear hA0 hR
 have o3x:(0:Int)≤z3∧z3≤255:=by simpa [Lit.wf,IntKind.min,IntKind.max,IntKind.signed,IntKind.bits] using w3
 obtain ⟨x3,rfl⟩:∃ x:Nat,z3=(x:Int):=⟨z3.toNat,by omega⟩
 have l3x:x3<256:=by omega
 refine (gcmBack_any y0 y1 y2 y3 v1 m0 m1 m2 m3 n1 c0 c1 c2 c3 bs1 il0 il1 il2 il3 hl1 z2 x3 l3x W ib0 ib1 ib2 ib3 hb1).mono fun e W' ⟨he,bel⟩ => ?_
 subst he
 exact ⟨_,rfl,_,_,_,[],_,[],hW',trodAll_mk1 (shut_bool Try.underlying4 _),(trodAll_cons_mk (Below.trod laidOut (by kernel_rfl) (of_decide_eq_true (by kernel_rfl)) h0 bel lt0) (trodAll_cons_mk (Below.trod laidOut (by kernel_rfl) (of_decide_eq_true (by kernel_rfl)) h1 bel lt1) (trodAll_cons_mk (shut_int Try.underlying3 w2) (trodAll_cons_mk (shut_int Try.underlying5 w3) trodAll_mk0)))),rfl,bel.frame _,fun h=>by cases h⟩
theorem laid_met (os:Os):laidMet Try.prog Rows.gcmBackRow.laid ((World.holding Try.prog os ⟨#[],#[],[]⟩).forCall (fun _ _=>0) ⟨#[],#[.agg #[.slice none 0 0,.slice none 0 0,.slice none 0 0,.slice none 0 0],.slice none 0 0,.int .i64 0,.int .u8 0],[]⟩).memory :=
 laidMet_of_run' 8 (by kernel_rfl) (by kernel_rfl)
theorem reads (os:Os) {H:Type} (enc:TypeId × Value→H):∃ places,DataW.whole enc Try.prog ((World.holding Try.prog os ⟨#[],#[],[]⟩).forCall (fun _ _=>0) ⟨#[],#[.agg #[.slice none 0 0,.slice none 0 0,.slice none 0 0,.slice none 0 0],.slice none 0 0,.int .i64 0,.int .u8 0],[]⟩).memory Try.f7.params.toList Rows.gcmBackSpec.vars false #[Value.agg #[.slice none 0 0,.slice none 0 0,.slice none 0 0,.slice none 0 0],Value.slice none 0 0,Value.int .i64 0,Value.int .u8 0].toList 8=some ([.agg [.nil,.nil,.nil,.nil],.nil,.lit (.int .i64 0),.lit (.int .u8 0)],[],places) :=
 ⟨[],by kernel_rfl⟩
set_option maxRecDepth 100000 in
theorem lifted (os:Os) (started:os.Started) (H:Type) (enc:TypeId × Value→H) (F:Stop.Interp) :
 ReturnsInHanded {} Try.checked os 7 .any ((OpenSpec.ofChange Rows.gcmBackSpec).preRow enc Try.prog Try.f7 Rows.gcmBackRow.domain false Rows.gcmBackRow.laid) (((OpenSpec.ofChange Rows.gcmBackSpec).at F).post enc Try.prog Try.f7 false true false false):=by
 obtain ⟨places,hx⟩:=reads os enc
 refine returnsInHanded_of_row (C:=Try.checked) (s:=OpenSpec.ofChange Rows.gcmBackSpec) ownKnobs started (by kernel_rfl) Try.func7
  (witness_row_at (enc:=enc) (C:=Try.checked) false (World.holding Try.prog os ⟨#[],#[],[]⟩) #[.agg #[.slice none 0 0,.slice none 0 0,.slice none 0 0,.slice none 0 0],.slice none 0 0,.int .i64 0,.int .u8 0] rfl (by kernel_rfl) (by kernel_rfl) (by kernel_rfl)
    (OpenSpec.preRow_of_cond 8 hx (by kernel_rfl) (fun k hk=>by cases hk) (by kernel_rfl) (laid_met os))) ?_
 intro W base args ds gs before hval hW _ _ hR _ _ _
 exact contract H enc W base args ds gs before hval hW hR
end Go.Proofs.Ytalgabgofpmebaa.GcmBackRow
namespace Go.Proofs.Ytalgabgofpmebaa
theorem gcmBack_said:Rows.GcmBackSaid :=
 OpenClaim.holds_of_cond 7 Try.f7 rfl rfl rfl rfl rfl rfl rfl ⟨rfl,rfl,rfl,rfl,rfl⟩ rfl rfl rfl rfl rfl (by kernel_rfl) Try.func7 (by kernel_rfl)
  (of_decide_eq_true (by kernel_rfl)) (by unfold Func.isWrapper;first | (rw [if_pos (by decide +kernel)];kernel_rfl) | (rw [if_neg (by decide +kernel)];exact ⟨rfl,rfl⟩))
  (fun os started H enc _ F=>by rw [OpenClaim.pre_eq_preRow];exact GcmBackRow.lifted os started H enc F)
end Go.Proofs.Ytalgabgofpmebaa
