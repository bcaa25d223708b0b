/- What the proof stands on: Kit, G9Op. -/
import Derived.Test.YtalgabgofpmebaaBaseM
import Derived.ChangeOld
import Derived.ChangeSlices
import Derived.Deep.DeepHandedRow
import Derived.Lib.LaidTab
import Derived.Lib.SmallJoins
import Derived.OpenShut
import Derived.ProofKit
import Derived.SizedLaws
import Derived.WalkKit
namespace Go.Proofs.Ytalgabgofpmebaa
open Go.ChangeShapes Go.WideShapes Go.ChangeAt Go.RowKit
theorem ownKnobs:ownKnob Try.prog.godebug=none:=by kernel_rfl
theorem laidOut:laidOutB Try.prog=true:=by kernel_rfl
theorem cellsOfByte:Try.prog.cellsOf 5=1:=by kernel_rfl
theorem bytesOfByte:Try.prog.bytesOf 5=1:=by kernel_rfl
set_option maxRecDepth 20000 in
theorem open_bytes {H:Type} {enc:TypeId × Value→H} {W:World} {base:Nat} {v:Value} {d:DataW H} {ps:List MemPlace} (hval:Value.okWide Try.prog W .any base 22 v) (h:DataW.Trod enc Try.prog W 0 (fun _=>true) true 22 v d ps) :
 ∃ n bs,BytesIn W v n bs∧(∀ j,bs j<256)∧(n=0∨∃ elems spare,d = .slice elems spare∧elems.length=n):=by
 obtain ⟨a0,len,cap,rfl⟩:=okWide_slice Try.underlying22 hval
 obtain ⟨fuel,hf⟩:=h
 have hc:Cell.ok Try.prog W .any base 22 (.slice a0 len cap):=by
  unfold Value.okWide Cell.okWide at hval
  simp only [Try.underlying22] at hval
  exact hval
 rcases open_ints Try.underlying22 Try.underlying5 cellsOfByte hf with ⟨hcs,hx⟩ | ⟨a,len',cap',zs,hcs,_,hl,hm,hz,hx,hcell,hwz⟩
 · simp [Value.cells] at hcs
   obtain ⟨rfl,rfl,rfl⟩:=hcs
   exact ⟨0,fun _=>0,.inl ⟨none,rfl,rfl⟩,fun _=>Nat.zero_lt_succ _,.inl rfl⟩
 · simp [Value.cells] at hcs
   obtain ⟨rfl,rfl,rfl⟩:=hcs
   simp only [Prod.mk.injEq] at hx
   obtain ⟨rfl,rfl⟩:=hx
   simp only [if_true] at hz
   unfold Cell.ok at hc
   simp only [Try.underlying22] at hc
   obtain ⟨_,_,_,hs,row,cells,hsh,_⟩:=hc
   obtain ⟨b,off,spot⟩:=a
   subst hs
   have hbl:b<W.heap.size:=by
    rcases Nat.lt_or_ge b W.heap.size with h | h
    · exact h
    · unfold World.shape? at hsh
      rw [Array.getElem?_eq_none h] at hsh
      cases hsh
   have hn:∀ j,0≤zs.getD j 0∧zs.getD j 0<256:=fun j=>by
    rw [List.getD_eq_getElem?_getD]
    cases h:zs[j]? with
    | none=>simp
    | some x =>
     have:=hwz x (List.mem_of_getElem? h)
     have h0:(0:Int)≤x∧x≤255:=by simpa [Lit.wf,IntKind.min,IntKind.max,IntKind.signed,IntKind.bits] using this
     show 0≤x∧x<256
     omega
   refine ⟨len,fun j=>(zs.getD j 0).toNat,.inr ⟨b,off,cap,rfl,hbl,hl,fun j hj => ?_⟩,fun j => ?_,.inr ⟨_,_,rfl,?_⟩⟩
   · have h:=hcell j (by omega)
     rw [Addr.add_mid] at h
     rw [h,Int.toNat_of_nonneg (hn j).1]
   · have:=hn j
     show (zs.getD j 0).toNat<256
     omega
   · simp [lits];omega
theorem bytes_reach {H:Type} {ts:List TypeId} {ds:List (DataW H)} (hR:(DataW.weightsEach Try.prog ts ds).all (·≤reachBytes)=true) {j n:Nat} {d:DataW H} (ht:ts[j]? = some 22) (hd:ds[j]? = some d) (h:n=0∨∃ elems spare,d = .slice elems spare∧elems.length=n):n<140737488355000:=by
 rcases h with h | ⟨elems,spare,rfl,rfl⟩
 · omega
 · have:=sized_slice hR ht hd Try.underlying22
   rw [bytesOfByte] at this
   unfold reachBytes at this
   omega
end Go.Proofs.Ytalgabgofpmebaa
namespace Go.Proofs.Ytalgabgofpmebaa
open Go.ChangeShapes Go.WideShapes Go.ChangeAt Go.RowKit Go.Joins Go.Deep
theorem plain_cell {w:World} {b o:Nat} {sp:Option Nat} {v:Value} (h:w.cell? ((⟨b,o,sp⟩:Addr).add 0)=some v):sp=none:=by
 cases sp with
 | none=>rfl
 | some k =>
  exfalso
  unfold World.cell? Addr.add at h
  simp at h
  split at h <;> simp at h
theorem bytes_in_cell {H:Type} {enc:TypeId × Value→H} {W:World} {fuel:Nat} {v:Value} {x:DataW H × List MemPlace} (h:DataW.trod enc Try.prog W 0 (fun _=>true) true fuel 22 [v]=some x):∃ n bs,BytesIn W v n bs∧(∀ j,bs j<256)∧(n=0∨∃ elems spare,x.1 = .slice elems spare∧elems.length=n):=by
 rcases open_ints Try.underlying22 Try.underlying5 cellsOfByte h with ⟨hcs,hx⟩ | ⟨a,len,cap,zs,hcs,_,hl,hm,hz,hx,hcell,hwz⟩
 · obtain rfl:v = .slice none 0 0:=by simpa using hcs
   exact ⟨0,fun _=>0,.inl ⟨none,rfl,rfl⟩,fun _=>Nat.zero_lt_succ _,.inl rfl⟩
 · obtain rfl:v = .slice (some a) len cap:=by simpa using hcs
   simp only [if_true] at hz
   have hn:∀ j,0≤zs.getD j 0∧zs.getD j 0<256:=fun j=>by
    rw [List.getD_eq_getElem?_getD]
    cases h:zs[j]? with
    | none=>simp
    | some x =>
     have:=hwz x (List.mem_of_getElem? h)
     have h0:(0:Int)≤x∧x≤255:=by simpa [Lit.wf,IntKind.min,IntKind.max,IntKind.signed,IntKind.bits] using this
     show 0≤x∧x<256
     omega
   refine ⟨len,fun j=>(zs.getD j 0).toNat,?_,fun j=>by have:=hn j;show (zs.getD j 0).toNat<256;omega,.inr ⟨_,_,by rw [hx],?_⟩⟩
   · by_cases hC:cap=0
     · exact .inl ⟨some a,by rw [hC,show len=0 by omega],by omega⟩
     · obtain ⟨b,o,sp⟩:=a
       have hc0:=hcell 0 (by omega)
       obtain rfl:=plain_cell hc0
       rw [Addr.add_mid] at hc0
       refine .inr ⟨b,o,cap,rfl,block_lt_of_cell hc0,hl,fun j hj => ?_⟩
       have h:=hcell j (by omega)
       rw [Addr.add_mid] at h
       rw [h,Int.toNat_of_nonneg (hn j).1]
   · simp [lits]
     omega
theorem cellsOfCase:Try.prog.cellsOf 33=4:=by kernel_rfl
theorem under_case:∃ f0 f1 f2 f3:Field,Try.prog.underlying 33=some (.struct #[f0,f1,f2,f3])∧oneCellFields Try.prog #[f0,f1,f2,f3]=true∧f0.type=22∧f1.type=22∧f2.type=22∧f3.type=22:=⟨_,_,_,_,Try.underlying33,by kernel_rfl,rfl,rfl,rfl,rfl⟩
theorem open_case {H:Type} {enc:TypeId × Value→H} {W:World} {base:Nat} {v:Value} {d:DataW H} {ps:List MemPlace} {ts:List TypeId} {ds:List (DataW H)} (hval:Value.okWide Try.prog W .any base 33 v) (h:DataW.Trod enc Try.prog W 0 (fun _=>true) true 33 v d ps)
 (hR:(DataW.weightsEach Try.prog ts ds).all (·≤reachBytes)=true) {j:Nat} (ht:ts[j]? = some 33) (hd:ds[j]? = some d) :
 ∃ v0 v1 v2 v3 n0 n1 n2 n3 b0 b1 b2 b3,v = .agg #[v0,v1,v2,v3]∧(BytesIn W v0 n0 b0∧(∀ j,b0 j<256)∧n0<140737488355000)∧(BytesIn W v1 n1 b1∧(∀ j,b1 j<256)∧n1<140737488355000)∧(BytesIn W v2 n2 b2∧(∀ j,b2 j<256)∧n2<140737488355000)∧(BytesIn W v3 n3 b3∧(∀ j,b3 j<256)∧n3<140737488355000):=by
 obtain ⟨f0,f1,f2,f3,hu,hone,t0,t1,t2,t3⟩:=under_case
 obtain ⟨v0,v1,v2,v3,y0,y1,y2,y3,n,rfl,rfl,rfl,g0,g1,g2,g3⟩:=open_agg4 hu hone cellsOfCase hval h
 rw [t0] at g0
 rw [t1] at g1
 rw [t2] at g2
 rw [t3] at g3
 obtain ⟨n0,b0,i0,l0,d0⟩:=bytes_in_cell g0
 obtain ⟨n1,b1,i1,l1,d1⟩:=bytes_in_cell g1
 obtain ⟨n2,b2,i2,l2,d2⟩:=bytes_in_cell g2
 obtain ⟨n3,b3,i3,l3,d3⟩:=bytes_in_cell g3
 have hR':(DataW.weightsEach Try.prog [22,22,22,22] [y0.1,y1.1,y2.1,y3.1]).all (·≤reachBytes)=true:=by
  refine List.all_eq_true.2 fun x hx=>List.all_eq_true.1 hR x (DataW.weights_mem_each ht hd x ?_)
  simp only [DataW.weights,hu,List.map_cons,List.map_nil,t0,t1,t2,t3]
  exact hx
 exact ⟨v0,v1,v2,v3,n0,n1,n2,n3,b0,b1,b2,b3,rfl,⟨i0,l0,bytes_reach hR' (j:=0) rfl rfl d0⟩,⟨i1,l1,bytes_reach hR' (j:=1) rfl rfl d1⟩,⟨i2,l2,bytes_reach hR' (j:=2) rfl rfl d2⟩,⟨i3,l3,bytes_reach hR' (j:=3) rfl rfl d3⟩⟩
end Go.Proofs.Ytalgabgofpmebaa
