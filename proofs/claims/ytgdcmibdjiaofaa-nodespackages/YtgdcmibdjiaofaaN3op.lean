/- Leaves, parents and packages, as the reading hands them. -/
import Derived.Test.YtgdcmibdjiaofaaN3laM
namespace Go.Proofs.Ytgdcmibdjiaofaa
open Go.ChangeShapes Go.WideShapes Go.ChangeAt Go.RowKit
theorem plainC {w:World} {b o:Nat} {sp:Option Nat} {v:Value} (h:w.cell? ((⟨b,o,sp⟩:Addr).add 0)=some v):sp=none:=by
 cases sp with
 | none=>rfl
 | some k =>
  exfalso
  unfold World.cell? Addr.add at h
  simp at h
  split at h <;> simp at h
section
variable {H:Type} {enc:TypeId × Value→H} {W:World} {fuel:Nat} {x:DataW H × List MemPlace}
theorem bytesC {v:Value} (h:DataW.trod enc Try.prog W 0 (fun _=>true) true fuel 22 [v]=some x):∃ t:Tx,BytesIn W v t.n t.b∧(∀ j,t.b j<256)∧(t.n=0∨∃ elems spare,x.1 = .slice elems spare∧elems.length=t.n):=by
 rcases open_ints Try.underlying22 Try.underlying5 cellsOfByte h with ⟨hcs,hx⟩ | ⟨a,len,cap,zs,hcs,_,hl,hm,hz,hx,hcell,hwz⟩
 · obtain rfl:v = .slice none 0 0:=by simpa using hcs
   exact ⟨tx0,.inl ⟨none,rfl,rfl⟩,fun _=>Nat.zero_lt_succ _,.inl rfl⟩
 · obtain rfl:v = .slice (some a) len cap:=by simpa using hcs
   simp only [if_true] at hz
   have hn:∀ j,0≤zs.getD j 0∧zs.getD j 0<256:=fun j=>by
    rw [List.getD_eq_getElem?_getD]
    cases h:zs[j]? with
    | none=>simp
    | some x =>
     have:=hwz x (List.mem_of_getElem? h)
     have h0:(0:Int)≤x∧x≤255:=by simpa [Lit.wf,IntKind.min,IntKind.max,IntKind.signed,IntKind.bits] using this
     show 0≤x∧x<256
     omega
   refine ⟨⟨len,fun j=>(zs.getD j 0).toNat⟩,?_,fun j=>by have:=hn j;show (zs.getD j 0).toNat<256;omega,.inr ⟨_,_,by rw [hx],?_⟩⟩
   · by_cases hC:cap=0
     · exact .inl ⟨some a,by rw [hC,show len=0 by omega],show len=0 by omega⟩
     · obtain ⟨b,o,sp⟩:=a
       have hc0:=hcell 0 (by omega)
       obtain rfl:=plainC hc0
       rw [Addr.add_mid] at hc0
       refine .inr ⟨b,o,cap,rfl,block_lt_of_cell hc0,hl,fun j hj => ?_⟩
       replace hj:j<len:=hj
       have h:=hcell j (by omega)
       rw [Addr.add_mid] at h
       rw [h]
       show _=some (Value.int .u8 (((zs.getD j 0).toNat:Nat):Int))
       rw [Int.toNat_of_nonneg (hn j).1]
   · simp [lits]
     omega
theorem cellsOfInt:Try.prog.cellsOf 3=1:=by kernel_rfl
theorem bytesOfInt:Try.prog.bytesOf 3=8:=by kernel_rfl
theorem intsC {v:Value} (h:DataW.trod enc Try.prog W 0 (fun _=>true) true fuel 42 [v]=some x):∃ l:List Int,ZIx W v l∧(l.length=0∨∃ elems spare,x.1 = .slice elems spare∧elems.length=l.length):=by
 rcases open_ints und_ints Try.underlying3 cellsOfInt h with ⟨hcs,hx⟩ | ⟨a,len,cap,zs,hcs,_,hl,hm,hz,hx,hcell,hwz⟩
 · obtain rfl:v = .slice none 0 0:=by simpa using hcs
   exact ⟨[],⟨none,0,rfl,fun _=>rfl,fun i z hz=>by simp at hz⟩,.inl rfl⟩
 · obtain rfl:v = .slice (some a) len cap:=by simpa using hcs
   simp only [if_true] at hz
   have hlen:(zs.take len).length=len:=by simp;omega
   refine ⟨zs.take len,⟨some a,cap,by rw [hlen],(fun e=>by cases e),fun i z hi => ?_⟩,.inr ⟨_,_,by rw [hx],?_⟩⟩
   · have hi':=(List.getElem?_eq_some_iff.1 hi).1
     rw [hlen] at hi'
     obtain ⟨b,o,sp⟩:=a
     obtain rfl:=plainC (hcell 0 (by omega))
     have hc:=hcell i (by omega)
     rw [Addr.add_mid] at hc
     rw [List.getElem?_take_of_lt hi'] at hi
     rw [List.getD_eq_getElem?_getD,hi] at hc
     exact ⟨b,o,rfl,block_lt_of_cell hc,hc⟩
   · simp [lits]
end
theorem under_leaf:∃ f0 f1 f2 f3 f4 f5:Field,Try.prog.underlying 24=some (.struct #[f0,f1,f2,f3,f4,f5])∧(f0.type=22∧f1.type=22∧f2.type=22∧f3.type=3∧f4.type=22∧f5.type=22)∧(f0.offset=0∧f1.offset=1∧f2.offset=2∧f3.offset=3∧f4.offset=4∧f5.offset=5):=⟨_,_,_,_,_,_,Try.underlying24,⟨rfl,rfl,rfl,rfl,rfl,rfl⟩,⟨rfl,rfl,rfl,rfl,rfl,rfl⟩⟩
theorem under_parent:∃ f0 f1 f2:Field,Try.prog.underlying 44=some (.struct #[f0,f1,f2])∧(f0.type=22∧f1.type=22∧f2.type=42)∧(f0.offset=0∧f1.offset=1∧f2.offset=2):=⟨_,_,_,Try.underlying44,⟨rfl,rfl,rfl⟩,⟨rfl,rfl,rfl⟩⟩
theorem under_package:∃ f0 f1 f2:Field,Try.prog.underlying 56=some (.struct #[f0,f1,f2])∧(f0.type=22∧f1.type=24∧f2.type=22)∧(f0.offset=0∧f1.offset=1∧f2.offset=7):=⟨_,_,_,Try.underlying56,⟨rfl,rfl,rfl⟩,⟨rfl,rfl,rfl⟩⟩
theorem cellsOfBytes:Try.prog.cellsOf 22=1:=by kernel_rfl
theorem cellsOfInts:Try.prog.cellsOf 42=1:=by kernel_rfl
theorem cellsOfLeaf:Try.prog.cellsOf 24=6:=by kernel_rfl
theorem cellsOfParent:Try.prog.cellsOf 44=3:=by kernel_rfl
theorem cellsOfPackage:Try.prog.cellsOf 56=8:=by kernel_rfl
section
variable {H:Type} {enc:TypeId × Value→H} {W:World} {fuel:Nat} {x:DataW H × List MemPlace}
set_option maxRecDepth 20000 in
theorem leafC {cs:List Value} (h:DataW.trod enc Try.prog W 0 (fun _=>true) true fuel 24 cs=some x) (hR:(DataW.weightsEach Try.prog [24] [x.1]).all (·≤reachBytes)=true):∃ d,LfIn W cs d∧lfK d∧lfL d:=by
 obtain ⟨f0,f1,f2,f3,f4,f5,hu,⟨t0,t1,t2,t3,t4,t5⟩,o0,o1,o2,o3,o4,o5⟩:=under_leaf
 obtain ⟨xs,n,_,rfl,hl,hlen,hf⟩:=DataW.trod_struct hu h
 rw [cellsOfLeaf] at hl
 match xs,hlen,cs,hl with
 | [y0,y1,y2,y3,y4,y5],_,[v0,v1,v2,v3,v4,v5],_ =>
  have g0:=hf 0 f0 rfl
  have g1:=hf 1 f1 rfl
  have g2:=hf 2 f2 rfl
  have g3:=hf 3 f3 rfl
  have g4:=hf 4 f4 rfl
  have g5:=hf 5 f5 rfl
  rw [t0,o0,cellsOfBytes] at g0
  rw [t1,o1,cellsOfBytes] at g1
  rw [t2,o2,cellsOfBytes] at g2
  rw [t3,o3,cellsOfInt] at g3
  rw [t4,o4,cellsOfBytes] at g4
  rw [t5,o5,cellsOfBytes] at g5
  obtain ⟨a0,i0,l0,d0⟩:=bytesC (x:=y0) g0
  obtain ⟨a1,i1,l1,d1⟩:=bytesC (x:=y1) g1
  obtain ⟨a2,i2,l2,d2⟩:=bytesC (x:=y2) g2
  obtain ⟨a4,i4,l4,d4⟩:=bytesC (x:=y4) g4
  obtain ⟨a5,i5,l5,d5⟩:=bytesC (x:=y5) g5
  obtain ⟨z,rfl⟩:∃ z,v3 = .int .i64 z:=by
   obtain ⟨z,hz,-⟩:=DataW.trod_int Try.underlying3 (show DataW.trod enc Try.prog W 0 (fun _=>true) true n 3 [v3]=some y3 from g3)
   exact ⟨z,by simpa using hz⟩
  have hR':(DataW.weightsEach Try.prog [22,22,22,3,22,22] [y0.1,y1.1,y2.1,y3.1,y4.1,y5.1]).all (·≤reachBytes)=true:=by
   refine List.all_eq_true.2 fun x hx=>List.all_eq_true.1 hR x (DataW.weights_mem_each (j:=0) rfl rfl x ?_)
   simp only [List.map_cons,List.map_nil,DataW.weights,hu,t0,t1,t2,t3,t4,t5]
   exact hx
  exact ⟨⟨a0,a1,a2,z,a4,a5⟩,⟨v0,v1,v2,v4,v5,rfl,i0,i1,i2,i4,i5⟩,⟨l0,l1,l2,l4,l5⟩,⟨bytes_reach hR' (j:=0) rfl rfl d0,bytes_reach hR' (j:=1) rfl rfl d1,bytes_reach hR' (j:=2) rfl rfl d2,bytes_reach hR' (j:=4) rfl rfl d4,bytes_reach hR' (j:=5) rfl rfl d5⟩⟩
set_option maxRecDepth 20000 in
theorem open_leaf {base:Nat} {v:Value} {d:DataW H} {ps:List MemPlace} {ts:List TypeId} {ds:List (DataW H)} (hval:Value.okWide Try.prog W .any base 24 v) (h:DataW.Trod enc Try.prog W 0 (fun _=>true) true 24 v d ps)
 (hR:(DataW.weightsEach Try.prog ts ds).all (·≤reachBytes)=true) {j:Nat} (ht:ts[j]? = some 24) (hd:ds[j]? = some d):∃ cs e,v = .agg cs.toArray∧LfIn W cs e∧lfK e∧lfL e:=by
 obtain ⟨f0,f1,f2,f3,f4,f5,hu,-⟩:=under_leaf
 obtain ⟨cs,rfl,-⟩:=okWide_struct hu hval
 obtain ⟨fuel,hf⟩:=h
 have hR':(DataW.weightsEach Try.prog [24] [d]).all (·≤reachBytes)=true:=List.all_eq_true.2 fun x hx=>List.all_eq_true.1 hR x (DataW.weights_mem_each ht hd x (by simpa [DataW.weightsEach] using hx))
 obtain ⟨e,h1,h2,h3⟩:=leafC (x:=(d,ps)) (cs:=cs.toList) hf hR'
 exact ⟨cs.toList,e,by simp,h1,h2,h3⟩
set_option maxRecDepth 20000 in
theorem open_parent {base:Nat} {v:Value} {d:DataW H} {ps:List MemPlace} {ts:List TypeId} {ds:List (DataW H)} (hval:Value.okWide Try.prog W .any base 44 v) (h:DataW.Trod enc Try.prog W 0 (fun _=>true) true 44 v d ps)
 (hR:(DataW.weightsEach Try.prog ts ds).all (·≤reachBytes)=true) {j:Nat} (ht:ts[j]? = some 44) (hd:ds[j]? = some d):∃ cs e,v = .agg cs.toArray∧PrIx W cs e∧prK e∧prL e:=by
 obtain ⟨f0,f1,f2,hu,⟨t0,t1,t2⟩,o0,o1,o2⟩:=under_parent
 obtain ⟨cs,rfl,hsz⟩:=okWide_struct hu hval
 rw [cellsOfParent] at hsz
 obtain ⟨fuel,hf⟩:=h
 obtain ⟨xs,n,_,hx,hl,hlen,hg⟩:=DataW.trod_struct hu hf
 obtain ⟨l⟩:=cs
 match xs,hlen,l,hsz with
 | [y0,y1,y2],_,[v0,v1,v2],_ =>
  have g0:=hg 0 f0 rfl
  have g1:=hg 1 f1 rfl
  have g2:=hg 2 f2 rfl
  rw [t0,o0,cellsOfBytes] at g0
  rw [t1,o1,cellsOfBytes] at g1
  rw [t2,o2,cellsOfInts] at g2
  obtain ⟨a0,i0,l0,d0⟩:=bytesC (x:=y0) g0
  obtain ⟨a1,i1,l1,d1⟩:=bytesC (x:=y1) g1
  obtain ⟨a2,i2,d2⟩:=intsC (x:=y2) g2
  simp only [List.map_cons,List.map_nil,Prod.mk.injEq] at hx
  obtain ⟨rfl,-⟩:=hx
  have hR':(DataW.weightsEach Try.prog [22,22,42] [y0.1,y1.1,y2.1]).all (·≤reachBytes)=true:=by
   refine List.all_eq_true.2 fun x hx=>List.all_eq_true.1 hR x (DataW.weights_mem_each ht hd x ?_)
   simp only [DataW.weights,hu,t0,t1,t2,List.map_cons,List.map_nil]
   exact hx
  refine ⟨[v0,v1,v2],⟨a0,a1,a2⟩,rfl,⟨v0,v1,v2,rfl,i0,i1,i2⟩,⟨l0,l1⟩,⟨bytes_reach hR' (j:=0) rfl rfl d0,bytes_reach hR' (j:=1) rfl rfl d1,?_⟩⟩
  rcases d2 with d2 | ⟨elems,spare,e2,l2⟩
  · show a2.length*8≤_
    omega
  · have:=sized_slice hR' (j:=2) rfl (by rw [←e2];rfl) und_ints
    rw [bytesOfInt] at this
    unfold reachBytes at this
    show a2.length*8≤_
    rw [←l2]
    omega
set_option maxRecDepth 20000 in
theorem open_package {base:Nat} {v:Value} {d:DataW H} {ps:List MemPlace} {ts:List TypeId} {ds:List (DataW H)} (hval:Value.okWide Try.prog W .any base 56 v) (h:DataW.Trod enc Try.prog W 0 (fun _=>true) true 56 v d ps)
 (hR:(DataW.weightsEach Try.prog ts ds).all (·≤reachBytes)=true) {j:Nat} (ht:ts[j]? = some 56) (hd:ds[j]? = some d):∃ cs e,v = .agg cs.toArray∧PkIn W cs e∧pkK e∧pkL e:=by
 obtain ⟨f0,f1,f2,hu,⟨t0,t1,t2⟩,o0,o1,o2⟩:=under_package
 obtain ⟨cs,rfl,hsz⟩:=okWide_struct hu hval
 rw [cellsOfPackage] at hsz
 obtain ⟨fuel,hf⟩:=h
 obtain ⟨xs,n,_,hx,hl,hlen,hg⟩:=DataW.trod_struct hu hf
 obtain ⟨l⟩:=cs
 match xs,hlen,l,hsz with
 | [y0,y1,y2],_,[v0,v1,v2,v3,v4,v5,v6,v7],_ =>
  have g0:=hg 0 f0 rfl
  have g1:=hg 1 f1 rfl
  have g2:=hg 2 f2 rfl
  rw [t0,o0,cellsOfBytes] at g0
  rw [t1,o1,cellsOfLeaf] at g1
  rw [t2,o2,cellsOfBytes] at g2
  simp only [List.map_cons,List.map_nil,Prod.mk.injEq] at hx
  obtain ⟨rfl,-⟩:=hx
  have hR':(DataW.weightsEach Try.prog [22,24,22] [y0.1,y1.1,y2.1]).all (·≤reachBytes)=true:=by
   refine List.all_eq_true.2 fun x hx=>List.all_eq_true.1 hR x (DataW.weights_mem_each ht hd x ?_)
   simp only [DataW.weights,hu,t0,t1,t2,List.map_cons,List.map_nil]
   exact hx
  obtain ⟨a0,i0,l0,d0⟩:=bytesC (x:=y0) g0
  obtain ⟨a1,i1,k1,l1⟩:=leafC (x:=y1) (cs:=[v1,v2,v3,v4,v5,v6]) g1 (List.all_eq_true.2 fun x hx=>List.all_eq_true.1 hR' x (DataW.weights_mem_each (j:=1) rfl rfl x (by simpa [DataW.weightsEach] using hx)))
  obtain ⟨a2,i2,l2,d2⟩:=bytesC (x:=y2) g2
  exact ⟨[v0,v1,v2,v3,v4,v5,v6,v7],⟨a0,a1,a2⟩,rfl,⟨v0,[v1,v2,v3,v4,v5,v6],v7,rfl,i0,i1,i2⟩,⟨l0,k1,l2⟩,⟨bytes_reach hR' (j:=0) rfl rfl d0,l1,bytes_reach hR' (j:=2) rfl rfl d2⟩⟩
end
end Go.Proofs.Ytgdcmibdjiaofaa
