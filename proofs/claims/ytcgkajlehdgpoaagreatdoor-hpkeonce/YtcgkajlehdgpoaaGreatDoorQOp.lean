/- An order of the laws of hpke, and a list of them, as the reading hands them. -/
import Derived.Test.YtcgkajlehdgpoaaGreatDoorLentM
import Derived.Lib.SmallJoins
namespace Go.Proofs.YtcgkajlehdgpoaaGreatDoor
open Go.ChangeShapes Go.WideShapes Go.ChangeAt Go.RowKit Go.Joins Go.Deep
theorem plain_cellQ {w:World} {b o:Nat} {sp:Option Nat} {v:Value} (h:w.cell? ((⟨b,o,sp⟩:Addr).add 0)=some v):sp=none:=by
 cases sp with
 | none=>rfl
 | some k =>
  exfalso
  unfold World.cell? Addr.add at h
  simp at h
  split at h <;> simp at h
theorem bytes_in_cellQ {H:Type} {enc:TypeId × Value→H} {W:World} {fuel:Nat} {v:Value} {x:DataW H × List MemPlace} (h:DataW.trod enc Tryz.prog W 0 (fun _=>true) true fuel 22 [v]=some x) (hw:∀ n∈x.1.weights Tryz.prog 22,n≤reachBytes):∃ n bs,BytesIn W v n bs∧(∀ j,bs j<256)∧n+300<140737488355000:=by
 rcases open_ints Tryz.underlying22 Tryz.underlying5 cellsOfByte h with ⟨hcs,hx⟩ | ⟨a,len,cap,zs,hcs,_,hl,hm,hz,hx,hcell,hwz⟩
 · obtain rfl:v = .slice none 0 0:=by simpa using hcs
   exact ⟨0,fun _=>0,.inl ⟨none,rfl,rfl⟩,fun _=>Nat.zero_lt_succ _,by decide⟩
 · obtain rfl:v = .slice (some a) len cap:=by simpa using hcs
   simp only [if_true] at hz
   have hn:∀ j,0≤zs.getD j 0∧zs.getD j 0<256:=fun j=>by
    rw [List.getD_eq_getElem?_getD]
    cases h:zs[j]? with
    | none=>simp
    | some x =>
     have:=hwz x (List.mem_of_getElem? h)
     have h0:(0:Int)≤x∧x≤255:=by simpa [Lit.wf,IntKind.min,IntKind.max,IntKind.signed,IntKind.bits] using this
     show 0≤x∧x<256
     omega
   refine ⟨len,fun j=>(zs.getD j 0).toNat,?_,fun j=>by have:=hn j;show (zs.getD j 0).toNat<256;omega,?_⟩
   · by_cases hC:cap=0
     · exact .inl ⟨some a,by rw [hC,show len=0 by omega],by omega⟩
     · obtain ⟨b,o,sp⟩:=a
       have hc0:=hcell 0 (by omega)
       obtain rfl:=plain_cellQ hc0
       rw [Addr.add_mid] at hc0
       refine .inr ⟨b,o,cap,rfl,block_lt_of_cell hc0,hl,fun j hj => ?_⟩
       have h:=hcell j (by omega)
       rw [Addr.add_mid] at h
       rw [h,Int.toNat_of_nonneg (hn j).1]
   · have:=hw (zs.length*1) (by
      rw [hx]
      simp only [DataW.weights,Tryz.underlying22,bytesOfByte,List.mem_cons]
      left
      simp [lits]
      omega)
     unfold reachBytes at this
     omega
theorem cellsOfOpQ:Tryz.prog.cellsOf 41=4:=by kernel_rfl
theorem under_opQ:∃ f0 f1 f2 f3:Field,Tryz.prog.underlying 41=some (.struct #[f0,f1,f2,f3])∧oneCellFields Tryz.prog #[f0,f1,f2,f3]=true∧f0.type=3∧f1.type=3∧f2.type=22∧f3.type=22:=⟨_,_,_,_,Tryz.underlying41,by kernel_rfl,rfl,rfl,rfl,rfl⟩
theorem weights_opQ {H:Type} {a b c d:DataW H}:(∀ n∈c.weights Tryz.prog 22,n∈(DataW.agg [a,b,c,d]).weights Tryz.prog 41)∧∀ n∈d.weights Tryz.prog 22,n∈(DataW.agg [a,b,c,d]).weights Tryz.prog 41:=by
 obtain ⟨f0,f1,f2,f3,hu,-,t0,t1,t2,t3⟩:=under_opQ
 constructor
 · intro n hn
   simp only [DataW.weights,hu]
   exact DataW.weights_mem_each (j:=2) (t:=22) (by simp [t2]) rfl n hn
 · intro n hn
   simp only [DataW.weights,hu]
   exact DataW.weights_mem_each (j:=3) (t:=22) (by simp [t3]) rfl n hn
set_option maxRecDepth 20000 in
theorem open_opQ {H:Type} {enc:TypeId × Value→H} {W:World} {base:Nat} {v:Value} {d:DataW H} {ps:List MemPlace} {ts:List TypeId} {ds:List (DataW H)} (hval:Value.okWide Tryz.prog W .any base 41 v) (h:DataW.Trod enc Tryz.prog W 0 (fun _=>true) true 41 v d ps)
 (hR:(DataW.weightsEach Tryz.prog ts ds).all (·≤reachBytes)=true) {j:Nat} (ht:ts[j]? = some 41) (hd:ds[j]? = some d) :
 ∃ z0 z1 v2 v3 n2 n3 b2 b3,v = .agg #[.int .i64 z0,.int .i64 z1,v2,v3]∧(BytesIn W v2 n2 b2∧(∀ j,b2 j<256)∧n2+300<140737488355000)∧(BytesIn W v3 n3 b3∧(∀ j,b3 j<256)∧n3+300<140737488355000):=by
 obtain ⟨f0,f1,f2,f3,hu,hone,t0,t1,t2,t3⟩:=under_opQ
 obtain ⟨v0,v1,v2,v3,y0,y1,y2,y3,n,rfl,rfl,rfl,g0,g1,g2,g3⟩:=open_agg4 hu hone cellsOfOpQ hval h
 rw [t0] at g0
 rw [t1] at g1
 rw [t2] at g2
 rw [t3] at g3
 have hw:∀ n∈(DataW.agg [y0.1,y1.1,y2.1,y3.1]).weights Tryz.prog 41,n≤reachBytes:=fun n hn =>
  of_decide_eq_true (List.all_eq_true.1 hR n (DataW.weights_mem_each ht hd n hn))
 obtain ⟨z0,hz0,-,-⟩:=DataW.trod_int Tryz.underlying3 g0
 obtain ⟨z1,hz1,-,-⟩:=DataW.trod_int Tryz.underlying3 g1
 obtain rfl:v0 = .int .i64 z0:=by simpa using hz0
 obtain rfl:v1 = .int .i64 z1:=by simpa using hz1
 obtain ⟨n2,b2,i2,l2,d2⟩:=bytes_in_cellQ g2 (fun n hn=>hw n (weights_opQ.1 n hn))
 obtain ⟨n3,b3,i3,l3,d3⟩:=bytes_in_cellQ g3 (fun n hn=>hw n (weights_opQ.2 n hn))
 exact ⟨z0,z1,v2,v3,n2,n3,b2,b3,rfl,⟨i2,l2,d2⟩,⟨i3,l3,d3⟩⟩
end Go.Proofs.YtcgkajlehdgpoaaGreatDoor
