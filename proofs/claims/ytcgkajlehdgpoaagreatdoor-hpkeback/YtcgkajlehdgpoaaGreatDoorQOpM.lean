/- What the proof stands on: QOp, EdA, EdB, EdC, RootMath, EdD. -/
import Derived.Test.YtcgkajlehdgpoaaGreatDoorBaseM
import Derived.Test.YtcgkajlehdgpoaaGreatDoorLProdM
import Derived.Lib.SmallJoins
namespace Go.Proofs.YtcgkajlehdgpoaaGreatDoor
open Go.ChangeShapes Go.WideShapes Go.ChangeAt Go.RowKit Go.Joins Go.Deep
theorem plain_cellQ {w:World} {b o:Nat} {sp:Option Nat} {v:Value} (h:w.cell? ((⟨b,o,sp⟩:Addr).add 0)=some v):sp=none:=by
 cases sp with
 | none=>rfl
 | some k =>
  exfalso
  unfold World.cell? Addr.add at h
  simp at h
  split at h <;> simp at h
theorem bytes_in_cellQ {H:Type} {enc:TypeId × Value→H} {W:World} {fuel:Nat} {v:Value} {x:DataW H × List MemPlace} (h:DataW.trod enc Tryz.prog W 0 (fun _=>true) true fuel 22 [v]=some x) (hw:∀ n∈x.1.weights Tryz.prog 22,n≤reachBytes):∃ n bs,BytesIn W v n bs∧(∀ j,bs j<256)∧n+300<140737488355000:=by
 rcases open_ints Tryz.underlying22 Tryz.underlying5 cellsOfByte h with ⟨hcs,hx⟩ | ⟨a,len,cap,zs,hcs,_,hl,hm,hz,hx,hcell,hwz⟩
 · obtain rfl:v = .slice none 0 0:=by simpa using hcs
   exact ⟨0,fun _=>0,.inl ⟨none,rfl,rfl⟩,fun _=>Nat.zero_lt_succ _,by decide⟩
 · obtain rfl:v = .slice (some a) len cap:=by simpa using hcs
   simp only [if_true] at hz
   have hn:∀ j,0≤zs.getD j 0∧zs.getD j 0<256:=fun j=>by
    rw [List.getD_eq_getElem?_getD]
    cases h:zs[j]? with
    | none=>simp
    | some x =>
     have:=hwz x (List.mem_of_getElem? h)
     have h0:(0:Int)≤x∧x≤255:=by simpa [Lit.wf,IntKind.min,IntKind.max,IntKind.signed,IntKind.bits] using this
     show 0≤x∧x<256
     omega
   refine ⟨len,fun j=>(zs.getD j 0).toNat,?_,fun j=>by have:=hn j;show (zs.getD j 0).toNat<256;omega,?_⟩
   · by_cases hC:cap=0
     · exact .inl ⟨some a,by rw [hC,show len=0 by omega],by omega⟩
     · obtain ⟨b,o,sp⟩:=a
       have hc0:=hcell 0 (by omega)
       obtain rfl:=plain_cellQ hc0
       rw [Addr.add_mid] at hc0
       refine .inr ⟨b,o,cap,rfl,block_lt_of_cell hc0,hl,fun j hj => ?_⟩
       have h:=hcell j (by omega)
       rw [Addr.add_mid] at h
       rw [h,Int.toNat_of_nonneg (hn j).1]
   · have:=hw (zs.length*1) (by
      rw [hx]
      simp only [DataW.weights,Tryz.underlying22,bytesOfByte,List.mem_cons]
      left
      simp [lits]
      omega)
     unfold reachBytes at this
     omega
theorem cellsOfOpQ:Tryz.prog.cellsOf 41=4:=by kernel_rfl
theorem under_opQ:∃ f0 f1 f2 f3:Field,Tryz.prog.underlying 41=some (.struct #[f0,f1,f2,f3])∧oneCellFields Tryz.prog #[f0,f1,f2,f3]=true∧f0.type=3∧f1.type=3∧f2.type=22∧f3.type=22:=⟨_,_,_,_,Tryz.underlying41,by kernel_rfl,rfl,rfl,rfl,rfl⟩
theorem weights_opQ {H:Type} {a b c d:DataW H}:(∀ n∈c.weights Tryz.prog 22,n∈(DataW.agg [a,b,c,d]).weights Tryz.prog 41)∧∀ n∈d.weights Tryz.prog 22,n∈(DataW.agg [a,b,c,d]).weights Tryz.prog 41:=by
 obtain ⟨f0,f1,f2,f3,hu,-,t0,t1,t2,t3⟩:=under_opQ
 constructor
 · intro n hn
   simp only [DataW.weights,hu]
   exact DataW.weights_mem_each (j:=2) (t:=22) (by simp [t2]) rfl n hn
 · intro n hn
   simp only [DataW.weights,hu]
   exact DataW.weights_mem_each (j:=3) (t:=22) (by simp [t3]) rfl n hn
structure OpsQ (w:World) (xo:Option Addr) (cnt:Nat) (kd nn:Nat→Int) (mv tv:Nat→Value) (mn tn:Nat→Nat) (mb tb:Nat→Nat→Nat):Prop where
 cell:∀ i,i<cnt→∃ b off,xo=some ⟨b,off,none⟩∧b<w.heap.size∧w.rangeAt b (off+i*4) [.int .i64 (kd i),.int .i64 (nn i),mv i,tv i]
 more:∀ i,i<cnt→BytesIn w (mv i) (mn i) (mb i)∧(∀ j,mb i j<256)∧mn i+300<140737488355000
 text:∀ i,i<cnt→BytesIn w (tv i) (tn i) (tb i)∧(∀ j,tb i j<256)∧tn i+300<140737488355000
theorem weights_all {H:Type} {e:TypeId} {d:DataW H}:∀ {l:List (DataW H)},d∈l→∀ n∈d.weights Tryz.prog e,n∈DataW.weightsAll Tryz.prog e l
 | [],h,_,_=>by cases h
 | a :: r,h,n,hn=>by
  simp only [DataW.weightsAll,List.mem_append]
  rcases List.mem_cons.1 h with rfl | h
  · exact .inl hn
  · exact .inr (weights_all h n hn)
theorem bytesOfOpQ:Tryz.prog.bytesOf 41=64:=by kernel_rfl
set_option maxRecDepth 20000 in
theorem open_opsQ {H:Type} {enc:TypeId × Value→H} {W:World} {base:Nat} {v:Value} {d:DataW H} {ps:List MemPlace} {ts:List TypeId} {ds:List (DataW H)} (hval:Value.okWide Tryz.prog W .any base 39 v) (h:DataW.Trod enc Tryz.prog W 0 (fun _=>true) true 39 v d ps)
 (hR:(DataW.weightsEach Tryz.prog ts ds).all (·≤reachBytes)=true) {j:Nat} (ht:ts[j]? = some 39) (hd:ds[j]? = some d) :
 ∃ xo cnt cap kd nn mv tv mn tn mb tb,v = .slice xo cnt cap∧cnt≤cap∧cnt<140737488355000∧OpsQ W xo cnt kd nn mv tv mn tn mb tb:=by
 obtain ⟨a0,len,cap,rfl⟩:=okWide_slice Tryz.underlying39 hval
 obtain ⟨fuel,hf⟩:=h
 have hc:Cell.ok Tryz.prog W .any base 39 (.slice a0 len cap):=by
  unfold Value.okWide Cell.okWide at hval
  simp only [Tryz.underlying39] at hval
  exact hval
 have hw:∀ n∈d.weights Tryz.prog 39,n≤reachBytes:=fun n hn =>
  of_decide_eq_true (List.all_eq_true.1 hR n (DataW.weights_mem_each ht hd n hn))
 rcases Deep.open_slice Tryz.underlying39 hf with ⟨hcs,hx⟩ | ⟨a,len',cap',m,n,D,Pl,hcs,_,hl,hm,hmm,hx,hrow⟩
 · simp [Value.cells] at hcs
   obtain ⟨rfl,rfl,rfl⟩:=hcs
   exact ⟨none,0,0,fun _=>0,fun _=>0,fun _ => .slice none 0 0,fun _ => .slice none 0 0,fun _=>0,fun _=>0,fun _ _=>0,fun _ _=>0,rfl,Nat.le_refl _,by decide,⟨fun q hq=>by omega,fun q hq=>by omega,fun q hq=>by omega⟩⟩
 · simp [Value.cells] at hcs
   obtain ⟨rfl,rfl,rfl⟩:=hcs
   simp only [if_true] at hmm
   unfold Cell.ok at hc
   simp only [Tryz.underlying39] at hc
   obtain ⟨_,_,_,hs,_⟩:=hc
   obtain ⟨b,off,spot⟩:=a
   subst hs
   rw [cellsOfOpQ] at hrow
   obtain ⟨hx1,-⟩:=Prod.mk.inj hx
   rw [hx1] at hw
   simp only [DataW.weights,Tryz.underlying39,List.mem_cons,List.mem_append] at hw
   have hcnt:len<140737488355000:=by
    have:=hw _ (.inl rfl)
    rw [bytesOfOpQ] at this
    simp only [List.length_map,List.length_range] at this
    unfold reachBytes at this
    omega
   have each:∀ i,i<len→∃ q:(Int × Int × Value × Value) × (Nat × Nat) × (Nat→Nat) × (Nat→Nat),W.rangeAt b (off+i*4) [.int .i64 q.1.1,.int .i64 q.1.2.1,q.1.2.2.1,q.1.2.2.2]∧b<W.heap.size∧(BytesIn W q.1.2.2.1 q.2.1.1 q.2.2.1∧(∀ j,q.2.2.1 j<256)∧q.2.1.1+300<140737488355000)∧(BytesIn W q.1.2.2.2 q.2.1.2 q.2.2.2∧(∀ j,q.2.2.2 j<256)∧q.2.1.2+300<140737488355000):=by
    intro i hi
    obtain ⟨cs',h1,h2⟩:=hrow i (by omega)
    obtain ⟨_,hlen,hcell⟩:=World.cells?_some h1
    obtain ⟨xs,k,hk,hxy,_,hxl,hfd⟩:=DataW.trod_struct Tryz.underlying41 h2
    match xs,hxl,cs',hlen with
    | [y0,y1,y2,y3],_,[v0,v1,v2,v3],_ =>
     have g0:=hfd 0 _ rfl
     have g1:=hfd 1 _ rfl
     have g2:=hfd 2 _ rfl
     have g3:=hfd 3 _ rfl
     have k1:Tryz.prog.cellsOf 22=1:=by kernel_rfl
     have k2:Tryz.prog.cellsOf 3=1:=by kernel_rfl
     simp [k1,k2] at g0 g1 g2 g3
     obtain ⟨z0,hz0,-,-⟩:=DataW.trod_int Tryz.underlying3 g0
     obtain ⟨z1,hz1,-,-⟩:=DataW.trod_int Tryz.underlying3 g1
     obtain rfl:v0 = .int .i64 z0:=by simpa using hz0
     obtain rfl:v1 = .int .i64 z1:=by simpa using hz1
     obtain ⟨hD,-⟩:=Prod.mk.inj hxy
     have hwi:∀ n∈(D i).weights Tryz.prog 41,n≤reachBytes:=fun n hn=>hw n (.inr (.inl (weights_all (List.mem_map.2 ⟨i,List.mem_range.2 hi,rfl⟩) n hn)))
     rw [hD] at hwi
     obtain ⟨n2,b2,i2,l2,d2⟩:=bytes_in_cellQ g2 (fun n hn=>hwi n (weights_opQ.1 n hn))
     obtain ⟨n3,b3,i3,l3,d3⟩:=bytes_in_cellQ g3 (fun n hn=>hwi n (weights_opQ.2 n hn))
     have e0:=hcell 0 (by omega)
     have e1:=hcell 1 (by omega)
     have e2:=hcell 2 (by omega)
     have e3:=hcell 3 (by omega)
     rw [Addr.add_mid,Addr.add_mid] at e0 e1 e2 e3
     refine ⟨((z0,z1,v2,v3),(n2,n3),b2,b3),fun j v hv => ?_,block_lt_of_cell (by simpa using e0),⟨i2,l2,d2⟩,⟨i3,l3,d3⟩⟩
     match j,hv with
     | 0,hv=>rw [←hv];simpa using e0
     | 1,hv=>rw [←hv];simpa using e1
     | 2,hv=>rw [←hv];simpa using e2
     | 3,hv=>rw [←hv];simpa using e3
     | j+4,hv=>simp at hv
   obtain ⟨q,hq⟩:=Deep.choose_lt (α:=(Int × Int × Value × Value) × (Nat × Nat) × (Nat→Nat) × (Nat→Nat)) each
   exact ⟨some ⟨b,off,none⟩,len,cap,fun i=>(q i).1.1,fun i=>(q i).1.2.1,fun i=>(q i).1.2.2.1,fun i=>(q i).1.2.2.2,fun i=>(q i).2.1.1,fun i=>(q i).2.1.2,fun i=>(q i).2.2.1,fun i=>(q i).2.2.2,rfl,hl,hcnt,⟨fun i hi=>⟨b,off,rfl,(hq i hi).2.1,(hq i hi).1⟩,fun i hi=>(hq i hi).2.2.1,fun i hi=>(hq i hi).2.2.2⟩⟩
end Go.Proofs.YtcgkajlehdgpoaaGreatDoor
namespace Go.Proofs.YtcgkajlehdgpoaaGreatDoor
section
variable {n:Nat} [NeZero n]
theorem ed_closed {x1 y1 x2 y2 D i j:Fin n} (h1:x1^2+y1^2=1+D*x1^2*y1^2) (h2:x2^2+y2^2=1+D*x2^2*y2^2) (hi:(1+D*x1*x2*y1*y2)*i=1) (hj:(1-D*x1*x2*y1*y2)*j=1) :
 ((x1*y2+x2*y1)*i)^2+((y1*y2-x1*x2)*j)^2=1+D*((x1*y2+x2*y1)*i)^2*((y1*y2-x1*x2)*j)^2:=by
 have h:(x1*y2+x2*y1)^2*(1-D*x1*x2*y1*y2)^2+(y1*y2-x1*x2)^2*(1+D*x1*x2*y1*y2)^2=(1+D*x1*x2*y1*y2)^2*(1-D*x1*x2*y1*y2)^2+D*(x1*y2+x2*y1)^2*(y1*y2-x1*x2)^2:=by grind
 generalize x1*y2+x2*y1=a at *
 generalize y1*y2-x1*x2=b at *
 generalize 1+D*x1*x2*y1*y2=p at *
 generalize 1-D*x1*x2*y1*y2=m at *
 grind
theorem ed_cross {a b c d e f:Fin n} (h:a*d=c*b) (hb:b*e=1) (hd:d*f=1):a*e=c*f:=by grind
theorem ed_assoc_x {x1 y1 x2 y2 x3 y3 D:Fin n} (h1:x1^2+y1^2=1+D*x1^2*y1^2) (h2:x2^2+y2^2=1+D*x2^2*y2^2) (h3:x3^2+y3^2=1+D*x3^2*y3^2) :
 ((x1*y2+x2*y1)*y3*(1 - D*x1*x2*y1*y2)+x3*(y1*y2-x1*x2)*(1+D*x1*x2*y1*y2))*((1+D*x2*x3*y2*y3)*(1 - D*x2*x3*y2*y3)+D*x1*(x2*y3+x3*y2)*y1*(y2*y3-x2*x3))=(x1*(y2*y3-x2*x3)*(1+D*x2*x3*y2*y3)+(x2*y3+x3*y2)*y1*(1 - D*x2*x3*y2*y3))*((1+D*x1*x2*y1*y2)*(1 - D*x1*x2*y1*y2)+D*(x1*y2+x2*y1)*x3*(y1*y2-x1*x2)*y3):=by
 grind (splits:=0)
theorem ed_assoc_y {x1 y1 x2 y2 x3 y3 D:Fin n} (h1:x1^2+y1^2=1+D*x1^2*y1^2) (h2:x2^2+y2^2=1+D*x2^2*y2^2) (h3:x3^2+y3^2=1+D*x3^2*y3^2) :
 ((y1*y2-x1*x2)*y3*(1+D*x1*x2*y1*y2) - (x1*y2+x2*y1)*x3*(1 - D*x1*x2*y1*y2))*((1+D*x2*x3*y2*y3)*(1 - D*x2*x3*y2*y3) - D*x1*(x2*y3+x3*y2)*y1*(y2*y3-x2*x3))=(y1*(y2*y3-x2*x3)*(1+D*x2*x3*y2*y3) - x1*(x2*y3+x3*y2)*(1 - D*x2*x3*y2*y3))*((1+D*x1*x2*y1*y2)*(1 - D*x1*x2*y1*y2) - D*(x1*y2+x2*y1)*x3*(y1*y2-x1*x2)*y3):=by
 grind (splits:=0)
theorem ed_up_x {a b p m i j c d q k r s x1 y1 x3 y3 D:Fin n} (hi:p*i=1) (hj:m*j=1) (hr:q*r=1) (hs:k*s=1)
 (h:(a*y3*m+x3*b*p)*(q*k+D*x1*c*y1*d)=(x1*d*q+c*y1*k)*(p*m+D*a*x3*b*y3)) :
 ((a*i)*y3+x3*(b*j))*(1+D*x1*(c*r)*y1*(d*s))=(x1*(d*s)+(c*r)*y1)*(1+D*(a*i)*x3*(b*j)*y3):=by
 have e1:(a*i)*y3+x3*(b*j)=(a*y3*m+x3*b*p)*(i*j):=by grind
 have e2:1+D*x1*(c*r)*y1*(d*s)=(q*k+D*x1*c*y1*d)*(r*s):=by grind
 have e3:x1*(d*s)+(c*r)*y1=(x1*d*q+c*y1*k)*(r*s):=by grind
 have e4:1+D*(a*i)*x3*(b*j)*y3=(p*m+D*a*x3*b*y3)*(i*j):=by grind
 rw [e1,e2,e3,e4]
 generalize a*y3*m+x3*b*p=A at *
 generalize q*k+D*x1*c*y1*d=B at *
 generalize x1*d*q+c*y1*k=C at *
 generalize p*m+D*a*x3*b*y3=E at *
 clear e1 e2 e3 e4
 grind
theorem ed_up_y {a b p m i j c d q k r s x1 y1 x3 y3 D:Fin n} (hi:p*i=1) (hj:m*j=1) (hr:q*r=1) (hs:k*s=1)
 (h:(b*y3*p - a*x3*m)*(q*k - D*x1*c*y1*d)=(y1*d*q - x1*c*k)*(p*m - D*a*x3*b*y3)) :
 ((b*j)*y3 - (a*i)*x3)*(1 - D*x1*(c*r)*y1*(d*s))=(y1*(d*s) - x1*(c*r))*(1 - D*(a*i)*x3*(b*j)*y3):=by
 have e1:(b*j)*y3 - (a*i)*x3=(b*y3*p - a*x3*m)*(i*j):=by grind
 have e2:1 - D*x1*(c*r)*y1*(d*s)=(q*k - D*x1*c*y1*d)*(r*s):=by grind
 have e3:y1*(d*s) - x1*(c*r)=(y1*d*q - x1*c*k)*(r*s):=by grind
 have e4:1 - D*(a*i)*x3*(b*j)*y3=(p*m - D*a*x3*b*y3)*(i*j):=by grind
 rw [e1,e2,e3,e4]
 generalize b*y3*p - a*x3*m=A at *
 generalize q*k - D*x1*c*y1*d=B at *
 generalize y1*d*q - x1*c*k=C at *
 generalize p*m - D*a*x3*b*y3=E at *
 clear e1 e2 e3 e4
 grind
theorem ed_sq {x1 y1 x2 y2 D t:Fin n} (h1:x1^2+y1^2=1+D*x1^2*y1^2) (h2:x2^2+y2^2=1+D*x2^2*y2^2) (ht:t=D*x1*x2*y1*y2) (h:t*t=1) :
 (x1+t*y1)^2=D*(x1*y1*(x2+y2))^2∧(x1 - t*y1)^2=D*(x1*y1*(x2-y2))^2:=by
 constructor <;> grind
theorem ed_dbl {e A D x y s j X Z:Fin n} (he:e*e=1) (h1:x^2+y^2=1+D*x^2*y^2) (hD:D*(A+2*e)=A-2*e) (hj:(1-D*x*x*y*y)*j=1) (hX:X=e*s*(1+y)) (hZ:Z=s*(1-y)) (k:Fin n) (hk:4*k=A - 2) :
 e*(((X+Z)*(X+Z))*((X-Z)*(X-Z)))=(2*s*s*s*s*(A+2*e)*(1-D*y*y)*(1-D*x*x*y*y))*(1+(y*y-x*x)*j) ∧
 (((X+Z)*(X+Z)) - ((X-Z)*(X-Z)))*(((X+Z)*(X+Z))+k*(((X+Z)*(X+Z)) - ((X-Z)*(X-Z))))=(2*s*s*s*s*(A+2*e)*(1-D*y*y)*(1-D*x*x*y*y))*(1-(y*y-x*x)*j):=by
 have e1:(1-D*x*x*y*y)*(1+(y*y-x*x)*j)=2 - 2*x*x:=by grind
 have e2:(1-D*x*x*y*y)*(1-(y*y-x*x)*j)=2 - 2*y*y:=by grind
 constructor
 · have:(2*s*s*s*s*(A+2*e)*(1-D*y*y)*(1-D*x*x*y*y))*(1+(y*y-x*x)*j)=(2*s*s*s*s*(A+2*e)*(1-D*y*y))*(2-2*x*x):=by rw [←e1];grind
   rw [this,hX,hZ];clear this e1 e2 hj
   grind
 · have:(2*s*s*s*s*(A+2*e)*(1-D*y*y)*(1-D*x*x*y*y))*(1-(y*y-x*x)*j)=(2*s*s*s*s*(A+2*e)*(1-D*y*y))*(2-2*y*y):=by rw [←e2];grind
   rw [this,hX,hZ];clear this e1 e2 hj
   grind
theorem ed_l1 {D x2 y2 x3 y3:Fin n} (h2:x2^2+y2^2=1+D*x2^2*y2^2) (h3:x3^2+y3^2=1+D*x3^2*y3^2) :
 ((1-D*y2*y2)*(1-D*y3*y3))*(((1 - D*x2*x3*y2*y3)+(y2*y3 - x2*x3))*((1+D*x2*x3*y2*y3)+(y2*y3+x2*x3)))=((1-D)*(1-D*y2*y2*y3*y3))*((y2+y3)*(y2+y3)):=by grind
theorem ed_l2 {D x2 y2 x3 y3:Fin n} (h2:x2^2+y2^2=1+D*x2^2*y2^2) (h3:x3^2+y3^2=1+D*x3^2*y3^2) :
 ((1-D*y2*y2)*(1-D*y3*y3))*(((1 - D*x2*x3*y2*y3) - (y2*y3 - x2*x3))*((1+D*x2*x3*y2*y3) - (y2*y3+x2*x3)))=((1-D)*(1-D*y2*y2*y3*y3))*((y3-y2)*(y3-y2)):=by grind
theorem ed_lift {m j b:Fin n} (h:m*j=1):m*(1+b*j)=m+b∧m*(1-b*j)=m - b:=by constructor <;> grind
theorem ed_lift2 {y p c:Fin n} (h:y*p=c):p*(1+y)=p+c∧p*(1-y)=p - c:=by constructor <;> grind
theorem ed_b1 {e s r y2 y3 X2 Z2 X3 Z3:Fin n} (he:e*e=1) (hX2:X2=e*s*(1+y2)) (hZ2:Z2=s*(1-y2)) (hX3:X3=e*r*(1+y3)) (hZ3:Z3=r*(1-y3)) :
 (X3-Z3)*(X2+Z2)+(X3+Z3)*(X2-Z2)=4*s*r*(y2+y3)∧(X3-Z3)*(X2+Z2) - (X3+Z3)*(X2-Z2)=4*e*s*r*(y3-y2):=by
 rw [hX2,hZ2,hX3,hZ3];constructor <;> grind
theorem ed_c1 {e s r k g m p y y1 q v S:Fin n} (hk:q*k=1) (l:g*(m*(1+y)*(p*(1+y1)))=q*(v*v)) (hS:S=16*e*s*s*r*r*(p*(1+y1))*m*g*k):e*(4*s*r*v*(4*s*r*v))=S*(1+y):=by
 have h:v*v=k*(g*(m*(1+y)*(p*(1+y1)))):=by rw [l];clear l hS;grind
 have e1:e*(4*s*r*v*(4*s*r*v))=16*e*s*s*r*r*(v*v):=by clear l hS h hk;grind
 rw [e1,h,hS];clear e1 h l hS hk;grind
theorem ed_c2 {e s r k g m p y y1 q v u S:Fin n} (he:e*e=1) (hk:q*k=1) (hu:u*(1-y1)=e*(1+y1)) (l:g*(m*(1-y)*(p*(1-y1)))=q*(v*v)) (hS:S=16*e*s*s*r*r*(p*(1+y1))*m*g*k):u*(4*e*s*r*v*(4*e*s*r*v))=S*(1-y):=by
 have h:v*v=k*(g*(m*(1-y)*(p*(1-y1)))):=by rw [l];clear l hS hu;grind
 have e1:u*(4*e*s*r*v*(4*e*s*r*v))=16*s*s*r*r*(u*(v*v)):=by clear l hS h hk hu;grind
 have e2:u*(k*(g*(m*(1-y)*(p*(1-y1)))))=(u*(1-y1))*(k*g*m*(1-y)*p):=by clear e1 h l hS hu hk;grind
 rw [e1,h,e2,hu,hS];clear e1 e2 h l hS hu hk;grind
theorem ed_diff {e D x2 y2 x3 y3 y1 s r j k u X2 Z2 X3 Z3:Fin n} (he:e*e=1) (h2:x2^2+y2^2=1+D*x2^2*y2^2) (h3:x3^2+y3^2=1+D*x3^2*y3^2)
 (hy:y1*(1+D*x2*x3*y2*y3)=y2*y3+x2*x3) (hj:(1 - D*x2*x3*y2*y3)*j=1) (hk:((1-D)*(1-D*y2*y2*y3*y3))*k=1) (hu:u*(1-y1)=e*(1+y1))
 (hX2:X2=e*s*(1+y2)) (hZ2:Z2=s*(1-y2)) (hX3:X3=e*r*(1+y3)) (hZ3:Z3=r*(1-y3)) (S:Fin n)
 (hS:S=16*e*s*s*r*r*((1+D*x2*x3*y2*y3)*(1+y1))*(1 - D*x2*x3*y2*y3)*((1-D*y2*y2)*(1-D*y3*y3))*k) :
 e*(((X3-Z3)*(X2+Z2)+(X3+Z3)*(X2-Z2))*((X3-Z3)*(X2+Z2)+(X3+Z3)*(X2-Z2)))=S*(1+(y2*y3-x2*x3)*j) ∧
 u*(((X3-Z3)*(X2+Z2) - (X3+Z3)*(X2-Z2))*((X3-Z3)*(X2+Z2) - (X3+Z3)*(X2-Z2)))=S*(1-(y2*y3-x2*x3)*j):=by
 have l1:=ed_l1 h2 h3
 have l2:=ed_l2 h2 h3
 rw [←(ed_lift (b:=y2*y3-x2*x3) hj).1,←(ed_lift2 hy).1] at l1
 rw [←(ed_lift (b:=y2*y3-x2*x3) hj).2,←(ed_lift2 hy).2] at l2
 have b:=ed_b1 he hX2 hZ2 hX3 hZ3
 rw [b.1,b.2]
 exact ⟨ed_c1 hk l1 hS,ed_c2 he hk hu l2 hS⟩
end
end Go.Proofs.YtcgkajlehdgpoaaGreatDoor
namespace Go.Proofs.YtcgkajlehdgpoaaGreatDoor
section
variable {n:Nat} [NeZero n]
theorem g_one {D:Fin n} (e:1 - D*0*0=0):(1:Fin n)=0:=by grind
theorem g_z1 {D x y:Fin n}:1+D*x*0*y*1=1:=by grind
theorem g_z2 {D x y:Fin n}:1 - D*x*0*y*1=1:=by grind
theorem g_z3 {x y:Fin n}:(x*1+0*y)*1=x:=by grind
theorem g_z4 {x y:Fin n}:(y*1 - x*0)*1=y:=by grind
end
abbrev Fp:=Fin pF
instance:NeZero pF:=⟨by decide⟩
def fi (a:Fp):Fp:=⟨finv a.val,finv_lt _⟩
theorem fi_mul {a:Fp} (h:a≠0):a*fi a=1:=by
 refine Fin.ext ?_
 rw [Fin.val_mul]
 exact inv_mul (fun e=>h (Fin.ext e)) a.isLt
theorem fp_zero {a b:Fp} (h:a*b=0):a=0∨b=0:=by
 by_cases ha:a=0
 · exact .inl ha
 · right
   have h1:=fi_mul ha
   generalize fi a=i at *
   grind
theorem fp_ne {a b:Fp} (ha:a≠0) (hb:b≠0):a*b≠0:=fun h=>(fp_zero h).elim ha hb
theorem fp_unit {a b:Fp} (h:a*b=1):a≠0:=fun e=>by
 rw [e] at h
 have:(0:Fp)=1:=by grind
 exact absurd this (by decide)
def NS (D:Fp):Prop:=∀ z:Fp,z*z≠D
def On (D:Fp) (P:Fp × Fp):Prop:=P.1^2+P.2^2=1+D*P.1^2*P.2^2
def tt (D:Fp) (P Q:Fp × Fp):Fp:=D*P.1*Q.1*P.2*Q.2
theorem ns_one {D y:Fp} (h:NS D):1 - D*y*y≠0:=fun e=>by
 have hy:y≠0:=fun h0=>by
  rw [h0] at e
  exact absurd (g_one e) (by decide)
 have h1:=fi_mul hy
 refine h (fi y) ?_
 generalize fi y=i at *
 grind
theorem two_ne:(2:Fp)≠0:=by decide
theorem complete {D:Fp} (hD:NS D) {P Q:Fp × Fp} (hP:On D P) (hQ:On D Q):tt D P Q*tt D P Q≠1:=fun h=>by
 obtain ⟨x1,y1⟩:=P
 obtain ⟨x2,y2⟩:=Q
 unfold On at hP hQ
 unfold tt at h
 simp only at hP hQ h
 obtain ⟨t,ht⟩:∃ t,t=D*x1*x2*y1*y2:=⟨_,rfl⟩
 rw [←ht] at h
 obtain ⟨s1,s2⟩:=ed_sq hP hQ ht h
 have key:∀ a w:Fp,a^2=D*w^2→w=0:=fun a w hw=>Classical.byContradiction fun hne=>by
  have h1:=fi_mul hne
  refine hD (a*fi w) ?_
  generalize fi w=i at *
  grind
 have k1:=key _ _ s1
 have k2:=key _ _ s2
 clear s1 s2 key hP hQ
 have u1:x1*y1≠0:=fp_unit (b:=D*x2*y2*t) (by rw [ht] at h ⊢;clear k1 k2 ht;grind)
 have u2:x2*y2≠0:=fp_unit (b:=D*x1*y1*t) (by rw [ht] at h ⊢;clear k1 k2 ht;grind)
 have a1:=(fp_zero k1).resolve_left u1
 have a2:=(fp_zero k2).resolve_left u1
 have b1:2*x2=0:=by clear h ht k1 k2 u1 u2;grind
 have b2:=(fp_zero b1).resolve_left two_ne
 rw [b2] at u2
 exact u2 (by grind)
theorem com_p {D:Fp} (hD:NS D) {P Q:Fp × Fp} (hP:On D P) (hQ:On D Q):1+tt D P Q≠0:=fun h=>complete hD hP hQ (by generalize tt D P Q=t at *;grind)
theorem com_m {D:Fp} (hD:NS D) {P Q:Fp × Fp} (hP:On D P) (hQ:On D Q):1 - tt D P Q≠0:=fun h=>complete hD hP hQ (by generalize tt D P Q=t at *;grind)
def eadd (D:Fp) (P Q:Fp × Fp):Fp × Fp:=((P.1*Q.2+Q.1*P.2)*fi (1+D*P.1*Q.1*P.2*Q.2),(P.2*Q.2 - P.1*Q.1)*fi (1 - D*P.1*Q.1*P.2*Q.2))
theorem eadd_on {D:Fp} (hD:NS D) {P Q:Fp × Fp} (hP:On D P) (hQ:On D Q):On D (eadd D P Q) :=
 ed_closed hP hQ (fi_mul (com_p hD hP hQ)) (fi_mul (com_m hD hP hQ))
theorem eadd_assoc {D:Fp} (hD:NS D) {P Q R:Fp × Fp} (hP:On D P) (hQ:On D Q) (hR:On D R):eadd D (eadd D P Q) R=eadd D P (eadd D Q R):=by
 have i1:=fi_mul (com_p hD hP hQ)
 have j1:=fi_mul (com_m hD hP hQ)
 have i2:=fi_mul (com_p hD hQ hR)
 have j2:=fi_mul (com_m hD hQ hR)
 have i3:=fi_mul (com_p hD (eadd_on hD hP hQ) hR)
 have j3:=fi_mul (com_m hD (eadd_on hD hP hQ) hR)
 have i4:=fi_mul (com_p hD hP (eadd_on hD hQ hR))
 have j4:=fi_mul (com_m hD hP (eadd_on hD hQ hR))
 refine Prod.ext ?_ ?_
 · exact ed_cross (ed_up_x i1 j1 i2 j2 (ed_assoc_x hP hQ hR)) i3 i4
 · exact ed_cross (ed_up_y i1 j1 i2 j2 (ed_assoc_y hP hQ hR)) j3 j4
theorem eadd_comm (D:Fp) (P Q:Fp × Fp):eadd D P Q=eadd D Q P:=by
 unfold eadd
 have e1:P.1*Q.2+Q.1*P.2=Q.1*P.2+P.1*Q.2:=by grind
 have e2:D*P.1*Q.1*P.2*Q.2=D*Q.1*P.1*Q.2*P.2:=by grind
 have e3:P.2*Q.2 - P.1*Q.1=Q.2*P.2 - Q.1*P.1:=by grind
 rw [e1,e2,e3]
def ezero:Fp × Fp:=(0,1)
theorem ezero_on (D:Fp):On D ezero:=by unfold On ezero;simp only;grind
theorem fi_one:fi 1=1:=by
 have:=fi_mul (a:=1) (by decide)
 generalize fi 1=i at *
 grind
theorem eadd_zero (D:Fp) (P:Fp × Fp):eadd D P ezero=P:=by
 unfold eadd ezero
 simp only
 rw [g_z1,g_z2,fi_one]
 refine Prod.ext ?_ ?_
 · exact g_z3
 · exact g_z4
theorem zero_eadd (D:Fp) (P:Fp × Fp):eadd D ezero P=P:=by rw [eadd_comm,eadd_zero]
def eneg (P:Fp × Fp):Fp × Fp:=(0 - P.1,P.2)
theorem eneg_on {D:Fp} {P:Fp × Fp} (h:On D P):On D (eneg P):=by unfold On eneg at *;simp only;grind
theorem eneg_add {D:Fp} (hD:NS D) {P:Fp × Fp} (h:On D P):eadd D (eneg P) P=ezero:=by
 have i1:=fi_mul (com_p hD (eneg_on h) h)
 have j1:=fi_mul (com_m hD (eneg_on h) h)
 refine Prod.ext ?_ ?_
 · show ((0 - P.1)*P.2+P.1*P.2)*fi (1+D*(0 - P.1)*P.1*P.2*P.2)=0
   have:(0 - P.1)*P.2+P.1*P.2=0:=by grind
   rw [this];grind
 · show (P.2*P.2 - (0 - P.1)*P.1)*fi (1 - D*(0 - P.1)*P.1*P.2*P.2)=1
   have e:1 - tt D (eneg P) P=P.2*P.2 - (0 - P.1)*P.1:=by
    unfold tt eneg On at *;simp only;clear i1 j1;grind
   rw [←e]
   exact j1
def emul (D:Fp):Nat→Fp × Fp→Fp × Fp
 | 0,_=>ezero
 | n+1,P=>eadd D (emul D n P) P
theorem emul_on {D:Fp} (hD:NS D) {P:Fp × Fp} (h:On D P):∀ n,On D (emul D n P)
 | 0=>ezero_on D
 | n+1=>eadd_on hD (emul_on hD h n) h
theorem emul_add {D:Fp} (hD:NS D) {P:Fp × Fp} (h:On D P) (m:Nat):∀ n,emul D (m+n) P=eadd D (emul D m P) (emul D n P)
 | 0=>(eadd_zero D _).symm
 | n+1=>by
  show eadd D (emul D (m+n) P) P=_
  rw [emul_add hD h m n,eadd_assoc hD (emul_on hD h m) (emul_on hD h n) h]
  rfl
theorem emul_mul {D:Fp} (hD:NS D) {P:Fp × Fp} (h:On D P) (m:Nat):∀ n,emul D n (emul D m P)=emul D (m*n) P
 | 0=>rfl
 | n+1=>by
  show eadd D (emul D n (emul D m P)) (emul D m P)=_
  rw [emul_mul hD h m n,←emul_add hD h]
  rfl
theorem emul_comm {D:Fp} (hD:NS D) {P:Fp × Fp} (h:On D P) (m n:Nat):emul D n (emul D m P)=emul D m (emul D n P):=by
 rw [emul_mul hD h,emul_mul hD h,Nat.mul_comm]
end Go.Proofs.YtcgkajlehdgpoaaGreatDoor
namespace Go.Proofs.YtcgkajlehdgpoaaGreatDoor
section
variable {n:Nat} [NeZero n]
theorem g_e {e X S w:Fin n} (he:e*e=1) (h:e*X=S*w):X=e*S*w:=by grind
theorem g_sq {D y z:Fin n}:1 - D*y*y*z*z=1 - D*(y*z)*(y*z):=by grind
theorem g_d1 {D:Fin n}:1 - D=1 - D*1*1:=by grind
theorem g_rel {D q1 q2 r1 r2 p f:Fin n} (h:(q2*r2 - (0-q1)*r1)*f=p) (hf:(1 - D*(0-q1)*r1*q2*r2)*f=1):p*(1+D*q1*r1*q2*r2)=q2*r2+q1*r1:=by
 have e1:1 - D*(0-q1)*r1*q2*r2=1+D*q1*r1*q2*r2:=by clear h hf;grind
 have e2:q2*r2 - (0-q1)*r1=q2*r2+q1*r1:=by clear h hf e1;grind
 rw [e1] at hf
 rw [e2] at h
 generalize 1+D*q1*r1*q2*r2=a at *
 generalize q2*r2+q1*r1=b at *
 clear e1 e2
 grind
theorem g_swap {D q1 q2 r1 r2 p:Fin n} (h:p*(1+D*q1*r1*q2*r2)=q2*r2+q1*r1):p*(1+D*r1*q1*r2*q2)=r2*q2+r1*q1:=by
 have e1:D*r1*q1*r2*q2=D*q1*r1*q2*r2:=by clear h;grind
 rw [e1,h];clear e1 h;grind
theorem g_val {e s si X Z y f g:Fin n} (hs:s*si=1) (hX:X=e*s*(1+y)) (hZ:Z=s*(1-y)) (hf:Z*f=1) (hg:(1-y)*g=1):X*f=e*(1+y)*g:=by
 have h1:s*f*(1-y)=1:=by rw [hZ] at hf;clear hX hZ hg;grind
 have h2:s*f=g:=by clear hf hX hZ hs;generalize s*f=a at *;generalize 1-y=b at *;grind
 rw [hX,←h2];clear h1 h2 hf hg hX hZ hs;grind
theorem g_b0 {e f:Fin n} (he:e*e=1) (hf:2*f=1):1=e*(e*f)*(1+1):=by grind
theorem g_b1 {e f:Fin n} (he:e*e=1) (hf:2*f=1):(e*f)*(e*2)=1:=by grind
theorem g_b2 {s:Fin n}:0=s*(1-1):=by grind
theorem g_b3 {u e y f:Fin n} (hu:u*(1-y)=e*(1+y)) (hf:(1-y)*f=1):u=e*f*(1+y):=by
 generalize 1-y=a at *
 generalize 1+y=b at *
 grind
theorem g_b4 {a f:Fin n} (hf:a*f=1):1=f*a:=by grind
end
def RepP (e y X Z:Fp):Prop:=∃ s si:Fp,s*si=1∧X=e*s*(1+y)∧Z=s*(1-y)
theorem RepP.mk' {e y X Z S:Fp} (he:e*e=1) (hS:S≠0) (h1:e*X=S*(1+y)) (h2:Z=S*(1-y)):RepP e y X Z:=⟨S,fi S,fi_mul hS,g_e he h1,h2⟩
theorem rep_dbl {e A D k:Fp} (he:e*e=1) (hD:NS D) (hDA:D*(A+2*e)=A-2*e) (hA:A+2*e≠0) (hk:4*k=A-2) {Q:Fp × Fp} (hQ:On D Q) {X Z:Fp} (h:RepP e Q.2 X Z) :
 RepP e (eadd D Q Q).2 (((X+Z)*(X+Z))*((X-Z)*(X-Z))) ((((X+Z)*(X+Z)) - ((X-Z)*(X-Z)))*(((X+Z)*(X+Z))+k*(((X+Z)*(X+Z)) - ((X-Z)*(X-Z))))):=by
 obtain ⟨s,si,hs,hX,hZ⟩:=h
 have hj:=fi_mul (com_m hD hQ hQ)
 have r:=ed_dbl (j:=fi (1 - D*Q.1*Q.1*Q.2*Q.2)) he hQ hDA hj hX hZ k hk
 have hs0:=fp_unit hs
 refine RepP.mk' he ?_ r.1 r.2
 exact fp_ne (fp_ne (fp_ne (fp_ne (fp_ne (fp_ne (fp_ne two_ne hs0) hs0) hs0) hs0) hA) (ns_one hD)) (com_m hD hQ hQ)
theorem sixteen_ne:(16:Fp)≠0:=by decide
theorem rep_diff {e D u y1:Fp} (he:e*e=1) (hD:NS D) {Q R:Fp × Fp} (hQ:On D Q) (hR:On D R) (hy:y1*(1+D*Q.1*R.1*Q.2*R.2)=Q.2*R.2+Q.1*R.1) (hu:u*(1-y1)=e*(1+y1)) (hy1:1+y1≠0) {X2 Z2 X3 Z3:Fp} (h2:RepP e Q.2 X2 Z2) (h3:RepP e R.2 X3 Z3) :
 RepP e (eadd D Q R).2 (((X3-Z3)*(X2+Z2)+(X3+Z3)*(X2-Z2))*((X3-Z3)*(X2+Z2)+(X3+Z3)*(X2-Z2))) (u*(((X3-Z3)*(X2+Z2) - (X3+Z3)*(X2-Z2))*((X3-Z3)*(X2+Z2) - (X3+Z3)*(X2-Z2)))):=by
 obtain ⟨s,si,hs,hX2,hZ2⟩:=h2
 obtain ⟨r,ri,hr,hX3,hZ3⟩:=h3
 have hj:=fi_mul (com_m hD hQ hR)
 have d1:(1 - D:Fp)≠0:=by rw [g_d1];exact ns_one hD
 have d2:(1 - D*Q.2*Q.2*R.2*R.2:Fp)≠0:=by rw [g_sq];exact ns_one hD
 have hq:=fp_ne d1 d2
 have hk:=fi_mul hq
 have rr:=ed_diff (j:=fi (1 - D*Q.1*R.1*Q.2*R.2)) he hQ hR hy hj hk hu hX2 hZ2 hX3 hZ3 _ rfl
 have hs0:=fp_unit hs
 have hr0:=fp_unit hr
 have he0:=fp_unit he
 have hk0:fi ((1-D)*(1 - D*Q.2*Q.2*R.2*R.2))≠0:=fun h0=>by
  rw [h0] at hk
  exact absurd hk (by rw [Fin.mul_zero];decide)
 refine RepP.mk' he ?_ rr.1 rr.2
 exact fp_ne (fp_ne (fp_ne (fp_ne (fp_ne (fp_ne (fp_ne (fp_ne (fp_ne sixteen_ne he0) hs0) hs0) hr0) hr0) (fp_ne (com_p hD hQ hR) hy1)) (com_m hD hQ hR)) (fp_ne (ns_one hD) (ns_one hD))) hk0
theorem back_rel {D:Fp} (hD:NS D) {P Q R:Fp × Fp} (hQ:On D Q) (hR:On D R) (e:eadd D (eneg Q) R=P):P.2*(1+D*Q.1*R.1*Q.2*R.2)=Q.2*R.2+Q.1*R.1:=by
 have h2:=congrArg Prod.snd e
 have h3:=fi_mul (com_m hD (eneg_on hQ) hR)
 unfold eadd eneg at h2
 unfold tt eneg at h3
 simp only at h2 h3
 exact g_rel h2 h3
theorem next_rel {D:Fp} (hD:NS D) {P Q R:Fp × Fp} (hP:On D P) (hQ:On D Q) (e:R=eadd D Q P):P.2*(1+D*Q.1*R.1*Q.2*R.2)=Q.2*R.2+Q.1*R.1 :=
 back_rel hD hQ (by rw [e];exact eadd_on hD hQ hP) (by rw [e,←eadd_assoc hD (eneg_on hQ) hQ hP,eneg_add hD hQ,zero_eadd])
def cF (a:Nat):Fp:=⟨a%pF,Nat.mod_lt _ (by decide)⟩
theorem cF_add (a b:Nat):cF (fadd a b)=cF a+cF b:=Fin.ext (by rw [Fin.val_add];show (a+b)%pF%pF=(a%pF+b%pF)%pF;rw [Nat.mod_mod,←Nat.add_mod])
theorem cF_mul (a b:Nat):cF (fmul a b)=cF a*cF b:=Fin.ext (by rw [Fin.val_mul];show (a*b)%pF%pF=(a%pF*(b%pF))%pF;rw [Nat.mod_mod,←Nat.mul_mod])
theorem cF_sub (a b:Nat) (hb:b<pF):cF (fsub a b)=cF a - cF b:=Fin.ext (by
 rw [Fin.sub_def]
 show (a+pF - b)%pF%pF=(pF - b%pF+a%pF)%pF
 rw [Nat.mod_mod,Nat.mod_eq_of_lt hb,Nat.add_mod_mod,show a+pF - b=pF - b+a by omega])
theorem cF_inv (a:Nat) (ha:a<pF):cF (finv a)=fi (cF a):=Fin.ext (by
 show finv a%pF=finv (a%pF)
 rw [Nat.mod_eq_of_lt (finv_lt a),Nat.mod_eq_of_lt ha])
theorem cF_inj {a b:Nat} (ha:a<pF) (hb:b<pF) (h:cF a=cF b):a=b:=by
 have:=congrArg Fin.val h
 change a%pF=b%pF at this
 rwa [Nat.mod_eq_of_lt ha,Nat.mod_eq_of_lt hb] at this
def nOf (ks:Nat→Nat):Nat→Nat
 | 0=>0
 | j+1=>2*nOf ks j+(if bitN ks (254 - j) then 1 else 0)
structure HasU (e D:Fp) (P:Fp × Fp) (u:Nat):Prop where
 ee:e*e=1
 ns:NS D
 da:D*(486662+2*e)=486662-2*e
 ne:(486662+2*e:Fp)≠0
 on:On D P
 hu:cF u*(1-P.2)=e*(1+P.2)
 y1:1+P.2≠0
 y2:1 - P.2≠0
theorem four_k:4*cF 121665=(486662:Fp) - 2:=by decide
theorem stepL_rep {e D:Fp} {P:Fp × Fp} {u:Nat} (h:HasU e D P u) {Q R:Fp × Fp} (hQ:On D Q) (hR:On D R) (hy:P.2*(1+D*Q.1*R.1*Q.2*R.2)=Q.2*R.2+Q.1*R.1) {s:L4} (hs:s.Ok) (h2:RepP e Q.2 (cF s.xl) (cF s.zl)) (h3:RepP e R.2 (cF s.xh) (cF s.zh)) :
 RepP e (eadd D Q Q).2 (cF (stepL u s).xl) (cF (stepL u s).zl)∧RepP e (eadd D Q R).2 (cF (stepL u s).xh) (cF (stepL u s).zh):=by
 have a:=rep_dbl h.ee h.ns h.da h.ne four_k hQ h2
 have b:=rep_diff h.ee h.ns hQ hR hy h.hu h.y1 h2 h3
 unfold stepL ee
 simp only [cF_mul,cF_add,cF_sub _ _ hs.zl,cF_sub _ _ hs.zh,cF_sub _ _ (fmul_lt _ _)]
 exact ⟨a,b⟩
theorem climb_rep {e D:Fp} {P:Fp × Fp} {u:Nat} (h:HasU e D P u) (hu:u<pF) (ks:Nat→Nat):∀ j,RepP e (emul D (nOf ks j) P).2 (cF (climbL u ks j).xl) (cF (climbL u ks j).zl)∧RepP e (emul D (nOf ks j+1) P).2 (cF (climbL u ks j).xh) (cF (climbL u ks j).zh)
 | 0=>by
  have f2:=fi_mul two_ne
  refine ⟨⟨e*fi 2,e*2,g_b1 h.ee f2,g_b0 h.ee f2,g_b2⟩,?_⟩
  have e1:emul D (nOf ks 0+1) P=P:=zero_eadd D P
  rw [e1]
  have f:=fi_mul h.y2
  exact ⟨fi (1 - P.2),1 - P.2,by rw [Fin.mul_comm];exact f,g_b3 h.hu f,g_b4 f⟩
 | j+1=>by
  have ih:=climb_rep h hu ks j
  have hok:=climbL_ok u hu ks j
  have o1:=emul_on h.ns h.on (nOf ks j)
  have o2:=emul_on h.ns h.on (nOf ks j+1)
  have rel:=next_rel (R:=emul D (nOf ks j+1) P) h.ns h.on o1 rfl
  have e2:eadd D (emul D (nOf ks j) P) (emul D (nOf ks j) P)=emul D (2*nOf ks j) P:=by rw [←emul_add h.ns h.on,Nat.two_mul]
  have e3:eadd D (emul D (nOf ks j) P) (emul D (nOf ks j+1) P)=emul D (2*nOf ks j+1) P:=by rw [←emul_add h.ns h.on];congr 1;omega
  have e4:eadd D (emul D (nOf ks j+1) P) (emul D (nOf ks j) P)=emul D (2*nOf ks j+1) P:=by rw [←emul_add h.ns h.on];congr 1;omega
  have e5:eadd D (emul D (nOf ks j+1) P) (emul D (nOf ks j+1) P)=emul D (2*nOf ks j+1+1) P:=by rw [←emul_add h.ns h.on];congr 1;omega
  unfold climbL nOf rungL
  by_cases hb:bitN ks (254 - j)=true
  · rw [if_pos hb,if_pos hb]
    have r:=stepL_rep h o2 o1 (g_swap rel) (s:=(climbL u ks j).flip) ⟨hok.xh,hok.zh,hok.xl,hok.zl⟩ ih.2 ih.1
    rw [e4,e5] at r
    exact ⟨r.2,r.1⟩
  · rw [if_neg hb,if_neg hb]
    have r:=stepL_rep h o1 o2 rel hok ih.1 ih.2
    rw [e2,e3] at r
    exact r
theorem fi_zero:fi 0=0:=Fin.ext (finv_zero rfl)
def uOf (e:Fp) (y:Fp):Fp:=e*(1+y)*fi (1-y)
theorem mulL_u {e D:Fp} {P:Fp × Fp} {u:Nat} (h:HasU e D P u) (hu:u<pF) (ks:Nat→Nat):cF (mulL ks u)=uOf e (emul D (nOf ks 255) P).2:=by
 obtain ⟨s,si,hs,hX,hZ⟩:=(climb_rep h hu ks 255).1
 unfold mulL uOf
 rw [cF_mul,cF_inv _ (climbL_ok u hu ks 255).zl]
 generalize cF (climbL u ks 255).xl=X at *
 generalize cF (climbL u ks 255).zl=Z at *
 generalize (emul D (nOf ks 255) P).2=y at *
 by_cases hy:1 - y=0
 · rw [hy,Fin.mul_zero] at hZ
   rw [hy,hZ,fi_zero,Fin.mul_zero,Fin.mul_zero]
 · have hz:Z≠0:=by rw [hZ];exact fp_ne (fp_unit hs) hy
   exact g_val hs hX hZ (fi_mul hz) (fi_mul hy)
end Go.Proofs.YtcgkajlehdgpoaaGreatDoor
namespace Go.Proofs.YtcgkajlehdgpoaaGreatDoor
def iM:Nat:=19681161376707505956807079304988542015446066515923890162744021073123829784752
theorem iM_sq:iM*iM%pF=pF - 1:=by kernel_rfl
theorem mulm (a b:Nat):a%pF*b%pF=a*b%pF:=by rw [Nat.mul_mod,Nat.mod_mod,←Nat.mul_mod]
theorem mulm' (a b:Nat):a*(b%pF)%pF=a*b%pF:=by rw [Nat.mul_mod,Nat.mod_mod,←Nat.mul_mod]
theorem powm (a n:Nat):(a%pF) ^ n%pF=a ^ n%pF:=(Nat.pow_mod a n pF).symm
theorem neg_mul (u w:Nat) (hu:u<pF):(0+pF - u)%pF*w%pF=(0+pF - u*w%pF)%pF:=by
 rw [Nat.zero_add,mulm,Nat.sub_mul]
 have h1:u*w≤pF*w:=Nat.mul_le_mul_right _ (Nat.le_of_lt hu)
 have hd:=Nat.div_add_mod (u*w) pF
 have hm:u*w%pF<pF:=Nat.mod_lt _ pF_pos
 generalize u*w=T at *
 generalize T%pF=m at *
 generalize T / pF=d at *
 by_cases h0:m=0
 · have e:pF*w - T=pF*(w - d):=by rw [Nat.mul_sub];omega
   rw [e,Nat.mul_mod_right,h0,Nat.sub_zero,Nat.mod_self]
 · have hdw:d<w:=by
    rcases Nat.lt_or_ge d w with h | h
    · exact h
    · have:=Nat.mul_le_mul_left pF h
      omega
   have e:pF*w - T=(pF - m)+pF*(w - d - 1):=by
    have h3:pF*(w - d - 1)=pF*w - pF*d - pF:=by rw [Nat.mul_sub,Nat.mul_sub,Nat.mul_one]
    have h4:pF*d+pF≤pF*w:=by
     have:=Nat.mul_le_mul_left pF (show d+1≤w by omega)
     rwa [Nat.mul_succ] at this
    omega
   rw [e,Nat.add_mul_mod_self_left]
theorem times_sq {i:Nat} (hi:i*i%pF=pF - 1) (x:Nat):x*i%pF*(x*i%pF)%pF=(0+pF - x*x%pF)%pF:=by
 have e:x*i%pF*(x*i%pF)%pF=(i*i%pF)*(x*x%pF)%pF:=by
  simp only [mulm,mulm']
  congr 1
  ac_rfl
 have h1:(0+pF - 1)%pF=pF - 1:=by decide
 have h2:=neg_mul 1 (x*x%pF) (by decide)
 rw [h1,Nat.one_mul,Nat.mod_mod] at h2
 rw [e,hi,h2]
end Go.Proofs.YtcgkajlehdgpoaaGreatDoor
namespace Go.Proofs.YtcgkajlehdgpoaaGreatDoor
theorem one_or {x:Nat} (hx:x<pF) (h:x*x%pF=1):x=1∨x=pF - 1:=by
 have h0:x≠0:=fun e=>by rw [e] at h;exact absurd h (by decide)
 have hd:pF ∣ (x - 1)*(x+1):=by
  have e:(x - 1)*(x+1)=x*x - 1:=by
   obtain ⟨y,rfl⟩:∃ y,x=y+1:=⟨x - 1,by omega⟩
   rw [Nat.add_sub_cancel,Nat.add_mul,Nat.mul_add,Nat.mul_add];omega
  rw [e]
  have hm:=Nat.div_add_mod (x*x) pF
  rw [h] at hm
  exact ⟨x*x / pF,by omega⟩
 rcases prime_p.euclid hd with h1 | h1
 · left
   rcases Nat.eq_zero_or_pos (x - 1) with h2 | h2
   · omega
   · have:=Nat.le_of_dvd h2 h1;omega
 · right
   have:=Nat.le_of_dvd (by omega) h1;omega
theorem sq_pow (c m:Nat):c ^ m%pF*(c ^ m%pF)%pF=c ^ (2*m)%pF:=by
 rw [←Nat.mul_mod,←Nat.pow_add,Nat.two_mul]
theorem euler_or {c h:Nat} (hh:2*h+1=pF) (hc:¬pF ∣ c):c ^ h%pF=1∨c ^ h%pF=pF - 1:=by
 refine one_or (Nat.mod_lt _ (by decide)) ?_
 rw [sq_pow,show 2*h=pF - 1 by omega,prime_p.fermat1 hc]
 decide
theorem root_nat {c k:Nat} (hk:8*k+5=pF) (hc:c<pF) (h1:c ^ (4*k+2)%pF=1):∃ r,r<pF∧r*r%pF=c:=by
 have e1:c ^ (k+1)%pF*(c ^ (k+1)%pF)%pF=c*(c ^ (2*k+1)%pF)%pF:=by
  rw [sq_pow,mulm',show 2*(k+1)=2*k+1+1 by omega,Nat.pow_succ,Nat.mul_comm]
 have e2:c ^ (2*k+1)%pF*(c ^ (2*k+1)%pF)%pF=1:=by rw [sq_pow,show 2*(2*k+1)=4*k+2 by omega,h1]
 have hp:(pF - 1)*(pF - 1)%pF=1:=by kernel_rfl
 rcases one_or (Nat.mod_lt _ (by decide)) e2 with h | h
 · rw [h,Nat.mul_one,Nat.mod_eq_of_lt hc] at e1
   exact ⟨_,Nat.mod_lt _ (by decide),e1⟩
 · rw [h] at e1
   refine ⟨c ^ (k+1)%pF*iM%pF,Nat.mod_lt _ (by decide),?_⟩
   rw [times_sq iM_sq,e1]
   have e3:(0+pF - c*(pF - 1)%pF)%pF=c:=by
    have e4:c*(pF - 1)%pF=(0+pF - c)%pF:=by
     obtain ⟨q,hq⟩:∃ q,pF=q+1:=⟨pF - 1,by decide⟩
     have e5:c*(pF - 1)+c=c*pF:=by rw [hq,Nat.add_sub_cancel,Nat.mul_add,Nat.mul_one]
     have e6:(c*(pF - 1)+c)%pF=0:=by rw [e5,Nat.mul_mod_left]
     have e7:(0+pF - c+c)%pF=0:=by rw [show 0+pF - c+c=pF by omega,Nat.mod_self]
     have a1:=Nat.mod_lt (c*(pF - 1)) (show 0<pF by decide)
     have a2:=Nat.mod_lt (0+pF - c) (show 0<pF by decide)
     rw [Nat.add_mod,Nat.mod_eq_of_lt hc] at e6 e7
     generalize c*(pF - 1)%pF=x at *
     generalize (0+pF - c)%pF=y at *
     have z1:=Nat.dvd_of_mod_eq_zero e6
     have z2:=Nat.dvd_of_mod_eq_zero e7
     obtain ⟨m1,hm1⟩:=z1
     obtain ⟨m2,hm2⟩:=z2
     rcases Nat.eq_zero_or_pos c with hc0 | hc0
     · subst hc0
       have:m1=0:=by rcases m1 with _ | m1;rfl;rw [Nat.mul_add] at hm1;omega
       have:m2=0:=by rcases m2 with _ | m2;rfl;rw [Nat.mul_add] at hm2;omega
       subst_vars;omega
     · have b1:m1=1:=by
        match m1,hm1 with
        | 0,h=>omega
        | 1,_=>rfl
        | m+2,h=>rw [Nat.mul_add] at h;have:=Nat.zero_le (pF*m);omega
       have b2:m2=1:=by
        match m2,hm2 with
        | 0,h=>omega
        | 1,_=>rfl
        | m+2,h=>rw [Nat.mul_add] at h;have:=Nat.zero_le (pF*m);omega
       subst b1;subst b2;omega
    rw [e4]
    rcases Nat.eq_zero_or_pos c with hc0 | hc0
    · rw [hc0];decide
    · rw [Nat.mod_eq_of_lt (show 0+pF - c<pF by omega),show 0+pF - (0+pF - c)=c by omega,Nat.mod_eq_of_lt hc]
   exact e3
end Go.Proofs.YtcgkajlehdgpoaaGreatDoor
