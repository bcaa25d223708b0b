/- What the proof stands on: V7A, V7O, V7B, D1CI, D1KN, D1BR. -/
import Derived.Test.YtkoedfmdhdikaaaDoorD1CE5M
import Derived.Test.YtkoedfmdhdikaaaDoorD1RQM
import Derived.Test.YtkoedfmdhdikaaaDoorQAppM
import Derived.Test.YtkoedfmdhdikaaaDoorRFnM
import Derived.Test.YtkoedfmdhdikaaaDoorV6EM
import Derived.Lib.SlBytesConst
import Derived.Lib.SmallJoins
import Derived.ScopeJumps
import Derived.WalkMore
namespace Go.Proofs.YtkoedfmdhdikaaaDoor
open Go.RowKit
structure PkD where
 an:Nat
 a:Nat→Nat
 bn:Nat
 b:Nat→Nat
 kn:Nat
 k:Nat→Nat
def PkIn (W:World) (cs:List Value) (d:PkD):Prop:=∃ v0 v1 v2,cs=[v0,v1,v2]∧BytesIn W v0 d.an d.a∧BytesIn W v1 d.bn d.b∧BytesIn W v2 d.kn d.k
theorem PkIn.keep {w w':World} {cs:List Value} {d:PkD} (h:PkIn w cs d) (hb:Below w.heap.size w w'):PkIn w' cs d:=by
 obtain ⟨v0,v1,v2,e,h0,h1,h2⟩:=h
 exact ⟨v0,v1,v2,e,h0.keep hb,h1.keep hb,h2.keep hb⟩
def pkB (d:PkD):Prop:=(∀ j,d.a j<256)∧(∀ j,d.b j<256)∧∀ j,d.k j<256
def pkOk (d:PkD):Bool:=(decide (d.an≤255) && decide (d.bn≤255)) && decide (d.kn≤65528)
theorem pkOk_le {d:PkD} (h:pkOk d=true):d.an≤255∧d.bn≤255∧d.kn≤65528:=by
 simp only [pkOk,Bool.and_eq_true,decide_eq_true_eq] at h
 exact ⟨h.1.1,h.1.2,h.2⟩
def pkAll (D:Nat→PkD):Nat→Bool
 | 0=>true
 | n+1=>pkAll D n && pkOk (D n)
theorem pkAll_at {D:Nat→PkD}:∀ {n:Nat},pkAll D n=true→∀ i,i<n→pkOk (D i)=true
 | 0,_,i,hi=>absurd hi (Nat.not_lt_zero _)
 | n+1,h,i,hi=>by
  simp only [pkAll,Bool.and_eq_true] at h
  rcases Nat.lt_succ_iff_lt_or_eq.1 hi with h' | rfl
  · exact pkAll_at h.1 i h'
  · exact h.2
theorem pkAll_not {D:Nat→PkD} {n i:Nat} (hi:i<n) (h:pkOk (D i)=false):pkAll D n=false:=by
 cases e:pkAll D n with
 | false=>rfl
 | true=>rw [pkAll_at e i hi] at h;cases h
theorem pkAll_all {D:Nat→PkD}:∀ {n:Nat},(∀ i,i<n→pkOk (D i)=true)→pkAll D n=true
 | 0,_=>rfl
 | n+1,h=>by
  simp only [pkAll,Bool.and_eq_true]
  exact ⟨pkAll_all fun i hi=>h i (Nat.lt_succ_of_lt hi),h n (Nat.lt_succ_self n)⟩
def PksIn (w:World) (xo:Option Addr) (cnt:Nat) (D:Nat→PkD):Prop:=∀ i,i<cnt→∃ b off cs,xo=some ⟨b,off,none⟩∧b<w.heap.size∧w.rangeAt b (off+i*3) cs∧PkIn w cs (D i)
theorem PksIn.keep {w w':World} {xo:Option Addr} {cnt:Nat} {D:Nat→PkD} (h:PksIn w xo cnt D) (hb:Below w.heap.size w w'):PksIn w' xo cnt D:=fun i hi=>by
 obtain ⟨b,off,cs,e,hl,hr,hp⟩:=h i hi
 exact ⟨b,off,cs,e,Nat.lt_of_lt_of_le hl hb.size,fun j v hv=>(hb.cell (p:=⟨b,off+i*3+j,none⟩) hl).trans (hr j v hv),hp.keep hb⟩
theorem PksIn.nil (w:World) (D:Nat→PkD):PksIn w none 0 D:=fun _ hi=>absurd hi (Nat.not_lt_zero _)
theorem infoPk (v0 v1 v2:Value):(Tryd.prog.info? 28).map (·.size)=some [v0,v1,v2].length:=by kernel_rfl
theorem tooLong_any (cs:List Value) (d:PkD) (w:World) (h:PkIn w cs d):Calls Tryd.prog 14 #[.agg cs.toArray] w fun e w'=>e = .returned (.bool (!pkOk d))∧Below w.heap.size w w':=by
 obtain ⟨v0,v1,v2,rfl,h0,h1,h2⟩:=h
 obtain ⟨x0,c0,rfl,-⟩:=h0.src
 obtain ⟨x1,c1,rfl,-⟩:=h1.src
 obtain ⟨x2,c2,rfl,-⟩:=h2.src
 obtain ⟨an,a,bn,b,kn,k⟩:=d
 dsimp only
 clear h0 h1 h2
 have b1:Below w.heap.size w (w.alloc (.cells #[.slice x0 an c0,.slice x1 bn c1,.slice x2 kn c2] 28)):=(Below.refl _ _).alloc (Nat.le_refl _) _
 by_cases i0:an≤255
 · by_cases i1:bn≤255
   · by_cases i2:kn≤65528
     · have j0:¬(255:Int)<(an:Int):=by omega
       have j1:¬(255:Int)<(bn:Int):=by omega
       have j2:¬(65528:Int)<(kn:Int):=by omega
       have e:pkOk ⟨an,a,bn,b,kn,k⟩=true:=by simp [pkOk,i0,i1,i2]
       rw [e]
       clear e i0 i1 i2
       go_enter Tryd.func14,Tryd.ntmps14
       go_wp2
       go_ret
       exact ⟨rfl,b1⟩
     · have j0:¬(255:Int)<(an:Int):=by omega
       have j1:¬(255:Int)<(bn:Int):=by omega
       have j2:(65528:Int)<(kn:Int):=by omega
       have e:pkOk ⟨an,a,bn,b,kn,k⟩=false:=by simp [pkOk,i0,i1,i2]
       rw [e]
       clear e i0 i1 i2
       go_enter Tryd.func14,Tryd.ntmps14
       go_wp2
       go_ret
       exact ⟨rfl,b1⟩
   · have j0:¬(255:Int)<(an:Int):=by omega
     have j1:(255:Int)<(bn:Int):=by omega
     have e:pkOk ⟨an,a,bn,b,kn,k⟩=false:=by simp [pkOk,i0,i1]
     rw [e]
     clear e i0 i1
     go_enter Tryd.func14,Tryd.ntmps14
     go_wp2
     go_ret
     exact ⟨rfl,b1⟩
 · have j0:(255:Int)<(an:Int):=by omega
   have e:pkOk ⟨an,a,bn,b,kn,k⟩=false:=by simp [pkOk,i0]
   rw [e]
   clear e i0
   go_enter Tryd.func14,Tryd.ntmps14
   go_wp2
   go_ret
   exact ⟨rfl,b1⟩
theorem ixP_any (xo:Option Addr) (cnt cap:Nat) (D:Nat→PkD) (hn:cnt≤100) (w:World) (h:PksIn w xo cnt D):Calls Tryd.prog 30 #[.slice xo cnt cap,fTl] w fun e w'=>(∃ z:Int,e = .returned (.int .i64 z)∧decide (0≤z)=!pkAll D cnt)∧Below w.heap.size w w':=by
 go_enter Tryd.func30,Tryd.ntmps30
 go_wp2
 go_loopw [5,8] (fun _ i wr=>∃ q:Nat,q≤cnt∧i = .int .i64 (q:Int)∧Hid (∀ i,i<q→pkOk (D i)=true)∧Below w.heap.size w wr) (fun _ i _=>cnt - (intOf i).toNat)
 case atStart=>exact ⟨0,Nat.zero_le _,rfl,Hid.mk' (fun i hi=>absurd hi (Nat.not_lt_zero _)),Below.refl _ _⟩
 case round =>
  obtain ⟨q,hq,rfl,hh,hb⟩:=hrel
  by_cases hlt:q<cnt
  · obtain ⟨b,off,cs,rfl,hl,hr,hp⟩:=h q hlt
    have hrw:wr.rangeAt b (off+q*3) cs:=fun j v hv=>(hb.cell (p:=⟨b,off+q*3+j,none⟩) hl).trans (hr j v hv)
    have cT:=tooLong_any cs (D q) wr (hp.keep hb)
    obtain ⟨v0,v1,v2,rfl,-⟩:=hp
    have hlt':(q:Int)<(cnt:Int):=by omega
    have hk0:(0:Int)≤(q:Int):=by omega
    clear hr h
    cases e:pkOk (D q) with
    | true =>
     have He:=Hid.mk' e
     rw [e] at cT
     clear e
     go_wp2_with (first
      | (refine wpList_load_mid rfl 28 _ rfl b (off+q*3) rfl [v0,v1,v2] _ hrw Tryd.underlying28 rfl (infoPk _ _ _) ?_)
      | (go_at_call 14;refine cT.mono ?_;clear cT;rintro e w1 ⟨rfl,hb1⟩))
     go_roundw
     case rel =>
      refine ⟨q+1,hlt,by go_num,Hid.mk' (fun i hi => ?_),below_next hb hb1⟩
      rcases Nat.lt_succ_iff_lt_or_eq.1 hi with h' | rfl
      · exact hh.out i h'
      · exact He.out
     case measure=>simp [intOf];omega
    | false =>
     rw [e] at cT
     have hna:=pkAll_not hlt e
     clear e
     go_wp2_with (first
      | (refine wpList_load_mid rfl 28 _ rfl b (off+q*3) rfl [v0,v1,v2] _ hrw Tryd.underlying28 rfl (infoPk _ _ _) ?_)
      | (go_at_call 14;refine cT.mono ?_;clear cT;rintro e w1 ⟨rfl,hb1⟩))
     go_ret
     exact ⟨⟨_,rfl,by rw [hna,decide_eq_true hk0];rfl⟩,below_next hb hb1⟩
  · obtain rfl:q=cnt:=by omega
    have hlt':¬((q:Nat):Int)<(q:Int):=by omega
    clear h
    go_wp2
    go_ret
    exact ⟨⟨_,rfl,by rw [pkAll_all hh.out];rfl⟩,hb⟩
theorem cfP_any (xo:Option Addr) (cnt cap:Nat) (D:Nat→PkD) (hn:cnt≤100) (w:World) (h:PksIn w xo cnt D):Calls Tryd.prog 13 #[.slice xo cnt cap,fTl] w fun e w'=>e = .returned (.bool (!pkAll D cnt))∧Below w.heap.size w w':=by
 have c:=ixP_any xo cnt cap D hn w h
 clear h hn
 generalize (!pkAll D cnt)=b at *
 go_enter Tryd.func13,Tryd.ntmps13
 go_wp2_with (go_at_call 30;refine c.mono ?_;clear c;rintro e w1 ⟨⟨z,rfl,hz⟩,hb1⟩)
 go_ret
 exact ⟨rfl,hb1⟩
end Go.Proofs.YtkoedfmdhdikaaaDoor
namespace Go.Proofs.YtkoedfmdhdikaaaDoor
open Go.ChangeShapes Go.WideShapes Go.ChangeAt Go.RowKit Go.Joins Go.Deep
theorem bytes_cell7 {H:Type} {enc:TypeId × Value→H} {W:World} {fuel:Nat} {v:Value} {x:DataW H × List MemPlace} (h:DataW.trod enc Tryd.prog W 0 (fun _=>true) true fuel 24 [v]=some x) (hw:∀ n∈x.1.weights Tryd.prog 24,n≤reachBytes):∃ n bs,BytesIn W v n bs∧(∀ j,bs j<256)∧n+300<140737488355000:=by
 rcases open_ints Tryd.underlying24 Tryd.underlying5 cellsOfByte h with ⟨hcs,hx⟩ | ⟨a,len,cap,zs,hcs,_,hl,hm,hz,hx,hcell,hwz⟩
 · obtain rfl:v = .slice none 0 0:=by simpa using hcs
   exact ⟨0,fun _=>0,.inl ⟨none,rfl,rfl⟩,fun _=>Nat.zero_lt_succ _,by decide⟩
 · obtain rfl:v = .slice (some a) len cap:=by simpa using hcs
   simp only [if_true] at hz
   have hn:∀ j,0≤zs.getD j 0∧zs.getD j 0<256:=fun j=>by
    rw [List.getD_eq_getElem?_getD]
    cases h:zs[j]? with
    | none=>simp
    | some x =>
     have:=hwz x (List.mem_of_getElem? h)
     have h0:(0:Int)≤x∧x≤255:=by simpa [Lit.wf,IntKind.min,IntKind.max,IntKind.signed,IntKind.bits] using this
     show 0≤x∧x<256
     omega
   refine ⟨len,fun j=>(zs.getD j 0).toNat,?_,fun j=>by have:=hn j;show (zs.getD j 0).toNat<256;omega,?_⟩
   · by_cases hC:cap=0
     · exact .inl ⟨some a,by rw [hC,show len=0 by omega],by omega⟩
     · obtain ⟨b,o,sp⟩:=a
       have hc0:=hcell 0 (by omega)
       obtain rfl:=plainV hc0
       rw [Addr.add_mid] at hc0
       refine .inr ⟨b,o,cap,rfl,block_lt_of_cell hc0,hl,fun j hj => ?_⟩
       have h:=hcell j (by omega)
       rw [Addr.add_mid] at h
       rw [h,Int.toNat_of_nonneg (hn j).1]
   · have:=hw (zs.length*1) (by
      rw [hx]
      simp only [DataW.weights,Tryd.underlying24,bytesOfByte,List.mem_cons]
      left
      simp [lits]
      omega)
     unfold reachBytes at this
     omega
theorem cellsOfPk:Tryd.prog.cellsOf 27=3:=by kernel_rfl
theorem bytesOfPk:Tryd.prog.bytesOf 27=72:=by kernel_rfl
theorem under_pk:∃ f0 f1 f2:Field,Tryd.prog.underlying 27=some (.struct #[f0,f1,f2])∧f0.type=24∧f1.type=24∧f2.type=24:=⟨_,_,_,Tryd.underlying27,rfl,rfl,rfl⟩
theorem weights_pk {H:Type} {a b c:DataW H}:(∀ n∈a.weights Tryd.prog 24,n∈(DataW.agg [a,b,c]).weights Tryd.prog 27)∧(∀ n∈b.weights Tryd.prog 24,n∈(DataW.agg [a,b,c]).weights Tryd.prog 27)∧∀ n∈c.weights Tryd.prog 24,n∈(DataW.agg [a,b,c]).weights Tryd.prog 27:=by
 obtain ⟨f0,f1,f2,hu,t0,t1,t2⟩:=under_pk
 refine ⟨fun n hn => ?_,fun n hn => ?_,fun n hn => ?_⟩
 · simp only [DataW.weights,hu]
   exact DataW.weights_mem_each (j:=0) (t:=24) (by simp [t0]) rfl n hn
 · simp only [DataW.weights,hu]
   exact DataW.weights_mem_each (j:=1) (t:=24) (by simp [t1]) rfl n hn
 · simp only [DataW.weights,hu]
   exact DataW.weights_mem_each (j:=2) (t:=24) (by simp [t2]) rfl n hn
theorem weights_all7 {H:Type} {e:TypeId} {d:DataW H}:∀ {l:List (DataW H)},d∈l→∀ n∈d.weights Tryd.prog e,n∈DataW.weightsAll Tryd.prog e l
 | [],h,_,_=>by cases h
 | a :: r,h,n,hn=>by
  simp only [DataW.weightsAll,List.mem_append]
  rcases List.mem_cons.1 h with rfl | h
  · exact .inl hn
  · exact .inr (weights_all7 h n hn)
def pkLn (d:PkD):Prop:=d.an<140737488354700∧d.bn<140737488354700∧d.kn<140737488354700
set_option maxRecDepth 20000 in
theorem open_psks {H:Type} {enc:TypeId × Value→H} {W:World} {base:Nat} {v:Value} {d:DataW H} {ps:List MemPlace} {ts:List TypeId} {ds:List (DataW H)} (hval:Value.okWide Tryd.prog W .any base 22 v) (h:DataW.Trod enc Tryd.prog W 0 (fun _=>true) true 22 v d ps)
 (hR:(DataW.weightsEach Tryd.prog ts ds).all (·≤reachBytes)=true) {j:Nat} (ht:ts[j]? = some 22) (hd:ds[j]? = some d) :
 ∃ xo cnt cap D,v = .slice xo cnt cap∧cnt*72≤140737488351232∧PksIn W xo cnt D∧(∀ i,i<cnt→pkB (D i))∧∀ i,i<cnt→pkLn (D i):=by
 obtain ⟨a0,len,cap,rfl⟩:=okWide_slice Tryd.underlying22 hval
 obtain ⟨fuel,hf⟩:=h
 have hc:Cell.ok Tryd.prog W .any base 22 (.slice a0 len cap):=by
  unfold Value.okWide Cell.okWide at hval
  simp only [Tryd.underlying22] at hval
  exact hval
 have hw:∀ n∈d.weights Tryd.prog 22,n≤reachBytes:=fun n hn =>
  of_decide_eq_true (List.all_eq_true.1 hR n (DataW.weights_mem_each ht hd n hn))
 rcases Deep.open_slice Tryd.underlying22 hf with ⟨hcs,hx⟩ | ⟨a,len',cap',m,n,D,Pl,hcs,_,hl,hm,hmm,hx,hrow⟩
 · simp [Value.cells] at hcs
   obtain ⟨rfl,rfl,rfl⟩:=hcs
   exact ⟨none,0,0,fun _=>⟨0,lZ,0,lZ,0,lZ⟩,rfl,by decide,fun i hi=>absurd hi (Nat.not_lt_zero _),fun i hi=>absurd hi (Nat.not_lt_zero _),fun i hi=>absurd hi (Nat.not_lt_zero _)⟩
 · simp [Value.cells] at hcs
   obtain ⟨rfl,rfl,rfl⟩:=hcs
   simp only [if_true] at hmm
   unfold Cell.ok at hc
   simp only [Tryd.underlying22] at hc
   obtain ⟨_,_,_,hs,_⟩:=hc
   obtain ⟨b,off,spot⟩:=a
   subst hs
   rw [cellsOfPk] at hrow
   obtain ⟨hx1,-⟩:=Prod.mk.inj hx
   rw [hx1] at hw
   simp only [DataW.weights,Tryd.underlying22,List.mem_cons,List.mem_append] at hw
   have hcnt:len*72≤140737488351232:=by
    have:=hw _ (.inl rfl)
    rw [bytesOfPk] at this
    simp only [List.length_map,List.length_range] at this
    unfold reachBytes at this
    omega
   have each:∀ i,i<len→∃ q:PkD × Value × Value × Value,W.rangeAt b (off+i*3) [q.2.1,q.2.2.1,q.2.2.2]∧b<W.heap.size∧(BytesIn W q.2.1 q.1.an q.1.a∧BytesIn W q.2.2.1 q.1.bn q.1.b∧BytesIn W q.2.2.2 q.1.kn q.1.k)∧pkB q.1∧pkLn q.1:=by
    intro i hi
    obtain ⟨cs',h1,h2⟩:=hrow i (by omega)
    obtain ⟨_,hlen,hcell⟩:=World.cells?_some h1
    obtain ⟨xs,k,hk,hxy,_,hxl,hfd⟩:=DataW.trod_struct Tryd.underlying27 h2
    match xs,hxl,cs',hlen with
    | [y0,y1,y2],_,[v0,v1,v2],_ =>
     have g0:=hfd 0 _ rfl
     have g1:=hfd 1 _ rfl
     have g2:=hfd 2 _ rfl
     have k1:Tryd.prog.cellsOf 24=1:=by kernel_rfl
     simp [k1] at g0 g1 g2
     obtain ⟨hD,-⟩:=Prod.mk.inj hxy
     have hwi:∀ n∈(D i).weights Tryd.prog 27,n≤reachBytes:=fun n hn=>hw n (.inr (.inl (weights_all7 (List.mem_map.2 ⟨i,List.mem_range.2 hi,rfl⟩) n hn)))
     rw [hD] at hwi
     obtain ⟨n0,b0,i0,l0,d0⟩:=bytes_cell7 g0 (fun n hn=>hwi n (weights_pk.1 n hn))
     obtain ⟨n1,b1,i1,l1,d1⟩:=bytes_cell7 g1 (fun n hn=>hwi n (weights_pk.2.1 n hn))
     obtain ⟨n2,b2,i2,l2,d2⟩:=bytes_cell7 g2 (fun n hn=>hwi n (weights_pk.2.2 n hn))
     have e0:=hcell 0 (by omega)
     have e1:=hcell 1 (by omega)
     have e2:=hcell 2 (by omega)
     rw [Addr.add_mid,Addr.add_mid] at e0 e1 e2
     refine ⟨(⟨n0,b0,n1,b1,n2,b2⟩,v0,v1,v2),fun j v hv => ?_,block_lt_of_cell (by simpa using e0),⟨i0,i1,i2⟩,⟨l0,l1,l2⟩,⟨by show n0<_;omega,by show n1<_;omega,by show n2<_;omega⟩⟩
     match j,hv with
     | 0,hv=>rw [←hv];simpa using e0
     | 1,hv=>rw [←hv];simpa using e1
     | 2,hv=>rw [←hv];simpa using e2
     | j+3,hv=>simp at hv
   haveI:Inhabited (PkD × Value × Value × Value):=⟨⟨0,lZ,0,lZ,0,lZ⟩,.slice none 0 0,.slice none 0 0,.slice none 0 0⟩
   obtain ⟨q,hq⟩:=Deep.choose_lt (α:=PkD × Value × Value × Value) each
   exact ⟨some ⟨b,off,none⟩,len,cap,fun i=>(q i).1,rfl,hcnt,fun i hi=>⟨b,off,_,rfl,(hq i hi).2.1,(hq i hi).1,_,_,_,rfl,(hq i hi).2.2.1.1,(hq i hi).2.2.1.2.1,(hq i hi).2.2.1.2.2⟩,fun i hi=>(hq i hi).2.2.2.1,fun i hi=>(hq i hi).2.2.2.2⟩
end Go.Proofs.YtkoedfmdhdikaaaDoor
namespace Go.Proofs.YtkoedfmdhdikaaaDoor
open Go.RowKit
def t2L (a b:Nat):Nat:=vsL (thr a b 0) 2
def t2B (a:Nat) (A:Nat→Nat) (b:Nat) (B:Nat→Nat):Nat→Nat:=vsB (thr a b 0) (thr A B lZ) 2
theorem t2L_le (a b:Nat):t2L a b≤a+b+8:=by
 have:=vsL_le (thr a b 0) 2
 have e:sumN (thr a b 0) 2=0+a+b:=rfl
 unfold t2L
 omega
theorem lZ_lt7 (j:Nat):lZ j<256:=by show 0<256;decide
theorem t2B_lt {a b:Nat} {A B:Nat→Nat} (hA:∀ j,A j<256) (hB:∀ j,B j<256) (j:Nat):t2B a A b B j<256:=allB_lt (pn:=fun i=>vcL (thr a b 0 i)) (pb:=fun i=>vcB (thr a b 0 i) (thr A B lZ i)) (fun i j=>vcB_ltV (thr_lt hA hB lZ_lt7 i) j) 2 j
theorem vec2_any (g:Nat) (u v:Value) (a b:Nat) (A B:Nat→Nat) (ha:a≤65536) (hb:b≤65536) (lA:∀ j,A j<256) (lB:∀ j,B j<256) (w:World) (r:RW w g 0 [u,v]) (h1:BytesIn w u a A) (h2:BytesIn w v b B):Calls Tryd.prog 37 #[.slice (some ⟨g,0,none⟩) 2 2] w fun e w'=>∃ s,e = .returned s∧Own w.heap.size w' s (t2L a b) (t2B a A b B)∧Below w.heap.size w w' :=
 vectors_any (some ⟨g,0,none⟩) 2 2 _ (thr a b 0) (thr A B lZ) (by show ((false || decide (65536<a)) || decide (65536<b))=false;rw [decide_eq_false (by omega),decide_eq_false (by omega)];rfl) (by decide) (by show 0+a+b≤_;omega) w (pieces_rw [u,v] _ _ r rfl (fun i y hy=>by
  match i,hy with
  | 0,hy=>cases hy;exact h1
  | 1,hy=>cases hy;exact h2
  | i+2,hy=>simp at hy) (thr_lt lA lB lZ_lt7))
def pkP (d:PkD) (i n:Nat):List (Nat × (Nat→Nat)):=[(1,litB [1]),(t2L d.an d.bn,t2B d.an d.a d.bn d.b),(2,beN i 2),(2,beN n 2)]
def pkL (d:PkD) (i n:Nat):Nat:=lenL (pkP d i n)
def pkT (d:PkD) (i n:Nat):Nat→Nat:=catL (pkP d i n)
theorem pkL_eq (d:PkD) (i n:Nat):pkL d i n=t2L d.an d.bn+5:=by
 have e:pkL d i n=1+(t2L d.an d.bn+(2+(2+0))):=rfl
 omega
theorem pkL_le {d:PkD} (h:pkOk d=true) (i n:Nat):pkL d i n≤600:=by
 obtain ⟨h1,h2,-⟩:=pkOk_le h
 have:=t2L_le d.an d.bn
 rw [pkL_eq];omega
theorem pkT_lt {d:PkD} (h:pkB d) (i n j:Nat):pkT d i n j<256:=by
 refine catL_lt _ (fun p hp => ?_) j
 simp only [pkP,List.mem_cons,List.not_mem_nil,or_false] at hp
 rcases hp with rfl | rfl | rfl | rfl
 · exact litB_lt (by decide)
 · exact t2B_lt h.1 h.2.1
 · exact fun j=>beN_lt _ _ j
 · exact fun j=>beN_lt _ _ j
theorem own_lit1 (base:Nat) (w:World) (x:Nat) (h:base≤w.heap.size):Own base (w.alloc (.cells #[.int .u8 x] 5)) (.slice (some ⟨w.heap.size,0,none⟩) 1 1) 1 (litB [x]) :=
 World.ownsRow_lit w #[.int .u8 x] 1 h (by decide) rfl
set_option maxRecDepth 20000 in
theorem pskText_any (cs:List Value) (d:PkD) (hB:pkB d) (ok:pkOk d=true) (i n:Nat) (hi:i<65536) (hn:n<65536) (w:World) (h:PkIn w cs d) :
 Calls Tryd.prog 19 #[.agg cs.toArray,.int .i64 i,.int .i64 n] w fun e w'=>∃ s,e = .returned s∧Own w.heap.size w' s (pkL d i n) (pkT d i n)∧Below w.heap.size w w':=by
 obtain ⟨l1,l2,-⟩:=pkOk_le ok
 clear ok
 have hle2:=t2L_le d.an d.bn
 obtain ⟨v0,v1,v2,rfl,h0,h1,h2⟩:=h
 obtain ⟨x0,c0,rfl,-,-,-⟩:=h0.src
 obtain ⟨x1,c1,rfl,-,-,-⟩:=h1.src
 obtain ⟨x2,c2,rfl,-,-,-⟩:=h2.src
 have b1:Below w.heap.size w (w.alloc (.cells #[.slice x0 d.an c0,.slice x1 d.bn c1,.slice x2 d.kn c2] 28)):=(Below.refl _ _).alloc (Nat.le_refl _) _
 have o1:=own_lit1 w.heap.size (w.alloc (.cells #[.slice x0 d.an c0,.slice x1 d.bn c1,.slice x2 d.kn c2] 28)) 1 b1.size
 have b2:=b1.alloc b1.size (.cells #[.int .u8 ((1:Nat):Int)] 5)
 rw [World.size_alloc] at o1
 have r3:=RW.fresh ((w.alloc (.cells #[.slice x0 d.an c0,.slice x1 d.bn c1,.slice x2 d.kn c2] 28)).alloc (.cells #[.int .u8 ((1:Nat):Int)] 5)) [.slice x0 d.an c0,.slice x1 d.bn c1] 24
 have b3:=b2.alloc b2.size (.cells #[.slice x0 d.an c0,.slice x1 d.bn c1] 24)
 have o3:=o1.bytesIn.keep ((Below.refl _ ((w.alloc (.cells #[.slice x0 d.an c0,.slice x1 d.bn c1,.slice x2 d.kn c2] 28)).alloc (.cells #[.int .u8 ((1:Nat):Int)] 5))).alloc (Nat.le_refl _) (.cells #[.slice x0 d.an c0,.slice x1 d.bn c1] 24))
 rw [World.size_alloc,World.size_alloc] at r3
 have cv2:=vec2_any (w.heap.size+1+1) (.slice x0 d.an c0) (.slice x1 d.bn c1) d.an d.bn d.a d.b (by omega) (by omega) hB.1 hB.2.1 _ r3 (h0.keep b3) (h1.keep b3)
 have ni:=fun (W:World)=>number_any i 2 (by decide) (Nat.lt_of_lt_of_le hi (by decide)) W
 have nn:=fun (W:World)=>number_any n 2 (by decide) (Nat.lt_of_lt_of_le hn (by decide)) W
 have hsum:1+t2L d.an d.bn+2+2≤1000000:=by omega
 have eL:pkL d i n=lenL [(1,litB [1]),(t2L d.an d.bn,t2B d.an d.a d.bn d.b),(2,beN i 2),(2,beN n 2)]:=rfl
 have eT:pkT d i n=catL [(1,litB [1]),(t2L d.an d.bn,t2B d.an d.a d.bn d.b),(2,beN i 2),(2,beN n 2)]:=rfl
 rw [eL,eT]
 clear eL eT
 generalize t2L d.an d.bn=T at *
 generalize t2B d.an d.a d.bn d.b=F at *
 generalize beN i 2=FI at *
 generalize beN n 2=FN at *
 have cc4:=fun (W:World) (g:Nat) (u v x y:Value) (r:RW W g 0 [u,v,x,y]) (a1:BytesIn W u 1 (litB [1])) (a2:BytesIn W v T F) (a3:BytesIn W x 2 FI) (a4:BytesIn W y 2 FN)=>concat4_any W g u v x y 1 T 2 2 _ F FI FN (by decide) hsum r a1 a2 a3 a4
 generalize lenL [(1,litB [1]),(T,F),(2,FI),(2,FN)]=TL at *
 generalize catL [(1,litB [1]),(T,F),(2,FI),(2,FN)]=TF at *
 generalize d.an=an at *
 generalize d.bn=bn at *
 generalize d.kn=kn at *
 have O3:=Hid.mk' o3
 have B3:=Hid.mk' b3
 clear o1 o3 b1 b2 b3 r3 hB h0 h1 h2 hsum hle2 l1 l2 hi hn
 go_enter Tryd.func19,Tryd.ntmps19
 go_wp2_with (first
  | (go_at_call 37;refine cv2.mono ?_;clear cv2;rintro e w4 ⟨s4,rfl,o4,hb4⟩;(obtain ⟨x4,c4,e4⟩:=o4.slice);subst e4;have B4:=o4.bytesIn;have P4:=O3.out.keep hb4;have b4:=below_next B3.out hb4;clear O3 B3 o4 hb4)
  | (go_at_call 38;refine (ni _).mono ?_;clear ni;rintro e w5 ⟨s5,rfl,B5,hb5⟩;(obtain ⟨x5,c5,e5,-,-,-⟩:=B5.src);subst e5;have Q4:=B4.keep hb5;have P5:=P4.keep hb5;have b5:=below_next b4 hb5;clear B4 P4 b4 hb5)
  | (go_at_call 38;refine (nn _).mono ?_;clear nn;rintro e w6 ⟨s6,rfl,B6,hb6⟩;(obtain ⟨x6,c6,e6,-,-,-⟩:=B6.src);subst e6;have Q5:=Q4.keep hb6;have P6:=P5.keep hb6;have C6:=B5.keep hb6;have b6:=below_next b5 hb6;clear Q4 P5 B5 b5 hb6;have r7:=RW.fresh w6 [.slice (some ⟨w.heap.size+1,0,none⟩) 1 1,.slice x4 T c4,.slice x5 2 c5,.slice x6 2 c6] 24;have hb7:Below w6.heap.size w6 (w6.alloc (.cells #[.slice (some ⟨w.heap.size+1,0,none⟩) 1 1,.slice x4 T c4,.slice x5 2 c5,.slice x6 2 c6] 24)):=(Below.refl _ _).alloc (Nat.le_refl _) _;have y7:=cc4 _ w6.heap.size _ _ _ _ r7 (P6.keep hb7) (Q5.keep hb7) (C6.keep hb7) (B6.keep hb7);have b7:=below_next b6 hb7;clear cc4 P6 Q5 C6 B6 b6 r7 hb7)
  | (go_at_call 36;refine y7.mono ?_;clear y7;rintro e w8 ⟨s8,rfl,o8,hb8⟩))
 go_ret
 exact ⟨_,rfl,o8.lower b7.size,below_next b7 hb8⟩
def lDps:List Nat:=[100,101,114,105,118,101,100,32,112,115,107]
def pskK (d:PkD) (i n:Nat) (s:Nat→Nat):Nat→Nat:=xtN 32 (exN 32 (xtN 32 lZ d.kn d.k) lDps (pkL d i n) (pkT d i n) 32) 32 s
def pskS (D:Nat→PkD) (n:Nat):Nat→Nat→Nat
 | 0=>lZ
 | q+1=>pskK (D q) q n (pskS D n q)
theorem pskS_lt (D:Nat→PkD) (n:Nat):∀ q j,pskS D n q j<256
 | 0,j=>lZ_lt7 j
 | _+1,j=>xtN_lt _ _ _ _ j
set_option maxRecDepth 20000 in
set_option maxHeartbeats 4000000 in
theorem psk1_any (gl:Nat) (xo:Option Addr) (cnt cap:Nat) (sv:Value) (sb:Nat→Nat) (hsb:∀ j,sb j<256) (i:Nat) (cs:List Value) (d:PkD) (hB:pkB d) (ok:pkOk d=true) (hi:i<65536) (hcnt:cnt<65536) (w:World) (hT:TabAt w) (hs:BytesIn w sv 32 sb) (hl:w.cell? ⟨gl,0,none⟩=some (.slice xo cnt cap)) (hgl:gl<w.heap.size) (h:PkIn w cs d) :
 Calls Tryd.prog 16 #[sv,.int .i64 i,.agg cs.toArray,pA gl 0] w fun e w'=>∃ x c,e = .returned (.tuple #[.slice x 32 c,.int .i64 0])∧BytesIn w' (.slice x 32 c) 32 (pskK d i cnt sb)∧Below w.heap.size w w':=by
 have hle:=pkL_le ok i cnt
 have l3:=(pkOk_le ok).2.2
 obtain ⟨v0,v1,v2,rfl,h0,h1,h2⟩:=id h
 obtain ⟨x0,c0,rfl,-,-,-⟩:=h0.src
 obtain ⟨x1,c1,rfl,-,-,-⟩:=h1.src
 obtain ⟨x2,c2,rfl,-,-,-⟩:=h2.src
 obtain ⟨xs,ds,rfl,-,-,-⟩:=hs.src
 have b1:Below w.heap.size w (w.alloc (.cells #[.slice x0 d.an c0,.slice x1 d.bn c1,.slice x2 d.kn c2] 28)):=(Below.refl _ _).alloc (Nat.le_refl _) _
 have k1:=RW.fresh w [.slice x0 d.an c0,.slice x1 d.bn c1,.slice x2 d.kn c2] 28
 have cE1:=fun (W:World) (v u:Value) (hTW:TabAt W) (a1:BytesIn W v 32 lZ) (a2:BytesIn W u d.kn d.k)=>cXt_any v u 32 d.kn lZ d.k lZ_lt7 hB.2.2 (by decide) (by omega) W hTW a1 a2
 have cTx:=fun (W:World) (hw:Below w.heap.size w W)=>pskText_any _ d hB ok i cnt hi hcnt W (h.keep hw)
 have cEx:=fun (W:World) (v u:Value) (hTW:TabAt W) (a1:BytesIn W v 32 (xtN 32 lZ d.kn d.k)) (a2:BytesIn W u (pkL d i cnt) (pkT d i cnt))=>cExpand_good lDps (by decide) (by decide) v u 32 (pkL d i cnt) (xtN 32 lZ d.kn d.k) (pkT d i cnt) (xtN_lt _ _ _ _) (pkT_lt hB i cnt) (by decide) (by omega) 32 (by decide) W hTW.h a1 a2
 replace cEx:∀ (W:World) (v u:Value),TabAt W→BytesIn W v 32 (xtN 32 lZ d.kn d.k)→BytesIn W u (pkL d i cnt) (pkT d i cnt)→Calls Tryd.prog 17 #[v,.string { data:=#[100,101,114,105,118,101,100,32,112,115,107] },u,.int .i64 32] W _:=cEx
 have cE2:=fun (W:World) (v:Value) (hw:Below w.heap.size w W) (a1:BytesIn W v 32 (exN 32 (xtN 32 lZ d.kn d.k) lDps (pkL d i cnt) (pkT d i cnt) 32))=>cXt_any v (.slice xs 32 ds) 32 32 _ sb (exN_lt 32 _ lDps _ _ 32) hsb (by decide) (by decide) W (hT.still hw) a1 (hs.keep hw)
 have eK:pskK d i cnt sb=xtN 32 (exN 32 (xtN 32 lZ d.kn d.k) lDps (pkL d i cnt) (pkT d i cnt) 32) 32 sb:=rfl
 rw [eK]
 clear eK
 generalize xtN 32 (exN 32 (xtN 32 lZ d.kn d.k) lDps (pkL d i cnt) (pkT d i cnt) 32) 32 sb=XR at *
 generalize exN 32 (xtN 32 lZ d.kn d.k) lDps (pkL d i cnt) (pkT d i cnt) 32=XE at *
 generalize xtN 32 lZ d.kn d.k=X1 at *
 generalize pkL d i cnt=TL at *
 generalize pkT d i cnt=TF at *
 have hk2:=h2.keep b1
 generalize d.an=an at *
 generalize d.bn=bn at *
 generalize d.kn=kn at *
 generalize d.k=kB at *
 have hlc:(w.alloc (.cells #[.slice x0 an c0,.slice x1 bn c1,.slice x2 kn c2] 28)).cell? ⟨gl,0,none⟩=some (.slice xo cnt cap):=(b1.cell (p:=⟨gl,0,none⟩) hgl).trans hl
 have hglc:gl<(w.alloc (.cells #[.slice x0 an c0,.slice x1 bn c1,.slice x2 kn c2] 28)).heap.size:=Nat.lt_of_lt_of_le hgl b1.size
 clear hB ok hle l3 h h0 h1 h2 hs hl hgl hi hcnt hsb
 go_enter Tryd.func16,Tryd.ntmps16
 go_upto_region 1 with (fail)
 generalize w.alloc (.cells #[.slice x0 an c0,.slice x1 bn c1,.slice x2 kn c2] 28)=W at *
 have hd:Below W.heap.size W W.drew:=(Below.refl _ _).drew
 replace b1:=below_next b1 hd
 replace k1:=k1.still hd
 replace hk2:=hk2.keep hd
 replace hlc:=(hd.cell (p:=⟨gl,0,none⟩) hglc).trans hlc
 replace hglc:=Nat.lt_of_lt_of_le hglc hd.size
 clear hd
 refine wp_region_noPanic ?_
 refine wp_region_held_drew (S:=fun u=>Below W.drew.heap.size W.drew u) (by kernel_rfl) (Below.refl _ _) (fun hS => ?_)
 generalize W.drew=V at *
 refine tg 1 hS ?_
 (try simp only [pS])
 refine tc 2 hS (fun u hu=>by simpa using (k1.still hu).range 2 _ rfl) ?_
 (try simp only [pS])
 refine tl 4 k1 hS 28 Tryd.underlying28 (infoPk _ _ _) ?_
 (try simp only [pS])
 refine tg 5 hS ?_
 (try simp only [pS])
 refine tc 6 hS (fun u hu=>(hu.cell (p:=⟨gl,0,none⟩) hglc).trans hlc) ?_
 (try simp only [pS])
 refine tg 7 hS ?_
 (try simp only [pS])
 refine wpAnyH_ready (rs:=[0]) (by kernel_rfl) (by simp) ?_
 have hm:=make_bytes V 32 32 rfl (by decide)
 have hba:Below V.heap.size V (V.alloc (.cells (zb 32) 5)):=(Below.refl _ _).alloc (Nat.le_refl _) _
 have oz:BytesIn (V.alloc (.cells (zb 32) 5)) (.slice (some ⟨V.heap.size,0,none⟩) 32 32) 32 lZ:=(Own.made V.heap.size V 32 (by decide) (Nat.le_refl _)).bytesIn
 refine AllReadyH.cons (at_list (by rfl)) (fun K hK => ?_) AllReadyH.nil
 go_simp
 refine hK.out _ _ hba (fun _ => ?_)
 clear hK K hm
 (try simp only [pS])
 refine cl 3 (cE1 (V.alloc (.cells (zb 32) 5)) _ _ (hT.still (below_next b1 hba)) oz (hk2.keep hba)) ?_
 rintro e u1 ⟨y1,m1,rfl,Y1,hb⟩
 replace hba:=below_next hba hb
 refine ⟨_,rfl,hba,?_⟩
 clear hb oz
 (try simp only [pS])
 refine cl 8 (cTx u1 (below_next b1 hba)) ?_
 rintro e u2 ⟨s2,rfl,o2,hb⟩
 (obtain ⟨y2,m2,e2⟩:=o2.slice);subst e2
 have Y2:=o2.bytesIn
 replace Y1:=Y1.keep hb
 replace hba:=below_next hba hb
 refine ⟨_,rfl,hba,?_⟩
 clear hb o2
 (try simp only [pS])
 refine cl 9 (cEx u2 _ _ (hT.still (below_next b1 hba)) Y1 Y2) ?_
 rintro e u3 ⟨s3,rfl,Y3,hb⟩
 (obtain ⟨y3,m3,e3,-⟩:=Y3.src);subst e3
 replace hba:=below_next hba hb
 refine ⟨_,rfl,hba,?_⟩
 clear hb Y1 Y2
 (try simp only [pS])
 refine tg 10 hba ?_
 (try simp only [pS])
 refine tg 11 hba ?_
 (try simp only [pS])
 refine tg 12 hba ?_
 (try simp only [pS])
 refine tg 13 hba ?_
 (try simp only [pS])
 refine tg 14 hba ?_
 (try simp only [pS])
 refine wpAnyH_done (by kernel_rfl) ?_ _
 refine NoPanic.normal ?_
 have hw:=below_next b1 hba
 have y4:=cE2 u3 _ hw Y3
 clear cE1 cTx cEx cE2 hT Y3 hba b1 k1 hk2 hlc hglc hS
 go_wp2_with (go_at_call 18;refine y4.mono ?_;clear y4;rintro e u4 ⟨y4,m4,rfl,Y4,hb⟩)
 go_ret2
 exact ⟨_,_,rfl,Y4,below_next hw hb⟩
def p3 (x y z:Value):List Value:=[x,y,z]
theorem infoP3 (x y z:Value):(Tryd.prog.info? 28).map (·.size)=some (p3 x y z).length:=by kernel_rfl
theorem infoP3A (x y z:Value):(Tryd.prog.info? 28).map (·.size)=some (p3 x y z).toArray.size:=by kernel_rfl
theorem oneP3 (x y z:Option Addr) (a b c d e f:Nat):(p3 (.slice x a b) (.slice y c d) (.slice z e f)).toArray.all (·.oneCell')=true:=by simp [p3,Value.oneCell']
set_option maxRecDepth 20000 in
set_option maxHeartbeats 4000000 in
theorem chP_any (gl:Nat) (xo:Option Addr) (cnt cap:Nat) (D:Nat→PkD) (hn:cnt≤100) (hB:∀ i,i<cnt→pkB (D i)) (ok:pkAll D cnt=true) (v:Value) (w:World) (hT:TabAt w) (hv:BytesIn w v 32 lZ) (hl:w.cell? ⟨gl,0,none⟩=some (.slice xo cnt cap)) (hgl:gl<w.heap.size) (h:PksIn w xo cnt D) :
 Calls Tryd.prog 15 #[v,.slice xo cnt cap,.func (.func 16) #[] #[pA gl 0]] w fun e w'=>∃ x c,e = .returned (.tuple #[.slice x 32 c,.int .i64 0])∧BytesIn w' (.slice x 32 c) 32 (pskS D cnt cnt)∧Below w.heap.size w w':=by
 obtain ⟨xv,cv,rfl,-,-,-⟩:=hv.src
 have HV:=Hid.mk' hv
 clear hv
 go_enter Tryd.func15,Tryd.ntmps15
 go_wp2
 go_loopw [0,8,9,10,13] (fun k _ _ _ i wr=>∃ (q:Nat) (x:Option Addr) (c:Nat),q≤cnt∧k = .slice x 32 c∧i = .int .i64 (q:Int)∧BytesIn wr (.slice x 32 c) 32 (pskS D cnt q)∧Below w.heap.size w wr) (fun _ _ _ _ i _=>cnt - (intOf i).toNat)
 case atStart=>exact ⟨0,_,_,Nat.zero_le _,rfl,rfl,HV.out,Below.refl _ _⟩
 case round =>
  obtain ⟨q,x,c,hq,rfl,rfl,hs,hb⟩:=hrel
  by_cases hlt:q<cnt
  · obtain ⟨b,off,cs,rfl,hlb,hr,hp⟩:=h q hlt
    have hrw:wr.rangeAt b (off+q*3) cs:=fun j v hv=>(hb.cell (p:=⟨b,off+q*3+j,none⟩) hlb).trans (hr j v hv)
    obtain ⟨v0,v1,v2,rfl,h0,h1,h2⟩:=id hp
    obtain ⟨x0,n0,c0,rfl⟩:∃ x n c,v0 = .slice x n c:=by obtain ⟨x,c,e,-⟩:=h0.src;exact ⟨_,_,_,e⟩
    obtain ⟨x1,n1,c1',rfl⟩:∃ x n c,v1 = .slice x n c:=by obtain ⟨x,c,e,-⟩:=h1.src;exact ⟨_,_,_,e⟩
    obtain ⟨x2,n2,c2,rfl⟩:∃ x n c,v2 = .slice x n c:=by obtain ⟨x,c,e,-⟩:=h2.src;exact ⟨_,_,_,e⟩
    have hz:=RW.fresh wr (p3 (.slice none 0 0) (.slice none 0 0) (.slice none 0 0)) 28
    have th:(wr.alloc (.cells #[.slice none 0 0,.slice none 0 0,.slice none 0 0] 28)).there wr.heap.size 0 (p3 (.slice x0 n0 c0) (.slice x1 n1 c1') (.slice x2 n2 c2)).toArray.size:=hz.there
    obtain ⟨V,hV⟩:∃ V,V=(wr.alloc (.cells #[.slice none 0 0,.slice none 0 0,.slice none 0 0] 28)).setCells wr.heap.size 0 (p3 (.slice x0 n0 c0) (.slice x1 n1 c1') (.slice x2 n2 c2)):=⟨_,rfl⟩
    have r:RW V wr.heap.size 0 (p3 (.slice x0 n0 c0) (.slice x1 n1 c1') (.slice x2 n2 c2)):=by rw [hV];exact hz.stored _ rfl
    have bV:Below wr.heap.size wr V:=by rw [hV];exact below_setCells (Nat.le_refl _) _ _ _ ((Below.refl _ _).alloc (Nat.le_refl _) _)
    have b2:=below_next hb bV
    have c1:=psk1_any gl (some ⟨b,off,none⟩) cnt cap (.slice x 32 c) (pskS D cnt q) (pskS_lt D cnt q) q _ (D q) (hB q hlt) (pkAll_at ok q hlt) (by omega) (by omega) V (hT.still b2) (hs.keep bV) ((b2.cell (p:=⟨gl,0,none⟩) hgl).trans hl) (Nat.lt_of_lt_of_le hgl b2.size) (hp.keep b2)
    have eS:pskS D cnt (q+1)=pskK (D q) q cnt (pskS D cnt q):=rfl
    rw [←eS] at c1
    obtain ⟨SN,hSN⟩:∃ S,S=pskS D cnt (q+1):=⟨_,rfl⟩
    rw [←hSN] at c1
    have HSN:=Hid.mk' hSN
    have hlt':(q:Int)<(cnt:Int):=by omega
    have hk0:(0:Int)≤(q:Int):=by omega
    have rr:=r.range
    have hrw3:wr.rangeAt b (off+q*3) (p3 (.slice x0 n0 c0) (.slice x1 n1 c1') (.slice x2 n2 c2)):=hrw
    have B2:=Hid.mk' b2
    have HV2:=Hid.mk' hV
    clear hr h0 h1 h2 hz hV r bV b2 eS hs hb h hB ok hT hp hrw hSN
    go_wp2_with (first
     | (refine wpList_load_mid rfl 28 _ rfl b (off+q*3) rfl (p3 (.slice x0 n0 c0) (.slice x1 n1 c1') (.slice x2 n2 c2)) _ hrw3 Tryd.underlying28 rfl (infoP3 _ _ _) ?_;clear hrw3)
     | (with_reducible (refine id (?_:wpList _ _ _ _ _ _));refine wpList_store_mid rfl 28 _ _ rfl wr.heap.size 0 (p3 (.slice x0 n0 c0) (.slice x1 n1 c1') (.slice x2 n2 c2)).toArray rfl rfl th (infoP3A _ _ _) (oneP3 _ _ _ _ _ _ _ _ _) ?_;rw [List.toList_toArray,←HV2.out];clear th HV2)
     | (refine wpList_load_mid rfl 28 _ rfl wr.heap.size 0 rfl (p3 (.slice x0 n0 c0) (.slice x1 n1 c1') (.slice x2 n2 c2)) _ rr Tryd.underlying28 rfl (infoP3 _ _ _) ?_;clear rr)
     | (go_at_call 16;refine c1.mono ?_;clear c1;rintro e w1 ⟨y1,m1,rfl,Y1,hb1⟩))
    go_roundw
    case rel=>exact ⟨q+1,_,_,hlt,rfl,by go_num,by rw [←HSN.out];exact Y1,below_next B2.out hb1⟩
    case measure=>simp [intOf];omega
  · obtain rfl:q=cnt:=by omega
    have hlt':¬((q:Nat):Int)<(q:Int):=by omega
    clear h hB ok hn
    go_wp2
    go_ret2
    exact ⟨_,_,rfl,hs,hb⟩
set_option maxRecDepth 20000 in
theorem psk_good (xo:Option Addr) (cnt cap:Nat) (D:Nat→PkD) (hn:cnt≤100) (hB:∀ i,i<cnt→pkB (D i)) (ok:pkAll D cnt=true) (w:World) (hT:TabAt w) (h:PksIn w xo cnt D):Calls Tryd.prog 6 #[.slice xo cnt cap] w fun e w'=>∃ x c,e = .returned (.tuple #[.slice x 32 c,.int .i64 0])∧BytesIn w' (.slice x 32 c) 32 (pskS D cnt cnt)∧Below w.heap.size w w':=by
 have b1:Below w.heap.size w (w.alloc (.cells #[.slice xo cnt cap] 23)):=(Below.refl _ _).alloc (Nat.le_refl _) _
 have k1:=RW.fresh w [.slice xo cnt cap] 23
 have hc:=cfP_any xo cnt cap D hn _ (h.keep b1)
 rw [ok,Bool.not_true] at hc
 have h100:¬(100:Int)<(cnt:Int):=by omega
 have cC:=fun (W:World) (v:Value) (hW:Below w.heap.size w W) (hv:BytesIn W v 32 lZ) (hl:W.cell? ⟨w.heap.size,0,none⟩=some (.slice xo cnt cap)) (hgl:w.heap.size<W.heap.size)=>chP_any w.heap.size xo cnt cap D hn hB ok v W (hT.still hW) hv hl hgl (h.keep hW)
 clear h hT hn hB ok
 go_enter Tryd.func6,Tryd.ntmps6
 go_upto_region 3 with (go_at_call 13;refine hc.mono ?_;clear hc;rintro e w1 ⟨rfl,hb1⟩;(replace b1:=below_next b1 hb1);(replace k1:=k1.still hb1);clear hb1)
 have hd:Below w1.heap.size w1 w1.drew:=(Below.refl _ _).drew
 replace b1:=below_next b1 hd
 replace k1:=k1.still hd
 clear hd
 refine wp_region_noPanic ?_
 refine wp_region_held_drew (S:=fun u=>Below w1.drew.heap.size w1.drew u) (by kernel_rfl) (Below.refl _ _) (fun hS => ?_)
 generalize w1.drew=V at *
 refine tc 1 hS (fun u hu=>by simpa using (k1.still hu).range 0 _ rfl) ?_
 (try simp only [pS])
 refine tg 2 hS ?_
 (try simp only [pS])
 refine wpAnyH_ready (rs:=[0]) (by kernel_rfl) (by simp) ?_
 have hm:=make_bytes V 32 32 rfl (by decide)
 have hba:Below V.heap.size V (V.alloc (.cells (zb 32) 5)):=(Below.refl _ _).alloc (Nat.le_refl _) _
 have oz:BytesIn (V.alloc (.cells (zb 32) 5)) (.slice (some ⟨V.heap.size,0,none⟩) 32 32) 32 lZ:=(Own.made V.heap.size V 32 (by decide) (Nat.le_refl _)).bytesIn
 refine AllReadyH.cons (at_list (by rfl)) (fun K hK => ?_) AllReadyH.nil
 go_simp
 refine hK.out _ _ hba (fun _ => ?_)
 clear hK K hm
 (try simp only [pS])
 refine cl 3 (cC (V.alloc (.cells (zb 32) 5)) _ (below_next b1 hba) oz (by simpa using (k1.still hba).range 0 _ rfl) (k1.still hba).lt) ?_
 rintro e w2 ⟨x2,c2,rfl,Y2,hb2⟩
 replace hba:=below_next hba hb2
 refine ⟨_,rfl,hba,?_⟩
 (try simp only [pS])
 refine tg 4 hba ?_
 (try simp only [pS])
 refine tg 5 hba ?_
 (try simp only [pS])
 refine tg 6 hba ?_
 (try simp only [pS])
 refine tg 7 hba ?_
 (try simp only [pS])
 refine wpAnyH_done (by kernel_rfl) ?_ _
 refine NoPanic.normal ?_
 go_wp2
 go_ret2
 exact ⟨_,_,rfl,Y2,below_next b1 hba⟩
end Go.Proofs.YtkoedfmdhdikaaaDoor
namespace Go.Proofs.YtkoedfmdhdikaaaDoor
open Go.RowKit
theorem RdC.size {lo hi:Nat} {w:World} {g L:Nat} {B:Nat→Nat} {r:Rd} (h:RdC lo hi w g L B r):hi≤w.heap.size:=h.choose_spec.2.2.2.2
end Go.Proofs.YtkoedfmdhdikaaaDoor
namespace Go.Proofs.YtkoedfmdhdikaaaDoor
open Go.RowKit
theorem RdC.ge {lo hi:Nat} {w:World} {g L:Nat} {B:Nat→Nat} {r:Rd} (h:RdC lo hi w g L B r):lo≤g:=h.choose_spec.2.2.2.1.1
end Go.Proofs.YtkoedfmdhdikaaaDoor
namespace Go.Proofs.YtkoedfmdhdikaaaDoor
open Go.RowKit
structure SameIn (lo hi:Nat) (w w':World):Prop where
 size:w.heap.size≤w'.heap.size
 block:∀ k,lo≤k→k<hi→w'.heap[k]? = w.heap[k]?
theorem SameIn.cell {lo hi:Nat} {w w':World} (h:SameIn lo hi w w') {k o:Nat} (h1:lo≤k) (h2:k<hi):w'.cell? ⟨k,o,none⟩=w.cell? ⟨k,o,none⟩:=World.cell?_of_block (w:=w) (h.block k h1 h2)
theorem SameIn.frozen {lo hi:Nat} {w w':World} (h:SameIn lo hi w w') {k o:Nat} (h1:lo≤k) (h2:k<hi):w'.frozen? ⟨k,o,none⟩=w.frozen? ⟨k,o,none⟩:=World.frozen?_of_block (w:=w) (h.block k h1 h2)
theorem SameIn.of_below {lo hi M:Nat} {w w':World} (h:Below M w w') (hM:hi≤M):SameIn lo hi w w':=⟨h.size,fun k _ h2=>h.block k (by omega)⟩
theorem SameIn.of_out {lo hi b o n:Nat} {w w':World} (h:Out b o n w w') (hb:b<lo∨hi≤b) (hh:hi≤w.heap.size):SameIn lo hi w w':=⟨h.size,fun k h1 h2=>h.block k (by omega) (by omega)⟩
theorem RW.same {lo hi:Nat} {w w':World} (s:SameIn lo hi w w') {g:Nat} {vs:List Value} (r:RW w g 0 vs) (h1:lo≤g) (h2:g<hi):RW w' g 0 vs :=
 ⟨fun j v hv=>(s.cell h1 h2).trans (r.range j v hv),fun j hj=>by rw [s.cell h1 h2,s.frozen h1 h2];exact r.there j hj,Nat.lt_of_lt_of_le r.lt s.size⟩
theorem RdC.same {lo hi:Nat} {w w':World} {g L:Nat} {B:Nat→Nat} {r:Rd} (h:RdC lo hi w g L B r) (s:SameIn lo hi w w'):RdC lo hi w' g L B r:=by
 obtain ⟨v,rr,hv,ha,hg,hh⟩:=h
 exact ⟨v,RW.same s rr hg.1 hg.2,BI.same hv fun b o z h1 h2 hc=>(s.cell h1 h2).trans hc,ha,hg,Nat.le_trans hh s.size⟩
def RdB (lo hi:Nat) (w:World) (g L:Nat) (B:Nat→Nat) (r:Rd):Prop:=∃ v,RW w g 0 [v,.int .i64 (r.at_:Int),.int .i64 r.e]∧BI lo hi w v L B∧r.at_≤L∧(lo≤g∧g<hi)∧hi≤w.heap.size
theorem RdB.same {lo hi:Nat} {w w':World} {g L:Nat} {B:Nat→Nat} {r:Rd} (h:RdB lo hi w g L B r) (s:SameIn lo hi w w'):RdB lo hi w' g L B r:=by
 obtain ⟨v,rr,hv,ha,hg,hh⟩:=h
 exact ⟨v,RW.same s rr hg.1 hg.2,BI.same hv fun b o z h1 h2 hc=>(s.cell h1 h2).trans hc,ha,hg,Nat.le_trans hh s.size⟩
theorem RdB.size {lo hi:Nat} {w:World} {g L:Nat} {B:Nat→Nat} {r:Rd} (h:RdB lo hi w g L B r):hi≤w.heap.size:=h.choose_spec.2.2.2.2
theorem RdB.ge {lo hi:Nat} {w:World} {g L:Nat} {B:Nat→Nat} {r:Rd} (h:RdB lo hi w g L B r):lo≤g:=h.choose_spec.2.2.2.1.1
theorem RdB.lt {lo hi:Nat} {w:World} {g L:Nat} {B:Nat→Nat} {r:Rd} (h:RdB lo hi w g L B r):g<hi:=h.choose_spec.2.2.2.1.2
theorem RdB.of {lo hi:Nat} {w:World} {g L:Nat} {B:Nat→Nat} {r:Rd} (h:RdB lo hi w g L B r):RdR w g L B r:=by
 obtain ⟨v,rr,hv,ha,hg,hh⟩:=h
 exact ⟨v,rr,hv.of hh,ha⟩
structure Two (m lo hi hj:Nat) (w:World) (g k L:Nat) (B:Nat→Nat) (r:Rd):Prop where
 code:RdC lo hi w g L B r
 ref:RdB hi hj w k L B r
 low:m≤lo
theorem Two.same {m lo hi hj:Nat} {w w':World} {g k L:Nat} {B:Nat→Nat} {r:Rd} (h:Two m lo hi hj w g k L B r) (s:SameIn lo hj w w'):Two m lo hi hj w' g k L B r :=
 ⟨h.code.same ⟨s.size,fun c h1 h2=>s.block c h1 (Nat.lt_of_lt_of_le h2 (Nat.le_of_lt (Nat.lt_of_le_of_lt h.ref.ge h.ref.lt)))⟩,h.ref.same ⟨s.size,fun c h1 h2=>s.block c (Nat.le_trans (Nat.le_of_lt (Nat.lt_of_le_of_lt h.code.ge h.code.choose_spec.2.2.2.1.2)) h1) h2⟩,h.low⟩
theorem Two.still {m lo hi hj:Nat} {w w':World} {g k L:Nat} {B:Nat→Nat} {r:Rd} (h:Two m lo hi hj w g k L B r) (hb:Below w.heap.size w w'):Two m lo hi hj w' g k L B r:=h.same (SameIn.of_below hb h.ref.size)
theorem Two.whole {m lo hi hj:Nat} {w w':World} {g k L:Nat} {B:Nat→Nat} {r:Rd} (hl:m≤lo) (h:RdC lo hi w g L B r) (h':RdB hi hj w' k L B r) (o:Out k 1 2 w w'):Two m lo hi hj w' g k L B r∧Below m w w' :=
 ⟨⟨h.same (SameIn.of_out o (.inr h'.ge) h.size),h',hl⟩,o.below (Nat.le_trans (Nat.le_trans hl h.ge) (Nat.le_trans (Nat.le_of_lt h.choose_spec.2.2.2.1.2) h'.ge)) (Nat.le_trans (Nat.le_trans hl h.ge) (Nat.le_of_lt h.lt))⟩
end Go.Proofs.YtkoedfmdhdikaaaDoor
