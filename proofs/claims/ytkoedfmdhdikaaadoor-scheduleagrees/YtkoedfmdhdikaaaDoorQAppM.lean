/- What the proof stands on: QApp, QMath, QRX, Grw, QCC, EqN, LdOn, Q10Laid. -/
import Derived.Test.YtkoedfmdhdikaaaDoorBaseM
import Derived.Test.YtkoedfmdhdikaaaDoorCards
import Derived.Test.YtkoedfmdhdikaaaDoorHExpandM
import Derived.Test.YtkoedfmdhdikaaaDoorHRefSmallM
import Derived.Test.YtkoedfmdhdikaaaDoorHWriteCM
import Derived.Test.YtkoedfmdhdikaaaDoorTie
import Derived.Laws.Cover3
import Derived.Lib.ConvBytes
import Derived.Lib.LaidTab
import Derived.Lib.SlBytesConst
namespace Go.Proofs.YtkoedfmdhdikaaaDoor
open Go.RowKit
def litB (l:List Nat):Nat→Nat:=fun j=>l.getD j 0
def litV (l:List Nat):Array Value:=(l.map fun (x:Nat)=>Value.int .u8 (x:Int)).toArray
theorem lit_cell (W:World) (l:List Nat) (t:TypeId) (f:Nat × Nat) (j:Nat) (hj:j<l.length):(W.alloc (.cells (litV l) t f)).cell? ⟨W.heap.size,j,none⟩=some (.int .u8 (litB l j)):=by
 unfold World.cell?
 rw [heap_alloc_new]
 simp [litV,litB,hj]
theorem litB_B:∀ (w:World) (l:List Nat) (f:Nat × Nat),BytesIn (w.alloc (.cells (litV l) 5 f)) (.slice (some ⟨w.heap.size,0,none⟩) l.length l.length) l.length (litB l):=fun w l f =>
 .inr ⟨w.heap.size,0,l.length,rfl,by simp,Nat.le_refl _,fun j hj=>by rw [Nat.zero_add];exact lit_cell w l _ f j hj⟩
theorem convC (W:World) (l:List Nat):(convert 24 24 (.slice (some ⟨W.heap.size,0,none⟩) l.length l.length)).run Tryd.prog (W.alloc (.cells (litV l) 5)) = .ok (.slice (some ⟨W.heap.size,0,none⟩) l.length l.length) (W.alloc (.cells (litV l) 5 (l.length,l.length+1))):=by
 have h:=Lib.run_convert_bytes_const (P:=Tryd.prog) W 24 5 (litV l) l.length l.length Tryd.underlying24 Tryd.underlying5
 rw [h]
 simp [litV]
end Go.Proofs.YtkoedfmdhdikaaaDoor
namespace Go.Proofs.YtkoedfmdhdikaaaDoor
open Go.RowKit
def catL:List (Nat × (Nat→Nat))→Nat→Nat
 | []=>fun _=>0
 | p :: r=>cat p.1 p.2 (catL r)
def lenL:List (Nat × (Nat→Nat))→Nat
 | []=>0
 | p :: r=>p.1+lenL r
theorem catL_lt:∀ (ps:List (Nat × (Nat→Nat))),(∀ p,p∈ps→∀ j,p.2 j<256)→∀ j,catL ps j<256
 | [],_,j=>by show 0<256;decide
 | p :: r,h,j=>cat_lt (h p (List.mem_cons_self ..)) (catL_lt r fun q hq=>h q (List.mem_cons_of_mem _ hq)) j
theorem catL_at:∀ (ps:List (Nat × (Nat→Nat))) (i:Nat) (p:Nat × (Nat→Nat)),ps[i]? = some p→∀ j,j<p.1→catL ps (lenL (ps.take i)+j)=p.2 j
 | [],i,p,h=>by simp at h
 | q :: r,0,p,h=>by
  simp only [List.getElem?_cons_zero,Option.some.injEq] at h
  subst h
  intro j hj
  show cat q.1 q.2 (catL r) (0+j)=q.2 j
  rw [Nat.zero_add]
  exact cat_left hj
 | q :: r,i+1,p,h=>by
  intro j hj
  show cat q.1 q.2 (catL r) ((q.1+lenL (r.take i))+j)=p.2 j
  rw [Nat.add_assoc,cat_right]
  exact catL_at r i p (by simpa using h) j hj
theorem lenL_succ:∀ (ps:List (Nat × (Nat→Nat))) (i:Nat) (p:Nat × (Nat→Nat)),ps[i]? = some p→lenL (ps.take (i+1))=lenL (ps.take i)+p.1
 | [],i,p,h=>by simp at h
 | q :: r,0,p,h=>by
  simp only [List.getElem?_cons_zero,Option.some.injEq] at h
  subst h
  show q.1+0=0+q.1
  omega
 | q :: r,i+1,p,h=>by
  show q.1+lenL (r.take (i+1))=q.1+lenL (r.take i)+p.1
  rw [lenL_succ r i p (by simpa using h),Nat.add_assoc]
theorem lenL_take_le:∀ (ps:List (Nat × (Nat→Nat))) (i:Nat),lenL (ps.take i)≤lenL ps
 | [],i=>by simp
 | q :: r,0=>Nat.zero_le _
 | q :: r,i+1=>Nat.add_le_add_left (lenL_take_le r i) _
theorem BytesIn.cong {w:World} {v:Value} {n:Nat} {a b:Nat→Nat} (h:BytesIn w v n a) (e:∀ j,j<n→a j=b j):BytesIn w v n b:=by
 rcases h with h | ⟨bb,ob,cap,rfl,h1,h2,h3⟩
 · exact .inl h
 · exact .inr ⟨bb,ob,cap,rfl,h1,h2,fun j hj=>by rw [h3 j hj,e j hj]⟩
def lZ:Nat→Nat:=fun _=>0
end Go.Proofs.YtkoedfmdhdikaaaDoor
namespace Go.Proofs.YtkoedfmdhdikaaaDoor
open Go.RowKit
def strL (l:List Nat):ByteArray:=⟨(l.map UInt8.ofNat).toArray⟩
theorem litB_lt {l:List Nat} (h:∀ x,x∈l→x<256) (j:Nat):litB l j<256:=by
 unfold litB
 by_cases hj:j<l.length
 · rw [List.getD_eq_getElem?_getD,List.getElem?_eq_getElem hj];exact h _ (List.getElem_mem hj)
 · rw [List.getD_eq_getElem?_getD,List.getElem?_eq_none (by omega)];decide
end Go.Proofs.YtkoedfmdhdikaaaDoor
namespace Go.Proofs.YtkoedfmdhdikaaaDoor
open Go.RowKit
theorem run_append_zeros_nil (w:World) (ty:TypeId) (m:Nat) (h0:0<m) (hm:m≤1000000) :
 (Builtin.append_ #[24,3] ty #[.slice none 0 0,.int .i64 m]).run Tryd.prog w =
  .ok (.slice (some ⟨w.heap.size,0,none⟩) m (grownCap w m 0 5)) (w.drew.alloc (.cells ((ints .u8 m (fun _=>0)).toArray ++ Builtin.zeroCells #[.int .u8 0] (grownCap w m 0 5 - m)) 5)):=by
 obtain ⟨i,hi,hz,hz1,hz2⟩:=info_parts Tryd.info5
 have h63':¬ (9223372036854775807<(m:Int)):=by omega
 have hw:IntKind.i64.wrap (m:Int)=m:=by simp only [IntKind.wrap_i64];omega
 have hl0:¬((m:Int)<0):=by omega
 have h48:¬ (281474976710656<(m:Int)):=by omega
 have hm0:¬(m=0):=by omega
 have hai:∀ W,Sem.run Tryd.prog (asInt (.int .i64 (m:Int))) W = .ok (m:Int) W:=fun _=>rfl
 have hc:(Value.int IntKind.u8 0).cells=#[.int .u8 0]:=rfl
 have hu:=run_underlying (P:=Tryd.prog) Tryd.underlying24
 have hu2:=run_underlying (P:=Tryd.prog) Tryd.underlying3
 have hns:¬ (281474976710656<Builtin.nextslicecap m 0):=by rw [nextslicecap_zero h0];omega
 simp [Builtin.append_,hu,hu2,sizeOf,typeInfo,zeroValue,hi,hz,hai,hw,hl0,h48,hz1,hz2,h63',Question.forced,run_firstCells_none,newRow,grownCap,hc,hm0,hns]
 rw [zeroCells_u8 m]
theorem append_zeros0 (w:World) (ty:TypeId) (m:Nat) (h0:0<m) (hm:m≤1000000) :
 ∃ g cap w',(Builtin.append_ #[24,3] ty #[.slice none 0 0,.int .i64 m]).run Tryd.prog w = .ok (.slice (some ⟨g,0,none⟩) m cap) w'∧m≤cap∧Own w.heap.size w' (.slice (some ⟨g,0,none⟩) 0 cap) 0 (fun _=>0)∧Below w.heap.size w w':=by
 have hge:=grownCap_ge w m 0 5
 have hcm:=grownCap_le_maxLen w m 0 5 (by unfold maxLen;omega)
 refine ⟨_,_,_,run_append_zeros_nil w ty m h0 hm,hge,⟨rfl,.inr ⟨w.heap.size,_,_,rfl,Nat.le_refl _,heap_alloc_new w.drew _,Nat.zero_le _,hcm,?_,rfl⟩⟩,((Below.refl _ _).drew).alloc (Nat.le_refl _) _⟩
 simp only [Array.size_append,List.size_toArray,size_zeroCells,ints_len]
 simp
 omega
theorem wpList_append_zeros0 {w:World} {ops:Array Oper} {rest:List Oper} {o:Oper} {a:Act} {Q:Exit→Act→World→Prop} (hgd:o.guard=none) (s x:Operand)
 (ho:o.op = .call { callee := .builtin .append,args:=#[s,x],argTypes:=#[24,3] }) (hs:a.eval s = .slice none 0 0) (m:Nat) (hx:a.eval x = .int .i64 m) (h0:0<m) (hm:m≤1000000)
 (h:∀ g cap w',m≤cap→Own w.heap.size w' (.slice (some ⟨g,0,none⟩) 0 cap) 0 (fun _=>0)→Below w.heap.size w w'→wpList Tryd.prog ops Q rest (a.put o.dst (.slice (some ⟨g,0,none⟩) m cap)) w'):wpList Tryd.prog ops Q (o :: rest) a w:=by
 refine wpList_plain hgd fun K hK => ?_
 obtain ⟨g,cap,w',h1,h2,h3,h4⟩:=append_zeros0 w o.type m h0 hm
 unfold Oper.wp execOp
 simp only [ho,resolve,invoke,builtin,Sem.run_bind,Sem.run_pure,Result.andThen_ok,List.map_toArray,List.map_cons,List.map_nil,hs,hx,h1]
 exact hK _ _ (h g cap w' h2 h3 h4)
set_option maxRecDepth 20000 in
set_option maxHeartbeats 4000000 in
theorem grow_any (m:Nat) (h0:0<m) (hm:m≤1000000) (w:World) :
 Calls Tryd.prog 53 #[.slice none 0 0,.int .i64 m] w fun e w'=>∃ g cap,e = .returned (.slice (some ⟨g,0,none⟩) 0 cap)∧Own w.heap.size w' (.slice (some ⟨g,0,none⟩) 0 cap) 0 (fun _=>0)∧Below w.heap.size w w':=by
 have e1:¬((m:Int)<0):=by omega
 have e2:(0:Int)<(m:Int):=by omega
 have e3:IntKind.i64.wrap ((m:Int) - 0)=(m:Int):=by simp only [IntKind.wrap_i64];omega
 have e4:IntKind.i64.wrap (m:Int)=(m:Int):=by simp only [IntKind.wrap_i64];omega
 go_enter Tryd.func53,Tryd.ntmps53
 go_wp2_with (at_builtin;refine wpList_append_zeros0 rfl (.tmp 20) (.tmp 21) rfl rfl m rfl h0 hm ?_;intro g cap w1 hcap own hb)
 go_ret
 exact ⟨g,cap,rfl,own,hb⟩
end Go.Proofs.YtkoedfmdhdikaaaDoor
namespace Go.Proofs.YtkoedfmdhdikaaaDoor
open Go.RowKit
set_option maxRecDepth 20000 in
set_option maxHeartbeats 8000000 in
theorem concat_parts (gp cnt m:Nat) (t:Nat→Nat) (w:World) (hP:Parts w gp cnt m t) (hcnt:cnt≤1000) (hsum:m≤1000000) (h0:0<m) :
 Calls Tryd.prog 36 #[.slice (some ⟨gp,0,none⟩) cnt cnt] w fun e w'=>∃ s,e = .returned s∧Own w.heap.size w' s m t∧Below w.heap.size w w':=by
 obtain ⟨pvs,L,p0,p1,p2⟩:=hP
 have P2:=Hid.mk' p2
 clear p2
 have hg:=grow_any m h0 hsum w
 go_enter Tryd.func36,Tryd.ntmps36
 go_wp2
 go_loopw [3,11] (fun s i wr=>∃ q T:Nat,q≤cnt∧i = .int .i64 q∧Hid (T=L q)∧s = .int .i64 T∧w=wr) (fun _ i _=>cnt - (intOf i).toNat)
 case atStart=>exact ⟨0,0,Nat.zero_le _,rfl,Hid.mk' p0.symm,rfl,rfl⟩
 case round =>
  obtain ⟨q,T,hq,rfl,HT,rfl,rfl⟩:=hrel
  by_cases hlt:q<cnt
  · obtain ⟨c1,c2,c3,c4⟩:=P2.out q hlt
    obtain ⟨xp,cp,hpv,hxn,hncp,hsrc⟩:=c4.src
    obtain ⟨n,hn⟩:∃ n,n=L (q+1) - L q:=⟨_,rfl⟩
    have hTn:T+n=L (q+1):=by have:=HT.out;omega
    have hTm:T+n≤1000000:=by omega
    have r0:w.cell? ⟨gp,q,none⟩=some (.slice xp n cp):=by rw [c1,hpv,hn]
    have hqi:(0:Int)≤(q:Int)∧(q:Int)<cnt:=by omega
    have hd:decide ((q:Int)<(cnt:Int))=true:=decide_eq_true (by omega)
    have ew:IntKind.i64.wrap ((T:Int)+(n:Int))=(T:Int)+n:=by simp only [IntKind.wrap_i64];omega
    have en:¬((T:Int)+(n:Int)<0):=by omega
    have HN:Hid (T+n=L (q+1)):=hTn
    clear hn hTn c1 c2 c3 c4 hpv hsrc hg p0 p1
    go_wp2
    go_roundw
    case rel=>exact ⟨q+1,T+n,by omega,by go_num,Hid.mk' HN.out,by simp,by first | rfl | trivial⟩
    case measure=>simp [intOf];omega
  · have hqe:q=cnt:=by omega
    subst hqe
    have hTm:T=m:=by rw [HT.out,p1]
    subst hTm
    go_wp2_with (go_at_call 53;refine hg.mono ?_;clear hg;rintro e w1 ⟨g1,cap1,rfl,own1,hb1⟩)
    have hd0:decide ((q:Int)<(q:Int))=false:=decide_eq_false (by omega)
    try rw [hd0]
    clear hd0 hlt HT
    go_loopw [6,27] (fun ns i wr=>∃ r A:Nat,r≤q∧i = .int .i64 r∧Hid (A=L r)∧Own w.heap.size wr ns A t∧Below w.heap.size w wr) (fun _ i _=>q - (intOf i).toNat)
    case atStart=>exact ⟨0,0,Nat.zero_le _,rfl,Hid.mk' p0.symm,own1.congr (fun j hj=>absurd hj (Nat.not_lt_zero j)),hb1⟩
    case round =>
     clear own1 hb1
     obtain ⟨r,A,hr,rfl,HA,own,hbw⟩:=hrel
     by_cases hlt:r<q
     · obtain ⟨c1,c2,c3,c4⟩:=P2.out r hlt
       obtain ⟨xp,cp,hpv,hxn,hncp,hsrc⟩:=c4.src
       obtain ⟨n,hn⟩:∃ n,n=L (r+1) - L r:=⟨_,rfl⟩
       have hTn:A+n=L (r+1):=by have:=HA.out;omega
       have hTm:A+n≤1000000:=by omega
       have r0:wr.cell? ⟨gp,r,none⟩=some (.slice xp n cp):=by rw [hbw.cell (p:=⟨gp,r,none⟩) (block_lt_of_cell c1),c1,hpv,hn]
       have hcg:∀ z,z<A+n→cat A t (fun j=>t (L r+j)) z=t z:=fun z hz=>by
        have:=HA.out
        unfold cat
        by_cases e:z<A
        · rw [if_pos e]
        · rw [if_neg e]
          show t (L r+(z - A))=t z
          rw [show L r+(z - A)=z by omega]
       have src:=hsrc wr hbw
       rw [←hn] at src
       obtain ⟨Y,hY⟩:∃ Y:Nat→Nat,Y=fun j=>t (L r+j):=⟨_,rfl⟩
       rw [←hY] at src hcg
       have hqi:(0:Int)≤(r:Int)∧(r:Int)<q:=by omega
       have hd:decide ((r:Int)<(q:Int))=true:=decide_eq_true (by omega)
       have hsz:=hbw.size
       have HN:Hid (A+n=L (r+1)):=hTn
       clear hn hTn c1 c2 c3 c4 hpv hsrc p0 p1 hY
       go_wp2_with (at_builtin;refine wpList_append_bytes rfl (.tmp 31) (.tmp 32) rfl w.heap.size u6 A t rfl own xp n cp Y rfl src hxn (by omega) hsz ?_;intro v6 w6 own6 grow6;(have hb6:Below w.heap.size w w6:=Own.grown hbw grow6 own (Nat.le_refl _) hsz))
       go_roundw
       case rel=>exact ⟨r+1,A+n,by omega,by go_num,Hid.mk' HN.out,own6.congr hcg,hb6⟩
       case measure=>simp [intOf];omega
     · have hqe:r=q:=by omega
       subst hqe
       have hA:=HA.out
       rw [p1] at hA
       go_wp2
       go_ret
       exact ⟨_,rfl,by rw [←hA];exact own,hbw⟩
theorem Parts.congr {w:World} {gp cnt m:Nat} {t u:Nat→Nat} (h:Parts w gp cnt m t) (e:∀ j,j<m→t j=u j):Parts w gp cnt m u:=by
 obtain ⟨pvs,L,p0,p1,p2⟩:=h
 refine ⟨pvs,L,p0,p1,fun i hi => ?_⟩
 obtain ⟨c1,c2,c3,c4⟩:=p2 i hi
 exact ⟨c1,c2,c3,c4.cong fun j hj=>e _ (by omega)⟩
theorem Parts.keep {w w':World} {gp cnt m:Nat} {t:Nat→Nat} (h:Parts w gp cnt m t) (hb:Below w.heap.size w w'):Parts w' gp cnt m t:=by
 obtain ⟨pvs,L,p0,p1,p2⟩:=h
 refine ⟨pvs,L,p0,p1,fun i hi => ?_⟩
 obtain ⟨c1,c2,c3,c4⟩:=p2 i hi
 exact ⟨(hb.cell (p:=⟨gp,i,none⟩) (block_lt_of_cell c1)).trans c1,c2,c3,c4.keep hb⟩
def Texts (w:World) (v:Value) (cnt m:Nat) (t:Nat→Nat):Prop:=(v = .slice none 0 0∧cnt=0∧m=0)∨∃ gp,v = .slice (some ⟨gp,0,none⟩) cnt cnt∧Parts w gp cnt m t
theorem Texts.keep {w w':World} {v:Value} {cnt m:Nat} {t:Nat→Nat} (h:Texts w v cnt m t) (hb:Below w.heap.size w w'):Texts w' v cnt m t:=by
 rcases h with h | ⟨gp,hv,hP⟩
 · exact .inl h
 · exact .inr ⟨gp,hv,hP.keep hb⟩
end Go.Proofs.YtkoedfmdhdikaaaDoor
namespace Go.Proofs.YtkoedfmdhdikaaaDoor
open Go.RowKit
theorem run_eql_slice_nil {P:Program} (w:World) (t e:TypeId) (a:Option Addr) (l c:Nat) (h:P.underlying t=some (.slice e)):(binOp .eql t (.slice a l c) (.slice none 0 0)).run P w = .ok (.bool a.isNone) w:=by
 simp only [binOp]
 simp [run_equal_slice_nil w t e a l c h]
theorem wpList_eqnil {ops:Array Oper} {rest:List Oper} {op:Oper} {a:Act} {w:World} {Q:Exit→Act→World→Prop} (hgd:op.guard=none) (x y:Operand) (t2:TypeId) (ho:op.op = .binOp .eql 24 x y t2) (ad:Addr) (l c:Nat)
 (hx:a.eval x = .slice (some ad) l c) (hy:a.eval y = .slice none 0 0) (h:wpList Tryd.prog ops Q rest (a.put op.dst (.bool false)) w):wpList Tryd.prog ops Q (op :: rest) a w :=
 wpList_plain hgd fun K hK=>by
  unfold Oper.wp execOp
  simp only [ho,hx,hy]
  have e:(eqGuard .eql 24 x y (.slice (some ad) l c) (.slice none 0 0)).run Tryd.prog w = .ok () w:=by
   simp [eqGuard]
  rw [Sem.run_bind,Sem.run_bind,e]
  simp only [Result.andThen_ok]
  rw [run_eql_slice_nil w 24 5 (some ad) l c Tryd.underlying24]
  exact hK _ _ h
end Go.Proofs.YtkoedfmdhdikaaaDoor
namespace Go.Proofs.YtkoedfmdhdikaaaDoor
open Go.RowKit
theorem wpList_load_on {P:Program} {ops:Array Oper} {rest:List Oper} {op:Oper} {a:Act} {w:World} {Q:Exit→Act→World→Prop} (hw:Region.wanted op (yielded ops a.tmps)=true) (ty:TypeId) (x:Operand) (ho:op.op = .load ty x) (b o:Nat) (hx:a.eval x = .pointer (some ⟨b,o,none⟩)) (cs:List Value) (d:TypeDesc) (hc:w.rangeAt b o cs) (hu:P.underlying ty=some d) (hd:d.isRow=true) (hi:(P.info? ty).map (·.size)=some cs.length) (h:wpList P ops Q rest (a.put op.dst (.agg cs.toArray)) w):wpList P ops Q (op :: rest) a w:=by
 unfold wpList
 rw [if_pos hw]
 exact .inl (wp_load_mid ty x ho b o hx cs d hc hu hd hi h)
end Go.Proofs.YtkoedfmdhdikaaaDoor
namespace Go.Proofs.YtkoedfmdhdikaaaDoor
open Go Go.RowKit
def lay (cs:Array Value):Obj→Obj
 | .cells _ t frozen => .cells cs t frozen
 | o=>o
theorem cellsOfI:Tryd.prog.cellsOf 3=1:=by kernel_rfl
theorem cellsOfU:Tryd.prog.cellsOf 74=1:=by kernel_rfl
theorem cellsOf3U:Tryd.prog.cellsOf 109=3:=by kernel_rfl
theorem cellsOfW:Tryd.prog.cellsOf 117=1:=by kernel_rfl
theorem cellsOf80W:Tryd.prog.cellsOf 139=80:=by kernel_rfl
theorem cellsOf8W:Tryd.prog.cellsOf 119=8:=by kernel_rfl
theorem rules_parts {H:Type} {enc:TypeId × Value→H} {w:World} {base:Nat} {sp:Nat→Bool} {held:Bool} {fuel:Nat} {cs:List Value} {a b:Int} {x y z u:List Int} {p:List MemPlace}
 (h:DataW.trod enc Tryd.prog w base sp held fuel 111 cs=some (.agg [.lit (.int .i64 a),.lit (.int .i64 b),Lib.tabData .u64 x,Lib.tabData .u64 y,Lib.tabData .u64 z,Lib.tabData .u64 u],p)) :
 (cs.drop 0).take 1=[.int .i64 a]∧(cs.drop 1).take 1=[.int .i64 b]∧(cs.drop 2).take 3=x.map (fun v=>Value.int .u64 v)∧(cs.drop 5).take 3=y.map (fun v=>Value.int .u64 v)∧(cs.drop 8).take 3=z.map (fun v=>Value.int .u64 v)∧(cs.drop 11).take 3=u.map (fun v=>Value.int .u64 v):=by
 cases fuel with
 | zero=>simp [DataW.trod] at h
 | succ fuel =>
  simp only [DataW.trod,Tryd.underlying111] at h
  split at h
  · obtain ⟨xs,hm,hx⟩:=Option.map_eq_some_iff.1 h
    have hxs:=congrArg Prod.fst hx
    simp only [DataW.agg.injEq] at hxs
    have hlen:xs.length=6:=by have:=congrArg List.length hxs;simpa using this
    have g:∀ i f,(i<6)→[(3,0),(3,1),(109,2),(109,5),(109,8),(109,11)][i]? = some f→∃ y,xs[i]? = some y∧DataW.trod enc Tryd.prog w base sp held fuel f.1 ((cs.drop f.2).take (Tryd.prog.cellsOf f.1))=some y:=fun i f hi hf=>by
     match i,hi,hf with
     | 0,_,hf=>cases hf;exact Lib.mapM_at hm 0 _ rfl
     | 1,_,hf=>cases hf;exact Lib.mapM_at hm 1 _ rfl
     | 2,_,hf=>cases hf;exact Lib.mapM_at hm 2 _ rfl
     | 3,_,hf=>cases hf;exact Lib.mapM_at hm 3 _ rfl
     | 4,_,hf=>cases hf;exact Lib.mapM_at hm 4 _ rfl
     | 5,_,hf=>cases hf;exact Lib.mapM_at hm 5 _ rfl
    match xs,hlen,hxs,g with
    | [x0,x1,x2,x3,x4,x5],_,hxs,g =>
     simp only [List.map_cons,List.map_nil,List.cons.injEq,and_true] at hxs
     obtain ⟨e0,e1,e2,e3,e4,e5⟩:=hxs
     obtain ⟨_,h0,t0⟩:=g 0 _ (by decide) rfl
     obtain ⟨_,h1,t1⟩:=g 1 _ (by decide) rfl
     obtain ⟨_,h2,t2⟩:=g 2 _ (by decide) rfl
     obtain ⟨_,h3,t3⟩:=g 3 _ (by decide) rfl
     obtain ⟨_,h4,t4⟩:=g 4 _ (by decide) rfl
     obtain ⟨_,h5,t5⟩:=g 5 _ (by decide) rfl
     cases h0;cases h1;cases h2;cases h3;cases h4;cases h5
     rw [cellsOfI] at t0 t1
     rw [cellsOf3U] at t2 t3 t4 t5
     obtain ⟨z0,c0,r0,_⟩:=DataW.trod_int Tryd.underlying3 t0
     obtain ⟨z1,c1,r1,_⟩:=DataW.trod_int Tryd.underlying3 t1
     subst r0 r1
     cases e0;cases e1
     have k:∀ {o:Nat} {v:DataW H × List MemPlace} {l:List Int},DataW.trod enc Tryd.prog w base sp held fuel 109 ((cs.drop o).take 3)=some v→v.1=Lib.tabData .u64 l→(cs.drop o).take 3=l.map (fun v=>Value.int .u64 v):=fun {o v l} ht he=>by
      obtain ⟨v1,v2⟩:=v
      cases he
      exact Lib.cells_of_tab Tryd.underlying109 Tryd.underlying74 cellsOfU cellsOf3U ht
     exact ⟨c0,c1,k t2 e2,k t3 e3,k t4 e4,k t5 e5⟩
  · cases h
theorem at_of_part {cs:List Value} {o n:Nat} {l:List Value} (h:(cs.drop o).take n=l) (i:Nat) (hi:i<n):cs[o+i]? = l[i]?:=by
 rw [←h,List.getElem?_take,if_pos hi,List.getElem?_drop]
theorem cubesL_eq:Rows.laid_synod_sha_cubes=(Lib.tabData .u64 (cubesL.map fun n:Nat=>(n:Int)):DataW Unit):=rfl
theorem squaresL_eq:Rows.laid_synod_sha_squares=(Lib.tabData .u64 (squaresL.map fun n:Nat=>(n:Int)):DataW Unit):=rfl
theorem gCubes:Tryd.prog.globalNamed "synod/sha.cubes" = some 3:=by kernel_rfl
theorem gSquares:Tryd.prog.globalNamed "synod/sha.squares" = some 2:=by kernel_rfl
theorem gNarrow:Tryd.prog.globalNamed "synod/sha.narrowRules" = some 0:=by kernel_rfl
theorem gWide:Tryd.prog.globalNamed "synod/sha.wideRules" = some 1:=by kernel_rfl
theorem tCubes:(Tryd.prog.globals[3]?).map (·.type)=some 139:=by kernel_rfl
theorem tSquares:(Tryd.prog.globals[2]?).map (·.type)=some 119:=by kernel_rfl
theorem tNarrow:(Tryd.prog.globals[0]?).map (·.type)=some 111:=by kernel_rfl
theorem tWide:(Tryd.prog.globals[1]?).map (·.type)=some 111:=by kernel_rfl
theorem tab_cell {W:World} {name:String} {g:Nat} {l:List Nat} {cs:Array Value} (hg:Tryd.prog.globalNamed name=some g) (hv:W.var? Tryd.prog name=some cs) (hc:cs.toList=(l.map fun n:Nat=>(n:Int)).map fun z=>Value.int .u64 z) (j:Nat) (hj:j<l.length):W.cell? ⟨g,j,none⟩=some (.int .u64 ((l.getD j 0:Nat):Int)):=by
 rw [World.var?_cell hg hv j,←Array.getElem?_toList,hc]
 simp [List.getD,hj]
theorem sha_of_laid {W:World} (h:laidMetH Tryd.prog [("synod/sha.cubes", Rows.laid_synod_sha_cubes),("synod/sha.squares", Rows.laid_synod_sha_squares),("synod/sha.narrowRules", Rows.laid_synod_sha_narrowRules),("synod/sha.wideRules", Rows.laid_synod_sha_wideRules)] W):HTab W cubeK squareK:=by
 have h':laidMet Tryd.prog [("synod/sha.cubes", Rows.laid_synod_sha_cubes),("synod/sha.squares", Rows.laid_synod_sha_squares),("synod/sha.narrowRules", Rows.laid_synod_sha_narrowRules),("synod/sha.wideRules", Rows.laid_synod_sha_wideRules)] W:=h
 obtain ⟨ps,⟨g1,t1,cs1,f1,p1,q1,hg1,ht1,hv1,hd1,⟨g2,t2,cs2,f2,p2,q2,hg2,ht2,hv2,hd2,⟨g3,t3,cs3,f3,p3,q3,hg3,ht3,hv3,hd3,⟨g4,t4,cs4,f4,p4,q4,hg4,ht4,hv4,hd4,_,_⟩,_⟩,_⟩,_⟩,_⟩:=h'
 obtain rfl:=Option.some.inj (gCubes.symm.trans hg1)
 obtain rfl:=Option.some.inj (tCubes.symm.trans ht1)
 obtain rfl:=Option.some.inj (gSquares.symm.trans hg2)
 obtain rfl:=Option.some.inj (tSquares.symm.trans ht2)
 obtain rfl:=Option.some.inj (gNarrow.symm.trans hg3)
 obtain rfl:=Option.some.inj (tNarrow.symm.trans ht3)
 obtain rfl:=Option.some.inj (gWide.symm.trans hg4)
 obtain rfl:=Option.some.inj (tWide.symm.trans ht4)
 rw [cubesL_eq] at hd1
 rw [squaresL_eq] at hd2
 have c1:=Lib.cells_of_tab Tryd.underlying139 Tryd.underlying117 cellsOfW cellsOf80W hd1
 have c2:=Lib.cells_of_tab Tryd.underlying119 Tryd.underlying117 cellsOfW cellsOf8W hd2
 obtain ⟨a0,a1,a2,a3,a4,a5⟩:=rules_parts (a:=32) (b:=64) (x:=[7,18,3]) (y:=[17,19,10]) (z:=[2,13,22]) (u:=[6,11,25]) hd3
 obtain ⟨b0,b1,b2,b3,b4,b5⟩:=rules_parts (a:=64) (b:=80) (x:=[1,8,7]) (y:=[19,61,6]) (z:=[28,34,39]) (u:=[14,18,41]) hd4
 have n:∀ j,W.cell? ⟨0,j,none⟩=cs3.toList[j]?:=fun j=>by rw [World.var?_cell gNarrow hv3 j,Array.getElem?_toList]
 have v:∀ j,W.cell? ⟨1,j,none⟩=cs4.toList[j]?:=fun j=>by rw [World.var?_cell gWide hv4 j,Array.getElem?_toList]
 refine ⟨fun j hj=>tab_cell gCubes hv1 c1 j hj,fun j hj=>tab_cell gSquares hv2 c2 j hj,?_,?_,cubeK_lt,squareK_lt⟩
 · exact ⟨(n 0).trans (at_of_part a0 0 (by decide)),(n 1).trans (at_of_part a1 0 (by decide)),(n 2).trans (at_of_part a2 0 (by decide)),(n 3).trans (at_of_part a2 1 (by decide)),(n 4).trans (at_of_part a2 2 (by decide)),(n 5).trans (at_of_part a3 0 (by decide)),(n 6).trans (at_of_part a3 1 (by decide)),(n 7).trans (at_of_part a3 2 (by decide)),(n 8).trans (at_of_part a4 0 (by decide)),(n 9).trans (at_of_part a4 1 (by decide)),(n 10).trans (at_of_part a4 2 (by decide)),(n 11).trans (at_of_part a5 0 (by decide)),(n 12).trans (at_of_part a5 1 (by decide)),(n 13).trans (at_of_part a5 2 (by decide))⟩
 · exact ⟨(v 0).trans (at_of_part b0 0 (by decide)),(v 1).trans (at_of_part b1 0 (by decide)),(v 2).trans (at_of_part b2 0 (by decide)),(v 3).trans (at_of_part b2 1 (by decide)),(v 4).trans (at_of_part b2 2 (by decide)),(v 5).trans (at_of_part b3 0 (by decide)),(v 6).trans (at_of_part b3 1 (by decide)),(v 7).trans (at_of_part b3 2 (by decide)),(v 8).trans (at_of_part b4 0 (by decide)),(v 9).trans (at_of_part b4 1 (by decide)),(v 10).trans (at_of_part b4 2 (by decide)),(v 11).trans (at_of_part b5 0 (by decide)),(v 12).trans (at_of_part b5 1 (by decide)),(v 13).trans (at_of_part b5 2 (by decide))⟩
def tabA (l:List Nat):Array Value:=(l.map fun n:Nat=>Value.int .u64 (n:Int)).toArray
def rulA (m r:Nat) (l:List Nat):Array Value:=([Value.int .i64 m,.int .i64 r] ++ l.map fun n:Nat=>Value.int .u64 (n:Int)).toArray
noncomputable def laidWorldH (os:Os):World :=
 { World.holding Tryd.prog os ⟨#[],#[],[]⟩ with heap:=(((((World.holding Tryd.prog os ⟨#[],#[],[]⟩).heap.modify 3 (lay (tabA cubesL))).modify 2 (lay (tabA squaresL))).modify 0 (lay (rulA 32 64 [7,18,3,17,19,10,2,13,22,6,11,25]))).modify 1 (lay (rulA 64 80 [1,8,7,19,61,6,28,34,39,14,18,41]))) }
end Go.Proofs.YtkoedfmdhdikaaaDoor
