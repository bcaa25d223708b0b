/- What the proof stands on: T4M, N3rb, N3W, N3X, N3Y, N3Kg, N3rd, N3rf, N3rg. -/
import Derived.Test.YtddkbmnkbfciaaaGreatDoorBaseM
import Derived.Test.YtddkbmnkbfciaaaGreatDoorD1CEM
import Derived.Test.YtddkbmnkbfciaaaGreatDoorI2CcM
import Derived.Test.YtddkbmnkbfciaaaGreatDoorN3FM
import Derived.Test.YtddkbmnkbfciaaaGreatDoorN3SM
import Derived.Test.YtddkbmnkbfciaaaGreatDoorRFnM
import Derived.Test.YtddkbmnkbfciaaaGreatDoorT4IM
import Derived.Test.YtddkbmnkbfciaaaGreatDoorZAb2M
import Derived.Laws.Externs
namespace Go.Proofs.YtddkbmnkbfciaaaGreatDoor
open Go.RowKit Go.Shelf
section
variable {P:Program} {md:Region.Mode} {ops:Array Oper} {Q:Exit→Act→World→Prop} {S:World→Prop} {fuel:Nat} {listed:Array Bool} {a:Act} {w:World}
theorem wo4 (i:Nat) {oi:Oper} {v:Value} {w':World} (hrun:(execOp a.eval oi).run P w = .ok (.value v) w') (hk:S w') (h:wpAnyH P md ops Q S fuel (listed.setIfInBounds i true) (a.put oi.dst v) w')
 (hi:ops.toList[i]? = some oi:=by rfl) (hr:Region.ready md ops listed=[i]:=by kernel_rfl) (hw:Region.wanted oi (yielded ops a.tmps)=true:=by rfl):wpAnyH P md ops Q S (fuel+1) listed a w:=by
 refine wpAnyH_ready hr (by simp) (AllReadyH.cons (at_list hi) (fun K hK => ?_) AllReadyH.nil)
 rw [if_pos hw]
 unfold Oper.wp
 rw [hrun,Oper.upon_value]
 exact hK.out _ _ hk (fun _=>h)
end
theorem zu1:Tryz.prog.underlying 51=some (.slice (Tryz.prog.elem 51)):=by kernel_rfl
theorem zu2:Tryz.prog.elem 51=3:=by kernel_rfl
theorem zu3 (W:World):((sizeOf 3).run Tryz.prog W) = .ok 1 W:=by kernel_rfl
theorem zsl_from (W:World) (bb ob L cap m:Nat) (hm:m≤L) (hc:m<cap):(Instr.sliceAt 51 (.slice (some ⟨bb,ob,none⟩) L cap) (some (.int .i64 m)) none none).run Tryz.prog W = .ok (.slice (some ⟨bb,ob+m,none⟩) (L - m) (cap - m)) W:=by
 rw [run_sliceAt_slice W 51 _ _ _ _ zu1,run_slice_l W 51 _ L cap zu1 .i64 _ (by omega) (by omega),zu2,zu3]
 have:¬cap=m:=by omega
 simp [sliced,Addr.add_mid,this]
theorem zsl_from0 (W:World) (bb L cap m:Nat) (hm:m≤L) (hc:m<cap):(Instr.sliceAt 51 (.slice (some ⟨bb,0,none⟩) L cap) (some (.int .i64 m)) none none).run Tryz.prog W = .ok (.slice (some ⟨bb,m,none⟩) (L - m) (cap - m)) W:=by
 have:=zsl_from W bb 0 L cap m hm hc
 rwa [Nat.zero_add] at this
theorem zsl_to (W:World) (bb ob L cap m:Nat) (hm:m≤cap):(Instr.sliceAt 51 (.slice (some ⟨bb,ob,none⟩) L cap) none (some (.int .i64 m)) none).run Tryz.prog W = .ok (.slice (some ⟨bb,ob,none⟩) m cap) W:=by
 rw [run_sliceAt_slice W 51 _ _ _ _ zu1,run_slice_h W 51 _ L cap zu1 .i64 _ (by omega) (by omega),zu2,zu3]
 simp [sliced,Addr.add_mid]
theorem zsl_ok (xo:Option Addr) (L cap m:Nat) (hm:m≤L):∃ v,∀ W:World,(Instr.sliceAt 51 (.slice xo L cap) (some (.int .i64 m)) none none).run Tryz.prog W = .ok v W :=
 ⟨_,fun W=>by rw [run_sliceAt_slice W 51 _ _ _ _ zu1,run_slice_l W 51 _ L cap zu1 .i64 _ (by omega) (by omega),zu2,zu3];rfl⟩
theorem run_append_zerosZ (w:World) (ty:TypeId) (g k cap m:Nat) (xs:List Value) (hxl:xs.length=k) (hx:w.rangeAt g 0 xs) (hc:cap<k+m) (h0:0<m) (hm:k+m≤100000) :
 ∃ cs':List Value,∃ c',k+m≤c'∧c'≤maxLen∧cs'.length=c'∧(∀ j,j<k→cs'[j]? = xs[j]?)∧(Builtin.append_ #[51,3] ty #[.slice (some ⟨g,0,none⟩) k cap,.int .i64 (m:Int)]).run Tryz.prog w =
  .ok (.slice (some ⟨w.heap.size,0,none⟩) (k+m) c') (w.drew.alloc (.cells cs'.toArray 3)):=by
 obtain ⟨i,hi,hz,hz1,hz2⟩:=info_parts info_int
 have hl0:¬((m:Int)<0):=by omega
 have hw:IntKind.i64.wrap (m:Int)=m:=by simp only [IntKind.wrap_i64];omega
 have hai:∀ W,Sem.run Tryz.prog (asInt (.int .i64 (m:Int))) W = .ok (m:Int) W:=fun _=>rfl
 have hu:=run_underlying (P:=Tryz.prog) und_ints
 have hu2:=run_underlying (P:=Tryz.prog) und_int
 have h48:¬ (281474976710656<(m:Int)*8):=by omega
 have hm0:¬(m=0):=by omega
 have hnc:¬(k+m≤cap):=by omega
 have hns:¬ (281474976710656<Builtin.nextslicecap (k+m) cap*8):=by have:=nextslicecap_le (need:=k+m) (old:=cap) (by omega);omega
 have h63':¬ (9223372036854775807<((k:Int)+(m:Int))):=by omega
 have hfc:=run_firstCells_some (P:=Tryz.prog) (w:=w.drew) 1 k ⟨g,0,none⟩ k cap xs (by omega) (fun j v hv=>by rw [Addr.add_mid];exact hx j v hv)
 have hge:=grownCap_ge w (k+m) cap 3
 have hcm:=grownCap_le_maxLen w (k+m) cap 3 (by unfold maxLen;omega)
 refine ⟨xs ++ ((Builtin.zeroCells #[.int .i64 0] m) ++ Builtin.zeroCells #[.int .i64 0] (grownCap w (k+m) cap 3 - (k+m))).toList,grownCap w (k+m) cap 3,hge,hcm,?_,fun j hj=>List.getElem?_append_left (by omega),?_⟩
 · simp [size_zeroCells];omega
 · have he:∀ A B:Array Value,xs.toArray ++ (A ++ B)=(xs ++ (A.toList ++ B.toList)).toArray:=fun A B=>by apply Array.ext';simp
   have hc':(Value.int IntKind.i64 0).cells=#[.int .i64 0]:=rfl
   simp [Builtin.append_,hu,hu2,sizeOf,typeInfo,zeroValue,hi,hz,hai,hw,hl0,h48,hz1,hz2,h63',Question.forced,newRow,grownCap,hc',hm0,hns,hnc,hfc]
   rw [he]
theorem zo_of_cells {base:Nat} {w:World} {G n c:Nat} {cur:Array Value} {L:List Int} (hh:w.heap[G]? = some (.cells cur 3 (0,0))) (hc:cur.size=c) (hn:n≤c) (hm:c≤maxLen) (hb:base≤G) (hL:L.length=n) (h:∀ j z,L[j]? = some z→w.cell? ⟨G,j,none⟩=some (.int .i64 z)):OwnZ base w (.slice (some ⟨G,0,none⟩) n c) L:=by
 subst hL
 refine ⟨by simp,.inr ⟨G,c,cur,rfl,hb,hh,hn,hm,by omega,?_⟩⟩
 apply List.ext_getElem?
 intro j
 by_cases hj:j<L.length
 · have hz:L[j]? = some L[j]:=List.getElem?_eq_getElem hj
   have:=h j _ hz
   rw [List.getElem?_take_of_lt (by omega),List.getElem?_map,hz]
   simp [World.cell?,hh] at this
   simpa using this
 · rw [List.getElem?_eq_none (by simp;omega),List.getElem?_eq_none (by simp;omega)]
theorem heap_setCells_at {b:Nat} {t:TypeId} {fr:Nat × Nat}:∀ (vs:List Value) (o:Nat) (w:World) (cur:Array Value),w.heap[b]? = some (.cells cur t fr)→∃ cur',(w.setCells b o vs).heap[b]? = some (.cells cur' t fr)∧cur'.size=cur.size
 | [],_,_,cur,h=>⟨cur,h,rfl⟩
 | v :: r,o,w,cur,h=>by
  rw [World.setCells]
  have hl:=(Array.getElem?_eq_some_iff.1 h).1
  have h1:∃ cur1,(w.setCell ⟨b,o,none⟩ v).heap[b]? = some (.cells cur1 t fr)∧cur1.size=cur.size:=by
   refine ⟨cur.setIfInBounds o v,?_,by simp⟩
   simp only [World.setCell,Array.getElem?_modify,h]
   simp
  obtain ⟨cur1,h2,h3⟩:=h1
  obtain ⟨cur',h4,h5⟩:=heap_setCells_at r (o+1) _ cur1 h2
  exact ⟨cur',h4,h5.trans h3⟩
theorem run_copyZ (w:World) (ty b o dLen dCap g p n cap:Nat) (cs:List Value) (hn:cs.length=Nat.min n dLen) (hsrc:∀ j v,cs[j]? = some v→w.cell? ⟨g,p+j,none⟩=some v) (ht:w.there b o cs.length) (h1:∀ v∈cs,v.oneCell'=true) :
 (Builtin.copy_ #[51,51] ty #[.slice (some ⟨b,o,none⟩) dLen dCap,.slice (some ⟨g,p,none⟩) n cap]).run Tryz.prog w = .ok (goInt cs.length) (w.setCells b o cs) :=
 run_copy_cells (P:=Tryz.prog) w 51 51 ty 3 b o dLen dCap ⟨g,p,none⟩ n cap cs und_ints (by kernel_rfl) hn (fun j v hv=>by rw [Addr.add_mid];exact hsrc j v hv) (fun j hj=>(ht j hj).1) (fun j hj=>(ht j hj).2) h1
def insK (l:List Int) (k:Nat) (x:Int):List Int:=l.take k ++ x :: l.drop k
theorem insK_at (l:List Int) (k:Nat) (x:Int) (hk:k≤l.length) (j:Nat):(insK l k x)[j]? = if j<k then l[j]? else if j=k then some x else l[j - 1]?:=by
 unfold insK
 by_cases h1:j<k
 · rw [if_pos h1,List.getElem?_append_left (by simp;omega),List.getElem?_take_of_lt h1]
 · rw [if_neg h1,List.getElem?_append_right (by simp;omega)]
   have e:(l.take k).length=k:=by simp;omega
   rw [e]
   by_cases h2:j=k
   · subst h2;simp
   · rw [if_neg h2]
     obtain ⟨d,hd⟩:∃ d,j - k=d+1:=⟨j - k - 1,by omega⟩
     rw [hd,List.getElem?_cons_succ,List.getElem?_drop]
     congr 1;omega
theorem insK_end (l:List Int) (x:Int):insK l l.length x=l ++ [x]:=by simp [insK]
theorem insK_len (l:List Int) (k:Nat) (x:Int):(insK l k x).length=l.length+1:=by
 have:=congrArg List.length (List.take_append_drop k l)
 simp [insK] at *;omega
set_option maxRecDepth 20000 in
set_option maxHeartbeats 4000000 in
theorem insert_end (base:Nat) (xo:Option Addr) (cap:Nat) (l:List Int) (x:Int) (hl:l.length≤1000) (w:World) (hown:OwnZ base w (.slice xo l.length cap) l) (gx:Nat) (hx:ZO (fun b=>b=gx) w (.slice (some ⟨gx,0,none⟩) 1 1) [x]) (hbase:base≤w.heap.size) :
 Calls Tryz.prog 168 #[.slice xo l.length cap,.int .i64 (l.length:Int),.slice (some ⟨gx,0,none⟩) 1 1] w fun e w'=>∃ s,e = .returned s∧OwnZ base w' s (insK l l.length x)∧Below base w w':=by
 obtain ⟨vv,hsl⟩:=zsl_ok xo l.length cap l.length (Nat.le_refl _)
 go_enter Tryz.func168,Tryz.ntmps168
 go_wp2_with (at_builtin;refine wpList_append_zs rfl (.tmp 23) (.tmp 24) rfl base _ l [x] rfl hown _ _ _ rfl hx (by simp;omega) hbase ?_;intro v3 w3 own3 _ _ hb3)
 go_ret
 exact ⟨_,rfl,by rw [insK_end];exact own3,hb3⟩
theorem ints_oneC (l:List Int):∀ v∈l.map (fun z=>Value.int .i64 z),v.oneCell'=true:=fun v hv=>by obtain ⟨z,-,rfl⟩:=List.mem_map.1 hv;rfl
theorem ins_more_facts (base:Nat) (g cap:Nat) (l:List Int) (k:Nat) (hk:k<l.length) (x:Int) (hl:l.length≤1000) (w:World) (hrow:∀ j z,l[j]? = some z→w.cell? ⟨g,j,none⟩=some (.int .i64 z)) (hg:g<w.heap.size) (hcap:cap<l.length+1) (gx:Nat) (hx:w.cell? ⟨gx,0,none⟩=some (.int .i64 x)) (hbase:base≤w.heap.size) (ty ty2 ty3:TypeId) :
 ∃ c' W1 W2 W3,l.length+1≤c'∧(Builtin.append_ #[51,3] ty #[.slice (some ⟨g,0,none⟩) k cap,.int .i64 ((l.length+1 - k:Nat):Int)]).run Tryz.prog w = .ok (.slice (some ⟨w.heap.size,0,none⟩) (l.length+1) c') W1 ∧
  (Builtin.copy_ #[51,51] ty2 #[.slice (some ⟨w.heap.size,k,none⟩) (l.length+1 - k) (c' - k),.slice (some ⟨gx,0,none⟩) 1 1]).run Tryz.prog W1 = .ok (goInt 1) W2 ∧
  (Builtin.copy_ #[51,51] ty3 #[.slice (some ⟨w.heap.size,k+1,none⟩) (l.length+1 - (k+1)) (c' - (k+1)),.slice (some ⟨g,k,none⟩) (l.length - k) (cap - k)]).run Tryz.prog W2.drew = .ok (goInt (l.length - k:Nat)) W3 ∧
  OwnZ base W3 (.slice (some ⟨w.heap.size,0,none⟩) (l.length+1) c') (insK l k x)∧Below base w W3:=by
 have hgx:gx<w.heap.size:=block_lt_of_cell hx
 have hxr:w.rangeAt g 0 ((l.take k).map fun z => .int .i64 z):=fun j v hv=>by
  rw [List.getElem?_map] at hv
  cases hz':(l.take k)[j]? with
  | none=>rw [hz'] at hv;cases hv
  | some z =>
   rw [hz'] at hv;cases hv
   have hj:j<k:=by have:=(List.getElem?_eq_some_iff.1 hz').1;simp at this;omega
   rw [List.getElem?_take_of_lt hj] at hz'
   rw [Nat.zero_add];exact hrow j z hz'
 obtain ⟨cs',c',hc1,hc2,hc3,hc4,hrun⟩:=run_append_zerosZ w ty g k cap (l.length+1 - k) ((l.take k).map fun z => .int .i64 z) (by simp;omega) hxr (by omega) (by omega) (by omega)
 rw [show k+(l.length+1 - k)=l.length+1 by omega] at hrun hc1
 obtain ⟨W1,hW1⟩:∃ W1,W1=w.drew.alloc (.cells cs'.toArray 3):=⟨_,rfl⟩
 rw [←hW1] at hrun
 have hr1:RW W1 w.heap.size 0 cs':=by rw [hW1];exact RW.fresh w.drew cs' 3
 have hb1:Below w.heap.size w W1:=by rw [hW1];exact ((Below.refl _ _).drew).alloc (Nat.le_refl _) _
 have hh1:W1.heap[w.heap.size]? = some (.cells cs'.toArray 3 (0,0)):=by rw [hW1];exact World.alloc_heap_new w.drew _
 have hth:∀ a m,a+m≤c'→W1.there w.heap.size a m:=fun a m h j hj=>by
  have:=hr1.there (a+j) (by omega)
  rwa [Nat.zero_add] at this
 have hx1:W1.cell? ⟨gx,0,none⟩=some (.int .i64 x):=(hb1.cell (p:=⟨gx,0,none⟩) hgx).trans hx
 have hcp1:=run_copyZ W1 ty2 w.heap.size k (l.length+1 - k) (c' - k) gx 0 1 1 [.int .i64 x] (show 1=Nat.min 1 (l.length+1 - k) from (Nat.min_eq_left (by omega)).symm) (fun j v hv=>by
  cases j with
  | zero=>cases hv;exact hx1
  | succ j=>simp at hv) (hth k 1 (by omega)) (by simp [Value.oneCell'])
 obtain ⟨W2,hW2⟩:∃ W2,W2=W1.setCells w.heap.size k [.int .i64 x]:=⟨_,rfl⟩
 rw [←hW2] at hcp1
 have hb2:Below w.heap.size w W2.drew:=by rw [hW2];exact (below_setCells (Nat.le_refl _) _ _ _ hb1).drew
 have hth2:∀ a m,a+m≤c'→W2.drew.there w.heap.size a m:=fun a m h=>by
  rw [hW2];exact World.there_setCells (hth a m h) _ _ _
 have hcp2:=run_copyZ W2.drew ty3 w.heap.size (k+1) (l.length+1 - (k+1)) (c' - (k+1)) g k (l.length - k) (cap - k) ((l.drop k).map fun z => .int .i64 z) (by rw [List.length_map,List.length_drop];exact (Nat.min_eq_left (by omega)).symm) (fun j v hv=>by
  rw [List.getElem?_map,List.getElem?_drop] at hv
  cases hz':l[k+j]? with
  | none=>rw [hz'] at hv;cases hv
  | some z=>rw [hz'] at hv;cases hv;exact (hb2.cell (p:=⟨g,k+j,none⟩) hg).trans (hrow _ _ hz')) (hth2 (k+1) _ (by rw [List.length_map,List.length_drop];omega)) (ints_oneC _)
 rw [List.length_map,List.length_drop] at hcp2
 refine ⟨c',W1,W2,_,hc1,hrun,hcp1,hcp2,?_,below_setCells hbase _ _ _ (hb2.mono hbase)⟩
 obtain ⟨cur1,hh2,hs2⟩:=heap_setCells_at [.int .i64 x] k W1 _ hh1
 rw [←hW2] at hh2
 obtain ⟨cur2,hh3,hs3⟩:=heap_setCells_at ((l.drop k).map fun z => .int .i64 z) (k+1) W2.drew cur1 hh2
 refine zo_of_cells hh3 (by rw [hs3,hs2];simpa using hc3) hc1 hc2 hbase (insK_len _ _ _) (fun j z hz => ?_)
 rw [insK_at _ _ _ (by omega)] at hz
 have hout:j<k+1→(W2.drew.setCells w.heap.size (k+1) ((l.drop k).map fun z => .int .i64 z)).cell? ⟨w.heap.size,j,none⟩=W2.cell? ⟨w.heap.size,j,none⟩:=fun hj=>World.cell?_setCells_out w.heap.size _ (k+1) W2.drew _ (fun _ _ => .inl hj)
 by_cases h1:j<k
 · rw [if_pos h1] at hz
   rw [hout (by omega),hW2,World.cell?_setCells_out w.heap.size _ k W1 _ (fun _ _ => .inl h1)]
   have:=hr1.range j (.int .i64 z) (by rw [hc4 j h1,List.getElem?_map,List.getElem?_take_of_lt h1,hz];rfl)
   rwa [Nat.zero_add] at this
 · rw [if_neg h1] at hz
   by_cases h2:j=k
   · rw [if_pos h2] at hz;cases hz
     subst h2
     rw [hout (by omega),hW2]
     have:=(show (W1.setCells w.heap.size j [Value.int .i64 x]).rangeAt w.heap.size j [Value.int .i64 x] from World.rangeAt_setCells_same _ _ _ _ (hth j 1 (by omega))) 0 (.int .i64 x) rfl
     rwa [Nat.add_zero] at this
   · rw [if_neg h2] at hz
     have:=(show (W2.drew.setCells w.heap.size (k+1) ((l.drop k).map fun z=>Value.int .i64 z)).rangeAt w.heap.size (k+1) ((l.drop k).map fun z=>Value.int .i64 z) from World.rangeAt_setCells_same _ _ _ _ (hth2 (k+1) _ (by rw [List.length_map,List.length_drop];omega))) (j - (k+1)) (.int .i64 z) (by rw [List.getElem?_map,List.getElem?_drop,show k+(j - (k+1))=j - 1 by omega,hz];rfl)
     rwa [show k+1+(j - (k+1))=j by omega] at this
theorem ins_room_facts (base:Nat) (g cap:Nat) (l:List Int) (k:Nat) (hk:k<l.length) (x:Int) (w:World) (hown:OwnZ base w (.slice (some ⟨g,0,none⟩) l.length cap) l) (hcap:l.length+1≤cap) (gx:Nat) (hx:w.cell? ⟨gx,0,none⟩=some (.int .i64 x)) (hne:gx≠g) (ty2 ty3:TypeId) :
 ∃ W1 W2,(Builtin.copy_ #[51,51] ty2 #[.slice (some ⟨g,k+1,none⟩) (l.length+1 - (k+1)) (cap - (k+1)),.slice (some ⟨g,k,none⟩) (l.length+1 - k) (cap - k)]).run Tryz.prog w.drew = .ok (goInt (l.length - k:Nat)) W1 ∧
  (Builtin.copy_ #[51,51] ty3 #[.slice (some ⟨g,k,none⟩) (l.length+1 - k) (cap - k),.slice (some ⟨gx,0,none⟩) 1 1]).run Tryz.prog W1 = .ok (goInt 1) W2 ∧
  OwnZ base W2 (.slice (some ⟨g,0,none⟩) (l.length+1) cap) (insK l k x)∧Below base w W2:=by
 obtain ⟨-,h | ⟨g',cap',cur,e,hgb,hh,hn,hm,hs,ht⟩⟩:=hown
 · have:=h.2;omega
 cases e
 have hg:=(Array.getElem?_eq_some_iff.1 hh).1
 have hs':cur.size=cap:=by omega
 have hrow:∀ j z,l[j]? = some z→w.cell? ⟨g,j,none⟩=some (.int .i64 z):=fun j z hj=>by
  have hj':=(List.getElem?_eq_some_iff.1 hj).1
  have e1:(cur.toList.take (l.length*1))[j]? = some (.int .i64 z):=by rw [ht,List.getElem?_map,hj];rfl
  rw [List.getElem?_take_of_lt (by omega)] at e1
  simp [World.cell?,hh];simpa using e1
 have hth:∀ a m,a+m≤cap→w.there g a m:=fun a m h j hj=>by
  refine ⟨?_,?_⟩
  · simp [World.cell?,hh];omega
  · simp [World.frozen?,hh]
 have hthd:∀ a m,a+m≤cap→w.drew.there g a m:=hth
 have hcp1:=run_copyZ w.drew ty2 g (k+1) (l.length+1 - (k+1)) (cap - (k+1)) g k (l.length+1 - k) (cap - k) ((l.drop k).map fun z => .int .i64 z) (by rw [List.length_map,List.length_drop];exact (show l.length - k=l.length+1 - (k+1) by omega).trans (Nat.min_eq_right (by omega)).symm) (fun j v hv=>by
  rw [List.getElem?_map,List.getElem?_drop] at hv
  cases hz':l[k+j]? with
  | none=>rw [hz'] at hv;cases hv
  | some z=>rw [hz'] at hv;cases hv;exact hrow _ _ hz') (hth (k+1) _ (by rw [List.length_map,List.length_drop];omega)) (ints_oneC _)
 rw [List.length_map,List.length_drop] at hcp1
 obtain ⟨W1,hW1⟩:∃ W1,W1=w.drew.setCells g (k+1) ((l.drop k).map fun z => .int .i64 z):=⟨_,rfl⟩
 rw [←hW1] at hcp1
 have hx1:W1.cell? ⟨gx,0,none⟩=some (.int .i64 x):=by
  rw [hW1,World.cell?_setCells_out g _ (k+1) w.drew _ (fun e _=>absurd e.symm (by simpa using fun h=>hne h.symm))];exact hx
 have hcp2:=run_copyZ W1 ty3 g k (l.length+1 - k) (cap - k) gx 0 1 1 [.int .i64 x] (show 1=Nat.min 1 (l.length+1 - k) from (Nat.min_eq_left (by omega)).symm) (fun j v hv=>by
  cases j with
  | zero=>cases hv;exact hx1
  | succ j=>simp at hv) (by rw [hW1];exact World.there_setCells (hthd k 1 (by omega)) _ _ _) (by simp [Value.oneCell'])
 refine ⟨W1,_,hcp1,hcp2,?_,?_⟩
 · obtain ⟨cur1,hh2,hs2⟩:=heap_setCells_at ((l.drop k).map fun z => .int .i64 z) (k+1) w.drew cur hh
   rw [←hW1] at hh2
   obtain ⟨cur2,hh3,hs3⟩:=heap_setCells_at [.int .i64 x] k W1 cur1 hh2
   refine zo_of_cells hh3 (by rw [hs3,hs2];exact hs') hcap hm hgb (insK_len _ _ _) (fun j z hz => ?_)
   rw [insK_at _ _ _ (by omega)] at hz
   by_cases h2:j=k
   · subst h2
     rw [if_neg (by omega),if_pos rfl] at hz;cases hz
     have:=(show (W1.setCells g j [Value.int .i64 x]).rangeAt g j [Value.int .i64 x] from World.rangeAt_setCells_same _ _ _ _ (by rw [hW1];exact World.there_setCells (hthd j 1 (by omega)) _ _ _)) 0 (.int .i64 x) rfl
     rwa [Nat.add_zero] at this
   · rw [World.cell?_setCells_out g _ k W1 _ (fun _ _=>by show j<k∨k+1≤j;omega),hW1]
     by_cases h1:j<k
     · rw [if_pos h1] at hz
       rw [World.cell?_setCells_out g _ (k+1) w.drew _ (fun _ _ => .inl (by show j<k+1;omega))]
       exact hrow j z hz
     · rw [if_neg h1,if_neg h2] at hz
       have:=(show (w.drew.setCells g (k+1) ((l.drop k).map fun z=>Value.int .i64 z)).rangeAt g (k+1) ((l.drop k).map fun z=>Value.int .i64 z) from World.rangeAt_setCells_same _ _ _ _ (hth (k+1) _ (by rw [List.length_map,List.length_drop];omega))) (j - (k+1)) (.int .i64 z) (by rw [List.getElem?_map,List.getElem?_drop,show k+(j - (k+1))=j - 1 by omega,hz];rfl)
       rwa [show k+1+(j - (k+1))=j by omega] at this
 · rw [hW1];exact below_setCells hgb _ _ _ (below_setCells hgb _ _ _ ((Below.refl _ _).drew))
theorem wrapK {k:Nat} (h:k≤100000):wrap64 ((k:Int)+1)=((k+1:Nat):Int)∧IntKind.i64.wrap ((k:Int)+1)=(k:Int)+1:=⟨by unfold wrap64;omega,by simp only [IntKind.wrap_i64];omega⟩
theorem wrapL {k n:Nat} (hk:k<n) (h:n≤100000):wrap64 ((n:Int)+1)=(n:Int)+1∧wrap64 ((n:Int)+1 - (k:Int))=((n+1 - k:Nat):Int):=⟨by unfold wrap64;omega,by unfold wrap64;omega⟩
theorem ex_slice {P:Program} {a:Act} {oi:Oper} {w:World} {v:Value} (t:TypeId) (x:Operand) (l h m:Option Operand) (ho:oi.op = .slice t x l h m) (hrun:(Instr.sliceAt t (a.eval x) (l.map a.eval) (h.map a.eval) (m.map a.eval)).run P w = .ok v w):(execOp a.eval oi).run P w = .ok (.value v) w:=by
 unfold execOp
 simp [ho,hrun]
theorem ex_bltC {P:Program} {a:Act} {oi:Oper} {w w':World} {u v r:Value} (s x:Operand) (ts:Array TypeId) (ho:oi.op = .call { callee := .builtin .copy,args:=#[s,x],argTypes:=ts }) (hs:a.eval s=u) (hx:a.eval x=v) (hrun:(Builtin.copy_ ts oi.type #[u,v]).run P w = .ok r w'):(execOp a.eval oi).run P w = .ok (.value r) w':=by
 unfold execOp
 simp only [ho,resolve,invoke,builtin,Sem.run_bind,Sem.run_pure,Result.andThen_ok,List.map_toArray,List.map_cons,List.map_nil,hs,hx,hrun]
theorem wpList_bltA {P:Program} {w w':World} {ops:Array Oper} {rest:List Oper} {op:Oper} {a:Act} {Q:Exit→Act→World→Prop} (hgd:op.guard=none) (s x:Operand) (ts:Array TypeId)
 (ho:op.op = .call { callee := .builtin .append,args:=#[s,x],argTypes:=ts }) {u v r:Value} (hs:a.eval s=u) (hx:a.eval x=v) (hrun:(Builtin.append_ ts op.type #[u,v]).run P w = .ok r w') (h:wpList P ops Q rest (a.put op.dst r) w'):wpList P ops Q (op :: rest) a w:=by
 refine wpList_plain hgd fun K hK => ?_
 unfold Oper.wp execOp
 simp only [ho,resolve,invoke,builtin,Sem.run_bind,Sem.run_pure,Result.andThen_ok,List.map_toArray,List.map_cons,List.map_nil,hs,hx,hrun]
 exact hK _ _ h
theorem wpList_bltC {P:Program} {w w':World} {ops:Array Oper} {rest:List Oper} {op:Oper} {a:Act} {Q:Exit→Act→World→Prop} (hgd:op.guard=none) (s x:Operand) (ts:Array TypeId)
 (ho:op.op = .call { callee := .builtin .copy,args:=#[s,x],argTypes:=ts }) {u v r:Value} (hs:a.eval s=u) (hx:a.eval x=v) (hrun:(Builtin.copy_ ts op.type #[u,v]).run P w = .ok r w') (h:wpList P ops Q rest (a.put op.dst r) w'):wpList P ops Q (op :: rest) a w:=by
 refine wpList_plain hgd fun K hK => ?_
 unfold Oper.wp execOp
 simp only [ho,resolve,invoke,builtin,Sem.run_bind,Sem.run_pure,Result.andThen_ok,List.map_toArray,List.map_cons,List.map_nil,hs,hx,hrun]
 exact hK _ _ h
set_option maxRecDepth 20000 in
set_option maxHeartbeats 4000000 in
theorem insert_more (base:Nat) (g cap:Nat) (l:List Int) (k:Nat) (hk:k<l.length) (x:Int) (hl:l.length≤1000) (w:World) (hown:OwnZ base w (.slice (some ⟨g,0,none⟩) l.length cap) l) (hcap:cap<l.length+1) (gx:Nat) (hx:w.cell? ⟨gx,0,none⟩=some (.int .i64 x)) (hbase:base≤w.heap.size) :
 Calls Tryz.prog 168 #[.slice (some ⟨g,0,none⟩) l.length cap,.int .i64 (k:Int),.slice (some ⟨gx,0,none⟩) 1 1] w fun e w'=>∃ s,e = .returned s∧OwnZ base w' s (insK l k x)∧Below base w w':=by
 obtain ⟨xa,c,e,hc0,-,hz⟩:=ZO.own hown
 cases e
 have hrow:∀ j z,l[j]? = some z→g<w.heap.size∧w.cell? ⟨g,j,none⟩=some (.int .i64 z):=fun j z hj=>by
  obtain ⟨g',o',e,-,h1,h2⟩:=hz j z hj
  cases e
  rw [Nat.zero_add] at h2;exact ⟨h1,h2⟩
 have hg:g<w.heap.size:=(hrow 0 _ (List.getElem?_eq_getElem (by omega))).1
 obtain ⟨c',W1,W2,W3,hc',hr1,hr2,hr3,hfin,hbel⟩:=ins_more_facts base g cap l k hk x hl w (fun j z h=>(hrow j z h).2) hg hcap gx hx hbase 51 3 3
 have hs1:=fun W=>zsl_from0 W g l.length cap k (by omega) (by omega)
 have hs2:=fun W=>zsl_to W g 0 l.length cap k (by omega)
 have hs3:=fun W=>zsl_from0 W w.heap.size (l.length+1) c' k (by omega) (by omega)
 have hs4:=fun W=>zsl_from0 W w.heap.size (l.length+1) c' (k+1) (by omega) (by omega)
 have hk1':((k:Int) == (l.length:Int))=false:=by simp;omega
 have hcap':((cap:Int)<(l.length:Int)+1):=by omega
 obtain ⟨e1,e2⟩:=wrapL hk (show l.length≤100000 by omega)
 obtain ⟨e4,e5⟩:=wrapK (show k≤100000 by omega)
 have Hf:=Hid.mk' (And.intro hfin hbel)
 have Hr3:=Hid.mk' hr3
 clear hz hown hrow hk hcap hc0 hg hbase hfin hbel hc' hr3
 go_enter Tryz.func168,Tryz.ntmps168
 go_wp2_with (first
  | (at_builtin;refine wpList_bltA rfl (.tmp 34) (.tmp 39) _ rfl (v := .int .i64 ((l.length+1 - k:Nat):Int)) rfl (by rw [←e2];rfl) hr1 ?_)
  | (at_builtin;refine wpList_bltC rfl (.tmp 43) (.tmp 44) _ rfl rfl rfl hr2 ?_))
 refine wp_region_noPanic ?_
 refine wp_region_held_drew (S:=fun _=>True) (by kernel_rfl) trivial (fun hS => ?_)
 refine tg 0 hS ?_
 (try simp only [pS])
 refine tg 1 hS ?_
 (try simp only [pS])
 refine tg 2 hS ?_
 (try simp only [pS])
 refine tg 3 hS (v := .int .i64 ((k+1:Nat):Int)) ?_ (hy:=by intro u _;go_simp)
 (try simp only [pS])
 refine tg 4 hS (v := .slice (some ⟨w.heap.size,k+1,none⟩) (l.length+1 - (k+1)) (c' - (k+1))) ?_ (hy:=by intro u _;refine ex_slice 51 (.tmp 46) (some (.tmp 49)) none none rfl ?_;exact hs4 u)
 (try simp only [pS])
 refine tg 5 hS ?_
 (try simp only [pS])
 refine tg 6 hS ?_
 (try simp only [pS])
 refine tg 7 hS (v := .slice (some ⟨g,k,none⟩) (l.length - k) (cap - k)) ?_ (hy:=by intro u _;refine ex_slice 51 (.tmp 51) (some (.tmp 52)) none none rfl ?_;exact hs1 u)
 (try simp only [pS])
 refine wo4 8 (v:=goInt (l.length - k:Nat)) (w':=W3) ?hrun trivial ?_
 case hrun=>refine ex_bltC (.tmp 50) (.tmp 53) _ rfl rfl rfl ?_;exact Hr3.out
 refine wpAnyH_done (by kernel_rfl) ?_ _
 clear hr1 hr2 hs1 hs2 hs3 hs4
 refine NoPanic.normal ?_
 (try simp only [pS])
 go_wp2
 go_ret
 exact ⟨_,rfl,Hf.out⟩
theorem overlaps_run (w:World) (gx g k m c:Nat) (cx cg:Array Value) (hx:w.heap[gx]? = some (.cells cx 3 (0,0))) (hg:w.heap[g]? = some (.cells cg 3 (0,0))) (hne:gx≠g):(callFunc 216 #[.slice (some ⟨gx,0,none⟩) 1 1,.slice (some ⟨g,k,none⟩) m c]).run Tryz.prog w = .ok (.value (.bool false)) w:=by
 have hb:(gx == g)=false:=by simpa using hne
 rw [run_callFunc_extern Tryz.func216 (by kernel_rfl) (by kernel_rfl) (by kernel_rfl) (e:=Extern.SlicesOverlaps.overlaps #[51,51] #[4]) (by kernel_rfl)]
 have hs:∀ W,(sizeOf 3).run Tryz.prog W = .ok 1 W:=zu3
 have hu:=run_underlying (P:=Tryz.prog) und_ints
 conv in (Extern.SlicesOverlaps.overlaps _ _ _)=>unfold Extern.SlicesOverlaps.overlaps
 delta Extern.SlicesOverlaps.overlaps.match_4
 dsimp only [Array.getLit,List.getElem?_toArray]
 rw [dif_pos (show #[Value.slice (some ⟨gx,0,none⟩) 1 1,Value.slice (some ⟨g,k,none⟩) m c].size=2 from rfl)]
 delta Extern.SlicesOverlaps.overlaps._sparseCasesOn_4
 simp only [List.getElem_toArray,List.getElem_cons_zero,List.getElem_cons_succ]
 by_cases hm:m=0
 · subst hm
   simp [hu,hs]
 · have n1:(noView ⟨gx,0,none⟩).run Tryz.prog w = .ok () w:=by simp [noView,viewAt,shape,Sem.run,World.shape?,hx]
   have n2:(noView ⟨g,k,none⟩).run Tryz.prog w = .ok () w:=by simp [noView,viewAt,shape,Sem.run,World.shape?,hg]
   have n3:(mayBeOne ⟨gx,0,none⟩ ⟨g,k,none⟩).run Tryz.prog w = .ok false w:=by simp [mayBeOne,stringish,frozen,shape,Sem.run,World.frozen?,World.shape?,hx,hg]
   have f1':w.frozen? ⟨gx,0,none⟩=false:=by simp [World.frozen?,hx]
   simp [hu,hs,hm,hne,n1,n2,n3,f1',hb]
set_option maxRecDepth 20000 in
set_option maxHeartbeats 4000000 in
theorem insert_room (base:Nat) (g cap:Nat) (l:List Int) (k:Nat) (hk:k<l.length) (x:Int) (hl:l.length≤1000) (w:World) (hown:OwnZ base w (.slice (some ⟨g,0,none⟩) l.length cap) l) (hcap:l.length+1≤cap) (gx:Nat) (cx:Array Value) (hhx:w.heap[gx]? = some (.cells cx 3 (0,0))) (hx:w.cell? ⟨gx,0,none⟩=some (.int .i64 x)) (hne:gx≠g) :
 Calls Tryz.prog 168 #[.slice (some ⟨g,0,none⟩) l.length cap,.int .i64 (k:Int),.slice (some ⟨gx,0,none⟩) 1 1] w fun e w'=>∃ s,e = .returned s∧OwnZ base w' s (insK l k x)∧Below base w w':=by
 obtain ⟨W1,W2,hr1,hr2,hfin,hbel⟩:=ins_room_facts base g cap l k hk x w hown hcap gx hx hne 3 3
 have hov:(callFunc 216 #[.slice (some ⟨gx,0,none⟩) 1 1,.slice (some ⟨g,k+1,none⟩) (l.length+1 - (k+1)) (cap - (k+1))]).run Tryz.prog w = .ok (.value (.bool false)) w:=by
  obtain ⟨-,h | ⟨g',cap',cur,e,hgb,hh,-⟩⟩:=hown
  · have:=h.2;omega
  · cases e;exact overlaps_run w gx g (k+1) _ _ cx cur hhx hh hne
 have hs1:=fun W=>zsl_from0 W g l.length cap k (by omega) (by omega)
 have hs2:∀ W,(Instr.sliceAt 51 (.slice (some ⟨g,0,none⟩) l.length cap) none (some (.int .i64 ((l.length:Int)+1))) none).run Tryz.prog W = .ok (.slice (some ⟨g,0,none⟩) (l.length+1) cap) W:=fun W=>zsl_to W g 0 l.length cap (l.length+1) (by omega)
 have hs3:=fun W=>zsl_from0 W g (l.length+1) cap k (by omega) (by omega)
 have hs4:∀ W,(Instr.sliceAt 51 (.slice (some ⟨g,0,none⟩) (l.length+1) cap) (some (.int .i64 ((k:Int)+1))) none none).run Tryz.prog W = .ok (.slice (some ⟨g,k+1,none⟩) (l.length+1 - (k+1)) (cap - (k+1))) W:=fun W=>zsl_from0 W g (l.length+1) cap (k+1) (by omega) (by omega)
 have hk1':((k:Int) == (l.length:Int))=false:=by simp;omega
 have hcap':¬((cap:Int)<(l.length:Int)+1):=by omega
 obtain ⟨e1,-⟩:=wrapL hk (show l.length≤100000 by omega)
 obtain ⟨e4,e5⟩:=wrapK (show k≤100000 by omega)
 have e4':wrap64 ((k:Int)+1)=(k:Int)+1:=e4
 obtain ⟨D,hD⟩:∃ D,D=l.length+1 - (k+1):=⟨_,rfl⟩
 rw [←hD] at hov hs4
 have Hf:=Hid.mk' (And.intro hfin hbel)
 have Hr1:=Hid.mk' hr1
 have HD:=Hid.mk' hD
 clear hown hk hcap hfin hbel hr1 e4 hhx hD hne
 go_enter Tryz.func168,Tryz.ntmps168
 go_upto_region 15 with (fail)
 refine wp_region_noPanic ?_
 refine wp_region_held_drew (S:=fun _=>True) (by kernel_rfl) trivial (fun hS => ?_)
 refine tg 0 hS ?_
 (try simp only [pS])
 refine tg 1 hS ?_
 (try simp only [pS])
 refine tg 2 hS ?_
 (try simp only [pS])
 refine tg 3 hS (v := .int .i64 ((k:Int)+1)) ?_ (hy:=by intro u _;go_simp)
 (try simp only [pS])
 refine tg 4 hS (v := .slice (some ⟨g,k+1,none⟩) D (cap - (k+1))) ?_ (hy:=by intro u _;refine ex_slice 51 (.tmp 69) (some (.tmp 72)) none none rfl ?_;exact hs4 u)
 (try simp only [pS])
 refine tg 5 hS ?_
 (try simp only [pS])
 refine tg 6 hS ?_
 (try simp only [pS])
 refine tg 7 hS (v := .slice (some ⟨g,k,none⟩) (l.length+1 - k) (cap - k)) ?_ (hy:=by intro u _;refine ex_slice 51 (.tmp 74) (some (.tmp 75)) none none rfl ?_;exact hs3 u)
 (try simp only [pS])
 refine wo4 8 (v:=goInt (l.length - k:Nat)) (w':=W1) ?hrun trivial ?_
 case hrun=>refine ex_bltC (.tmp 73) (.tmp 76) _ rfl rfl rfl ?_;rw [HD.out];exact Hr1.out
 refine wpAnyH_done (by kernel_rfl) ?_ _
 refine NoPanic.normal ?_
 (try simp only [pS])
 clear hs1 hs2 hs4 hov hk1' hcap' e1
 go_wp2_with (at_builtin;refine wpList_bltC rfl (.tmp 80) (.tmp 81) _ rfl rfl rfl hr2 ?_)
 go_ret
 exact ⟨_,rfl,Hf.out⟩
theorem insert_any (base:Nat) (v:Value) (l:List Int) (k:Nat) (hk:k≤l.length) (x:Int) (hl:l.length≤1000) (w:World) (hown:OwnZ base w v l) (hbase:base≤w.heap.size) :
 Calls Tryz.prog 168 #[v,.int .i64 (k:Int),.slice (some ⟨w.heap.size,0,none⟩) 1 1] (w.alloc (.cells #[.int .i64 x] 3)) fun e w'=>∃ s,e = .returned s∧OwnZ base w' s (insK l k x)∧Below base w w':=by
 have hb:Below w.heap.size w (w.alloc (.cells #[.int .i64 x] 3)):=(Below.refl _ _).alloc (Nat.le_refl _) _
 have hown':=hown.below hb
 obtain ⟨xo,cap,rfl⟩:=hown.slice
 have hx:=zo_one w x
 have hfin:∀ (e:Ending) (w':World),(∃ s,e = .returned s∧OwnZ base w' s (insK l k x)∧Below base (w.alloc (.cells #[.int .i64 x] 3)) w')→∃ s,e = .returned s∧OwnZ base w' s (insK l k x)∧Below base w w':=fun e w' ⟨s,h1,h2,h3⟩=>⟨s,h1,h2,(hb.mono hbase).trans h3⟩
 by_cases hkl:k=l.length
 · subst hkl
   exact (insert_end base xo cap l x hl _ hown' w.heap.size hx (by simp;omega)).mono hfin
 · obtain ⟨-,h | ⟨g,cap',cur,e,hgb,hh,hn,-⟩⟩:=hown
   · have:=h.2;omega
   cases e
   have hxc:(w.alloc (.cells #[.int .i64 x] 3)).cell? ⟨w.heap.size,0,none⟩=some (.int .i64 x):=by simp
   have hg:=(Array.getElem?_eq_some_iff.1 hh).1
   by_cases hc:l.length+1≤cap
   · exact (insert_room base g cap l k (by omega) x hl _ hown' hc w.heap.size _ (World.alloc_heap_new w _) hxc (by omega)).mono hfin
   · exact (insert_more base g cap l k (by omega) x hl _ hown' (by omega) w.heap.size hxc (by simp;omega)).mono hfin
end Go.Proofs.YtddkbmnkbfciaaaGreatDoor
namespace Go.Proofs.YtddkbmnkbfciaaaGreatDoor
open Go.RowKit
section
variable {P:Program} {md:Region.Mode} {ops:Array Oper} {Q:Exit→Act→World→Prop} {S:World→Prop} {fuel:Nat} {listed:Array Bool} {a:Act} {w:World}
theorem rG (i:Nat) {rs:List Nat} {oi:Oper} (v:Nat→Value) (cs:List Value) (t:TypeId) (hk:∀ u,Below w.heap.size w u→S u) (h:∀ w1 g,w.heap.size≤g→Below w.heap.size w w1→RW w1 g 0 cs→wpAnyH P md ops Q S fuel (listed.setIfInBounds i true) (a.put oi.dst (v g)) w1) (hs:AllReadyH P md ops Q S fuel listed a w rs)
 (hi:ops.toList[i]? = some oi:=by rfl) (hrun:(execOp a.eval oi).run P w = .ok (.value (v w.heap.size)) (w.alloc (.cells cs.toArray t)):=by kernel_rfl) (hw:Region.wanted oi (yielded ops a.tmps)=true:=by rfl):AllReadyH P md ops Q S fuel listed a w (i :: rs) :=
 aG oi v cs t hk h hs hrun (at_list hi) hw
theorem rC (i:Nat) {rs:List Nat} {oi:Oper} {f:FuncId} {args:Array Value} {R:Ending→World→Prop} (c:Calls P f args w R) (h:∀ e w',R e w'→∃ r,e = .returned r∧S w'∧wpAnyH P md ops Q S fuel (listed.setIfInBounds i true) (a.put oi.dst r) w') (hs:AllReadyH P md ops Q S fuel listed a w rs)
 (hi:ops.toList[i]? = some oi:=by rfl) (hw:Region.wanted oi (yielded ops a.tmps)=true:=by rfl) (hrun:(execOp a.eval oi).run P w = .ok (.enter f args) w:=by kernel_rfl):AllReadyH P md ops Q S fuel listed a w (i :: rs) :=
 arC oi c h hs (at_list hi) hw hrun
end
theorem Own.base {base base':Nat} {w:World} {v:Value} {n:Nat} {X:Nat→Nat} (h:Own base w v n X) (hb:base'≤base):Own base' w v n X:=own_base h hb
def lfK (d:LfD):Prop:=(∀ j,d.enc.b j<256)∧(∀ j,d.sig.b j<256)∧(∀ j,d.name.b j<256)∧(∀ j,d.hash.b j<256)∧∀ j,d.sg.b j<256
end Go.Proofs.YtddkbmnkbfciaaaGreatDoor
namespace Go.Proofs.YtddkbmnkbfciaaaGreatDoor
open Go.RowKit
def vx (L:Nat) (B:Nat→Nat) (r:Rd):Tx:=⟨(vecD L B r).1,fun j=>B ((lenD L B r).2.at_+j)⟩
def tx0:Tx:=⟨0,fun _=>0⟩
def lf0:LfD:=⟨tx0,tx0,tx0,0,tx0,tx0⟩
def rlS (L:Nat) (B:Nat→Nat) (p:LfD × Rd):Nat→LfD × Rd
 | 0=>({ p.1 with enc:=vx L B p.2 },(vecD L B p.2).2)
 | 1=>({ p.1 with sig:=vx L B p.2 },(vecD L B p.2).2)
 | 2=>({ p.1 with name:=vx L B p.2 },(vecD L B p.2).2)
 | 3=>({ p.1 with src:=(((numD L B 1 p.2).1:Nat):Int) },(numD L B 1 p.2).2)
 | 4=>if p.1.src=3 then ({ p.1 with hash:=vx L B p.2 },(vecD L B p.2).2) else p
 | _=>({ p.1 with sg:=vx L B p.2 },(vecD L B p.2).2)
def rl (L:Nat) (B:Nat→Nat) (r:Rd):Nat→LfD × Rd
 | 0=>(lf0,r)
 | k+1=>rlS L B (rl L B r k) k
structure LfAt (N:Nat) (W:World) (cs:List Value) (o:Nat) (d:LfD) (v0 v1 v2 v4 v5:Value):Prop where
 c0:cs[o]? = some v0
 c1:cs[o+1]? = some v1
 c2:cs[o+2]? = some v2
 c3:cs[o+3]? = some (.int .i64 d.src)
 c4:cs[o+4]? = some v4
 c5:cs[o+5]? = some v5
 o0:Own N W v0 d.enc.n d.enc.b
 o1:Own N W v1 d.sig.n d.sig.b
 o2:Own N W v2 d.name.n d.name.b
 o4:Own N W v4 d.hash.n d.hash.b
 o5:Own N W v5 d.sg.n d.sg.b
theorem LfAt.rest {N:Nat} {X:List Nat} {W W':World} {cs:List Value} {o:Nat} {d:LfD} {v0 v1 v2 v4 v5:Value} (h:LfAt N W cs o d v0 v1 v2 v4 v5) (hr:Rest X W W') (hX:∀ x,x∈X→x<N):LfAt N W' cs o d v0 v1 v2 v4 v5 :=
 ⟨h.c0,h.c1,h.c2,h.c3,h.c4,h.c5,own_rest h.o0 hr hX,own_rest h.o1 hr hX,own_rest h.o2 hr hX,own_rest h.o4 hr hX,own_rest h.o5 hr hX⟩
end Go.Proofs.YtddkbmnkbfciaaaGreatDoor
namespace Go.Proofs.YtddkbmnkbfciaaaGreatDoor
open Go.RowKit
theorem FR.rest {X:List Nat} {w w':World} {g:Nat} {fs:List Fd} (h:FR w g fs) (hb:Rest X w w') (hn:g ∉ X):FR w' g fs:=⟨Nat.lt_of_lt_of_le h.lt hb.size,fun k f hk j v hv=>(hb.cell h.lt hn).trans (h.at_ k f hk j v hv)⟩
theorem LfAt.eq {N:Nat} {W:World} {cs:List Value} {d:LfD} {v0 v1 v2 v4 v5:Value} (h:LfAt N W cs 0 d v0 v1 v2 v4 v5) (hl:cs.length=6):cs=[v0,v1,v2,.int .i64 d.src,v4,v5]:=by
 match cs,hl with
 | [a,b,c,e,f,i],_ =>
  have h0:=h.c0;have h1:=h.c1;have h2:=h.c2;have h3:=h.c3;have h4:=h.c4;have h5:=h.c5
  simp at h0 h1 h2 h3 h4 h5
  rw [h0,h1,h2,h3,h4,h5]
theorem LfAt.one {N:Nat} {W:World} {cs:List Value} {o:Nat} {d:LfD} {v0 v1 v2 v4 v5:Value} (h:LfAt N W cs o d v0 v1 v2 v4 v5):∀ u∈[v0,v1,v2,.int .i64 d.src,v4,v5],u.oneCell'=true:=by
 obtain ⟨_,_,e0⟩:=h.o0.slice
 obtain ⟨_,_,e1⟩:=h.o1.slice
 obtain ⟨_,_,e2⟩:=h.o2.slice
 obtain ⟨_,_,e4⟩:=h.o4.slice
 obtain ⟨_,_,e5⟩:=h.o5.slice
 intro u hu
 simp at hu
 rcases hu with rfl | rfl | rfl | rfl | rfl | rfl
 · rw [e0];rfl
 · rw [e1];rfl
 · rw [e2];rfl
 · rfl
 · rw [e4];rfl
 · rw [e5];rfl
end Go.Proofs.YtddkbmnkbfciaaaGreatDoor
namespace Go.Proofs.YtddkbmnkbfciaaaGreatDoor
open Go.RowKit
def rpS (L:Nat) (B:Nat→Nat) (p:PrD × Rd):Nat→PrD × Rd
 | 0=>({ p.1 with enc:=vx L B p.2 },(vecD L B p.2).2)
 | 1=>({ p.1 with hash:=vx L B p.2 },(vecD L B p.2).2)
 | _=>({ p.1 with um:=l4 (vx L B p.2).b ((vx L B p.2).n / 4) },(vecD L B p.2).2)
def rp (L:Nat) (B:Nat→Nat) (r:Rd):Nat→PrD × Rd
 | 0=>(⟨tx0,tx0,[]⟩,r)
 | k+1=>rpS L B (rp L B r k) k
structure PrAt (N:Nat) (W:World) (cs:List Value) (d:PrD) (v0 v1 v2:Value):Prop where
 c0:cs=[v0,v1,v2]
 o0:Own N W v0 d.enc.n d.enc.b
 o1:Own N W v1 d.hash.n d.hash.b
 o2:OwnZ N W v2 d.um
theorem PrAt.rest {N:Nat} {X:List Nat} {W W':World} {cs:List Value} {d:PrD} {v0 v1 v2:Value} (h:PrAt N W cs d v0 v1 v2) (hr:Rest X W W') (hX:∀ x,x∈X→x<N):PrAt N W' cs d v0 v1 v2 :=
 ⟨h.c0,own_rest h.o0 hr hX,own_rest h.o1 hr hX,own_rest h.o2 hr hX⟩
end Go.Proofs.YtddkbmnkbfciaaaGreatDoor
namespace Go.Proofs.YtddkbmnkbfciaaaGreatDoor
open Go.RowKit
section
variable (L:Nat) (B:Nat→Nat) (r:Rd)
def kr1:Rd:=(numD L B 2 r).2
def kr2:Rd:=(numD L B 2 (kr1 L B r)).2
def kr3:Rd:=(vecD L B (kr2 L B r)).2
def kr9:Rd:=(rl L B (kr3 L B r) 6).2
def kz1:Int:=(((numD L B 2 r).1:Nat):Int)
def kz2:Int:=(((numD L B 2 (kr1 L B r)).1:Nat):Int)
def kpk:PkD:=⟨vx L B (kr2 L B r),(rl L B (kr3 L B r) 6).1,vx L B (kr9 L B r)⟩
def kA:Nat→Bool
 | 0=>decide (1≤kz1 L B r) && decide (kz1 L B r≤1)
 | 1=>decide (1≤kz2 L B r) && decide (kz2 L B r≤1)
 | k=>pkA (kpk L B r) k
end
structure PkAt (N:Nat) (W:World) (cs:List Value) (d:PkD) (v0 u0 u1 u2 u4 u5 v7:Value):Prop where
 len:cs.length=8
 c0:cs[0]? = some v0
 c7:cs[7]? = some v7
 lf:LfAt N W cs 1 d.leaf u0 u1 u2 u4 u5
 o0:Own N W v0 d.init.n d.init.b
 o7:Own N W v7 d.sg.n d.sg.b
theorem PkAt.rest {N:Nat} {X:List Nat} {W W':World} {cs:List Value} {d:PkD} {v0 u0 u1 u2 u4 u5 v7:Value} (h:PkAt N W cs d v0 u0 u1 u2 u4 u5 v7) (hr:Rest X W W') (hX:∀ x,x∈X→x<N):PkAt N W' cs d v0 u0 u1 u2 u4 u5 v7 :=
 ⟨h.len,h.c0,h.c7,h.lf.rest hr hX,own_rest h.o0 hr hX,own_rest h.o7 hr hX⟩
theorem PkAt.eq {N:Nat} {W:World} {cs:List Value} {d:PkD} {v0 u0 u1 u2 u4 u5 v7:Value} (h:PkAt N W cs d v0 u0 u1 u2 u4 u5 v7):cs=[v0,u0,u1,u2,.int .i64 d.leaf.src,u4,u5,v7]:=by
 have hl:=h.len
 match cs,hl with
 | [a,b,c,e,f,i,j,k],_ =>
  have h0:=h.c0;have h7:=h.c7;have g0:=h.lf.c0;have g1:=h.lf.c1;have g2:=h.lf.c2;have g3:=h.lf.c3;have g4:=h.lf.c4;have g5:=h.lf.c5
  simp at h0 h7 g0 g1 g2 g3 g4 g5
  rw [h0,h7,g0,g1,g2,g3,g4,g5]
end Go.Proofs.YtddkbmnkbfciaaaGreatDoor
namespace Go.Proofs.YtddkbmnkbfciaaaGreatDoor
open Go.RowKit
theorem RdB.rest {X:List Nat} {lo hi:Nat} {w w':World} {g L:Nat} {B:Nat→Nat} {r:Rd} (h:RdB lo hi w g L B r) (hb:Rest X w w') (hX:∀ x,x∈X→x<lo∨hi≤x):RdB lo hi w' g L B r :=
 h.same ⟨hb.size,fun k h1 h2=>hb.block k (Nat.lt_of_lt_of_le h2 h.size) (fun e=>by have:=hX k e;omega)⟩
theorem RdB.keep {lo hi:Nat} {w w':World} {g L:Nat} {B:Nat→Nat} {r:Rd} (h:RdB lo hi w g L B r) (hb:Below w.heap.size w w'):RdB lo hi w' g L B r:=h.rest (Rest.of_below (X:=[]) hb) (fun _ hx=>by cases hx)
theorem Rest.cut {X:List Nat} {p:Nat} {w W W':World} (h:Rest X w W) (k:Rest (p :: X) W W') (hp:w.heap.size≤p):Rest X w W' :=
 ⟨k.os.trans h.os,k.tape.trans h.tape,k.output.trans h.output,Nat.le_trans h.size k.size,fun i hi hb=>(k.block i (Nat.lt_of_lt_of_le hi h.size) (fun e=>by rcases List.mem_cons.1 e with e | e;omega;exact hb e)).trans (h.block i hi hb)⟩
theorem Own.rest {X:List Nat} {base:Nat} {w w':World} {v:Value} {n:Nat} {b:Nat→Nat} (h:Own base w v n b) (hb:Rest X w w') (hX:∀ x,x∈X→x<base):Own base w' v n b:=own_rest h hb hX
end Go.Proofs.YtddkbmnkbfciaaaGreatDoor
namespace Go.Proofs.YtddkbmnkbfciaaaGreatDoor
open Go.RowKit
theorem ts {P:Program} {md:Region.Mode} {ops:Array Oper} {Q:Exit→Act→World→Prop} {S:World→Prop} {fuel:Nat} {listed:Array Bool} {a:Act} {w:World} (i:Nat) (hS:S w) {oi:Oper} (h:wpAnyH P md ops Q S fuel (listed.setIfInBounds i true) (a.put oi.dst undef) w) (hi:ops.toList[i]? = some oi:=by rfl) (hw:Region.wanted oi (yielded ops a.tmps)=false:=by rfl)
 (hQ:∀ c b w,Q (.panic c) (b.put oi.dst undef) w→Q (.panic c) b w:=by exact fun _ _ _ h=>h) (hs:Region.noSelect ops=true:=by kernel_rfl) (hf:Region.free md ops listed i=true:=by kernel_rfl) (hr:(Region.ready md ops listed).contains i=true:=by kernel_rfl):wpAnyH P md ops Q S (fuel+1) listed a w :=
 tkH i oi undef hS (.inr ⟨hw,rfl⟩) h hQ (at_list hi) hs hf hr
end Go.Proofs.YtddkbmnkbfciaaaGreatDoor
namespace Go.Proofs.YtddkbmnkbfciaaaGreatDoor
open Go.RowKit
def prK (d:PrD):Prop:=(∀ j,d.enc.b j<256)∧∀ j,d.hash.b j<256
end Go.Proofs.YtddkbmnkbfciaaaGreatDoor
