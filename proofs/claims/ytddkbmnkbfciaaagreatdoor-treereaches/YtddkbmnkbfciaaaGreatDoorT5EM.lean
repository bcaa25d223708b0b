/- What the proof stands on: T5E, T5F, T5G, T5H, T5I, T5J. -/
import Derived.Test.YtddkbmnkbfciaaaGreatDoorN3SM
import Derived.Test.YtddkbmnkbfciaaaGreatDoorT4MM
import Derived.Test.YtddkbmnkbfciaaaGreatDoorT4ZM
namespace Go.Proofs.YtddkbmnkbfciaaaGreatDoor
open Go.RowKit Go.Shelf
theorem DelB.same {w w':World} {gb:Nat} {gone:List Int} (h:DelB w gb gone) (hs:w.heap.size≤w'.heap.size) (e:∀ b,b<w.heap.size→b≤gb→w'.heap[b]? = w.heap[b]?):DelB w' gb gone:=by
 obtain ⟨s,hc,ok,hz,ho⟩:=h.bx
 exact ⟨⟨s,(World.cell?_of_block (w:=w) (e gb (block_lt_of_cell hc) (Nat.le_refl _))).trans hc,ok,hz.same hs (fun b hb h=>e b hb (Nat.le_of_lt (ho b h))),ho⟩,h.len⟩
theorem OwnZ.put {base:Nat} {w:World} {g n cap:Nat} {l:List Int} (h:OwnZ base w (.slice (some ⟨g,0,none⟩) n cap) l) (hn:n=l.length) (i:Nat) (z:Int):OwnZ base (w.setCell ⟨g,i,none⟩ (.int .i64 z)) (.slice (some ⟨g,0,none⟩) n cap) (l.set i z):=by
 subst hn
 have:=(World.ownsRow.stored h i (.int .i64 z)).1
 unfold OwnZ
 rw [List.length_set,List.map_set];exact this
theorem OwnZ.first {base:Nat} {w:World} {g n cap:Nat} {l:List Int} (h:OwnZ base w (.slice (some ⟨g,0,none⟩) n cap) l) (hn:n=l.length) (k:Nat) (hk:k≤n):OwnZ base w (.slice (some ⟨g,0,none⟩) k cap) (l.take k):=by
 subst hn
 obtain ⟨h1,⟨e,-⟩ | ⟨g',cap',cur,e,hg,hh,hc,hm,hs,ht⟩⟩:=h
 · cases e
 · cases e
   have ek:(l.take k).length=k:=by simp;omega
   unfold OwnZ
   rw [ek]
   refine ⟨by simp;omega,.inr ⟨g,cap,cur,rfl,hg,hh,by omega,hm,hs,?_⟩⟩
   rw [List.map_take,←ht,List.take_take]
   congr 1;omega
theorem OwnZ.puts {base:Nat} {g n cap k:Nat}:∀ (vs:List Int) (o:Nat) (w:World) (l:List Int),k≤o→n=l.length→OwnZ base w (.slice (some ⟨g,0,none⟩) n cap) l→∃ l',OwnZ base (w.setCells g o (vs.map fun z => .int .i64 z)) (.slice (some ⟨g,0,none⟩) n cap) l'∧n=l'.length∧l'.take k=l.take k
 | [],o,w,l,_,hn,h=>⟨l,h,hn,rfl⟩
 | v :: vs,o,w,l,hk,hn,h=>by
  obtain ⟨l',h1,h2,h3⟩:=OwnZ.puts (k:=k) vs (o+1) (w.setCell ⟨g,o,none⟩ (.int .i64 v)) (l.set o v) (by omega) (by rw [List.length_set];exact hn) (h.put hn o v)
  refine ⟨l',h1,h2,h3.trans ?_⟩
  rw [List.take_set,List.set_eq_of_length_le (by simp;omega)]
theorem zclear_run {base:Nat} {g n cap:Nat} {w:World} {l:List Int} (h:OwnZ base w (.slice (some ⟨g,0,none⟩) n cap) l) (hn:n=l.length) (k m c:Nat) (hm:k+m≤n) (h0:0<m) (ty:TypeId) :
 (Builtin.clear_ #[51] ty #[.slice (some ⟨g,k,none⟩) m c]).run Tryz.prog w = .ok (.tuple #[]) (w.setCells g k ((List.replicate m 0).map fun z => .int .i64 z)):=by
 subst hn
 obtain ⟨m,rfl⟩:∃ q,m=q+1:=⟨m - 1,by omega⟩
 obtain ⟨i0,hi,hz0,hz1,hz2⟩:=info_parts info_int
 have hz:(zeroValue 3).run Tryz.prog w = .ok (.int .i64 0) w:=by simp [zeroValue,typeInfo,hi,hz0,Result.andThen]
 have ez:(Builtin.zeroCells (Value.int .i64 0).cells (m+1)).toList=(List.replicate (m+1) (0:Int)).map fun z=>Value.int .i64 z:=by
  have e1:(Value.int .i64 0).cells=#[Value.int .i64 0]:=rfl
  rw [e1]
  apply List.ext_getElem?
  intro j
  simp [Builtin.zeroCells,Nat.mod_one]
  by_cases hj:j<m+1
  · rw [List.getElem?_range hj,List.getElem?_replicate,if_pos hj];rfl
  · rw [List.getElem?_eq_none (by simp;omega),List.getElem?_eq_none (by simp;omega)];rfl
 have hst:=run_storeCells_cells (P:=Tryz.prog) g k ((List.replicate (m+1) (0:Int)).map fun z=>Value.int .i64 z) 0 w (fun j hj=>by
  have hj':k+0+j<l.length:=by simp at hj;omega
  rw [World.ownsRow.cellAt h (k+0+j) (by omega),List.getElem?_map,List.getElem?_eq_getElem hj'];rfl) (fun j hj=>World.ownsRow.frozenAt h _) (fun v hv=>by obtain ⟨z,-,rfl⟩:=List.mem_map.1 hv;rfl)
 simp only [List.map_replicate,Nat.add_zero] at hst
 simp [Builtin.clear_,run_underlying und_ints,hz,ez,Result.andThen,hst]
theorem wpList_bltZ {P:Program} {w w':World} {ops:Array Oper} {rest:List Oper} {op:Oper} {a:Act} {Q:Exit→Act→World→Prop} (hgd:op.guard=none) (s:Operand) (ts:Array TypeId)
 (ho:op.op = .call { callee := .builtin .clear,args:=#[s],argTypes:=ts }) {u r:Value} (hs:a.eval s=u) (hrun:(Builtin.clear_ ts op.type #[u]).run P w = .ok r w') (h:wpList P ops Q rest (a.put op.dst r) w'):wpList P ops Q (op :: rest) a w:=by
 refine wpList_plain hgd fun K hK => ?_
 unfold Oper.wp execOp
 simp only [ho,resolve,invoke,builtin,Sem.run_bind,Sem.run_pure,Result.andThen_ok,List.map_toArray,List.map_cons,List.map_nil,hs,hrun]
 exact hK _ _ h
def stay (gone l:List Int):List Int:=l.filter fun x=>decide (x ∉ gone)
theorem stay_all {gone l:List Int} (h:∀ x∈l,x ∉ gone):stay gone l=l:=List.filter_eq_self.2 fun x hx=>decide_eq_true (h x hx)
theorem stay_more {gone l:List Int} {j:Nat} {x:Int} (hx:l[j]? = some x):stay gone (l.take (j+1))=stay gone (l.take j) ++ (if x∈gone then [] else [x]):=by
 unfold stay
 rw [List.take_add_one,hx,List.filter_append]
 by_cases h:x∈gone <;> simp [h]
structure DfJ (w:World) (base g n cap:Nat) (l gone:List Int) (i j:Nat) (wr:World):Prop where
 ij:i<j∧j≤n
 own:∃ m,OwnZ base wr (.slice (some ⟨g,0,none⟩) n cap) m∧n=m.length∧m.take i=stay gone (l.take j)∧∀ q,j≤q→m[q]? = l[q]?
 bt:But (fun b=>b=g) w wr
set_option maxRecDepth 20000 in
set_option maxHeartbeats 4000000 in
theorem zDelete_no (base:Nat) (s:Value) (l:List Int) (gb:Nat) (gone:List Int) (hl:l.length≤100000) (w:World) (hs:OwnZ base w s l) (hd:DelB w gb gone) (hno:∀ x∈l,x ∉ gone) :
 Calls Tryz.prog 249 #[s,delV gb] w fun e w'=>∃ v,e = .returned v∧OwnZ base w' v (stay gone l)∧Below base w w':=by
 have cI:=(zIndexFunc_any s l gb gone hl w (ZO.own hs) hd).mono (fun e w' h=>show e = .returned (.int .i64 (-1))∧w'=w from by
  rcases h with ⟨⟨k,-,-,-,x,hx,hg⟩ | ⟨rfl,-⟩,rfl⟩
  · exact absurd hg (hno x (List.mem_of_getElem? hx))
  · exact ⟨rfl,rfl⟩)
 rw [stay_all hno]
 obtain ⟨xo,co,rfl⟩:=hs.slice
 have Hs:=Hid.mk' hs
 clear hs hd hno
 unfold delV at cI ⊢
 go_enter Tryz.func249,Tryz.ntmps249
 go_wp2_with (go_at_call 276;refine cI.mono ?_;clear cI;rintro e w1 ⟨rfl,rfl⟩)
 go_ret
 exact ⟨_,rfl,Hs.out,Below.refl _ _⟩
set_option maxRecDepth 20000 in
set_option maxHeartbeats 4000000 in
theorem zDelete_yes (base:Nat) (g n cap:Nat) (l:List Int) (gb:Nat) (gone:List Int) (hl:l.length≤100000) (w:World) (hn:n=l.length) (hs:OwnZ base w (.slice (some ⟨g,0,none⟩) n cap) l) (hgb:gb<base) (hd:DelB w gb gone) (hex:∃ x∈l,x∈gone) :
 Calls Tryz.prog 249 #[.slice (some ⟨g,0,none⟩) n cap,delV gb] w fun e w'=>∃ v,e = .returned v∧OwnZ base w' v (stay gone l)∧Below base w w':=by
 have cI:=(zIndexFunc_any _ l gb gone hl w (ZO.own hs) hd).mono (fun e w' h=>show ∃ k:Nat,(e = .returned (.int .i64 (k:Int))∧w'=w)∧k<n∧stay gone (l.take (k+1))=l.take k from by
  rcases h with ⟨⟨k,rfl,hk,hb,x,hx,hg⟩ | ⟨-,h⟩,rfl⟩
  · refine ⟨k,⟨rfl,rfl⟩,by omega,?_⟩
    rw [stay_more hx,if_pos hg,List.append_nil]
    refine stay_all fun y hy => ?_
    obtain ⟨j,hj,e⟩:=List.getElem_of_mem hy
    have hj':j<k:=by simp at hj;omega
    exact hb j y hj' (by rw [List.getElem_take] at e;rw [List.getElem?_eq_getElem (by omega),e])
  · obtain ⟨x,hx,hg⟩:=hex;exact absurd hg (h x hx))
 have hgB:base≤g:=(World.ownsRow.lt hs g rfl).1
 have hgw:g<w.heap.size:=(World.ownsRow.lt hs g rfl).2
 have cD:=fun (wr:World) (hb:But (fun b=>b=g) w wr) (x:Int)=>del_any gb gone x wr (hd.same hb.size (fun b hl hle=>hb.block b hl (by omega)))
 have hcap:n≤cap:=by
  rcases hs.2 with ⟨e,-⟩ | ⟨g',cap',cur,e,-,-,hc,-⟩
  · cases e
  · cases e;omega
 have Hs:=Hid.mk' hs
 have Hn:=Hid.mk' hn
 have HcD:=Hid.mk' cD
 have Hc:=Hid.mk' (And.intro hcap (And.intro hgB (And.intro hgw (And.intro hgb hl))))
 have hn5:n≤100000:=by omega
 clear hs hd hex cD hcap hgB hgw hgb hn hl
 unfold delV at cI ⊢
 go_enter Tryz.func249,Tryz.ntmps249
 go_wp2_with (go_at_call 276;refine cI.mono ?_;clear cI;rintro e w1 ⟨k,⟨rfl,rfl⟩,hkn,hst⟩;(have hk1:((k:Int) == -1)=false:=beq_eq_false_iff_ne.2 (by omega));(have hw:=wrapK (show k≤100000 by omega));(have Hst:=Hid.mk' hst);clear hst)
 have hJ0:DfJ w1 base g n cap l gone k (k+1) w1:=⟨⟨by omega,by omega⟩,⟨l,Hs.out,Hn.out,Hst.out.symm,fun q _=>rfl⟩,But.of_below (Below.refl _ _)⟩
 clear hk1 hw
 go_loopw [5,6] (fun si sj wr=>∃ i j:Nat,si = .int .i64 (i:Int)∧sj = .int .i64 (j:Int)∧DfJ w1 base g n cap l gone i j wr) (fun _ sj _=>n - (intOf sj).toNat)
 case atStart=>exact ⟨k,k+1,rfl,by simp,hJ0⟩
 case round =>
  clear hJ0
  obtain ⟨i,j,rfl,rfl,hJ⟩:=hrel
  have hij:=hJ.ij
  obtain ⟨m,hm,hml,hmt,hmd⟩:=hJ.own
  by_cases hlt:j<n
  · have hln:=Hn.out
    obtain ⟨x,hx⟩:∃ x,l[j]? = some x:=⟨_,List.getElem?_eq_getElem (by omega)⟩
    have hmj:m[j]? = some x:=(hmd j (Nat.le_refl _)).trans hx
    subst hml
    have q1:wr.cell? ⟨g,j,none⟩=some (.int .i64 x):=by rw [World.ownsRow.cellAt hm j (by omega),List.getElem?_map,hmj];rfl
    obtain ⟨y,hy⟩:∃ y,m[i]? = some y:=⟨_,List.getElem?_eq_getElem (by omega)⟩
    have q2:wr.cell? ⟨g,i,none⟩=some (.int .i64 y):=by rw [World.ownsRow.cellAt hm i (by omega),List.getElem?_map,hy];rfl
    have q3:=World.ownsRow.frozenAt hm i
    have hlt':(j:Int)<(m.length:Int):=by omega
    have hlti:(i:Int)<(m.length:Int):=by omega
    have hj0:(0:Int)≤(j:Int):=by omega
    have hi0:(0:Int)≤(i:Int):=by omega
    have hw1:=(wrapK (show j≤100000 by omega)).2
    have hw2:=(wrapK (show i≤100000 by omega)).2
    have c:=HcD.out wr hJ.bt x
    have HJ:=Hid.mk' hJ
    have HM:=Hid.mk' hm
    have Hd:=Hid.mk' (And.intro hmt hmd)
    have Hx:=Hid.mk' hx
    have Hij:=Hid.mk' hij
    clear hJ hm hmt hmd hx hmj hy hij hln
    by_cases e:x∈gone
    · rw [decide_eq_true e] at c
      clear q2 q3
      go_wp2_with (go_at_call 250;refine c.mono ?_;clear c;rintro e w2 ⟨rfl,rfl⟩)
      have hij:=Hij.out
      refine ⟨⟨i,j+1,by first | rfl | simp,by first | rfl | simp,⟨⟨by omega,by omega⟩,⟨m,HM.out,rfl,Hd.out.1.trans ?_,fun q hq=>Hd.out.2 q (by omega)⟩,HJ.out.bt⟩⟩,by simp [intOf];omega⟩
      rw [stay_more Hx.out,if_pos e,List.append_nil]
    · rw [decide_eq_false e] at c
      go_wp2_with (go_at_call 250;refine c.mono ?_;clear c;rintro e w2 ⟨rfl,rfl⟩)
      have hij:=Hij.out
      refine ⟨⟨i+1,j+1,by first | rfl | simp,by first | rfl | simp,⟨⟨by omega,by omega⟩,⟨m.set i x,HM.out.put rfl i x,by simp,?_,fun q hq => ?_⟩,HJ.out.bt.trans ⟨rfl,rfl,rfl,by simp,fun b _ hb=>Below.heap_setCell _ _ _ _ hb⟩⟩⟩,by simp [intOf];omega⟩
      · rw [stay_more Hx.out,if_neg e,←Hd.out.1,List.take_add_one,List.getElem?_set_self (by omega),List.take_set,List.set_eq_of_length_le (by simp;omega)];rfl
      · rw [List.getElem?_set_ne (by omega)];exact Hd.out.2 q (by omega)
  · obtain rfl:j=n:=by omega
    have hlt':¬((j:Nat):Int)<(j:Int):=by omega
    have hs1:=fun W=>zsl_from0 W g j cap i (by omega) (by have:=Hc.out.1;omega)
    have hs2:=fun W=>zsl_to W g 0 j cap i (by have:=Hc.out.1;omega)
    have hcl:=fun ty=>zclear_run hm hml i (j - i) (cap - i) (by omega) (by omega) ty
    have HJ:=Hid.mk' hJ
    have HM:=Hid.mk' (And.intro hm (And.intro hml hmt))
    have Hij:=Hid.mk' hij
    clear hJ hm hml hmt hmd hij
    go_wp2_with (refine wpList_bltZ rfl _ _ rfl rfl (hcl _) ?_;clear hcl)
    go_ret
    obtain ⟨hm,hml,hmt⟩:=HM.out
    have hij:=Hij.out
    have hcc:=Hc.out
    obtain ⟨l',h1,h2,h3⟩:=OwnZ.puts (k:=i) (List.replicate (j - i) 0) i wr m (Nat.le_refl _) hml hm
    rw [List.map_replicate] at h1
    have h4:=h1.first h2 i (by omega)
    rw [h3,hmt,List.take_of_length_le (by have:=Hn.out;omega)] at h4
    exact ⟨_,rfl,h4,below_setCells hcc.2.1 _ _ _ (HJ.out.bt.below (by omega) (fun b hb=>by omega))⟩
theorem zDelete_any (base:Nat) (s:Value) (l:List Int) (gb:Nat) (gone:List Int) (hl:l.length≤100000) (w:World) (hs:OwnZ base w s l) (hgb:gb<base) (hd:DelB w gb gone) :
 Calls Tryz.prog 249 #[s,delV gb] w fun e w'=>∃ v,e = .returned v∧OwnZ base w' v (stay gone l)∧Below base w w':=by
 by_cases hex:∃ x∈l,x∈gone
 · rcases hs.2 with ⟨e,h0⟩ | ⟨g,cap,cur,e,-⟩
   · obtain ⟨x,hx,-⟩:=hex
     have:l=[]:=List.length_eq_zero_iff.1 h0
     subst this;cases hx
   · subst e
     exact zDelete_yes base g l.length cap l gb gone hl w rfl hs hgb hd hex
 · exact zDelete_no base s l gb gone hl w hs hd (fun x hx hg=>hex ⟨x,hx,hg⟩)
end Go.Proofs.YtddkbmnkbfciaaaGreatDoor
namespace Go.Proofs.YtddkbmnkbfciaaaGreatDoor
open Go.RowKit Go.Shelf
set_option maxRecDepth 20000 in
set_option maxHeartbeats 4000000 in
theorem withoutUnmerged_any (ok:Nat→Prop) (cs:List Value) (d:PrD) (hl:d.um.length≤1000) (gs:Value) (gone:List Int) (hgl:gone.length≤1000) {okg:Nat→Prop} (w:World) (hd:PrO ok w cs d) (hgo:ZO okg w gs gone) :
 Calls Tryz.prog 218 #[.agg cs.toArray,gs] w fun e w'=>∃ cs',e = .returned (.agg cs'.toArray)∧PrO (fun b=>ok b∨w.heap.size≤b) w' cs' { d with um:=stay gone d.um }∧Below w.heap.size w w':=by
 obtain ⟨x0,c0,x1,c1,x2,c2,rfl,h0,h1,h2⟩:=hd.form
 obtain ⟨gx,gc,rfl,-⟩:=id hgo
 clear hd
 obtain ⟨W1,hW1⟩:∃ W1,W1=w.alloc (.cells #[.slice x0 d.enc.n c0,.slice x1 d.hash.n c1,.slice x2 d.um.length c2] 121):=⟨_,rfl⟩
 obtain ⟨W2,hW2⟩:∃ W2,W2=W1.alloc (.cells #[.slice gx gone.length gc] 51):=⟨_,rfl⟩
 obtain ⟨W3,hW3⟩:∃ W3,W3=W2.alloc (.cells #[.slice none 0 0,.slice none 0 0,.slice none 0 0] 121):=⟨_,rfl⟩
 have b1:Below w.heap.size w W1:=by rw [hW1];exact (Below.refl _ _).alloc (Nat.le_refl _) _
 have b2:Below W1.heap.size W1 W2:=by rw [hW2];exact (Below.refl _ _).alloc (Nat.le_refl _) _
 have b3:Below W2.heap.size W2 W3:=by rw [hW3];exact (Below.refl _ _).alloc (Nat.le_refl _) _
 have s1:W1.heap.size=w.heap.size+1:=by rw [hW1];simp
 have s2:W2.heap.size=w.heap.size+1+1:=by rw [hW2];simp [s1]
 have s3:W3.heap.size=w.heap.size+1+1+1:=by rw [hW3];simp [s2]
 have k1:RW W3 w.heap.size 0 [.slice x0 d.enc.n c0,.slice x1 d.hash.n c1,.slice x2 d.um.length c2]:=by
  have:RW W1 w.heap.size 0 [.slice x0 d.enc.n c0,.slice x1 d.hash.n c1,.slice x2 d.um.length c2]:=by rw [hW1];exact RW.fresh w _ _
  exact (this.still b2).still b3
 have k2:RW W3 (w.heap.size+1) 0 [.slice gx gone.length gc]:=by
  have:RW W2 W1.heap.size 0 [.slice gx gone.length gc]:=by rw [hW2];exact RW.fresh W1 _ _
  rw [s1] at this
  exact this.still b3
 have k3:RW W3 (w.heap.size+1+1) 0 zPr:=by
  have:RW W3 W2.heap.size 0 zPr:=by rw [hW3];exact RW.fresh W2 _ _
  rwa [s2] at this
 have bw:=below_next (below_next b1 b2) b3
 have hz2:=h2.keep bw
 have cC:=zclone_any (.slice x2 d.um.length c2) d.um (by omega) W3 hz2
 have hB:DelB W3 (w.heap.size+1) gone:=⟨⟨_,by have:=k2.range 0 _ rfl;rwa [Nat.zero_add] at this,fun b=>b<w.heap.size,ZO.keep (hgo.wide fun b hb _=>hb) bw,fun b h=>Nat.lt_succ_of_lt h⟩,by omega⟩
 have cD:=fun (W:World) (v:Value) (hb:Below W3.heap.size W3 W) (ho:OwnZ W3.heap.size W v d.um)=>zDelete_any W3.heap.size v d.um (w.heap.size+1) gone (by omega) W ho (by omega) (hB.same hb.size (fun b hl _=>hb.block b hl))
 have q2:=k1.range 2 _ rfl
 rw [Nat.zero_add] at q2
 have HW1:=Hid.mk' hW1
 have HW2:=Hid.mk' hW2
 have HW3:=Hid.mk' hW3
 have G0:=Hid.mk' h0
 have G1:=Hid.mk' h1
 have Hs:=Hid.mk' s3
 have hi3:∀ A:Array Value,A.size=3→(Tryz.prog.info? 121).map (·.size)=some A.size:=fun A h=>iszP A h
 clear hW1 hW2 hW3 h0 h1 h2 b1 b2 b3 hz2 hgo hB s3
 unfold delV at cD
 go_enter Tryz.func218,Tryz.ntmps218
 go_wp2_with (first
  | (rw [←HW1.out];clear HW1)
  | (rw [←HW2.out];clear HW2)
  | (rw [←HW3.out];clear HW3)
  | (go_at_call 163;refine cC.mono ?_;clear cC;rintro e w4 ⟨s4,rfl,o4,b4⟩)
  | (go_at_call 249;refine (cD w4 s4 b4 o4).mono ?_;clear cD;rintro e w5 ⟨s5,rfl,o5,b5⟩;(obtain ⟨x5,c5,rfl⟩:=o5.slice);(have b35:Below W3.heap.size W3 w5:=b4.trans b5);(have k15:=k1.still b35);(have k35:=k3.still b35);(have f25:=(k15.there 2 (by simp)).2);(rw [Nat.zero_add] at f25);(have q25:=k15.range 2 _ rfl);(rw [Nat.zero_add] at q25);(have k16:=k15.set2 (.slice x5 (stay gone d.um).length c5));(have k36:=(k35.set2o (b:=w.heap.size) (by omega) 2 (.slice x5 (stay gone d.um).length c5)));(have t36:=k36.there);(have r16:=k16.range);clear q2)
  | (refine wpList_load_mid rfl 121 _ rfl w.heap.size 0 rfl _ _ r16 Tryz.underlying121 rfl (hi3 _ rfl) ?_)
  | (refine wpList_store_mid rfl 121 _ _ rfl (w.heap.size+1+1) 0 _ rfl rfl t36 (hi3 _ rfl) (by simp [Value.oneCell']) ?_))
 have st:=k36.stored [.slice x0 d.enc.n c0,.slice x1 d.hash.n c1,.slice x5 (stay gone d.um).length c5] rfl
 refine bodyPost_ret (results_cell_mid rfl _ _ (w.heap.size+1+1) 0 _ _ rfl st.range Tryz.underlying121 rfl (hi3 _ rfl)) rfl ?_
 have b5':Below w.heap.size w w5:=below_next bw b35
 have bst:Below w.heap.size w ((w5.setCell ⟨w.heap.size,2,none⟩ (.slice x5 (stay gone d.um).length c5)).setCells (w.heap.size+1+1) 0 [.slice x0 d.enc.n c0,.slice x1 d.hash.n c1,.slice x5 (stay gone d.um).length c5]):=below_setCells (by omega) _ _ _ (b5'.setCell (Nat.le_refl _) _)
 refine ⟨_,rfl,?_,bst⟩
 have hz:ZO (fun b=>W3.heap.size≤b) w5 (.slice x5 (stay gone d.um).length c5) (stay gone d.um):=ZO.own o5
 have s3:=Hs.out
 refine ⟨_,_,_,rfl,(G0.out.same bst.size (fun b hb _=>bst.block b hb)).wide (fun b _ h => .inl h),(G1.out.same bst.size (fun b hb _=>bst.block b hb)).wide (fun b _ h => .inl h),(hz.same (by rw [(setCells_same _ _ _ _).2.2.2];simp) (fun b hb h => ?_)).wide (fun b _ h => .inr (by omega))⟩
 rw [heap_setCells_other _ _ _ _ _ (by omega)]
 exact Below.heap_setCell _ _ _ _ (by show b≠w.heap.size;omega)
end Go.Proofs.YtddkbmnkbfciaaaGreatDoor
namespace Go.Proofs.YtddkbmnkbfciaaaGreatDoor
open Go.RowKit Go.Shelf
def LensAt (w:World) (v:Value) (ls:List Nat):Prop:=∃ xo co,v = .slice xo ls.length co∧ls.length≤co∧∀ i n,ls[i]? = some n→∃ g o x c,xo=some ⟨g,o,none⟩∧w.cell? ⟨g,o+i,none⟩=some (.slice x n c)
theorem notKey_any (x:Option Addr) (n c:Nat) (w:World):Calls Tryz.prog 101 #[.slice x n c] w fun e w'=>e = .returned (.bool (decide (n≠32)))∧w'=w:=by
 by_cases h:n=32
 · subst h
   go_enter Tryz.func101,Tryz.ntmps101
   go_wp2
   go_ret
   exact ⟨rfl,rfl⟩
 · have hb:((n:Int) == 32)=false:=beq_eq_false_iff_ne.2 (by omega)
   go_enter Tryz.func101,Tryz.ntmps101
   go_wp2
   go_ret
   exact ⟨by simp [h];omega,rfl⟩
set_option maxRecDepth 20000 in
theorem kIndexFunc_any (s:Value) (l:List Nat) (hl:l.length≤100000) (w:World) (hs:LensAt w s l):Calls Tryz.prog 169 #[s,.func (.func 101) #[] #[]] w fun e w'=>(∃ z:Int,e = .returned (.int .i64 z)∧decide (0≤z)=decide (∃ n∈l,n≠32))∧w'=w:=by
 obtain ⟨xo,co,rfl,hc,hz⟩:=hs
 go_enter Tryz.func169,Tryz.ntmps169
 go_wp2
 go_loopw [8] (fun s wr=>∃ k:Nat,k≤l.length∧s = .int .i64 (k:Int)∧(∀ j n,j<k→l[j]? = some n→n=32)∧wr=w) (fun s _=>l.length - (intOf s).toNat)
 case atStart=>exact ⟨0,Nat.zero_le _,rfl,fun j x h=>absurd h (Nat.not_lt_zero _),rfl⟩
 case round =>
  obtain ⟨k,hk,rfl,hno,rfl⟩:=hrel
  by_cases hlt:k<l.length
  · obtain ⟨n,hx⟩:∃ n,l[k]? = some n:=⟨_,List.getElem?_eq_getElem hlt⟩
    obtain ⟨g,o,x,c,rfl,hgc⟩:=hz k n hx
    have hlt':(k:Int)<(l.length:Int):=by omega
    have hk0:(0:Int)≤(k:Int):=by omega
    have Hno:=Hid.mk' hno
    have Hx:=Hid.mk' hx
    have cD:=notKey_any x n c wr
    clear hz hno hx
    by_cases e:n=32
    · rw [decide_eq_false (by simpa using e)] at cD
      have He:=Hid.mk' e
      clear e
      go_wp2_with (go_at_call 101;refine cD.mono ?_;clear cD;rintro e w1 ⟨rfl,rfl⟩)
      refine ⟨⟨k+1,hlt,by simp,fun j y hj hy => ?_,by first | rfl | trivial⟩,by simp [intOf];omega⟩
      by_cases h:j=k
      · subst h;rw [Hx.out] at hy;cases hy;exact He.out
      · exact Hno.out j y (by omega) hy
    · rw [decide_eq_true e] at cD
      go_wp2_with (go_at_call 101;refine cD.mono ?_;clear cD;rintro e w1 ⟨rfl,rfl⟩)
      go_ret
      have hm:∃ n∈l,n≠32:=⟨n,List.mem_of_getElem? Hx.out,e⟩
      exact ⟨⟨_,rfl,by rw [decide_eq_true hk0,decide_eq_true hm]⟩,rfl⟩
  · obtain rfl:k=l.length:=by omega
    have hlt':¬((l.length:Nat):Int)<(l.length:Int):=by omega
    have Hno:=Hid.mk' hno
    clear hz hno
    go_wp2
    go_ret
    have hm:¬∃ n∈l,n≠32:=fun ⟨n,hn,h⟩=>by
     obtain ⟨j,hj,e⟩:=List.getElem_of_mem hn
     exact h (Hno.out j n hj (by rw [List.getElem?_eq_getElem hj,e]))
    refine ⟨⟨_,rfl,?_⟩,rfl⟩
    exact ⟨fun h=>by omega,fun h=>absurd h hm⟩
theorem kContains_any (s:Value) (l:List Nat) (hl:l.length≤100000) (w:World) (hs:LensAt w s l):Calls Tryz.prog 100 #[s,.func (.func 101) #[] #[]] w fun e w'=>e = .returned (.bool (decide (∃ n∈l,n≠32)))∧w'=w:=by
 have c:=kIndexFunc_any s l hl w hs
 clear hs
 generalize decide (∃ n∈l,n≠32)=b at *
 go_enter Tryz.func100,Tryz.ntmps100
 go_wp2_with (go_at_call 169;refine c.mono ?_;clear c;rintro e w1 ⟨⟨z,rfl,hz⟩,rfl⟩)
 go_ret
 exact ⟨rfl,rfl⟩
end Go.Proofs.YtddkbmnkbfciaaaGreatDoor
namespace Go.Proofs.YtddkbmnkbfciaaaGreatDoor
open Go.RowKit Go.Shelf
attribute [local go_sem] Oper.semAt_some
theorem backward_call (xo:Option Addr) (n c:Nat) (w:World):Calls Tryz.prog 104 #[.slice xo n c] w fun e w'=>e = .returned (.func (.func 172) #[] #[pA w.heap.size 0])∧w'=w.alloc (.cells #[.slice xo n c] 51):=by
 go_enter Tryz.func104,Tryz.ntmps104
 go_wp2
 go_ret
 exact ⟨rfl,rfl⟩
def HasB (pb:Nat) (s:Value) (l:List Int) (_:Nat) (W:World):Prop:=W.cell? ⟨pb,0,none⟩=some s∧∃ ok,ZO ok W s l
set_option maxRecDepth 100000 in
set_option maxHeartbeats 4000000 in
theorem backward_it (pb:Nat) (s:Value) (l:List Int) (hl:l.length≤100000) :
 Iter Tryz.prog 172 #[pA pb 0] l.length (fun k=>some #[.int .i64 ((l.length - 1 - k:Nat):Int),.int .i64 ((l[l.length - 1 - k]?).getD 0)]) (HasB pb s l):=by
 intro y B Inv Brk hI hBr hH _ hY M W hBW hM h0
 obtain ⟨c1,ok,xo,co,rfl,-⟩:=hH 0 M W (Nat.zero_le _) h0
 have hw0:IntKind.i64.wrap ((l.length:Int) - 1)=(l.length:Int) - 1:=by simp only [IntKind.wrap_i64];omega
 obtain ⟨nn,-⟩:∃ nn:Nat,True:=⟨1,trivial⟩
 refine (callsIn_wide (n:=nn)).1 ?_
 refine callsIn_of_wp Tryz.func172 rfl trivial ?_ rfl
 simp only [Tryz.ntmps172,List.size_toArray,List.length_cons,List.length_nil,Nat.reduceAdd,Nat.reduceSub,Array.replicate_succ,Array.replicate_zero,List.push_toArray,List.append_toArray,List.nil_append,List.cons_append]
 gi_wp2
 clear c1 hw0
 gi_loopw [3] (fun s wr=>∃ k:Nat,k≤l.length∧s = .int .i64 ((l.length:Int) - 1 - (k:Int))∧W.heap.size≤wr.heap.size∧∃ M,Inv k M wr) (fun s _=>(intOf s+1).toNat)
 case atStart=>exact ⟨0,Nat.zero_le _,by simp,Nat.le_refl _,M,h0⟩
 case round =>
  clear h0 hM
  obtain ⟨k,hk,rfl,hsz,M,hI0⟩:=hrel
  by_cases hlt:k<l.length
  · obtain ⟨c1,ok2,xo2,co2,e,hca,-,hzc⟩:=hH k M wr hk hI0
    cases e
    obtain ⟨q,hq⟩:∃ q:Nat,q=l.length - 1 - k:=⟨_,rfl⟩
    obtain ⟨x,hx⟩:∃ x,l[q]? = some x:=⟨_,List.getElem?_eq_getElem (by omega)⟩
    have eq1:(l.length:Int) - 1 - (k:Int)=(q:Int):=by omega
    obtain ⟨g,o,rfl,-,-,hgc⟩:=hzc q x hx
    have hYk:=hY k M wr _ hlt rfl hI0 (by omega)
    rw [←hq,hx] at hYk
    simp only [Option.getD_some] at hYk
    have hq0:(0:Int)≤(q:Int):=by omega
    have hqn:(q:Int)<(l.length:Int):=by omega
    have hw0:IntKind.i64.wrap ((q:Int) - 1)=(q:Int) - 1:=by simp only [IntKind.wrap_i64];omega
    obtain ⟨fn,tmps,assign,body,hy,hR⟩:=hYk
    have Hq:=Hid.mk' (And.intro hq eq1)
    rw [eq1]
    clear hY hH hzc hx hq eq1
    gi_wp2
    refine ⟨(fun h=>by cases h),(roundIn_deep hR).mono ?_⟩
    rintro e W' ⟨hF,M',hM',⟨rfl,hI'⟩ | ⟨rfl,hB'⟩⟩
    · clear hy hR hI0
      gi_wp2
      go_roundw
      case rel =>
       have hq:=Hq.out
       have e2:(q:Int) - 1=(l.length:Int) - 1 - ((k+1:Nat):Int):=by omega
       exact ⟨k+1,by omega,by rw [e2],Nat.le_trans hsz hF.size,M',hI'⟩
      case measure=>simp [intOf]
    · clear hy hR hI0
      gi_wp2
      refine bodyPost_ret (results_none rfl _ _ _) rfl ?_
      exact ⟨⟨_,rfl⟩,Nat.le_trans hsz hF.size,M',.inr hB'⟩
  · obtain rfl:k=l.length:=by omega
    have e1:(l.length:Int) - 1 - (l.length:Int)=-1:=by omega
    rw [e1]
    clear hY hH e1
    gi_wp2
    refine bodyPost_end (results_none rfl _ _ _) rfl ?_
    exact ⟨⟨_,rfl⟩,hsz,M,.inl hI0⟩
end Go.Proofs.YtddkbmnkbfciaaaGreatDoor
namespace Go.Proofs.YtddkbmnkbfciaaaGreatDoor
open Go.RowKit Go.Shelf
theorem tLeaves_any (ok:Nat→Prop) (tb mb:Nat) (T:Tr) (hn:1≤T.n) (w:World) (h:TrAt ok w tb mb T):Calls Tryz.prog 34 #[pA tb 0] w fun e w'=>e = .returned (.int .i64 (T.n:Int))∧w'=w:=by
 have cM:=tmade_any tb T.n w h.lv
 rw [decide_eq_true (by omega)] at cM
 have hlv:=h.lv
 clear h
 go_enter Tryz.func34,Tryz.ntmps34
 go_wp2_with (go_at_call 54;refine cM.mono ?_;clear cM;rintro e w1 ⟨rfl,rfl⟩)
 go_ret
 exact ⟨rfl,rfl⟩
set_option maxRecDepth 100000 in
theorem tPutLeaf_yes (ok:Nat→Prop) (tb mb:Nat) (T:Tr) (hK:TrOK T) (i:Int) (cs:List Value) (d:LfD) (w:World) (hd:LfIn w cs d) (h:TrAt ok w tb mb T) (hR:lfR d 3) (hi:0≤i∧i<T.n):Calls Tryz.prog 37 #[pA tb 0,.int .i64 i,.agg cs.toArray] w fun e w'=>e = .returned (.int .i64 0)∧TrAt (fun b=>ok b∨w.heap.size≤b) w' tb mb ⟨T.n,upn T.nd (2*i) (some (.lf d))⟩∧But (fun j=>j=mb) w w':=by
 obtain ⟨V,hV⟩:∃ V,V=w.alloc (.cells cs.toArray 54):=⟨_,rfl⟩
 have k1:RW V w.heap.size 0 cs:=by rw [hV];exact RW.fresh w cs 54
 have b1:Below w.heap.size w V:=by rw [hV];exact (Below.refl _ _).alloc (Nat.le_refl _) _
 have hil:(Tryz.prog.info? 54).map (·.size)=some cs.length:=by rw [hd.row.1];kernel_rfl
 have cB:=mayBe_any cs d V (hd.keep b1)
 have hn64:=hK.n64
 have cL:=fun w' hb=>thasLeaf_any tb T.n i (by omega) w' ((h.below b1).below (w':=w') hb).lv
 rw [decide_eq_true hi.1,decide_eq_true hi.2] at cL
 have cP:=fun (w':World) (hb:Below w.heap.size w w')=>put4_any ok tb mb T i ⟨hi.1,by omega⟩ cs d (lfR_L hR) w' (h.below hb) (hd.keep hb)
 have htl:=h.tlt
 have hml:=h.mlt
 have Hnt:=Hid.mk' (And.intro h.ntb h.nmb)
 have Hlt:=Hid.mk' (And.intro htl hml)
 have HV:=Hid.mk' hV
 have r2:=k1.range
 clear h hd hV hK hi hn64 htl hml
 go_enter Tryz.func37,Tryz.ntmps37
 go_wp2_with (first
  | (rw [←HV.out];clear HV)
  | (refine wpList_load_wd4 rfl 54 _ rfl _ 0 rfl cs _ r2 Tryz.underlying54 rfl hil ?_)
  | (go_at_call 94;refine cB.mono ?_;clear cB;rintro e w1 ⟨b,rfl,hb,hb1⟩;(obtain rfl:b=true:=hb.2 hR);(have r3:=(k1.still hb1).range);clear r2)
  | (go_at_call 87;refine (cL w1 hb1).mono ?_;clear cL;rintro e w2 ⟨rfl,rfl⟩)
  | (refine wpList_load_mid rfl 54 _ rfl w.heap.size 0 rfl cs _ r3 Tryz.underlying54 rfl hil ?_;(try simp only [pS]);clear r3)
  | (go_at_call 96;refine (cP _ (below_next b1 hb1)).mono ?_;clear cP;rintro e w3 ⟨⟨v3,rfl⟩,hT3,hb3⟩))
 go_ret
 have bw:=below_next b1 hb1
 have htm:=Hlt.out
 have hs:=bw.size
 refine ⟨rfl,hT3.wide (fun b _ h=>h.imp id (fun h=>by omega)) (fun h => ?_) (fun h => ?_),(But.of_below bw).trans hb3⟩
 · rcases h with h | h
   · exact Hnt.out.1 h
   · omega
 · rcases h with h | h
   · exact Hnt.out.2 h
   · omega
end Go.Proofs.YtddkbmnkbfciaaaGreatDoor
namespace Go.Proofs.YtddkbmnkbfciaaaGreatDoor
open Go.RowKit
theorem lbytes_any (cs:List Value) (d:LfD) (hR:lfR d 3) (w:World) (hd:LfIn w cs d):Calls Tryz.prog 317 #[.agg cs.toArray] w fun e w'=>∃ s,e = .returned s∧BytesIn w' s (lfLen d) (lfByt d)∧Below w.heap.size w w':=by
 have b1:Below w.heap.size w (w.alloc (.cells cs.toArray 117)):=(Below.refl _ _).alloc (Nat.le_refl _) _
 have k1:=RW.fresh w cs 117
 have r1:=k1.range
 have hp:=putLeaf_any cs d _ (hd.keep b1)
 have hi:(Tryz.prog.info? 117).map (·.size)=some cs.length:=by rw [hd.row.1];kernel_rfl
 clear hd
 replace hp:Calls Tryz.prog 164 #[.agg cs.toArray] (w.alloc (.cells cs.toArray 117)) fun e w'=>∃ x c,e = .returned (.tuple #[.slice x (lfLen d) c,.int .i64 0])∧BytesIn w' (.slice x (lfLen d) c) (lfLen d) (lfByt d)∧Below (w.alloc (.cells cs.toArray 117)).heap.size (w.alloc (.cells cs.toArray 117)) w':=hp.mono fun e w' ⟨hb,hP⟩=>by
  unfold PutA at hP
  rw [if_pos hR] at hP
  obtain ⟨s,he,hB⟩:=hP
  obtain ⟨x,c,rfl,-⟩:=hB.src
  exact ⟨x,c,he,hB,hb⟩
 generalize lfLen d=L at *
 generalize lfByt d=B at *
 go_enter Tryz.func317,Tryz.ntmps317
 go_wp2_with (first
  | (refine wpList_load_mid rfl 117 _ rfl w.heap.size 0 rfl cs _ r1 Tryz.underlying117 rfl hi ?_)
  | (go_at_call 164;refine hp.mono ?_;clear hp;rintro e w1 ⟨x,c,rfl,hB,hb⟩))
 go_ret
 exact ⟨_,rfl,hB,below_next b1 hb⟩
theorem PrIn.row {w:World} {cs:List Value} {d:PrD} (h:PrIn w cs d):cs.length=3:=by
 obtain ⟨v0,v1,v2,rfl,-⟩:=h
 rfl
theorem pbytes_any (cs:List Value) (d:PrD) (hR:prR d) (hl:d.um.length<140737488355000) (w:World) (hd:PrIn w cs d):Calls Tryz.prog 321 #[.agg cs.toArray] w fun e w'=>∃ s,e = .returned s∧BytesIn w' s (prLen d) (prByt d)∧Below w.heap.size w w':=by
 have b1:Below w.heap.size w (w.alloc (.cells cs.toArray 121)):=(Below.refl _ _).alloc (Nat.le_refl _) _
 have k1:=RW.fresh w cs 121
 have r1:=k1.range
 have hp:=putParent_any cs d _ (hd.keep b1) hl
 have hi:(Tryz.prog.info? 121).map (·.size)=some cs.length:=by rw [hd.row];kernel_rfl
 clear hd
 replace hp:Calls Tryz.prog 325 #[.agg cs.toArray] (w.alloc (.cells cs.toArray 121)) fun e w'=>∃ x c,e = .returned (.tuple #[.slice x (prLen d) c,.int .i64 0])∧BytesIn w' (.slice x (prLen d) c) (prLen d) (prByt d)∧Below (w.alloc (.cells cs.toArray 121)).heap.size (w.alloc (.cells cs.toArray 121)) w':=hp.mono fun e w' ⟨hb,hP⟩=>by
  unfold PutA at hP
  rw [if_pos hR] at hP
  obtain ⟨s,he,hB⟩:=hP
  obtain ⟨x,c,rfl,-⟩:=hB.src
  exact ⟨x,c,he,hB,hb⟩
 generalize prLen d=L at *
 generalize prByt d=B at *
 go_enter Tryz.func321,Tryz.ntmps321
 go_wp2_with (first
  | (refine wpList_load_mid rfl 121 _ rfl w.heap.size 0 rfl cs _ r1 Tryz.underlying121 rfl hi ?_)
  | (go_at_call 325;refine hp.mono ?_;clear hp;rintro e w1 ⟨x,c,rfl,hB,hb⟩))
 go_ret
 exact ⟨_,rfl,hB,below_next b1 hb⟩
def ndT:Option Nd→Tx
 | none=>⟨1,fun _=>0⟩
 | some (.lf d)=>⟨1+lfLen d,cat 1 (fun _=>1) (lfByt d)⟩
 | some (.pr d)=>⟨1+prLen d,cat 1 (fun _=>1) (prByt d)⟩
theorem own_one (base:Nat) (w:World) (x:Nat) (h:base≤w.heap.size):Own base (w.alloc (.cells #[.int .u8 x] 5)) (.slice (some ⟨w.heap.size,0,none⟩) 1 1) 1 (fun _=>x) :=
 World.ownsRow_lit w #[.int .u8 x] 1 h (by decide) rfl
theorem Own.bytes4 {base:Nat} {w:World} {v:Value} {n:Nat} {X:Nat→Nat} (h:Own base w v n X):BytesIn w v n X:=(BO.own h).of
theorem orBlank_none (w:World):Calls Tryz.prog 135 #[.nilIface] w fun e w'=>∃ s,e = .returned s∧BytesIn w' s (ndT none).n (ndT none).b∧Below w.heap.size w w':=by
 go_enter Tryz.func135,Tryz.ntmps135
 go_wp2
 go_ret
 exact ⟨_,rfl,Own.bytes4 (own_one w.heap.size w 0 (Nat.le_refl _)),(Below.refl _ _).alloc (Nat.le_refl _) _⟩
theorem meth_l (A:Array Value) (W:World):(method 396 117 (.agg A) "synod/tree.bytes").run Tryz.prog W = .ok (317,.agg A) W:=by kernel_rfl
theorem meth_p (A:Array Value) (W:World):(method 396 121 (.agg A) "synod/tree.bytes").run Tryz.prog W = .ok (321,.agg A) W:=by kernel_rfl
theorem vcL_le4 (n:Nat):vcL n≤n+4:=by have:=lnS_pos n;unfold vcL;omega
theorem lfLen_le {d:LfD} (h:lfR d 3):lfLen d≤600:=by
 obtain ⟨h1,h2,h3,-,h5,h6⟩:=h
 have a1:=vcL_le4 d.enc.n
 have a2:=vcL_le4 d.sig.n
 have a3:=vcL_le4 d.name.n
 have a4:=vcL_le4 d.hash.n
 have a5:=vcL_le4 d.sg.n
 show 0+vcL d.enc.n+vcL d.sig.n+vcL d.name.n+1+(if d.src=3 then vcL d.hash.n else 0)+vcL d.sg.n≤600
 split
 · rename_i hs
   rw [if_pos hs] at h5
   omega
 · omega
theorem prLen_le {d:PrD} (h:prR d):prLen d≤600:=by
 obtain ⟨h1,h2,h3⟩:=h
 have hl:=(risU_rises h3).2.1
 have a1:=vcL_le4 d.enc.n
 have a2:=vcL_le4 d.hash.n
 have a3:=vcL_le4 (4*d.um.length)
 show 0+vcL d.enc.n+vcL d.hash.n+vcL (4*d.um.length)≤600
 omega
theorem vcB_lt4 {n:Nat} {b:Nat→Nat} (h:∀ j,b j<256) (j:Nat):vcB n b j<256:=cat_lt (fun j=>beN_lt _ _ j) h j
theorem prB_lt4 {d:PrD} (h:prK d):∀ i j,prB d i j<256
 | 0,j=>vcB_lt4 h.1 j
 | 1,j=>vcB_lt4 h.2 j
 | _+2,j=>vcB_lt4 (fun j=>allB_lt (fun _ j=>beN_lt _ _ j) _ j) j
theorem lfB_lt4 {d:LfD} (h:lfK d):∀ i j,lfB d i j<256
 | 0,j=>vcB_lt4 h.1 j
 | 1,j=>vcB_lt4 h.2.1 j
 | 2,j=>vcB_lt4 h.2.2.1 j
 | 3,j=>beN_lt _ _ j
 | 4,j=>vcB_lt4 h.2.2.2.1 j
 | _+5,j=>vcB_lt4 h.2.2.2.2 j
def ndR:Nd→Prop
 | .lf d=>lfR d 3∧lfK d
 | .pr d=>prR d∧prK d
theorem ndT_le {o:Option Nd} (h:∀ d,o=some d→ndR d):(ndT o).n≤700:=by
 match o,h with
 | none,_=>show 1≤700;decide
 | some (.lf d),h=>have:=lfLen_le (h _ rfl).1;show 1+lfLen d≤700;omega
 | some (.pr d),h=>have:=prLen_le (h _ rfl).1;show 1+prLen d≤700;omega
theorem ndT_lt {o:Option Nd} (h:∀ d,o=some d→ndR d) (j:Nat):(ndT o).b j<256:=by
 match o,h with
 | none,_=>show 0<256;decide
 | some (.lf d),h=>exact cat_lt (fun _=>(by decide:1<256)) (fun j=>allB_lt (lfB_lt4 (h _ rfl).2) 6 j) j
 | some (.pr d),h=>exact cat_lt (fun _=>(by decide:1<256)) (fun j=>allB_lt (prB_lt4 (h _ rfl).2) 3 j) j
set_option maxRecDepth 20000 in
theorem orBlank_lf (cs:List Value) (d:LfD) (hR:lfR d 3) (w:World) (hd:LfIn w cs d):Calls Tryz.prog 135 #[.iface 117 (.agg cs.toArray)] w fun e w'=>∃ s,e = .returned s∧BytesIn w' s (ndT (some (.lf d))).n (ndT (some (.lf d))).b∧Below w.heap.size w w':=by
 have b1:Below w.heap.size w (w.alloc (.cells #[.int .u8 1] 5)):=(Below.refl _ _).alloc (Nat.le_refl _) _
 have o1:=own_one w.heap.size w 1 (Nat.le_refl _)
 have cb:=lbytes_any cs d hR _ (hd.keep b1)
 have hm:=fun W=>meth_l cs.toArray W
 have hL:=lfLen_le hR
 show Calls _ _ _ _ fun e w'=>∃ s,e = .returned s∧BytesIn w' s (1+lfLen d) (cat 1 (fun _=>1) (lfByt d))∧Below w.heap.size w w'
 generalize lfLen d=L at *
 generalize lfByt d=B at *
 clear hd
 go_enter Tryz.func135,Tryz.ntmps135
 go_wp2_with (first
  | (go_at_call 317;refine cb.mono ?_;clear cb;rintro e w2 ⟨s2,rfl,B2,hb2⟩;(have o2:=o1.below hb2);(have b2:=below_next b1 hb2);(obtain ⟨x2,c2,hs2,hxn2,-,src2⟩:=B2.src);subst hs2;(have r2:=src2 w2 (Below.refl _ _)))
  | (at_builtin;refine wpList_append_bytes rfl (.tmp 6) (.tmp 8) rfl w.heap.size _ 1 (fun _=>1) rfl o2 x2 L c2 B rfl r2 hxn2 (by omega) b2.size ?_;intro v5 w5 own5 hg5;have b5:=Own.grown b2 hg5 o2 (Nat.le_refl _) b2.size))
 go_ret
 exact ⟨_,rfl,own5.bytes4,b5⟩
set_option maxRecDepth 20000 in
theorem orBlank_pr (cs:List Value) (d:PrD) (hR:prR d) (w:World) (hd:PrIn w cs d):Calls Tryz.prog 135 #[.iface 121 (.agg cs.toArray)] w fun e w'=>∃ s,e = .returned s∧BytesIn w' s (ndT (some (.pr d))).n (ndT (some (.pr d))).b∧Below w.heap.size w w':=by
 have b1:Below w.heap.size w (w.alloc (.cells #[.int .u8 1] 5)):=(Below.refl _ _).alloc (Nat.le_refl _) _
 have o1:=own_one w.heap.size w 1 (Nat.le_refl _)
 have cb:=pbytes_any cs d hR (by have:=(risU_rises hR.2.2).2.1;omega) _ (hd.keep b1)
 have hm:=fun W=>meth_p cs.toArray W
 have hL:=prLen_le hR
 show Calls _ _ _ _ fun e w'=>∃ s,e = .returned s∧BytesIn w' s (1+prLen d) (cat 1 (fun _=>1) (prByt d))∧Below w.heap.size w w'
 generalize prLen d=L at *
 generalize prByt d=B at *
 clear hd
 go_enter Tryz.func135,Tryz.ntmps135
 go_wp2_with (first
  | (go_at_call 321;refine cb.mono ?_;clear cb;rintro e w2 ⟨s2,rfl,B2,hb2⟩;(have o2:=o1.below hb2);(have b2:=below_next b1 hb2);(obtain ⟨x2,c2,hs2,hxn2,-,src2⟩:=B2.src);subst hs2;(have r2:=src2 w2 (Below.refl _ _)))
  | (at_builtin;refine wpList_append_bytes rfl (.tmp 6) (.tmp 8) rfl w.heap.size _ 1 (fun _=>1) rfl o2 x2 L c2 B rfl r2 hxn2 (by omega) b2.size ?_;intro v5 w5 own5 hg5;have b5:=Own.grown b2 hg5 o2 (Nat.le_refl _) b2.size))
 go_ret
 exact ⟨_,rfl,own5.bytes4,b5⟩
theorem orBlank_any {ok:Nat→Prop} (o:Option Nd) (v:Value) (w:World) (h:∀ d,o=some d→ndR d) (hv:(o=none∧v = .nilIface)∨∃ d,o=some d∧NdO ok w v d):Calls Tryz.prog 135 #[v] w fun e w'=>∃ s,e = .returned s∧BytesIn w' s (ndT o).n (ndT o).b∧Below w.heap.size w w':=by
 rcases hv with ⟨rfl,rfl⟩ | ⟨d,rfl,hd⟩
 · exact orBlank_none w
 · cases d with
   | lf d =>
    obtain ⟨cs,rfl,hO⟩:=hd
    exact orBlank_lf cs d (h _ rfl).1 w hO.of
   | pr d =>
    obtain ⟨cs,rfl,hO⟩:=hd
    exact orBlank_pr cs d (h _ rfl).1 w hO.of
end Go.Proofs.YtddkbmnkbfciaaaGreatDoor
