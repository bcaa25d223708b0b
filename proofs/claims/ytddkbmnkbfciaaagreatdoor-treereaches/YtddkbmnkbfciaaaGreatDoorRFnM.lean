/- What the proof stands on: RFn, T4A, T4R, D1Math, Lent, D1CA, D1RB. -/
import Derived.Test.YtddkbmnkbfciaaaGreatDoorBaseM
import Derived.LoopIn
import Derived.LoopNIn
import Derived.MapKept
import Derived.Maps.RangeRun
import Derived.OwnWalkIn
import Derived.RangeFuncBound
import Derived.RangeFuncCalls
import Derived.RangeFuncLeaves
import Derived.RangeFuncNested
import Derived.Shelf.Abstract
import Derived.Shelf.RegionOpen
import Derived.TacticsInMore
namespace Go.Proofs.YtddkbmnkbfciaaaGreatDoor
open Go.RowKit Go.Shelf
attribute [local go_sem] Oper.semAt_some
structure But (bad:Nat→Prop) (W W':World):Prop where
 os:W'.os=W.os
 tape:W'.tape=W.tape
 output:W'.output=W.output
 size:W.heap.size≤W'.heap.size
 block:∀ k,k<W.heap.size→¬bad k→W'.heap[k]? = W.heap[k]?
theorem But.refl (bad:Nat→Prop) (W:World):But bad W W:=⟨rfl,rfl,rfl,Nat.le_refl _,fun _ _ _=>rfl⟩
theorem But.trans {bad:Nat→Prop} {A B C:World} (h:But bad A B) (k:But bad B C):But bad A C:=⟨k.os.trans h.os,k.tape.trans h.tape,k.output.trans h.output,Nat.le_trans h.size k.size,fun i hi hb=>(k.block i (Nat.lt_of_lt_of_le hi h.size) hb).trans (h.block i hi hb)⟩
theorem But.row {bad:Nat→Prop} {W W':World} (h:But bad W W') {K:IntKind} {b o n:Nat} {X:Nat→Nat} (hr:RowAt K W b o n X) (hb:¬bad b):RowAt K W' b o n X:=fun j hj=>by
 have hl:b<W.heap.size:=block_lt_of_cell (hr j hj).1
 exact ⟨(World.cell?_of_block (w:=W) (h.block b hl hb)).trans (hr j hj).1,(World.frozen?_of_block (w:=W) (h.block b hl hb)).trans (hr j hj).2⟩
theorem But.cell {bad:Nat→Prop} {W W':World} (h:But bad W W') {b o:Nat} {v:Value} (hc:W.cell? ⟨b,o,none⟩=some v) (hb:¬bad b):W'.cell? ⟨b,o,none⟩=some v :=
 (World.cell?_of_block (w:=W) (h.block b (block_lt_of_cell hc) hb)).trans hc
theorem wpListIn_load_mid {P:Program} {n:Nat} {ops:Array Oper} {rest:List Oper} {op:Oper} {a:Act} {w:World} {Q:Exit→Act→World→Prop} (hgd:op.guard=none) (ty:TypeId) (x:Operand) (ho:op.op = .load ty x)
 (b o:Nat) (hx:a.eval x = .pointer (some ⟨b,o,none⟩)) (cs:List Value) (d:TypeDesc) (hc:w.rangeAt b o cs)
 (hu:P.underlying ty=some d) (hd:d.isRow=true) (hi:(P.info? ty).map (·.size)=some cs.length)
 (h:wpListIn Fence.wide n P ops Q rest (a.put op.dst (.agg cs.toArray)) w):wpListIn Fence.wide n P ops Q (op :: rest) a w :=
 wpListIn_plain hgd fun _ hK=>⟨fun _ _=>trivial,by
  have hsem:(op.semAt Fence.wide.round a.eval)=execOp a.eval op:=rfl
  rw [hsem]
  unfold execOp
  simp only [ho,hx,Instr.loadAt,Instr.sureAddr,Sem.run_bind,Sem.run_pure,Result.andThen_ok,run_loadVar_mid w b o ty cs d hc hu hd hi]
  exact hK _ _ h⟩
theorem wpListIn_store_mid {P:Program} {n:Nat} {ops:Array Oper} {rest:List Oper} {op:Oper} {a:Act} {w:World} {Q:Exit→Act→World→Prop} (hgd:op.guard=none) (ty:TypeId) (x y:Operand) (ho:op.op = .store ty x y)
 (b o:Nat) (cells:Array Value) (hx:a.eval x = .pointer (some ⟨b,o,none⟩)) (hy:a.eval y = .agg cells) (ht:w.there b o cells.size) (hi:(P.info? ty).map (·.size)=some cells.size) (h1:cells.all (·.oneCell')=true)
 (h:wpListIn Fence.wide n P ops Q rest (a.put op.dst undef) (w.setCells b o cells.toList)):wpListIn Fence.wide n P ops Q (op :: rest) a w :=
 wpListIn_plain hgd fun _ hK=>⟨fun _ _=>trivial,by
  have hsem:(op.semAt Fence.wide.round a.eval)=execOp a.eval op:=rfl
  rw [hsem]
  unfold execOp
  simp only [ho,hx,hy,Instr.storeAt,Instr.sureAddr,Sem.run_bind,Sem.run_pure,Result.andThen_ok,run_storeVar_mid w b o ty cells ht hi h1]
  exact hK _ _ h⟩
theorem But.below {bad:Nat→Prop} {W W':World} (h:But bad W W') {B:Nat} (hB:B≤W.heap.size) (hb:∀ k,bad k→B≤k):Below B W W':=⟨h.os,h.tape,h.output,h.size,fun k hk=>h.block k (by omega) (fun hk'=>by have:=hb k hk';omega)⟩
theorem but_put (W:World) (l:Nat) (o:Obj):But (fun k=>k=l) W (W.putObj l o):=⟨rfl,rfl,rfl,by simp [World.putObj],fun k _ hb=>World.putObj_heap_other (fun e=>hb e)⟩
theorem But.mono {b c:Nat→Prop} {W W':World} (h:But b W W') (hb:∀ k,b k→c k):But c W W':=⟨h.os,h.tape,h.output,h.size,fun k hk hc=>h.block k hk (fun e=>hc (hb k e))⟩
theorem wpIn_range_with {F:Fence} {P:Program} {n:Nat} {g:Operand} {ps:Array Tmp} {assign body:Code} {Q:Exit→Act→World→Prop} {a:Act} {w:World} {gf:Nat} {lb:Array Value} (hro:F.round=none) (hF:∀ f,F.fn f) (hd:F.depth.isSome=true→1≤n) (hg:a.eval g = .func (.func gf) #[] lb) (eg:∀ args w,(callFunc gf args).run P w = .ok (.enter gf args) w)
 (h:∀ r0:Loop,r0.state = .ready→r0.pending=none→r0.tmps=a.tmps→r0.params=ps→r0.assign=assign→r0.body=body →
   CallsIn F (n - 1) P gf (#[.func (.yield (w.heap.size+1)) #[] #[]] ++ lb) ((w.alloc (.deferred (some []))).alloc (.loop r0)) (rangePost F n P (w.heap.size+1) Q { a with defers:=[{ target := .collected w.heap.size,args:=#[] }] ++ a.defers })) :
 (Code.rangeFunc g ps assign body).wpIn F n P Q a w:=by
 refine wpIn_rangeFunc ?_
 intro fn _
 rw [hro]
 obtain ⟨r0,hr0⟩:∃ r0:Loop,r0={ state := .ready,pending:=none,fn,tmps:=a.tmps,params:=ps,assign,body,defers:=w.heap.size }:=⟨_,rfl⟩
 obtain ⟨W1,hW1⟩:∃ W1,(w.alloc (.deferred (some []))).alloc (.loop r0)=W1:=⟨_,rfl⟩
 have hh:=h r0 (by rw [hr0]) (by rw [hr0]) (by rw [hr0]) (by rw [hr0]) (by rw [hr0]) (by rw [hr0])
 rw [hW1] at hh
 clear h
 refine ⟨w.heap.size+1,[{ target := .collected w.heap.size,args:=#[] }],W1,{ target := .fn (.func gf) lb,args:=#[.func (.yield (w.heap.size+1)) #[] #[]] },W1,gf,
  #[.func (.yield (w.heap.size+1)) #[] #[]] ++ lb,W1,?_,?_,?_,?_,hd,?_⟩
 · rw [←hW1,hr0];exact run_enterLoop_outer _ _ _ _ _
 · simp only [resolve,hg]
   simp [go_sem]
 · intro f' _;exact hF f'
 · simp [invoke,go_sem,eg]
 · exact hh
theorem loop_back (r0:Loop) (h1:r0.state = .ready) (h2:r0.pending=none):({ { r0 with state := .busy } with state := .ready,pending:=none }:Loop)=r0:=by
 cases r0
 cases h1
 cases h2
 rfl
theorem yield_round {P:Program} {n l:Nat} {r0:Loop} {args:Array Value} {W:World} {R:Ending→World→Prop} (hl:W.heap[l]? = some (.loop r0)) (hs:args.size=r0.params.size)
 (h:r0.assign.wpIn (Fence.wide.inRound l) n P (Exit.then (fun a₁ w₁=>∃ w₂,(Instr.beginRound l).run P w₁ = .ok () w₂∧r0.body.wpIn (Fence.wide.inRound l) n P (roundPost P l R) a₁ w₂) (fun _ _ _=>False)) { tmps:=(r0.params.zip args).foldl (fun tmps (t,a)=>tmps.setIfInBounds t a) r0.tmps,defers:=[] } W):YieldAt Fence.wide n P l args W R :=
 ⟨r0.fn,_,r0.assign,r0.body,run_yield hl hs,roundIn_of_wpIn trivial h⟩
theorem RW.but {bad:Nat→Prop} {w w':World} {g o:Nat} {cs:List Value} (h:RW w g o cs) (hb:But bad w w') (hne:¬bad g):RW w' g o cs :=
 ⟨fun j v hv=>(World.cell?_of_block (w:=w) (hb.block g h.lt hne)).trans (h.range j v hv),fun j hj=>by
   rw [World.cell?_of_block (w:=w) (hb.block g h.lt hne),World.frozen?_of_block (w:=w) (hb.block g h.lt hne)];exact h.there j hj,Nat.lt_of_lt_of_le h.lt hb.size⟩
theorem Out.but {b o n:Nat} {w w':World} (h:Out b o n w w'):But (fun k=>k=b) w w':=⟨h.os,h.tape,h.output,h.size,fun k hk hne=>h.block k hk hne⟩
theorem BytesIn.but {bad:Nat→Prop} {w w':World} {bb ob n:Nat} {ks:Nat→Nat} (h:∀ j,j<n→w.cell? ⟨bb,ob+j,none⟩=some (.int .u8 (ks j))) (hb:But bad w w') (hne:¬bad bb):∀ j,j<n→w'.cell? ⟨bb,ob+j,none⟩=some (.int .u8 (ks j)):=fun j hj=>hb.cell (h j hj) hne
end Go.Proofs.YtddkbmnkbfciaaaGreatDoor
namespace Go.Proofs.YtddkbmnkbfciaaaGreatDoor
open Go.RowKit Go.MapKept
def MpAt (w:World) (b:Nat) (f:Int→Option Value):Prop :=
 ∃ es clock,w.heap[b]? = some (.map es clock)∧Stamped es clock∧(∀ x∈es.toList,IsKey (.int .i64) x.key)∧∀ k v,f k=some v↔∃ e∈es.toList,e.key = .int .i64 k∧e.val=v
def upm (f:Int→Option Value) (k:Int) (v:Option Value):Int→Option Value:=fun j=>if j=k then v else f j
theorem MpAt.lt {w:World} {b:Nat} {f:Int→Option Value} (h:MpAt w b f):b<w.heap.size:=by
 obtain ⟨es,clock,h,-⟩:=h
 exact (Array.getElem?_eq_some_iff.1 h).1
theorem MpAt.same {w w':World} {b:Nat} {f:Int→Option Value} (h:MpAt w b f) (e:w'.heap[b]? = w.heap[b]?):MpAt w' b f:=by
 unfold MpAt;rw [e];exact h
theorem MpAt.below {w w':World} {b n:Nat} {f:Int→Option Value} (h:MpAt w b f) (hb:Below n w w') (hn:b<n):MpAt w' b f:=h.same (hb.block b hn)
theorem MpAt.congr {w:World} {b:Nat} {f g:Int→Option Value} (h:MpAt w b f) (e:∀ k,f k=g k):MpAt w b g:=by
 have:f=g:=funext e
 rw [←this];exact h
theorem MpAt.nocell {w:World} {b:Nat} {f:Int→Option Value} (h:MpAt w b f) (o:Nat):w.cell? ⟨b,o,none⟩=none:=by
 obtain ⟨es,clock,h,-⟩:=h
 simp [World.cell?,h]
theorem mp_empty (w:World):MpAt (w.alloc (.map #[] 0)) w.heap.size (fun _=>none) :=
 ⟨#[],0,World.alloc_heap_new w _,stamped_empty 0,by simp,by simp⟩
theorem mp_look {w:World} {b:Nat} {f:Int→Option Value} (h:MpAt w b f) {P:Program} {mt et:TypeId} {kt:TypeId} (hm:P.underlying mt=some (.map kt et)) (hk:P.underlying kt=some (.int .i64)) {z:Value} (hz:∀ w:World,(zeroValue et).run P w = .ok z w) (k:Int) (c:Bool) :
 (Instr.lookup mt (.map (some b)) (.int .i64 k) c).run P w = .ok (if c then .tuple #[(f k).getD z,.bool (f k).isSome] else (f k).getD z) w:=by
 obtain ⟨es,clock,hb,hs,hks,hf⟩:=h
 have hkk:IsKey (.int .i64) (.int .i64 k):=rfl
 rcases findNow_spec hkk es.toList 0 hks with ⟨h1,h2⟩ | ⟨j,e,h1,h2,h3⟩
 · have hn:f k=none:=by
    cases hfk:f k with
    | none=>rfl
    | some v=>obtain ⟨e,he,h3,-⟩:=(hf k v).1 hfk;exact absurd h3 (h2 e he)
   simp [Instr.lookup,run_underlying hm,MapKept.run_getObj_map hb,run_checkKey hk hkk,run_findKey hk h1,Result.andThen,hz,hn]
 · have hj:e∈es.toList:=List.mem_of_getElem? h2
   have hn:f k=some e.val:=(hf k e.val).2 ⟨e,hj,h3,rfl⟩
   simp [Instr.lookup,run_underlying hm,MapKept.run_getObj_map hb,run_checkKey hk hkk,run_findKey hk h1,Result.andThen,hn]
theorem nodup_at {α:Type} {l:List α} (h:l.Nodup) {i j:Nat} {a:α} (hi:l[i]? = some a) (hj:l[j]? = some a):i=j:=by
 obtain ⟨li,ei⟩:=List.getElem?_eq_some_iff.1 hi
 obtain ⟨lj,ej⟩:=List.getElem?_eq_some_iff.1 hj
 have h':=List.pairwise_iff_getElem.1 h
 rcases Nat.lt_trichotomy i j with hl | hl | hl
 · exact absurd (ei.trans ej.symm) (h' i j li lj hl)
 · exact hl
 · exact absurd (ej.trans ei.symm) (h' j i lj li hl)
theorem but_set {w:World} {b:Nat} (o:Obj):But (fun k=>k=b) w { w with heap:=w.heap.setIfInBounds b o }:=⟨rfl,rfl,rfl,by simp,fun k _ hb=>by simp [Ne.symm hb]⟩
theorem mp_put {w:World} {b:Nat} {f:Int→Option Value} (h:MpAt w b f) {P:Program} {mt et:TypeId} {kt:TypeId} (hm:P.underlying mt=some (.map kt et)) (hk:P.underlying kt=some (.int .i64)) (k:Int) (v:Value) :
 ∃ w',(Instr.mapUpdate mt (.map (some b)) (.int .i64 k) v).run P w = .ok () w'∧MpAt w' b (upm f k (some v))∧But (fun j=>j=b) w w'∧w'.heap.size=w.heap.size:=by
 obtain ⟨es,clock,hb,hs,hks,hf⟩:=h
 have hkk:IsKey (.int .i64) (.int .i64 k):=rfl
 rcases findNow_spec hkk es.toList 0 hks with ⟨h1,h2⟩ | ⟨j,e,h1,h2,h3⟩
 · refine ⟨_,by simp [Instr.mapUpdate,run_underlying hm,MapKept.run_getObj_map hb,run_checkKey hk hkk,run_findKey hk h1,run_setObj_map _ hb,Result.andThen];rfl,⟨_,_,(heap_set hb).1,stamped_push hs h2,?_,?_⟩,but_set _,by simp⟩
   · intro x hx
     simp only [Array.toList_push,List.mem_append,List.mem_singleton] at hx
     rcases hx with hx | rfl
     · exact hks x hx
     · exact hkk
   · intro q u
     simp only [Array.toList_push,List.mem_append,List.mem_singleton,upm]
     by_cases e:q=k
     · subst e
       simp only [if_true]
       constructor
       · rintro ⟨rfl⟩;exact ⟨_,.inr rfl,rfl,rfl⟩
       · rintro ⟨e',he' | rfl,h4,h5⟩
         · exact absurd h4 (h2 e' he')
         · rw [←h5]
     · rw [if_neg e,hf q u]
       constructor
       · rintro ⟨e',he',h4⟩;exact ⟨e',.inl he',h4⟩
       · rintro ⟨e',he' | rfl,h4,h5⟩
         · exact ⟨e',he',h4,h5⟩
         · simp at h4;exact absurd h4.symm e
 · have hj:es[j]? = some e:=by simpa using h2
   have hkey:∀ e',es[j]? = some e'→({ e' with key := .int .i64 k,val:=v }:MapEntry).key=e'.key:=fun e' he'=>by rw [hj] at he';cases he';exact h3.symm
   refine ⟨{ w with heap:=w.heap.setIfInBounds b (.map (es.modify j fun e=>{ e with key := .int .i64 k,val:=v }) clock) },by simp [Instr.mapUpdate,run_underlying hm,MapKept.run_getObj_map hb,run_checkKey hk hkk,run_findKey hk h1,hj,h3,run_keyThatStays hkk,run_setObj_map _ hb,Result.andThen],⟨_,_,(heap_set hb).1,stamped_modify hs _ _ (fun _ _=>rfl) (fun e' _ he'=>hkey e' he'),isKey_modify hks _ _ hkey,?_⟩,but_set _,by simp⟩
   intro q u
   have hmem:∀ x:MapEntry,x∈(es.modify j fun e=>{ e with key := .int .i64 k,val:=v }).toList↔x={ e with key := .int .i64 k,val:=v }∨(x∈es.toList∧x.key ≠ .int .i64 k):=by
    intro x
    constructor
    · intro hx
      obtain ⟨i,hi⟩:=List.getElem?_of_mem hx
      rw [Array.getElem?_toList,Array.getElem?_modify] at hi
      by_cases hij:j=i
      · subst hij;rw [if_pos rfl,hj] at hi;simp at hi;exact .inl hi.symm
      · rw [if_neg hij] at hi
        have hi':es.toList[i]? = some x:=by rw [Array.getElem?_toList];exact hi
        refine .inr ⟨List.mem_of_getElem? hi',fun hxk=>hij ?_⟩
        have hn:=hs.2.2
        have e1:(es.toList.map (·.key))[i]? = some (.int .i64 k):=by rw [List.getElem?_map,hi'];simp [hxk]
        have e2:(es.toList.map (·.key))[j]? = some (.int .i64 k):=by rw [List.getElem?_map,h2];simp [h3]
        exact nodup_at hn e2 e1
    · rintro (rfl | ⟨hx,hxk⟩)
      · refine List.mem_of_getElem? (i:=j) ?_
        rw [Array.getElem?_toList,Array.getElem?_modify,if_pos rfl,hj];rfl
      · obtain ⟨i,hi⟩:=List.getElem?_of_mem hx
        have hij:j≠i:=fun e'=>by subst e';rw [h2] at hi;cases hi;exact hxk h3
        refine List.mem_of_getElem? (i:=i) ?_
        rw [Array.getElem?_toList,Array.getElem?_modify,if_neg hij];simpa using hi
   unfold upm
   by_cases eq:q=k
   · subst eq
     simp only [if_true]
     constructor
     · rintro ⟨rfl⟩;exact ⟨_,(hmem _).2 (.inl rfl),rfl,rfl⟩
     · rintro ⟨e',he',h4,h5⟩
       rcases (hmem e').1 he' with rfl | ⟨-,hne⟩
       · rw [←h5]
       · exact absurd h4 hne
   · rw [if_neg eq,hf q u]
     constructor
     · rintro ⟨e',he',h4,h5⟩
       exact ⟨e',(hmem e').2 (.inr ⟨he',fun h6=>by rw [h4] at h6;simp at h6;exact eq h6⟩),h4,h5⟩
     · rintro ⟨e',he',h4,h5⟩
       rcases (hmem e').1 he' with rfl | ⟨hm',-⟩
       · simp at h4;exact absurd h4.symm eq
       · exact ⟨e',hm',h4,h5⟩
theorem mem_eraseIdx {es:Array MapEntry} {clock:Nat} (hs:Stamped es clock) {j:Nat} {e:MapEntry} (hj:es.toList[j]? = some e) (x:MapEntry):x∈(es.eraseIdxIfInBounds j).toList↔x∈es.toList∧x.key≠e.key:=by
 have hjl:j<es.size:=by have:=(List.getElem?_eq_some_iff.1 hj).1;simpa using this
 have e1:(es.eraseIdxIfInBounds j).toList=es.toList.eraseIdx j:=by
  unfold Array.eraseIdxIfInBounds
  rw [dif_pos hjl,Array.toList_eraseIdx]
 rw [e1,List.mem_eraseIdx_iff_getElem?]
 constructor
 · rintro ⟨i,hij,hi⟩
   refine ⟨List.mem_of_getElem? hi,fun hk=>hij ?_⟩
   have hn:=hs.2.2
   have e1:(es.toList.map (·.key))[i]? = some e.key:=by rw [List.getElem?_map,hi];simp [hk]
   have e2:(es.toList.map (·.key))[j]? = some e.key:=by rw [List.getElem?_map,hj];rfl
   exact nodup_at hn e1 e2
 · rintro ⟨hx,hk⟩
   obtain ⟨i,hi⟩:=List.getElem?_of_mem hx
   exact ⟨i,fun e'=>by subst e';rw [hj] at hi;cases hi;exact hk rfl,hi⟩
theorem mp_del {w:World} {b:Nat} {f:Int→Option Value} (h:MpAt w b f) {P:Program} {mt et ty:TypeId} {kt:TypeId} (hm:P.underlying mt=some (.map kt et)) (hk:P.underlying kt=some (.int .i64)) (k:Int) :
 ∃ w',(Builtin.delete_ #[mt,kt] ty #[.map (some b),.int .i64 k]).run P w = .ok (.tuple #[]) w'∧MpAt w' b (upm f k none)∧But (fun j=>j=b) w w'∧w'.heap.size=w.heap.size:=by
 obtain ⟨es,clock,hb,hs,hks,hf⟩:=h
 have hkk:IsKey (.int .i64) (.int .i64 k):=rfl
 rcases findNow_spec hkk es.toList 0 hks with ⟨h1,h2⟩ | ⟨j,e,h1,h2,h3⟩
 · refine ⟨_,by simp [Builtin.delete_,run_underlying hm,MapKept.run_getObj_map hb,run_checkKey hk hkk,run_findKey hk h1,run_setObj_map _ hb,Result.andThen],⟨_,_,(heap_set hb).1,hs,hks,?_⟩,but_set _,by simp⟩
   intro q u
   unfold upm
   by_cases e:q=k
   · subst e
     simp only [if_true]
     constructor
     · intro h;cases h
     · rintro ⟨e',he',h4,-⟩;exact absurd h4 (h2 e' he')
   · rw [if_neg e];exact hf q u
 · refine ⟨_,by simp [Builtin.delete_,run_underlying hm,MapKept.run_getObj_map hb,run_checkKey hk hkk,run_findKey hk h1,run_setObj_map _ hb,Result.andThen],⟨_,_,(heap_set hb).1,stamped_erase hs j,?_,?_⟩,but_set _,by simp⟩
   · intro x hx
     exact hks x ((mem_eraseIdx hs h2 x).1 hx).1
   · intro q u
     unfold upm
     by_cases e':q=k
     · subst e'
       simp only [if_true]
       constructor
       · intro h;cases h
       · rintro ⟨x,hx,h4,-⟩;exact absurd (h4.trans h3.symm) ((mem_eraseIdx hs h2 x).1 hx).2
     · rw [if_neg e',hf q u]
       constructor
       · rintro ⟨x,hx,h4,h5⟩;exact ⟨x,(mem_eraseIdx hs h2 x).2 ⟨hx,fun h6=>by rw [h4,h3] at h6;simp at h6;exact e' h6⟩,h4,h5⟩
       · rintro ⟨x,hx,h4⟩;exact ⟨x,((mem_eraseIdx hs h2 x).1 hx).1,h4⟩
end Go.Proofs.YtddkbmnkbfciaaaGreatDoor
namespace Go.Proofs.YtddkbmnkbfciaaaGreatDoor
open Go.RowKit Go.Shelf
structure Loc (B:Nat) (M:Nat→Prop) (W W':World):Prop where
 os:W'.os=W.os
 tape:W'.tape=W.tape
 output:W'.output=W.output
 size:W.heap.size≤W'.heap.size
 block:∀ k,k<W.heap.size→(k<B∨M k)→W'.heap[k]? = W.heap[k]?
structure Fro (B:Nat) (M:Nat→Prop) (W W':World):Prop where
 size:W.heap.size≤W'.heap.size
 block:∀ k,k<W.heap.size→B≤k→¬M k→W'.heap[k]? = W.heap[k]?
theorem Loc.mono {B C:Nat} {M:Nat→Prop} {W W':World} (h:Loc C M W W') (hb:B≤C):Loc B M W W':=⟨h.os,h.tape,h.output,h.size,fun k hk hm=>h.block k hk (hm.imp (fun h=>by omega) id)⟩
theorem Loc.of_below {B:Nat} {M:Nat→Prop} {W W':World} (h:Below W.heap.size W W'):Loc B M W W':=⟨h.os,h.tape,h.output,h.size,fun k hk _=>h.block k hk⟩
theorem Loc.below {B:Nat} {M:Nat→Prop} {W W':World} (h:Loc B M W W') (hB:B≤W.heap.size):Below B W W':=⟨h.os,h.tape,h.output,h.size,fun k hk=>h.block k (by omega) (.inl hk)⟩
theorem Loc.put {B l:Nat} {M:Nat→Prop} {W:World} (o:Obj) (hl:B≤l) (hm:¬M l):Loc B M W (W.putObj l o) :=
 ⟨rfl,rfl,rfl,by simp,fun k _ h=>World.putObj_heap_other (fun e=>by subst e;rcases h with h | h;omega;exact hm h)⟩
theorem Loc.trans {B:Nat} {M:Nat→Prop} {U V W:World} (h:Loc B M U V) (k:Loc B M V W):Loc B M U W:=⟨k.os.trans h.os,k.tape.trans h.tape,k.output.trans h.output,Nat.le_trans h.size k.size,fun i hi hb=>(k.block i (Nat.lt_of_lt_of_le hi h.size) hb).trans (h.block i hi hb)⟩
theorem Loc.cell {B:Nat} {M:Nat→Prop} {W W':World} (h:Loc B M W W') {b o:Nat} {v:Value} (hc:W.cell? ⟨b,o,none⟩=some v) (hb:b<B∨M b):W'.cell? ⟨b,o,none⟩=some v :=
 (World.cell?_of_block (w:=W) (h.block b (block_lt_of_cell hc) hb)).trans hc
theorem Loc.rw {B:Nat} {M:Nat→Prop} {W W':World} (h:Loc B M W W') {g o:Nat} {cs:List Value} (hr:RW W g o cs) (hb:g<B∨M g):RW W' g o cs :=
 ⟨fun j v hv=>(World.cell?_of_block (w:=W) (h.block g hr.lt hb)).trans (hr.range j v hv),fun j hj=>by
   rw [World.cell?_of_block (w:=W) (h.block g hr.lt hb),World.frozen?_of_block (w:=W) (h.block g hr.lt hb)];exact hr.there j hj,Nat.lt_of_lt_of_le hr.lt h.size⟩
theorem Fro.mono {B C:Nat} {M:Nat→Prop} {W W':World} (h:Fro B M W W') (hb:B≤C):Fro C M W W':=⟨h.size,fun k hk hB hm=>h.block k hk (by omega) hm⟩
theorem Fro.of_below {B:Nat} {M:Nat→Prop} {W W':World} (h:Below W.heap.size W W'):Fro B M W W':=⟨h.size,fun k hk _ _=>h.block k hk⟩
theorem Fro.refl (B:Nat) (M:Nat→Prop) (W:World):Fro B M W W:=⟨Nat.le_refl _,fun _ _ _ _=>rfl⟩
theorem Fro.trans {B:Nat} {M:Nat→Prop} {U V W:World} (h:Fro B M U V) (k:Fro B M V W):Fro B M U W:=⟨Nat.le_trans h.size k.size,fun i hi hB hm=>(k.block i (Nat.lt_of_lt_of_le hi h.size) hB hm).trans (h.block i hi hB hm)⟩
theorem Fro.rw {B:Nat} {M:Nat→Prop} {W W':World} (h:Fro B M W W') {g o:Nat} {cs:List Value} (hr:RW W g o cs) (hb:B≤g) (hm:¬M g):RW W' g o cs :=
 ⟨fun j v hv=>(World.cell?_of_block (w:=W) (h.block g hr.lt hb hm)).trans (hr.range j v hv),fun j hj=>by
   rw [World.cell?_of_block (w:=W) (h.block g hr.lt hb hm),World.frozen?_of_block (w:=W) (h.block g hr.lt hb hm)];exact hr.there j hj,Nat.lt_of_lt_of_le hr.lt h.size⟩
theorem Fro.of_but {B:Nat} {M bad:Nat→Prop} {W W':World} (h:But bad W W') (hb:∀ k,bad k→k<B∨M k):Fro B M W W' :=
 ⟨h.size,fun k hk hB hm=>h.block k hk (fun e=>by rcases hb k e with h | h;omega;exact hm h)⟩
theorem roundIn_deep {n m:Nat} {P:Program} {l:Nat} {f:FuncId} {tmps:Array Value} {assign body:Code} {w:World} {R:Ending→World→Prop} (h:RoundIn Fence.wide n P l f tmps assign body w R):RoundIn Fence.wide m P l f tmps assign body w R :=
 ⟨trivial,fun c cs _=>h.2 c cs (room_wide _)⟩
theorem YieldAt.mono {n:Nat} {P:Program} {l:Nat} {args:Array Value} {W:World} {R S:Ending→World→Prop} (h:YieldAt Fence.wide n P l args W R) (hr:∀ e w',R e w'→S e w'):YieldAt Fence.wide n P l args W S:=by
 obtain ⟨fn,tmps,assign,body,h1,h2⟩:=h
 exact ⟨fn,tmps,assign,body,h1,h2.mono hr⟩
theorem wpListIn_load_rd {P:Program} {n l:Nat} {ops:Array Oper} {rest:List Oper} {op:Oper} {a:Act} {w:World} {Q:Exit→Act→World→Prop} (hw:Region.wanted op (yielded ops a.tmps)=true) (ty:TypeId) (x:Operand) (ho:op.op = .load ty x)
 (b o:Nat) (hx:a.eval x = .pointer (some ⟨b,o,none⟩)) (cs:List Value) (d:TypeDesc) (hc:w.rangeAt b o cs)
 (hu:P.underlying ty=some d) (hd:d.isRow=true) (hi:(P.info? ty).map (·.size)=some cs.length)
 (h:wpListIn (Fence.wide.inRound l) n P ops Q rest (a.put op.dst (.agg cs.toArray)) w):wpListIn (Fence.wide.inRound l) n P ops Q (op :: rest) a w :=
 wpListIn_step fun K hK=>by
  simp only [hw,if_true]
  refine ⟨fun _ _=>trivial,?_⟩
  have hsem:(op.semAt (Fence.wide.inRound l).round a.eval)=execOp a.eval op:=Oper.semAt_some l _ _ (fun c e=>by rw [ho] at e;cases e)
  rw [hsem]
  unfold execOp
  simp only [ho,hx,Instr.loadAt,Instr.sureAddr,Sem.run_bind,Sem.run_pure,Result.andThen_ok,run_loadVar_mid w b o ty cs d hc hu hd hi]
  exact hK _ _ h
theorem wpListIn_store_rd {P:Program} {n l:Nat} {ops:Array Oper} {rest:List Oper} {op:Oper} {a:Act} {w:World} {Q:Exit→Act→World→Prop} (hw:Region.wanted op (yielded ops a.tmps)=true) (ty:TypeId) (x y:Operand) (ho:op.op = .store ty x y)
 (b o:Nat) (cells:Array Value) (hx:a.eval x = .pointer (some ⟨b,o,none⟩)) (hy:a.eval y = .agg cells) (ht:w.there b o cells.size) (hi:(P.info? ty).map (·.size)=some cells.size) (h1:cells.all (·.oneCell')=true)
 (h:wpListIn (Fence.wide.inRound l) n P ops Q rest (a.put op.dst undef) (w.setCells b o cells.toList)):wpListIn (Fence.wide.inRound l) n P ops Q (op :: rest) a w :=
 wpListIn_step fun K hK=>by
  simp only [hw,if_true]
  refine ⟨fun _ _=>trivial,?_⟩
  have hsem:(op.semAt (Fence.wide.inRound l).round a.eval)=execOp a.eval op:=Oper.semAt_some l _ _ (fun c e=>by rw [ho] at e;cases e)
  rw [hsem]
  unfold execOp
  simp only [ho,hx,hy,Instr.storeAt,Instr.sureAddr,Sem.run_bind,Sem.run_pure,Result.andThen_ok,run_storeVar_mid w b o ty cells ht hi h1]
  exact hK _ _ h
def Ans (B:Nat) (M:Nat→Prop) (Nxt Brk:(Nat→Prop)→World→Prop) (W:World) (e:Ending) (W':World):Prop :=
 Fro B M W W'∧∃ M':Nat→Prop,(∀ b,M' b→M b∨W.heap.size≤b)∧(e = .returned (.bool true)∧Nxt M' W'∨e = .returned (.bool false)∧Brk M' W')
def Iter (P:Program) (gf:Nat) (lb:Array Value) (K:Nat) (ar:Nat→Option (Array Value)) (Has:Nat→World→Prop):Prop :=
 ∀ (l B:Nat) (Inv:Nat→(Nat→Prop)→World→Prop) (Brk:(Nat→Prop)→World→Prop),
  (∀ k M W W',Inv k M W→Loc B M W W'→Inv k M W')→(∀ M W W',Brk M W→Loc B M W W'→Brk M W') →
  (∀ k M W,k≤K→Inv k M W→Has k W)→(∀ k M W,k<K→ar k=none→Inv k M W→Inv (k+1) M W) →
  (∀ k M W a,k<K→ar k=some a→Inv k M W→B≤W.heap.size→YieldAt Fence.wide 0 P l a W (Ans B M (Inv (k+1)) Brk W)) →
  ∀ M W,B≤W.heap.size→(∀ b,M b→b<W.heap.size)→Inv 0 M W →
   Calls P gf (#[.func (.yield l) #[] #[]] ++ lb) W fun e W'=>(∃ v,e = .returned v)∧W.heap.size≤W'.heap.size∧∃ M',Inv K M' W'∨Brk M' W'
def RoundQ (B S:Nat) (M:Nat→Prop) (J:(Nat→Prop)→World→Prop) (Jx:Code→(Nat→Prop)→World→Prop) (W:World) (ex:Exit) (_:Act) (W':World):Prop :=
 Fro B M W W'∧∃ M':Nat→Prop,(∀ b,M' b→M b∨S≤b)∧match ex with
  | .normal=>J M' W'
  | .ret=>Jx .ret M' W'
  | .exit i=>Jx (.exit i) M' W'
  | .goto t=>Jx (.goto t) M' W'
  | _=>False
theorem range_it {P:Program} {gf:Nat} {lb:Array Value} {K:Nat} {ar:Nat→Option (Array Value)} {Has:Nat→World→Prop} (hit:Iter P gf lb K ar Has)
 {g:Operand} {ps:Array Tmp} {assign body:Code} {Q:Exit→Act→World→Prop} {a:Act} {w:World} {n:Nat} (hg:a.eval g = .func (.func gf) #[] lb) (eg:∀ args w,(callFunc gf args).run P w = .ok (.enter gf args) w)
 (J:Nat→(Nat→Prop)→World→Prop) (Jx:Code→(Nat→Prop)→World→Prop) (M0:Nat→Prop)
 (hJ:∀ k M W W',J k M W→Loc w.heap.size M W W'→J k M W') (hJx:∀ c M W W',Jx c M W→Loc w.heap.size M W W'→Jx c M W')
 (hHas:∀ k M W,k≤K→J k M W→Has k W) (hskip:∀ k M W,k<K→ar k=none→J k M W→J (k+1) M W) (hps:∀ k a',ar k=some a'→a'.size=ps.size)
 (hM0:∀ b,M0 b→b<w.heap.size) (h0:∀ W,Below w.heap.size w W→J 0 M0 W)
 (hround:∀ k M W l a',k<K→ar k=some a'→J k M W→w.heap.size<l→l<W.heap.size→¬M l →
   assign.wpIn (Fence.wide.inRound l) 0 P (Exit.then (fun a₁ W₁=>Below W.heap.size W W₁∧∀ W₂,But (fun k=>k=l) W₁ W₂→W₂.heap.size=W₁.heap.size→J k M W₂ →
    body.wpIn (Fence.wide.inRound l) 0 P (RoundQ w.heap.size W.heap.size M (J (k+1)) Jx W₂) a₁ W₂) (fun _ _ _=>False)) { tmps:=(ps.zip a').foldl (fun tmps (t,a)=>tmps.setIfInBounds t a) a.tmps,defers:=[] } W)
 (hdone:∀ D M W,w.heap.size≤D→D<W.heap.size→¬M D→J K M W→W.heap[D]? = some (.deferred (some []))→Q .normal { a with defers:={ target := .collected D,args:=#[] } :: a.defers } W)
 (hstop:∀ D c M W,w.heap.size≤D→D<W.heap.size→¬M D→Jx c M W→W.heap[D]? = some (.deferred (some []))→c.wpIn Fence.wide n P Q { a with defers:={ target := .collected D,args:=#[] } :: a.defers } W) :
 (Code.rangeFunc g ps assign body).wpIn Fence.wide n P Q a w:=by
 refine wpIn_range_with rfl (fun _=>trivial) (fun h=>by cases h) hg eg (fun r0 e1 e2 e4 e5 e6 e7=>callsIn_wide.2 ?_)
 obtain ⟨W1,hW1⟩:∃ W1,W1=(w.alloc (.deferred (some []))).alloc (.loop r0):=⟨_,rfl⟩
 obtain ⟨l,hl⟩:∃ l,l=w.heap.size+1:=⟨_,rfl⟩
 have hbl1:Below w.heap.size w W1:=by rw [hW1];exact ((Below.refl _ _).alloc (Nat.le_refl _) _).alloc (by simp) _
 have hl1:W1.heap[l]? = some (.loop r0):=by
  rw [hW1,hl];have:=World.alloc_heap_new (w.alloc (.deferred (some []))) (.loop r0);rwa [World.size_alloc] at this
 have hD1:W1.heap[w.heap.size]? = some (.deferred (some [])):=by
  rw [hW1];exact (Below.heap_alloc _ _ _ (by simp)).trans (World.alloc_heap_new w _)
 have hs1:W1.heap.size=w.heap.size+2:=by rw [hW1];simp
 rw [←hW1,←hl]
 clear hW1
 have hm0:∀ b,w.heap.size≤b→¬M0 b:=fun b hb hm=>by have:=hM0 b hm;omega
 obtain ⟨rd,hrd⟩:∃ rd:Code→Loop,∀ c,rd c={ r0 with state := .done,pending:=some c }:=⟨_,fun _=>rfl⟩
 refine (hit l (w.heap.size+2)
  (fun k M W=>J k M W∧W.heap[l]? = some (.loop r0)∧W.heap[w.heap.size]? = some (.deferred (some []))∧¬M l∧¬M w.heap.size)
  (fun M W=>∃ c,Jx c M W∧W.heap[l]? = some (.loop (rd c))∧W.heap[w.heap.size]? = some (.deferred (some []))∧¬M l∧¬M w.heap.size)
  ?_ ?_ ?_ ?_ ?_ M0 W1 (by omega) (fun b hb=>by have:=hM0 b hb;omega) ⟨h0 W1 hbl1,hl1,hD1,hm0 l (by omega),hm0 _ (Nat.le_refl _)⟩).mono ?_
 · rintro k M W W' ⟨h1,h2,h3,h4⟩ hL
   have l2:=(Array.getElem?_eq_some_iff.1 h2).1
   have l3:=(Array.getElem?_eq_some_iff.1 h3).1
   exact ⟨hJ k M W W' h1 (hL.mono (by omega)),(hL.block l l2 (.inl (by omega))).trans h2,(hL.block _ l3 (.inl (by omega))).trans h3,h4⟩
 · rintro M W W' ⟨c,h1,h2,h3,h4⟩ hL
   have l2:=(Array.getElem?_eq_some_iff.1 h2).1
   have l3:=(Array.getElem?_eq_some_iff.1 h3).1
   exact ⟨c,hJx c M W W' h1 (hL.mono (by omega)),(hL.block l l2 (.inl (by omega))).trans h2,(hL.block _ l3 (.inl (by omega))).trans h3,h4⟩
 · rintro k M W hk ⟨h1,-⟩;exact hHas k M W hk h1
 · rintro k M W hk ha ⟨h1,h2⟩;exact ⟨hskip k M W hk ha h1,h2⟩
 · rintro k M W a' hk ha ⟨h1,h2,h3,h4,h5⟩ hB
   have l2:=(Array.getElem?_eq_some_iff.1 h2).1
   have l3:=(Array.getElem?_eq_some_iff.1 h3).1
   refine yield_round h2 (by rw [e5];exact hps k a' ha) ?_
   rw [e4,e5,e6,e7]
   refine wpIn_mono (hround k M W l a' hk ha h1 (by omega) l2 h4) ?_
   intro ex a1 V1 hx
   cases ex with
   | normal =>
    obtain ⟨hb1,hbody⟩:=hx
    have h2':=(hb1.block l l2).trans h2
    have h3':=(hb1.block _ l3).trans h3
    have l2':=(Array.getElem?_eq_some_iff.1 h2').1
    obtain ⟨V2,hV2⟩:∃ V2,V2=V1.putObj l (.loop { r0 with state := .busy }):=⟨_,rfl⟩
    have hbt:But (fun k=>k=l) V1 V2:=by rw [hV2];exact but_put V1 l _
    have hsz:V2.heap.size=V1.heap.size:=by rw [hV2];simp
    have hl2:V2.heap[l]? = some (.loop { r0 with state := .busy }):=by rw [hV2];exact World.putObj_heap_same l2'
    have hD2:V2.heap[w.heap.size]? = some (.deferred (some [])):=(hbt.block _ (Nat.lt_of_lt_of_le l3 hb1.size) (by omega)).trans h3'
    have hj2:J k M V2:=hJ k M V1 V2 (hJ k M W V1 h1 (Loc.of_below hb1)) (by rw [hV2];exact Loc.put _ (by omega) h4)
    refine ⟨V2,by rw [hV2];exact run_beginRound h2' e1,wpIn_mono (hbody V2 hbt hsz hj2) ?_⟩
    intro ex a3 V3 hq
    obtain ⟨hF,M',hM',hq⟩:=hq
    have hl3:V3.heap[l]? = some (.loop { r0 with state := .busy }):=(hF.block l (by omega) (by omega) h4).trans hl2
    have hD3:V3.heap[w.heap.size]? = some (.deferred (some [])):=(hF.block _ (by have:=hb1.size;omega) (Nat.le_refl _) h5).trans hD2
    have l23:=(Array.getElem?_eq_some_iff.1 hl3).1
    have nl:¬M' l:=fun h=>by rcases hM' l h with h | h;exact h4 h;omega
    have nD:¬M' w.heap.size:=fun h=>by rcases hM' _ h with h | h;exact h5 h;omega
    have hFr:∀ o,Fro (w.heap.size+2) M W (V3.putObj l o):=fun o=>⟨by have:=hb1.size;have:=hF.size;simp;omega,fun k hk hB hm =>
     (World.putObj_heap_other (by omega)).trans ((hF.block k (by have:=hb1.size;omega) (by omega) hm).trans ((hbt.block k (by have:=hb1.size;omega) (by omega)).trans (hb1.block k hk)))⟩
    have hDl:∀ o,(V3.putObj l o).heap[w.heap.size]? = some (.deferred (some [])):=fun o=>(World.putObj_heap_other (by omega)).trans hD3
    cases ex with
    | normal =>
     refine ⟨_,_,run_endRound none hl3,hFr _,M',hM',.inl ⟨rfl,hJ _ _ _ _ hq (Loc.put _ (by omega) nl),?_,hDl _,nl,nD⟩⟩
     rw [World.putObj_heap_same l23]
     simp only [Option.isNone_none,if_true]
     rw [loop_back r0 e1 e2]
    | ret=>exact ⟨_,_,run_endRound (some .ret) hl3,hFr _,M',hM',.inr ⟨rfl,.ret,hJx _ _ _ _ hq (Loc.put _ (by omega) nl),by rw [World.putObj_heap_same l23,hrd];rfl,hDl _,nl,nD⟩⟩
    | exit i=>exact ⟨_,_,run_endRound (some (.exit i)) hl3,hFr _,M',hM',.inr ⟨rfl,.exit i,hJx _ _ _ _ hq (Loc.put _ (by omega) nl),by rw [World.putObj_heap_same l23,hrd];rfl,hDl _,nl,nD⟩⟩
    | goto t=>exact ⟨_,_,run_endRound (some (.goto t)) hl3,hFr _,M',hM',.inr ⟨rfl,.goto t,hJx _ _ _ _ hq (Loc.put _ (by omega) nl),by rw [World.putObj_heap_same l23,hrd];rfl,hDl _,nl,nD⟩⟩
    | panic ch=>exact hq.elim
    | outgrown=>exact hq.elim
   | ret=>exact hx.elim
   | exit i=>exact hx.elim
   | goto t=>exact hx.elim
   | panic ch=>exact hx.elim
   | outgrown=>exact hx.elim
 · rintro e W2 ⟨⟨v,rfl⟩,-,M',⟨hj,hl2,hD,nl,nD⟩ | ⟨c,hj,hl2,hD,nl,nD⟩⟩
   · have l3:=(Array.getElem?_eq_some_iff.1 hD).1
     exact ⟨none,_,by have:=run_endLoop (P:=P) hl2 (by rw [e1];simp);rw [e2] at this;exact this,hdone _ M' _ (Nat.le_refl _) (by simpa using l3) nD (hJ _ _ _ _ hj (Loc.put _ (by omega) nl)) ((World.putObj_heap_other (by omega)).trans hD)⟩
   · have l3:=(Array.getElem?_eq_some_iff.1 hD).1
     exact ⟨some c,_,by have:=run_endLoop (P:=P) hl2 (by rw [hrd];simp);rw [show (rd c).pending=some c by rw [hrd]] at this;exact this,hstop _ c M' _ (Nat.le_refl _) (by simpa using l3) nD (hJx _ _ _ _ hj (Loc.put _ (by omega) nl)) ((World.putObj_heap_other (by omega)).trans hD)⟩
end Go.Proofs.YtddkbmnkbfciaaaGreatDoor
namespace Go.Proofs.YtddkbmnkbfciaaaGreatDoor
open Go.RowKit
def beN (n s j:Nat):Nat:=n / 2 ^ (8*(s - 1 - j))%256
theorem beN_lt (n s j:Nat):beN n s j<256:=Nat.mod_lt _ (by decide)
def lnS (n:Nat):Nat:=if n<64 then 1 else if n<16384 then 2 else 4
def lnW (n:Nat):Nat:=if n<64 then n else if n<16384 then n+16384 else n+2147483648
def lnB (n:Nat):Nat→Nat:=beN (lnW n) (lnS n)
def vcB (n:Nat) (b:Nat→Nat):Nat→Nat:=cat (lnS n) (lnB n) b
def vcL (n:Nat):Nat:=lnS n+n
theorem lnS_pos (n:Nat):0<lnS n∧lnS n≤4:=by unfold lnS;split <;> (try split) <;> omega
def szB (s:Int):Bool:=s == 1 || s == 2 || s == 4 || s == 8
def mstN (s:Nat):Nat:=if s=8 then 4611686018427387904 else 2 ^ (8*s)
def nbN (B:Nat→Nat) (at_:Nat):Nat→Nat
 | 0=>0
 | s+1=>nbN B at_ s*256+B (at_+s)
structure Rd where
 at_:Nat
 e:Int
def numD (L:Nat) (B:Nat→Nat) (size:Int) (r:Rd):Nat × Rd :=
 if r.e≠0 then (0,r) else if szB size=false then (0,⟨r.at_,1⟩) else if (L:Int) - r.at_<size then (0,⟨r.at_,20⟩) else if size=8∧64≤B r.at_ then (0,⟨r.at_,11⟩) else (nbN B r.at_ size.toNat,⟨r.at_+size.toNat,0⟩)
def lenD (L:Nat) (B:Nat→Nat) (r:Rd):Nat × Rd :=
 if r.e≠0 then (0,r) else if L=r.at_ then (0,⟨r.at_,20⟩) else if B r.at_ / 64=3 then (0,⟨r.at_,21⟩) else if L - r.at_<2 ^ (B r.at_ / 64) then (0,⟨r.at_,20⟩)
 else if (2 ^ (B r.at_ / 64)=2∧nbN B r.at_ (2 ^ (B r.at_ / 64))%2 ^ (8*2 ^ (B r.at_ / 64) - 2)<64)∨(2 ^ (B r.at_ / 64)=4∧nbN B r.at_ (2 ^ (B r.at_ / 64))%2 ^ (8*2 ^ (B r.at_ / 64) - 2)<16384) then (0,⟨r.at_,21⟩)
 else (nbN B r.at_ (2 ^ (B r.at_ / 64))%2 ^ (8*2 ^ (B r.at_ / 64) - 2),⟨r.at_+2 ^ (B r.at_ / 64),0⟩)
def takD (L:Nat) (n:Int) (r:Rd):Nat × Rd :=
 if r.e≠0 then (0,r) else if n<0 then (0,⟨r.at_,1⟩) else if (L:Int) - r.at_<n then (0,⟨r.at_,20⟩) else (n.toNat,⟨r.at_+n.toNat,0⟩)
def vecD (L:Nat) (B:Nat→Nat) (r:Rd):Nat × Rd :=
 let p:=lenD L B r
 let q:Rd:=if p.2.e=0∧65536<p.1 then ⟨p.2.at_,21⟩ else p.2
 let t:=takD L p.1 q
 if t.2.e≠0 then (0,⟨r.at_,t.2.e⟩) else t
end Go.Proofs.YtddkbmnkbfciaaaGreatDoor
namespace Go.Proofs.YtddkbmnkbfciaaaGreatDoor
open Go.RowKit
def room (j:Nat):Nat:=if j=0 then 201 else 202
end Go.Proofs.YtddkbmnkbfciaaaGreatDoor
namespace Go.Proofs.YtddkbmnkbfciaaaGreatDoor
open Go.RowKit
def beK (n s k:Nat):Nat→Nat:=fun j=>if s≤j+k then beN n s j else 0
theorem beK_next (n s k:Nat) (hk:k<s) (j:Nat) (_hj:j<s):upd (beK n s k) (s - 1 - k) (n / 2 ^ (8*k)%256) j=beK n s (k+1) j:=by
 unfold upd beK
 by_cases h:j=s - 1 - k
 · rw [if_pos h,if_pos (by omega)]
   unfold beN
   rw [show s - 1 - j=k by omega]
 · rw [if_neg h]
   by_cases h2:s≤j+k
   · rw [if_pos h2,if_pos (by omega)]
   · rw [if_neg h2,if_neg (by omega)]
set_option maxRecDepth 20000 in
set_option maxHeartbeats 4000000 in
theorem cSplit_any (n s:Nat) (hs:s≤8) (w:World) :
 Calls Tryz.prog 184 #[.int .i64 n,.int .i64 s] w fun e w'=>∃ v,e = .returned v∧BytesIn w' v s (beN n s)∧Below w.heap.size w w':=by
 have hmk:=make_bytes w s (s:Int) rfl (by omega)
 have b0:Below w.heap.size w (w.alloc (.cells (zb s) 5)):=(Below.refl _ _).alloc (Nat.le_refl _) _
 have r0:RowAt .u8 (w.alloc (.cells (zb s) 5)) w.heap.size 0 s (beK n s 0):=(RowAt.fresh (X:=fun _=>0) (fun j hj=>zb_at s j hj)).congr fun j hj=>by
  unfold beK
  rw [if_neg (by omega)]
 obtain ⟨W,hW⟩:∃ W,W=w.alloc (.cells (zb s) 5):=⟨_,rfl⟩
 have gW:w.heap.size<W.heap.size:=by rw [hW];simp
 obtain ⟨g,hg⟩:∃ g,g=w.heap.size:=⟨_,rfl⟩
 rw [←hW] at hmk b0 r0
 rw [←hg] at hmk r0
 have hgl:w.heap.size≤g:=by omega
 have gW':g<W.heap.size:=by omega
 clear hW gW hg
 go_enter Tryz.func184,Tryz.ntmps184
 go_wp2
 go_loopw [10] (fun i wr=>∃ k:Nat,k≤s∧i = .int .i64 k∧RowAt .u8 wr g 0 s (beK n s k)∧Below w.heap.size w wr∧g<wr.heap.size) (fun i _=>s - (intOf i).toNat)
 case atStart=>exact ⟨0,Nat.zero_le _,rfl,r0,b0,gW'⟩
 case round =>
  clear r0 b0 hmk
  obtain ⟨k,hk,rfl,hr,hb,gl⟩:=hrel
  by_cases hlt:k<s
  · obtain ⟨q1,z1⟩:=hr (s - 1 - k) (by omega)
    have hst:=hr.set (i:=s - 1 - k) (by omega) (v:=((n / 2 ^ (8*k)%256:Nat):Int)) rfl
    rw [Nat.zero_add] at q1 z1 hst
    replace hst:=hst.congr fun j hj=>beK_next n s k hlt j hj
    have e1:IntKind.u8.wrap ((n:Int) / 2 ^ (8*k))=((n / 2 ^ (8*k)%256:Nat):Int):=by
     show (n:Int) / 2 ^ (8*k)%256=_
     simp
    obtain ⟨y,hy⟩:∃ y,y=n / 2 ^ (8*k)%256:=⟨_,rfl⟩
    rw [←hy] at hst e1
    obtain ⟨q,hq⟩:∃ q,q=s - 1 - k:=⟨_,rfl⟩
    rw [←hq] at q1 z1 hst
    obtain ⟨u,hu⟩:∃ u,u=beK n s k q:=⟨_,rfl⟩
    rw [←hu] at q1
    obtain ⟨sh,hsh⟩:∃ sh,sh=8*k:=⟨_,rfl⟩
    rw [←hsh] at e1
    have e2:(s:Int) - 1 - (k:Int)=(q:Int):=by omega
    have e2':IntKind.i64.wrap ((s:Int) - 1 - (k:Int))=(q:Int):=by simp only [IntKind.wrap_i64];omega
    have e2'':IntKind.i64.wrap ((s:Int) - 1)=(s:Int) - 1:=by simp only [IntKind.wrap_i64];omega
    have e3:8*(k:Int)=(sh:Int):=by omega
    have e3':IntKind.i64.wrap (8*(k:Int))=(sh:Int):=by simp only [IntKind.wrap_i64];omega
    have e4:IntKind.u64.wrap (sh:Int)=(sh:Int):=by show (sh:Int)%18446744073709551616=_;omega
    have t1:(0:Int)≤(q:Int)∧(q:Int)<(s:Int):=by omega
    have t2:(0:Int)≤(sh:Int)∧(sh:Int)<64:=by omega
    have hlt':(k:Int)<(s:Int):=by omega
    clear hy hq hu hsh hr
    go_wp2
    go_roundw
    case rel=>exact ⟨k+1,hlt,by go_num,hst,hb.setCell hgl _,by simp;exact gl⟩
    case measure=>simp [intOf];omega
  · obtain rfl:k=s:=by omega
    have hlt':¬(k:Int)<(k:Int):=by omega
    go_wp2
    go_ret
    exact ⟨_,rfl,.inr ⟨g,0,k,rfl,gl,Nat.le_refl _,fun j hj=>by rw [(hr j hj).1];unfold beK;rw [if_pos (by omega)]⟩,hb⟩
theorem cSize_any (s:Int) (w:World):Calls Tryz.prog 188 #[.int .i64 s] w fun e w'=>e = .returned (.bool (szB s))∧w'=w:=by
 by_cases h1:s=1
 · subst h1
   go_enter Tryz.func188,Tryz.ntmps188
   go_wp2
   go_ret
   exact ⟨rfl,rfl⟩
 · by_cases h2:s=2
   · subst h2
     go_enter Tryz.func188,Tryz.ntmps188
     go_wp2
     go_ret
     exact ⟨rfl,rfl⟩
   · by_cases h4:s=4
     · subst h4
       go_enter Tryz.func188,Tryz.ntmps188
       go_wp2
       go_ret
       exact ⟨rfl,rfl⟩
     · by_cases h8:s=8
       · subst h8
         go_enter Tryz.func188,Tryz.ntmps188
         go_wp2
         go_ret
         exact ⟨rfl,rfl⟩
       · go_enter Tryz.func188,Tryz.ntmps188
         go_wp2
         go_ret
         exact ⟨by simp [szB],rfl⟩
theorem cMost_any (s:Nat) (h:s=1∨s=2∨s=4∨s=8) (w:World):Calls Tryz.prog 189 #[.int .i64 (s:Int)] w fun e w'=>e = .returned (.int .i64 ((mstN s - 1:Nat):Int))∧w'=w:=by
 rcases h with rfl | rfl | rfl | rfl <;>
 · go_enter Tryz.func189,Tryz.ntmps189
   go_wp2
   go_ret
   exact ⟨rfl,rfl⟩
def lbN (k:Nat):Nat:=8*2 ^ k - 2
theorem cBits_any (k:Nat) (h:k<3) (w:World):Calls Tryz.prog 185 #[.int .i64 (k:Int)] w fun e w'=>e = .returned (.int .i64 ((lbN k:Nat):Int))∧w'=w:=by
 rcases (show k=0∨k=1∨k=2 by omega) with rfl | rfl | rfl <;>
 · go_enter Tryz.func185,Tryz.ntmps185
   go_wp2
   go_ret
   exact ⟨rfl,rfl⟩
end Go.Proofs.YtddkbmnkbfciaaaGreatDoor
namespace Go.Proofs.YtddkbmnkbfciaaaGreatDoor
open Go.RowKit
theorem szB_cases {s:Int} (h:szB s=true):s=1∨s=2∨s=4∨s=8:=by
 unfold szB at h
 simpa [or_assoc] using h
end Go.Proofs.YtddkbmnkbfciaaaGreatDoor
