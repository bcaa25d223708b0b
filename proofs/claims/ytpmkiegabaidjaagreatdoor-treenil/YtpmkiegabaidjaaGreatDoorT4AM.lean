/- What the proof stands on: T4A, T4R, D1Math, Lent, D1CA, D1RB, ZAb2, D1RR, D1RN, D1RQ, D1RT, D1CC. -/
import Derived.Test.YtpmkiegabaidjaaGreatDoorBaseM
import Derived.Laws.BitsAllLaws
import Derived.MapKept
import Derived.Maps.RangeRun
namespace Go.Proofs.YtpmkiegabaidjaaGreatDoor
open Go.RowKit Go.MapKept
def MpAt (w:World) (b:Nat) (f:Int→Option Value):Prop :=
 ∃ es clock,w.heap[b]? = some (.map es clock)∧Stamped es clock∧(∀ x∈es.toList,IsKey (.int .i64) x.key)∧∀ k v,f k=some v↔∃ e∈es.toList,e.key = .int .i64 k∧e.val=v
def upm (f:Int→Option Value) (k:Int) (v:Option Value):Int→Option Value:=fun j=>if j=k then v else f j
theorem MpAt.lt {w:World} {b:Nat} {f:Int→Option Value} (h:MpAt w b f):b<w.heap.size:=by
 obtain ⟨es,clock,h,-⟩:=h
 exact (Array.getElem?_eq_some_iff.1 h).1
theorem MpAt.same {w w':World} {b:Nat} {f:Int→Option Value} (h:MpAt w b f) (e:w'.heap[b]? = w.heap[b]?):MpAt w' b f:=by
 unfold MpAt;rw [e];exact h
theorem MpAt.below {w w':World} {b n:Nat} {f:Int→Option Value} (h:MpAt w b f) (hb:Below n w w') (hn:b<n):MpAt w' b f:=h.same (hb.block b hn)
theorem MpAt.congr {w:World} {b:Nat} {f g:Int→Option Value} (h:MpAt w b f) (e:∀ k,f k=g k):MpAt w b g:=by
 have:f=g:=funext e
 rw [←this];exact h
theorem MpAt.nocell {w:World} {b:Nat} {f:Int→Option Value} (h:MpAt w b f) (o:Nat):w.cell? ⟨b,o,none⟩=none:=by
 obtain ⟨es,clock,h,-⟩:=h
 simp [World.cell?,h]
theorem mp_empty (w:World):MpAt (w.alloc (.map #[] 0)) w.heap.size (fun _=>none) :=
 ⟨#[],0,World.alloc_heap_new w _,stamped_empty 0,by simp,by simp⟩
theorem mp_look {w:World} {b:Nat} {f:Int→Option Value} (h:MpAt w b f) {P:Program} {mt et:TypeId} {kt:TypeId} (hm:P.underlying mt=some (.map kt et)) (hk:P.underlying kt=some (.int .i64)) {z:Value} (hz:∀ w:World,(zeroValue et).run P w = .ok z w) (k:Int) (c:Bool) :
 (Instr.lookup mt (.map (some b)) (.int .i64 k) c).run P w = .ok (if c then .tuple #[(f k).getD z,.bool (f k).isSome] else (f k).getD z) w:=by
 obtain ⟨es,clock,hb,hs,hks,hf⟩:=h
 have hkk:IsKey (.int .i64) (.int .i64 k):=rfl
 rcases findNow_spec hkk es.toList 0 hks with ⟨h1,h2⟩ | ⟨j,e,h1,h2,h3⟩
 · have hn:f k=none:=by
    cases hfk:f k with
    | none=>rfl
    | some v=>obtain ⟨e,he,h3,-⟩:=(hf k v).1 hfk;exact absurd h3 (h2 e he)
   simp [Instr.lookup,run_underlying hm,MapKept.run_getObj_map hb,run_checkKey hk hkk,run_findKey hk h1,Result.andThen,hz,hn]
 · have hj:e∈es.toList:=List.mem_of_getElem? h2
   have hn:f k=some e.val:=(hf k e.val).2 ⟨e,hj,h3,rfl⟩
   simp [Instr.lookup,run_underlying hm,MapKept.run_getObj_map hb,run_checkKey hk hkk,run_findKey hk h1,Result.andThen,hn]
theorem nodup_at {α:Type} {l:List α} (h:l.Nodup) {i j:Nat} {a:α} (hi:l[i]? = some a) (hj:l[j]? = some a):i=j:=by
 obtain ⟨li,ei⟩:=List.getElem?_eq_some_iff.1 hi
 obtain ⟨lj,ej⟩:=List.getElem?_eq_some_iff.1 hj
 have h':=List.pairwise_iff_getElem.1 h
 rcases Nat.lt_trichotomy i j with hl | hl | hl
 · exact absurd (ei.trans ej.symm) (h' i j li lj hl)
 · exact hl
 · exact absurd (ej.trans ei.symm) (h' j i lj li hl)
theorem but_set {w:World} {b:Nat} (o:Obj):But (fun k=>k=b) w { w with heap:=w.heap.setIfInBounds b o }:=⟨rfl,rfl,rfl,by simp,fun k _ hb=>by simp [Ne.symm hb]⟩
theorem mp_put {w:World} {b:Nat} {f:Int→Option Value} (h:MpAt w b f) {P:Program} {mt et:TypeId} {kt:TypeId} (hm:P.underlying mt=some (.map kt et)) (hk:P.underlying kt=some (.int .i64)) (k:Int) (v:Value) :
 ∃ w',(Instr.mapUpdate mt (.map (some b)) (.int .i64 k) v).run P w = .ok () w'∧MpAt w' b (upm f k (some v))∧But (fun j=>j=b) w w'∧w'.heap.size=w.heap.size:=by
 obtain ⟨es,clock,hb,hs,hks,hf⟩:=h
 have hkk:IsKey (.int .i64) (.int .i64 k):=rfl
 rcases findNow_spec hkk es.toList 0 hks with ⟨h1,h2⟩ | ⟨j,e,h1,h2,h3⟩
 · refine ⟨_,by simp [Instr.mapUpdate,run_underlying hm,MapKept.run_getObj_map hb,run_checkKey hk hkk,run_findKey hk h1,run_setObj_map _ hb,Result.andThen];rfl,⟨_,_,(heap_set hb).1,stamped_push hs h2,?_,?_⟩,but_set _,by simp⟩
   · intro x hx
     simp only [Array.toList_push,List.mem_append,List.mem_singleton] at hx
     rcases hx with hx | rfl
     · exact hks x hx
     · exact hkk
   · intro q u
     simp only [Array.toList_push,List.mem_append,List.mem_singleton,upm]
     by_cases e:q=k
     · subst e
       simp only [if_true]
       constructor
       · rintro ⟨rfl⟩;exact ⟨_,.inr rfl,rfl,rfl⟩
       · rintro ⟨e',he' | rfl,h4,h5⟩
         · exact absurd h4 (h2 e' he')
         · rw [←h5]
     · rw [if_neg e,hf q u]
       constructor
       · rintro ⟨e',he',h4⟩;exact ⟨e',.inl he',h4⟩
       · rintro ⟨e',he' | rfl,h4,h5⟩
         · exact ⟨e',he',h4,h5⟩
         · simp at h4;exact absurd h4.symm e
 · have hj:es[j]? = some e:=by simpa using h2
   have hkey:∀ e',es[j]? = some e'→({ e' with key := .int .i64 k,val:=v }:MapEntry).key=e'.key:=fun e' he'=>by rw [hj] at he';cases he';exact h3.symm
   refine ⟨{ w with heap:=w.heap.setIfInBounds b (.map (es.modify j fun e=>{ e with key := .int .i64 k,val:=v }) clock) },by simp [Instr.mapUpdate,run_underlying hm,MapKept.run_getObj_map hb,run_checkKey hk hkk,run_findKey hk h1,hj,h3,run_keyThatStays hkk,run_setObj_map _ hb,Result.andThen],⟨_,_,(heap_set hb).1,stamped_modify hs _ _ (fun _ _=>rfl) (fun e' _ he'=>hkey e' he'),isKey_modify hks _ _ hkey,?_⟩,but_set _,by simp⟩
   intro q u
   have hmem:∀ x:MapEntry,x∈(es.modify j fun e=>{ e with key := .int .i64 k,val:=v }).toList↔x={ e with key := .int .i64 k,val:=v }∨(x∈es.toList∧x.key ≠ .int .i64 k):=by
    intro x
    constructor
    · intro hx
      obtain ⟨i,hi⟩:=List.getElem?_of_mem hx
      rw [Array.getElem?_toList,Array.getElem?_modify] at hi
      by_cases hij:j=i
      · subst hij;rw [if_pos rfl,hj] at hi;simp at hi;exact .inl hi.symm
      · rw [if_neg hij] at hi
        have hi':es.toList[i]? = some x:=by rw [Array.getElem?_toList];exact hi
        refine .inr ⟨List.mem_of_getElem? hi',fun hxk=>hij ?_⟩
        have hn:=hs.2.2
        have e1:(es.toList.map (·.key))[i]? = some (.int .i64 k):=by rw [List.getElem?_map,hi'];simp [hxk]
        have e2:(es.toList.map (·.key))[j]? = some (.int .i64 k):=by rw [List.getElem?_map,h2];simp [h3]
        exact nodup_at hn e2 e1
    · rintro (rfl | ⟨hx,hxk⟩)
      · refine List.mem_of_getElem? (i:=j) ?_
        rw [Array.getElem?_toList,Array.getElem?_modify,if_pos rfl,hj];rfl
      · obtain ⟨i,hi⟩:=List.getElem?_of_mem hx
        have hij:j≠i:=fun e'=>by subst e';rw [h2] at hi;cases hi;exact hxk h3
        refine List.mem_of_getElem? (i:=i) ?_
        rw [Array.getElem?_toList,Array.getElem?_modify,if_neg hij];simpa using hi
   unfold upm
   by_cases eq:q=k
   · subst eq
     simp only [if_true]
     constructor
     · rintro ⟨rfl⟩;exact ⟨_,(hmem _).2 (.inl rfl),rfl,rfl⟩
     · rintro ⟨e',he',h4,h5⟩
       rcases (hmem e').1 he' with rfl | ⟨-,hne⟩
       · rw [←h5]
       · exact absurd h4 hne
   · rw [if_neg eq,hf q u]
     constructor
     · rintro ⟨e',he',h4,h5⟩
       exact ⟨e',(hmem e').2 (.inr ⟨he',fun h6=>by rw [h4] at h6;simp at h6;exact eq h6⟩),h4,h5⟩
     · rintro ⟨e',he',h4,h5⟩
       rcases (hmem e').1 he' with rfl | ⟨hm',-⟩
       · simp at h4;exact absurd h4.symm eq
       · exact ⟨e',hm',h4,h5⟩
theorem mem_eraseIdx {es:Array MapEntry} {clock:Nat} (hs:Stamped es clock) {j:Nat} {e:MapEntry} (hj:es.toList[j]? = some e) (x:MapEntry):x∈(es.eraseIdxIfInBounds j).toList↔x∈es.toList∧x.key≠e.key:=by
 have hjl:j<es.size:=by have:=(List.getElem?_eq_some_iff.1 hj).1;simpa using this
 have e1:(es.eraseIdxIfInBounds j).toList=es.toList.eraseIdx j:=by
  unfold Array.eraseIdxIfInBounds
  rw [dif_pos hjl,Array.toList_eraseIdx]
 rw [e1,List.mem_eraseIdx_iff_getElem?]
 constructor
 · rintro ⟨i,hij,hi⟩
   refine ⟨List.mem_of_getElem? hi,fun hk=>hij ?_⟩
   have hn:=hs.2.2
   have e1:(es.toList.map (·.key))[i]? = some e.key:=by rw [List.getElem?_map,hi];simp [hk]
   have e2:(es.toList.map (·.key))[j]? = some e.key:=by rw [List.getElem?_map,hj];rfl
   exact nodup_at hn e1 e2
 · rintro ⟨hx,hk⟩
   obtain ⟨i,hi⟩:=List.getElem?_of_mem hx
   exact ⟨i,fun e'=>by subst e';rw [hj] at hi;cases hi;exact hk rfl,hi⟩
theorem mp_del {w:World} {b:Nat} {f:Int→Option Value} (h:MpAt w b f) {P:Program} {mt et ty:TypeId} {kt:TypeId} (hm:P.underlying mt=some (.map kt et)) (hk:P.underlying kt=some (.int .i64)) (k:Int) :
 ∃ w',(Builtin.delete_ #[mt,kt] ty #[.map (some b),.int .i64 k]).run P w = .ok (.tuple #[]) w'∧MpAt w' b (upm f k none)∧But (fun j=>j=b) w w'∧w'.heap.size=w.heap.size:=by
 obtain ⟨es,clock,hb,hs,hks,hf⟩:=h
 have hkk:IsKey (.int .i64) (.int .i64 k):=rfl
 rcases findNow_spec hkk es.toList 0 hks with ⟨h1,h2⟩ | ⟨j,e,h1,h2,h3⟩
 · refine ⟨_,by simp [Builtin.delete_,run_underlying hm,MapKept.run_getObj_map hb,run_checkKey hk hkk,run_findKey hk h1,run_setObj_map _ hb,Result.andThen],⟨_,_,(heap_set hb).1,hs,hks,?_⟩,but_set _,by simp⟩
   intro q u
   unfold upm
   by_cases e:q=k
   · subst e
     simp only [if_true]
     constructor
     · intro h;cases h
     · rintro ⟨e',he',h4,-⟩;exact absurd h4 (h2 e' he')
   · rw [if_neg e];exact hf q u
 · refine ⟨_,by simp [Builtin.delete_,run_underlying hm,MapKept.run_getObj_map hb,run_checkKey hk hkk,run_findKey hk h1,run_setObj_map _ hb,Result.andThen],⟨_,_,(heap_set hb).1,stamped_erase hs j,?_,?_⟩,but_set _,by simp⟩
   · intro x hx
     exact hks x ((mem_eraseIdx hs h2 x).1 hx).1
   · intro q u
     unfold upm
     by_cases e':q=k
     · subst e'
       simp only [if_true]
       constructor
       · intro h;cases h
       · rintro ⟨x,hx,h4,-⟩;exact absurd (h4.trans h3.symm) ((mem_eraseIdx hs h2 x).1 hx).2
     · rw [if_neg e',hf q u]
       constructor
       · rintro ⟨x,hx,h4,h5⟩;exact ⟨x,(mem_eraseIdx hs h2 x).2 ⟨hx,fun h6=>by rw [h4,h3] at h6;simp at h6;exact e' h6⟩,h4,h5⟩
       · rintro ⟨x,hx,h4⟩;exact ⟨x,((mem_eraseIdx hs h2 x).1 hx).1,h4⟩
end Go.Proofs.YtpmkiegabaidjaaGreatDoor
namespace Go.Proofs.YtpmkiegabaidjaaGreatDoor
open Go.RowKit Go.Shelf
structure Loc (B:Nat) (M:Nat→Prop) (W W':World):Prop where
 os:W'.os=W.os
 tape:W'.tape=W.tape
 output:W'.output=W.output
 size:W.heap.size≤W'.heap.size
 block:∀ k,k<W.heap.size→(k<B∨M k)→W'.heap[k]? = W.heap[k]?
structure Fro (B:Nat) (M:Nat→Prop) (W W':World):Prop where
 size:W.heap.size≤W'.heap.size
 block:∀ k,k<W.heap.size→B≤k→¬M k→W'.heap[k]? = W.heap[k]?
theorem Loc.mono {B C:Nat} {M:Nat→Prop} {W W':World} (h:Loc C M W W') (hb:B≤C):Loc B M W W':=⟨h.os,h.tape,h.output,h.size,fun k hk hm=>h.block k hk (hm.imp (fun h=>by omega) id)⟩
theorem Loc.of_below {B:Nat} {M:Nat→Prop} {W W':World} (h:Below W.heap.size W W'):Loc B M W W':=⟨h.os,h.tape,h.output,h.size,fun k hk _=>h.block k hk⟩
theorem Loc.below {B:Nat} {M:Nat→Prop} {W W':World} (h:Loc B M W W') (hB:B≤W.heap.size):Below B W W':=⟨h.os,h.tape,h.output,h.size,fun k hk=>h.block k (by omega) (.inl hk)⟩
theorem Loc.put {B l:Nat} {M:Nat→Prop} {W:World} (o:Obj) (hl:B≤l) (hm:¬M l):Loc B M W (W.putObj l o) :=
 ⟨rfl,rfl,rfl,by simp,fun k _ h=>World.putObj_heap_other (fun e=>by subst e;rcases h with h | h;omega;exact hm h)⟩
theorem Loc.trans {B:Nat} {M:Nat→Prop} {U V W:World} (h:Loc B M U V) (k:Loc B M V W):Loc B M U W:=⟨k.os.trans h.os,k.tape.trans h.tape,k.output.trans h.output,Nat.le_trans h.size k.size,fun i hi hb=>(k.block i (Nat.lt_of_lt_of_le hi h.size) hb).trans (h.block i hi hb)⟩
theorem Loc.cell {B:Nat} {M:Nat→Prop} {W W':World} (h:Loc B M W W') {b o:Nat} {v:Value} (hc:W.cell? ⟨b,o,none⟩=some v) (hb:b<B∨M b):W'.cell? ⟨b,o,none⟩=some v :=
 (World.cell?_of_block (w:=W) (h.block b (block_lt_of_cell hc) hb)).trans hc
theorem Loc.rw {B:Nat} {M:Nat→Prop} {W W':World} (h:Loc B M W W') {g o:Nat} {cs:List Value} (hr:RW W g o cs) (hb:g<B∨M g):RW W' g o cs :=
 ⟨fun j v hv=>(World.cell?_of_block (w:=W) (h.block g hr.lt hb)).trans (hr.range j v hv),fun j hj=>by
   rw [World.cell?_of_block (w:=W) (h.block g hr.lt hb),World.frozen?_of_block (w:=W) (h.block g hr.lt hb)];exact hr.there j hj,Nat.lt_of_lt_of_le hr.lt h.size⟩
theorem Fro.mono {B C:Nat} {M:Nat→Prop} {W W':World} (h:Fro B M W W') (hb:B≤C):Fro C M W W':=⟨h.size,fun k hk hB hm=>h.block k hk (by omega) hm⟩
theorem Fro.of_below {B:Nat} {M:Nat→Prop} {W W':World} (h:Below W.heap.size W W'):Fro B M W W':=⟨h.size,fun k hk _ _=>h.block k hk⟩
theorem Fro.refl (B:Nat) (M:Nat→Prop) (W:World):Fro B M W W:=⟨Nat.le_refl _,fun _ _ _ _=>rfl⟩
theorem Fro.trans {B:Nat} {M:Nat→Prop} {U V W:World} (h:Fro B M U V) (k:Fro B M V W):Fro B M U W:=⟨Nat.le_trans h.size k.size,fun i hi hB hm=>(k.block i (Nat.lt_of_lt_of_le hi h.size) hB hm).trans (h.block i hi hB hm)⟩
theorem Fro.rw {B:Nat} {M:Nat→Prop} {W W':World} (h:Fro B M W W') {g o:Nat} {cs:List Value} (hr:RW W g o cs) (hb:B≤g) (hm:¬M g):RW W' g o cs :=
 ⟨fun j v hv=>(World.cell?_of_block (w:=W) (h.block g hr.lt hb hm)).trans (hr.range j v hv),fun j hj=>by
   rw [World.cell?_of_block (w:=W) (h.block g hr.lt hb hm),World.frozen?_of_block (w:=W) (h.block g hr.lt hb hm)];exact hr.there j hj,Nat.lt_of_lt_of_le hr.lt h.size⟩
theorem Fro.of_but {B:Nat} {M bad:Nat→Prop} {W W':World} (h:But bad W W') (hb:∀ k,bad k→k<B∨M k):Fro B M W W' :=
 ⟨h.size,fun k hk hB hm=>h.block k hk (fun e=>by rcases hb k e with h | h;omega;exact hm h)⟩
theorem roundIn_deep {n m:Nat} {P:Program} {l:Nat} {f:FuncId} {tmps:Array Value} {assign body:Code} {w:World} {R:Ending→World→Prop} (h:RoundIn Fence.wide n P l f tmps assign body w R):RoundIn Fence.wide m P l f tmps assign body w R :=
 ⟨trivial,fun c cs _=>h.2 c cs (room_wide _)⟩
theorem YieldAt.mono {n:Nat} {P:Program} {l:Nat} {args:Array Value} {W:World} {R S:Ending→World→Prop} (h:YieldAt Fence.wide n P l args W R) (hr:∀ e w',R e w'→S e w'):YieldAt Fence.wide n P l args W S:=by
 obtain ⟨fn,tmps,assign,body,h1,h2⟩:=h
 exact ⟨fn,tmps,assign,body,h1,h2.mono hr⟩
theorem wpListIn_load_rd {P:Program} {n l:Nat} {ops:Array Oper} {rest:List Oper} {op:Oper} {a:Act} {w:World} {Q:Exit→Act→World→Prop} (hw:Region.wanted op (yielded ops a.tmps)=true) (ty:TypeId) (x:Operand) (ho:op.op = .load ty x)
 (b o:Nat) (hx:a.eval x = .pointer (some ⟨b,o,none⟩)) (cs:List Value) (d:TypeDesc) (hc:w.rangeAt b o cs)
 (hu:P.underlying ty=some d) (hd:d.isRow=true) (hi:(P.info? ty).map (·.size)=some cs.length)
 (h:wpListIn (Fence.wide.inRound l) n P ops Q rest (a.put op.dst (.agg cs.toArray)) w):wpListIn (Fence.wide.inRound l) n P ops Q (op :: rest) a w :=
 wpListIn_step fun K hK=>by
  simp only [hw,if_true]
  refine ⟨fun _ _=>trivial,?_⟩
  have hsem:(op.semAt (Fence.wide.inRound l).round a.eval)=execOp a.eval op:=Oper.semAt_some l _ _ (fun c e=>by rw [ho] at e;cases e)
  rw [hsem]
  unfold execOp
  simp only [ho,hx,Instr.loadAt,Instr.sureAddr,Sem.run_bind,Sem.run_pure,Result.andThen_ok,run_loadVar_mid w b o ty cs d hc hu hd hi]
  exact hK _ _ h
theorem wpListIn_store_rd {P:Program} {n l:Nat} {ops:Array Oper} {rest:List Oper} {op:Oper} {a:Act} {w:World} {Q:Exit→Act→World→Prop} (hw:Region.wanted op (yielded ops a.tmps)=true) (ty:TypeId) (x y:Operand) (ho:op.op = .store ty x y)
 (b o:Nat) (cells:Array Value) (hx:a.eval x = .pointer (some ⟨b,o,none⟩)) (hy:a.eval y = .agg cells) (ht:w.there b o cells.size) (hi:(P.info? ty).map (·.size)=some cells.size) (h1:cells.all (·.oneCell')=true)
 (h:wpListIn (Fence.wide.inRound l) n P ops Q rest (a.put op.dst undef) (w.setCells b o cells.toList)):wpListIn (Fence.wide.inRound l) n P ops Q (op :: rest) a w :=
 wpListIn_step fun K hK=>by
  simp only [hw,if_true]
  refine ⟨fun _ _=>trivial,?_⟩
  have hsem:(op.semAt (Fence.wide.inRound l).round a.eval)=execOp a.eval op:=Oper.semAt_some l _ _ (fun c e=>by rw [ho] at e;cases e)
  rw [hsem]
  unfold execOp
  simp only [ho,hx,hy,Instr.storeAt,Instr.sureAddr,Sem.run_bind,Sem.run_pure,Result.andThen_ok,run_storeVar_mid w b o ty cells ht hi h1]
  exact hK _ _ h
def Ans (B:Nat) (M:Nat→Prop) (Nxt Brk:(Nat→Prop)→World→Prop) (W:World) (e:Ending) (W':World):Prop :=
 Fro B M W W'∧∃ M':Nat→Prop,(∀ b,M' b→M b∨W.heap.size≤b)∧(e = .returned (.bool true)∧Nxt M' W'∨e = .returned (.bool false)∧Brk M' W')
def Iter (P:Program) (gf:Nat) (lb:Array Value) (K:Nat) (ar:Nat→Option (Array Value)) (Has:Nat→World→Prop):Prop :=
 ∀ (l B:Nat) (Inv:Nat→(Nat→Prop)→World→Prop) (Brk:(Nat→Prop)→World→Prop),
  (∀ k M W W',Inv k M W→Loc B M W W'→Inv k M W')→(∀ M W W',Brk M W→Loc B M W W'→Brk M W') →
  (∀ k M W,k≤K→Inv k M W→Has k W)→(∀ k M W,k<K→ar k=none→Inv k M W→Inv (k+1) M W) →
  (∀ k M W a,k<K→ar k=some a→Inv k M W→B≤W.heap.size→YieldAt Fence.wide 0 P l a W (Ans B M (Inv (k+1)) Brk W)) →
  ∀ M W,B≤W.heap.size→(∀ b,M b→b<W.heap.size)→Inv 0 M W →
   Calls P gf (#[.func (.yield l) #[] #[]] ++ lb) W fun e W'=>(∃ v,e = .returned v)∧W.heap.size≤W'.heap.size∧∃ M',Inv K M' W'∨Brk M' W'
def RoundQ (B S:Nat) (M:Nat→Prop) (J:(Nat→Prop)→World→Prop) (Jx:Code→(Nat→Prop)→World→Prop) (W:World) (ex:Exit) (_:Act) (W':World):Prop :=
 Fro B M W W'∧∃ M':Nat→Prop,(∀ b,M' b→M b∨S≤b)∧match ex with
  | .normal=>J M' W'
  | .ret=>Jx .ret M' W'
  | .exit i=>Jx (.exit i) M' W'
  | .goto t=>Jx (.goto t) M' W'
  | _=>False
theorem range_it {P:Program} {gf:Nat} {lb:Array Value} {K:Nat} {ar:Nat→Option (Array Value)} {Has:Nat→World→Prop} (hit:Iter P gf lb K ar Has)
 {g:Operand} {ps:Array Tmp} {assign body:Code} {Q:Exit→Act→World→Prop} {a:Act} {w:World} {n:Nat} (hg:a.eval g = .func (.func gf) #[] lb) (eg:∀ args w,(callFunc gf args).run P w = .ok (.enter gf args) w)
 (J:Nat→(Nat→Prop)→World→Prop) (Jx:Code→(Nat→Prop)→World→Prop) (M0:Nat→Prop)
 (hJ:∀ k M W W',J k M W→Loc w.heap.size M W W'→J k M W') (hJx:∀ c M W W',Jx c M W→Loc w.heap.size M W W'→Jx c M W')
 (hHas:∀ k M W,k≤K→J k M W→Has k W) (hskip:∀ k M W,k<K→ar k=none→J k M W→J (k+1) M W) (hps:∀ k a',ar k=some a'→a'.size=ps.size)
 (hM0:∀ b,M0 b→b<w.heap.size) (h0:∀ W,Below w.heap.size w W→J 0 M0 W)
 (hround:∀ k M W l a',k<K→ar k=some a'→J k M W→w.heap.size<l→l<W.heap.size→¬M l →
   assign.wpIn (Fence.wide.inRound l) 0 P (Exit.then (fun a₁ W₁=>Below W.heap.size W W₁∧∀ W₂,But (fun k=>k=l) W₁ W₂→W₂.heap.size=W₁.heap.size→J k M W₂ →
    body.wpIn (Fence.wide.inRound l) 0 P (RoundQ w.heap.size W.heap.size M (J (k+1)) Jx W₂) a₁ W₂) (fun _ _ _=>False)) { tmps:=(ps.zip a').foldl (fun tmps (t,a)=>tmps.setIfInBounds t a) a.tmps,defers:=[] } W)
 (hdone:∀ D M W,w.heap.size≤D→D<W.heap.size→¬M D→J K M W→W.heap[D]? = some (.deferred (some []))→Q .normal { a with defers:={ target := .collected D,args:=#[] } :: a.defers } W)
 (hstop:∀ D c M W,w.heap.size≤D→D<W.heap.size→¬M D→Jx c M W→W.heap[D]? = some (.deferred (some []))→c.wpIn Fence.wide n P Q { a with defers:={ target := .collected D,args:=#[] } :: a.defers } W) :
 (Code.rangeFunc g ps assign body).wpIn Fence.wide n P Q a w:=by
 refine wpIn_range_with rfl (fun _=>trivial) (fun h=>by cases h) hg eg (fun r0 e1 e2 e4 e5 e6 e7=>callsIn_wide.2 ?_)
 obtain ⟨W1,hW1⟩:∃ W1,W1=(w.alloc (.deferred (some []))).alloc (.loop r0):=⟨_,rfl⟩
 obtain ⟨l,hl⟩:∃ l,l=w.heap.size+1:=⟨_,rfl⟩
 have hbl1:Below w.heap.size w W1:=by rw [hW1];exact ((Below.refl _ _).alloc (Nat.le_refl _) _).alloc (by simp) _
 have hl1:W1.heap[l]? = some (.loop r0):=by
  rw [hW1,hl];have:=World.alloc_heap_new (w.alloc (.deferred (some []))) (.loop r0);rwa [World.size_alloc] at this
 have hD1:W1.heap[w.heap.size]? = some (.deferred (some [])):=by
  rw [hW1];exact (Below.heap_alloc _ _ _ (by simp)).trans (World.alloc_heap_new w _)
 have hs1:W1.heap.size=w.heap.size+2:=by rw [hW1];simp
 rw [←hW1,←hl]
 clear hW1
 have hm0:∀ b,w.heap.size≤b→¬M0 b:=fun b hb hm=>by have:=hM0 b hm;omega
 obtain ⟨rd,hrd⟩:∃ rd:Code→Loop,∀ c,rd c={ r0 with state := .done,pending:=some c }:=⟨_,fun _=>rfl⟩
 refine (hit l (w.heap.size+2)
  (fun k M W=>J k M W∧W.heap[l]? = some (.loop r0)∧W.heap[w.heap.size]? = some (.deferred (some []))∧¬M l∧¬M w.heap.size)
  (fun M W=>∃ c,Jx c M W∧W.heap[l]? = some (.loop (rd c))∧W.heap[w.heap.size]? = some (.deferred (some []))∧¬M l∧¬M w.heap.size)
  ?_ ?_ ?_ ?_ ?_ M0 W1 (by omega) (fun b hb=>by have:=hM0 b hb;omega) ⟨h0 W1 hbl1,hl1,hD1,hm0 l (by omega),hm0 _ (Nat.le_refl _)⟩).mono ?_
 · rintro k M W W' ⟨h1,h2,h3,h4⟩ hL
   have l2:=(Array.getElem?_eq_some_iff.1 h2).1
   have l3:=(Array.getElem?_eq_some_iff.1 h3).1
   exact ⟨hJ k M W W' h1 (hL.mono (by omega)),(hL.block l l2 (.inl (by omega))).trans h2,(hL.block _ l3 (.inl (by omega))).trans h3,h4⟩
 · rintro M W W' ⟨c,h1,h2,h3,h4⟩ hL
   have l2:=(Array.getElem?_eq_some_iff.1 h2).1
   have l3:=(Array.getElem?_eq_some_iff.1 h3).1
   exact ⟨c,hJx c M W W' h1 (hL.mono (by omega)),(hL.block l l2 (.inl (by omega))).trans h2,(hL.block _ l3 (.inl (by omega))).trans h3,h4⟩
 · rintro k M W hk ⟨h1,-⟩;exact hHas k M W hk h1
 · rintro k M W hk ha ⟨h1,h2⟩;exact ⟨hskip k M W hk ha h1,h2⟩
 · rintro k M W a' hk ha ⟨h1,h2,h3,h4,h5⟩ hB
   have l2:=(Array.getElem?_eq_some_iff.1 h2).1
   have l3:=(Array.getElem?_eq_some_iff.1 h3).1
   refine yield_round h2 (by rw [e5];exact hps k a' ha) ?_
   rw [e4,e5,e6,e7]
   refine wpIn_mono (hround k M W l a' hk ha h1 (by omega) l2 h4) ?_
   intro ex a1 V1 hx
   cases ex with
   | normal =>
    obtain ⟨hb1,hbody⟩:=hx
    have h2':=(hb1.block l l2).trans h2
    have h3':=(hb1.block _ l3).trans h3
    have l2':=(Array.getElem?_eq_some_iff.1 h2').1
    obtain ⟨V2,hV2⟩:∃ V2,V2=V1.putObj l (.loop { r0 with state := .busy }):=⟨_,rfl⟩
    have hbt:But (fun k=>k=l) V1 V2:=by rw [hV2];exact but_put V1 l _
    have hsz:V2.heap.size=V1.heap.size:=by rw [hV2];simp
    have hl2:V2.heap[l]? = some (.loop { r0 with state := .busy }):=by rw [hV2];exact World.putObj_heap_same l2'
    have hD2:V2.heap[w.heap.size]? = some (.deferred (some [])):=(hbt.block _ (Nat.lt_of_lt_of_le l3 hb1.size) (by omega)).trans h3'
    have hj2:J k M V2:=hJ k M V1 V2 (hJ k M W V1 h1 (Loc.of_below hb1)) (by rw [hV2];exact Loc.put _ (by omega) h4)
    refine ⟨V2,by rw [hV2];exact run_beginRound h2' e1,wpIn_mono (hbody V2 hbt hsz hj2) ?_⟩
    intro ex a3 V3 hq
    obtain ⟨hF,M',hM',hq⟩:=hq
    have hl3:V3.heap[l]? = some (.loop { r0 with state := .busy }):=(hF.block l (by omega) (by omega) h4).trans hl2
    have hD3:V3.heap[w.heap.size]? = some (.deferred (some [])):=(hF.block _ (by have:=hb1.size;omega) (Nat.le_refl _) h5).trans hD2
    have l23:=(Array.getElem?_eq_some_iff.1 hl3).1
    have nl:¬M' l:=fun h=>by rcases hM' l h with h | h;exact h4 h;omega
    have nD:¬M' w.heap.size:=fun h=>by rcases hM' _ h with h | h;exact h5 h;omega
    have hFr:∀ o,Fro (w.heap.size+2) M W (V3.putObj l o):=fun o=>⟨by have:=hb1.size;have:=hF.size;simp;omega,fun k hk hB hm =>
     (World.putObj_heap_other (by omega)).trans ((hF.block k (by have:=hb1.size;omega) (by omega) hm).trans ((hbt.block k (by have:=hb1.size;omega) (by omega)).trans (hb1.block k hk)))⟩
    have hDl:∀ o,(V3.putObj l o).heap[w.heap.size]? = some (.deferred (some [])):=fun o=>(World.putObj_heap_other (by omega)).trans hD3
    cases ex with
    | normal =>
     refine ⟨_,_,run_endRound none hl3,hFr _,M',hM',.inl ⟨rfl,hJ _ _ _ _ hq (Loc.put _ (by omega) nl),?_,hDl _,nl,nD⟩⟩
     rw [World.putObj_heap_same l23]
     simp only [Option.isNone_none,if_true]
     rw [loop_back r0 e1 e2]
    | ret=>exact ⟨_,_,run_endRound (some .ret) hl3,hFr _,M',hM',.inr ⟨rfl,.ret,hJx _ _ _ _ hq (Loc.put _ (by omega) nl),by rw [World.putObj_heap_same l23,hrd];rfl,hDl _,nl,nD⟩⟩
    | exit i=>exact ⟨_,_,run_endRound (some (.exit i)) hl3,hFr _,M',hM',.inr ⟨rfl,.exit i,hJx _ _ _ _ hq (Loc.put _ (by omega) nl),by rw [World.putObj_heap_same l23,hrd];rfl,hDl _,nl,nD⟩⟩
    | goto t=>exact ⟨_,_,run_endRound (some (.goto t)) hl3,hFr _,M',hM',.inr ⟨rfl,.goto t,hJx _ _ _ _ hq (Loc.put _ (by omega) nl),by rw [World.putObj_heap_same l23,hrd];rfl,hDl _,nl,nD⟩⟩
    | panic ch=>exact hq.elim
    | outgrown=>exact hq.elim
   | ret=>exact hx.elim
   | exit i=>exact hx.elim
   | goto t=>exact hx.elim
   | panic ch=>exact hx.elim
   | outgrown=>exact hx.elim
 · rintro e W2 ⟨⟨v,rfl⟩,-,M',⟨hj,hl2,hD,nl,nD⟩ | ⟨c,hj,hl2,hD,nl,nD⟩⟩
   · have l3:=(Array.getElem?_eq_some_iff.1 hD).1
     exact ⟨none,_,by have:=run_endLoop (P:=P) hl2 (by rw [e1];simp);rw [e2] at this;exact this,hdone _ M' _ (Nat.le_refl _) (by simpa using l3) nD (hJ _ _ _ _ hj (Loc.put _ (by omega) nl)) ((World.putObj_heap_other (by omega)).trans hD)⟩
   · have l3:=(Array.getElem?_eq_some_iff.1 hD).1
     exact ⟨some c,_,by have:=run_endLoop (P:=P) hl2 (by rw [hrd];simp);rw [show (rd c).pending=some c by rw [hrd]] at this;exact this,hstop _ c M' _ (Nat.le_refl _) (by simpa using l3) nD (hJx _ _ _ _ hj (Loc.put _ (by omega) nl)) ((World.putObj_heap_other (by omega)).trans hD)⟩
end Go.Proofs.YtpmkiegabaidjaaGreatDoor
namespace Go.Proofs.YtpmkiegabaidjaaGreatDoor
open Go.RowKit
def beN (n s j:Nat):Nat:=n / 2 ^ (8*(s - 1 - j))%256
theorem beN_lt (n s j:Nat):beN n s j<256:=Nat.mod_lt _ (by decide)
def lnS (n:Nat):Nat:=if n<64 then 1 else if n<16384 then 2 else 4
def lnW (n:Nat):Nat:=if n<64 then n else if n<16384 then n+16384 else n+2147483648
def lnB (n:Nat):Nat→Nat:=beN (lnW n) (lnS n)
def vcB (n:Nat) (b:Nat→Nat):Nat→Nat:=cat (lnS n) (lnB n) b
def vcL (n:Nat):Nat:=lnS n+n
theorem lnS_pos (n:Nat):0<lnS n∧lnS n≤4:=by unfold lnS;split <;> (try split) <;> omega
def szB (s:Int):Bool:=s == 1 || s == 2 || s == 4 || s == 8
def mstN (s:Nat):Nat:=if s=8 then 4611686018427387904 else 2 ^ (8*s)
def nbN (B:Nat→Nat) (at_:Nat):Nat→Nat
 | 0=>0
 | s+1=>nbN B at_ s*256+B (at_+s)
structure Rd where
 at_:Nat
 e:Int
def numD (L:Nat) (B:Nat→Nat) (size:Int) (r:Rd):Nat × Rd :=
 if r.e≠0 then (0,r) else if szB size=false then (0,⟨r.at_,1⟩) else if (L:Int) - r.at_<size then (0,⟨r.at_,20⟩) else if size=8∧64≤B r.at_ then (0,⟨r.at_,11⟩) else (nbN B r.at_ size.toNat,⟨r.at_+size.toNat,0⟩)
def lenD (L:Nat) (B:Nat→Nat) (r:Rd):Nat × Rd :=
 if r.e≠0 then (0,r) else if L=r.at_ then (0,⟨r.at_,20⟩) else if B r.at_ / 64=3 then (0,⟨r.at_,21⟩) else if L - r.at_<2 ^ (B r.at_ / 64) then (0,⟨r.at_,20⟩)
 else if (2 ^ (B r.at_ / 64)=2∧nbN B r.at_ (2 ^ (B r.at_ / 64))%2 ^ (8*2 ^ (B r.at_ / 64) - 2)<64)∨(2 ^ (B r.at_ / 64)=4∧nbN B r.at_ (2 ^ (B r.at_ / 64))%2 ^ (8*2 ^ (B r.at_ / 64) - 2)<16384) then (0,⟨r.at_,21⟩)
 else (nbN B r.at_ (2 ^ (B r.at_ / 64))%2 ^ (8*2 ^ (B r.at_ / 64) - 2),⟨r.at_+2 ^ (B r.at_ / 64),0⟩)
def takD (L:Nat) (n:Int) (r:Rd):Nat × Rd :=
 if r.e≠0 then (0,r) else if n<0 then (0,⟨r.at_,1⟩) else if (L:Int) - r.at_<n then (0,⟨r.at_,20⟩) else (n.toNat,⟨r.at_+n.toNat,0⟩)
def vecD (L:Nat) (B:Nat→Nat) (r:Rd):Nat × Rd :=
 let p:=lenD L B r
 let q:Rd:=if p.2.e=0∧65536<p.1 then ⟨p.2.at_,21⟩ else p.2
 let t:=takD L p.1 q
 if t.2.e≠0 then (0,⟨r.at_,t.2.e⟩) else t
end Go.Proofs.YtpmkiegabaidjaaGreatDoor
namespace Go.Proofs.YtpmkiegabaidjaaGreatDoor
open Go.RowKit
def room (j:Nat):Nat:=if j=0 then 201 else 202
end Go.Proofs.YtpmkiegabaidjaaGreatDoor
namespace Go.Proofs.YtpmkiegabaidjaaGreatDoor
open Go.RowKit
def beK (n s k:Nat):Nat→Nat:=fun j=>if s≤j+k then beN n s j else 0
theorem beK_next (n s k:Nat) (hk:k<s) (j:Nat) (_hj:j<s):upd (beK n s k) (s - 1 - k) (n / 2 ^ (8*k)%256) j=beK n s (k+1) j:=by
 unfold upd beK
 by_cases h:j=s - 1 - k
 · rw [if_pos h,if_pos (by omega)]
   unfold beN
   rw [show s - 1 - j=k by omega]
 · rw [if_neg h]
   by_cases h2:s≤j+k
   · rw [if_pos h2,if_pos (by omega)]
   · rw [if_neg h2,if_neg (by omega)]
set_option maxRecDepth 20000 in
set_option maxHeartbeats 4000000 in
theorem cSplit_any (n s:Nat) (hs:s≤8) (w:World) :
 Calls Tryz.prog 184 #[.int .i64 n,.int .i64 s] w fun e w'=>∃ v,e = .returned v∧BytesIn w' v s (beN n s)∧Below w.heap.size w w':=by
 have hmk:=make_bytes w s (s:Int) rfl (by omega)
 have b0:Below w.heap.size w (w.alloc (.cells (zb s) 5)):=(Below.refl _ _).alloc (Nat.le_refl _) _
 have r0:RowAt .u8 (w.alloc (.cells (zb s) 5)) w.heap.size 0 s (beK n s 0):=(RowAt.fresh (X:=fun _=>0) (fun j hj=>zb_at s j hj)).congr fun j hj=>by
  unfold beK
  rw [if_neg (by omega)]
 obtain ⟨W,hW⟩:∃ W,W=w.alloc (.cells (zb s) 5):=⟨_,rfl⟩
 have gW:w.heap.size<W.heap.size:=by rw [hW];simp
 obtain ⟨g,hg⟩:∃ g,g=w.heap.size:=⟨_,rfl⟩
 rw [←hW] at hmk b0 r0
 rw [←hg] at hmk r0
 have hgl:w.heap.size≤g:=by omega
 have gW':g<W.heap.size:=by omega
 clear hW gW hg
 go_enter Tryz.func184,Tryz.ntmps184
 go_wp2
 go_loopw [10] (fun i wr=>∃ k:Nat,k≤s∧i = .int .i64 k∧RowAt .u8 wr g 0 s (beK n s k)∧Below w.heap.size w wr∧g<wr.heap.size) (fun i _=>s - (intOf i).toNat)
 case atStart=>exact ⟨0,Nat.zero_le _,rfl,r0,b0,gW'⟩
 case round =>
  clear r0 b0 hmk
  obtain ⟨k,hk,rfl,hr,hb,gl⟩:=hrel
  by_cases hlt:k<s
  · obtain ⟨q1,z1⟩:=hr (s - 1 - k) (by omega)
    have hst:=hr.set (i:=s - 1 - k) (by omega) (v:=((n / 2 ^ (8*k)%256:Nat):Int)) rfl
    rw [Nat.zero_add] at q1 z1 hst
    replace hst:=hst.congr fun j hj=>beK_next n s k hlt j hj
    have e1:IntKind.u8.wrap ((n:Int) / 2 ^ (8*k))=((n / 2 ^ (8*k)%256:Nat):Int):=by
     show (n:Int) / 2 ^ (8*k)%256=_
     simp
    obtain ⟨y,hy⟩:∃ y,y=n / 2 ^ (8*k)%256:=⟨_,rfl⟩
    rw [←hy] at hst e1
    obtain ⟨q,hq⟩:∃ q,q=s - 1 - k:=⟨_,rfl⟩
    rw [←hq] at q1 z1 hst
    obtain ⟨u,hu⟩:∃ u,u=beK n s k q:=⟨_,rfl⟩
    rw [←hu] at q1
    obtain ⟨sh,hsh⟩:∃ sh,sh=8*k:=⟨_,rfl⟩
    rw [←hsh] at e1
    have e2:(s:Int) - 1 - (k:Int)=(q:Int):=by omega
    have e2':IntKind.i64.wrap ((s:Int) - 1 - (k:Int))=(q:Int):=by simp only [IntKind.wrap_i64];omega
    have e2'':IntKind.i64.wrap ((s:Int) - 1)=(s:Int) - 1:=by simp only [IntKind.wrap_i64];omega
    have e3:8*(k:Int)=(sh:Int):=by omega
    have e3':IntKind.i64.wrap (8*(k:Int))=(sh:Int):=by simp only [IntKind.wrap_i64];omega
    have e4:IntKind.u64.wrap (sh:Int)=(sh:Int):=by show (sh:Int)%18446744073709551616=_;omega
    have t1:(0:Int)≤(q:Int)∧(q:Int)<(s:Int):=by omega
    have t2:(0:Int)≤(sh:Int)∧(sh:Int)<64:=by omega
    have hlt':(k:Int)<(s:Int):=by omega
    clear hy hq hu hsh hr
    go_wp2
    go_roundw
    case rel=>exact ⟨k+1,hlt,by go_num,hst,hb.setCell hgl _,by simp;exact gl⟩
    case measure=>simp [intOf];omega
  · obtain rfl:k=s:=by omega
    have hlt':¬(k:Int)<(k:Int):=by omega
    go_wp2
    go_ret
    exact ⟨_,rfl,.inr ⟨g,0,k,rfl,gl,Nat.le_refl _,fun j hj=>by rw [(hr j hj).1];unfold beK;rw [if_pos (by omega)]⟩,hb⟩
theorem cSize_any (s:Int) (w:World):Calls Tryz.prog 188 #[.int .i64 s] w fun e w'=>e = .returned (.bool (szB s))∧w'=w:=by
 by_cases h1:s=1
 · subst h1
   go_enter Tryz.func188,Tryz.ntmps188
   go_wp2
   go_ret
   exact ⟨rfl,rfl⟩
 · by_cases h2:s=2
   · subst h2
     go_enter Tryz.func188,Tryz.ntmps188
     go_wp2
     go_ret
     exact ⟨rfl,rfl⟩
   · by_cases h4:s=4
     · subst h4
       go_enter Tryz.func188,Tryz.ntmps188
       go_wp2
       go_ret
       exact ⟨rfl,rfl⟩
     · by_cases h8:s=8
       · subst h8
         go_enter Tryz.func188,Tryz.ntmps188
         go_wp2
         go_ret
         exact ⟨rfl,rfl⟩
       · go_enter Tryz.func188,Tryz.ntmps188
         go_wp2
         go_ret
         exact ⟨by simp [szB],rfl⟩
theorem cMost_any (s:Nat) (h:s=1∨s=2∨s=4∨s=8) (w:World):Calls Tryz.prog 189 #[.int .i64 (s:Int)] w fun e w'=>e = .returned (.int .i64 ((mstN s - 1:Nat):Int))∧w'=w:=by
 rcases h with rfl | rfl | rfl | rfl <;>
 · go_enter Tryz.func189,Tryz.ntmps189
   go_wp2
   go_ret
   exact ⟨rfl,rfl⟩
def lbN (k:Nat):Nat:=8*2 ^ k - 2
theorem cBits_any (k:Nat) (h:k<3) (w:World):Calls Tryz.prog 185 #[.int .i64 (k:Int)] w fun e w'=>e = .returned (.int .i64 ((lbN k:Nat):Int))∧w'=w:=by
 rcases (show k=0∨k=1∨k=2 by omega) with rfl | rfl | rfl <;>
 · go_enter Tryz.func185,Tryz.ntmps185
   go_wp2
   go_ret
   exact ⟨rfl,rfl⟩
end Go.Proofs.YtpmkiegabaidjaaGreatDoor
namespace Go.Proofs.YtpmkiegabaidjaaGreatDoor
open Go.RowKit
theorem szB_cases {s:Int} (h:szB s=true):s=1∨s=2∨s=4∨s=8:=by
 unfold szB at h
 simpa [or_assoc] using h
end Go.Proofs.YtpmkiegabaidjaaGreatDoor
namespace Go.Proofs.YtpmkiegabaidjaaGreatDoor
open Go.RowKit
abbrev pA (g o:Nat):Value := .pointer (some ⟨g,o,none⟩)
theorem pS:(∀ (a:Act) (d:Nat) (v:Value),a.put (some d) v={ a with tmps:=a.tmps.setIfInBounds d v })∧(∀ (l:List Value) (i:Nat) (v:Value),l.toArray.setIfInBounds i v=(l.set i v).toArray)∧(∀ (x:Value) (l:List Value) (v:Value),(x :: l).set 0 v=v :: l)∧(∀ (x:Value) (l:List Value) (n:Nat) (v:Value),(x :: l).set (n+1) v=x :: l.set n v) :=
 ⟨fun _ _ _=>rfl,fun _ _ _=>List.setIfInBounds_toArray ..,fun _ _ _=>rfl,fun _ _ _ _=>rfl⟩
section
variable {P:Program} {md:Region.Mode} {ops:Array Oper} {Q:Exit→Act→World→Prop} {S:World→Prop} {fuel:Nat} {listed:Array Bool} {a:Act} {w:World}
theorem tkH (i:Nat) (oi:Oper) (v:Value) (hS:S w) (hy:YieldsIf P ops S oi v a)
 (h:wpAnyH P md ops Q S fuel (listed.setIfInBounds i true) (a.put oi.dst v) w) (hQ:∀ c a w,Q (.panic c) (a.put oi.dst v) w→Q (.panic c) a w:=by exact fun _ _ _ h=>h) (hi:ops[i]? = some oi:=by rfl) (hs:Region.noSelect ops=true:=by kernel_rfl) (hf:Region.free md ops listed i=true:=by kernel_rfl) (hr:(Region.ready md ops listed).contains i=true:=by kernel_rfl):wpAnyH P md ops Q S (fuel+1) listed a w :=
 wpAnyH_take hi hs hf hr hQ hy hS h
theorem bR {w:World}:Below w.heap.size w w:=Below.refl _ _
theorem ldH {V:World} {o:Oper} {g off:Nat} {cs:List Value} (h:RW V g off cs) (ty k:Nat) {d:TypeDesc} (hu:P.underlying ty=some d) (hi:(P.info? ty).map (·.size)=some cs.length) (hd:d.isRow=true:=by rfl) (hw:Region.wanted o (yielded ops a.tmps)=true:=by rfl) (ho:o.op = .load ty (.tmp k):=by rfl) (hx:a.eval (.tmp k) = .pointer (some ⟨g,off,none⟩):=by rfl):YieldsIf P ops (fun w'=>Below V.heap.size V w') o (.agg cs.toArray) a :=
 yieldsIf_load_mid hw ty _ ho g off hx cs d (fun _ hb=>(h.still hb).range) hu hd hi
theorem arC {i:Nat} {rs:List Nat} (oi:Oper) {f:FuncId} {args:Array Value} {R:Ending→World→Prop} (c:Calls P f args w R) (h:∀ e w',R e w'→∃ r,e = .returned r∧S w'∧wpAnyH P md ops Q S fuel (listed.setIfInBounds i true) (a.put oi.dst r) w') (hs:AllReadyH P md ops Q S fuel listed a w rs)
 (hi:ops[i]? = some oi:=by rfl) (hw:Region.wanted oi (yielded ops a.tmps)=true:=by rfl) (hrun:(execOp a.eval oi).run P w = .ok (.enter f args) w:=by kernel_rfl):AllReadyH P md ops Q S fuel listed a w (i :: rs):=by
 refine AllReadyH.cons hi (fun K hK => ?_) hs
 rw [if_pos hw]
 unfold Oper.wp
 rw [hrun,Oper.upon_enter]
 refine c.mono fun e w' hR => ?_
 obtain ⟨r,rfl,hS,hk⟩:=h e w' hR
 exact hK.out _ _ hS (fun _=>hk)
theorem callH (i:Nat) (oi:Oper) {f:FuncId} {args:Array Value} {R:Ending→World→Prop} (c:Calls P f args w R) (h:∀ e w',R e w'→∃ r,e = .returned r∧S w'∧wpAnyH P md ops Q S fuel (listed.setIfInBounds i true) (a.put oi.dst r) w')
 (hr:Region.ready md ops listed=[i]:=by kernel_rfl) (hi:ops[i]? = some oi:=by rfl) (hw:Region.wanted oi (yielded ops a.tmps)=true:=by rfl) (hrun:(execOp a.eval oi).run P w = .ok (.enter f args) w:=by kernel_rfl):wpAnyH P md ops Q S (fuel+1) listed a w :=
 wpAnyH_ready hr (by simp) (arC oi c h AllReadyH.nil hi hw hrun)
theorem callN (i:Nat) (oi:Oper) {f:FuncId} {args:Array Value} {R:Ending→World→Prop} (c:Calls P f args w R) (h:∀ e w',R e w'→∃ r,e = .returned r∧Below w.heap.size w w'∧wpAnyH P md ops Q (fun u=>Below w'.heap.size w' u) fuel (listed.setIfInBounds i true) (a.put oi.dst r) w')
 (hr:Region.ready md ops listed=[i]:=by kernel_rfl) (hi:ops[i]? = some oi:=by rfl) (hw:Region.wanted oi (yielded ops a.tmps)=true:=by rfl) (hrun:(execOp a.eval oi).run P w = .ok (.enter f args) w:=by kernel_rfl):wpAnyH P md ops Q (fun u=>Below w.heap.size w u) (fuel+1) listed a w :=
 callH i oi c (fun e w' hR=>by
  obtain ⟨r,he,hb,hk⟩:=h e w' hR
  exact ⟨r,he,hb,wpAnyH_narrow (fun _ hu=>below_next hb hu) _ _ _ _ hk⟩) hr hi hw hrun
theorem arA {i:Nat} {rs:List Nat} (oi:Oper) {cs:Array Value} {t:TypeId} (h:S (w.alloc (.cells cs t))∧wpAnyH P md ops Q S fuel (listed.setIfInBounds i true) (a.put oi.dst (pA w.heap.size 0)) (w.alloc (.cells cs t))) (hs:AllReadyH P md ops Q S fuel listed a w rs)
 (hrun:(execOp a.eval oi).run P w = .ok (.value (pA w.heap.size 0)) (w.alloc (.cells cs t)):=by kernel_rfl) (hi:ops[i]? = some oi:=by rfl) (hw:Region.wanted oi (yielded ops a.tmps)=true:=by rfl):AllReadyH P md ops Q S fuel listed a w (i :: rs):=by
 refine AllReadyH.cons hi (fun K hK => ?_) hs
 rw [if_pos hw]
 unfold Oper.wp
 rw [hrun,Oper.upon_value]
 exact hK.out _ _ h.1 (fun _=>h.2)
theorem dag_root (h:∀ G:Nat→Array Bool→Act→World→Prop,G=wpAnyH P md ops Q S→G fuel listed a w):wpAnyH P md ops Q S fuel listed a w:=h _ rfl
theorem dagW {G:Nat→Array Bool→Act→World→Prop} (hG:Hid (G=wpAnyH P md ops Q S)) {f:Nat} {l:Array Bool} {b:Act} (h:G f l b w) (hb:b=a) (hf:f=fuel:=by kernel_rfl) (hl:l=listed:=by kernel_rfl):wpAnyH P md ops Q S fuel listed a w:=by
 subst hf;subst hl;subst hb;rw [←hG.out];exact h
theorem at_list {i:Nat} {oi:Oper} (hi:ops.toList[i]? = some oi):ops[i]? = some oi:=by rw [←Array.getElem?_toList];exact hi
theorem tg (i:Nat) (hS:S w) {oi:Oper} {v:Value} (h:wpAnyH P md ops Q S fuel (listed.setIfInBounds i true) (a.put oi.dst v) w) (hi:ops.toList[i]? = some oi:=by rfl)
 (hy:∀ w,S w→(execOp a.eval oi).run P w = .ok (.value v) w:=by intro w hSw;go_simp;try with_reducible rfl) (hw:Region.wanted oi (yielded ops a.tmps)=true:=by rfl)
 (hQ:∀ c b w,Q (.panic c) (b.put oi.dst v) w→Q (.panic c) b w:=by exact fun _ _ _ h=>h) (hs:Region.noSelect ops=true:=by kernel_rfl) (hf:Region.free md ops listed i=true:=by kernel_rfl) (hr:(Region.ready md ops listed).contains i=true:=by kernel_rfl):wpAnyH P md ops Q S (fuel+1) listed a w :=
 tkH i oi v hS (.inl ⟨hw,hy⟩) h hQ (at_list hi) hs hf hr
theorem tc (i:Nat) (hS:S w) {oi:Oper} {g o:Nat} {v:Value} (hc:∀ u,S u→u.cell? ⟨g,o,none⟩=some v) (h:wpAnyH P md ops Q S fuel (listed.setIfInBounds i true) (a.put oi.dst v) w) (hi:ops.toList[i]? = some oi:=by rfl)
 (hy:∀ w,w.cell? ⟨g,o,none⟩=some v→(execOp a.eval oi).run P w = .ok (.value v) w:=by intro w hc;go_simp;try with_reducible rfl) (hw:Region.wanted oi (yielded ops a.tmps)=true:=by rfl)
 (hQ:∀ c b w,Q (.panic c) (b.put oi.dst v) w→Q (.panic c) b w:=by exact fun _ _ _ h=>h) (hs:Region.noSelect ops=true:=by kernel_rfl) (hf:Region.free md ops listed i=true:=by kernel_rfl) (hr:(Region.ready md ops listed).contains i=true:=by kernel_rfl):wpAnyH P md ops Q S (fuel+1) listed a w :=
 tkH i oi v hS (.inl ⟨hw,fun u hu=>hy u (hc u hu)⟩) h hQ (at_list hi) hs hf hr
theorem tl (i:Nat) {V:World} {oi:Oper} {g off k:Nat} {cs:List Value} (r:RW V g off cs) (hS:Below V.heap.size V w) (ty:Nat) {d:TypeDesc} (hu:P.underlying ty=some d) (hin:(P.info? ty).map (·.size)=some cs.length)
 (h:wpAnyH P md ops Q (fun u=>Below V.heap.size V u) fuel (listed.setIfInBounds i true) (a.put oi.dst (.agg cs.toArray)) w) (hi:ops.toList[i]? = some oi:=by rfl) (ho:oi.op = .load ty (.tmp k):=by rfl)
 (hd:d.isRow=true:=by rfl) (hw:Region.wanted oi (yielded ops a.tmps)=true:=by rfl) (hx:a.eval (.tmp k) = .pointer (some ⟨g,off,none⟩):=by rfl)
 (hQ:∀ c b w,Q (.panic c) (b.put oi.dst (.agg cs.toArray)) w→Q (.panic c) b w:=by exact fun _ _ _ h=>h) (hs:Region.noSelect ops=true:=by kernel_rfl) (hf:Region.free md ops listed i=true:=by kernel_rfl) (hr:(Region.ready md ops listed).contains i=true:=by kernel_rfl):wpAnyH P md ops Q (fun u=>Below V.heap.size V u) (fuel+1) listed a w :=
 tkH i oi _ hS (ldH r ty k hu hin hd hw ho hx) h hQ (at_list hi) hs hf hr
theorem cl (i:Nat) {oi:Oper} {f:FuncId} {args:Array Value} {R:Ending→World→Prop} (c:Calls P f args w R) (h:∀ e w',R e w'→∃ r,e = .returned r∧S w'∧wpAnyH P md ops Q S fuel (listed.setIfInBounds i true) (a.put oi.dst r) w')
 (hi:ops.toList[i]? = some oi:=by rfl) (hr:Region.ready md ops listed=[i]:=by kernel_rfl) (hw:Region.wanted oi (yielded ops a.tmps)=true:=by rfl) (hrun:(execOp a.eval oi).run P w = .ok (.enter f args) w:=by kernel_rfl):wpAnyH P md ops Q S (fuel+1) listed a w :=
 callH i oi c h hr (at_list hi) hw hrun
theorem cn (i:Nat) {oi:Oper} {f:FuncId} {args:Array Value} {R:Ending→World→Prop} (c:Calls P f args w R) (h:∀ e w',R e w'→∃ r,e = .returned r∧Below w.heap.size w w'∧wpAnyH P md ops Q (fun u=>Below w'.heap.size w' u) fuel (listed.setIfInBounds i true) (a.put oi.dst r) w')
 (hi:ops.toList[i]? = some oi:=by rfl) (hr:Region.ready md ops listed=[i]:=by kernel_rfl) (hw:Region.wanted oi (yielded ops a.tmps)=true:=by rfl) (hrun:(execOp a.eval oi).run P w = .ok (.enter f args) w:=by kernel_rfl):wpAnyH P md ops Q (fun u=>Below w.heap.size w u) (fuel+1) listed a w :=
 callN i oi c h hr (at_list hi) hw hrun
theorem tk (i:Nat) (v:Value) (hS:S w) {oi:Oper} (hi:ops.toList[i]? = some oi:=by rfl) (hy:YieldsIf P ops S oi v a) (h:wpAnyH P md ops Q S fuel (listed.setIfInBounds i true) (a.put oi.dst v) w)
 (hQ:∀ c b w,Q (.panic c) (b.put oi.dst v) w→Q (.panic c) b w:=by exact fun _ _ _ h=>h) (hs:Region.noSelect ops=true:=by kernel_rfl) (hf:Region.free md ops listed i=true:=by kernel_rfl) (hr:(Region.ready md ops listed).contains i=true:=by kernel_rfl):wpAnyH P md ops Q S (fuel+1) listed a w :=
 tkH i oi v hS hy h hQ (at_list hi) hs hf hr
end
end Go.Proofs.YtpmkiegabaidjaaGreatDoor
namespace Go.Proofs.YtpmkiegabaidjaaGreatDoor
open Go.RowKit
def RdR (w:World) (g L:Nat) (B:Nat→Nat) (r:Rd):Prop:=∃ v,RW w g 0 [v,.int .i64 (r.at_:Int),.int .i64 r.e]∧BytesIn w v L B∧r.at_≤L
theorem RdR.keep {w w':World} {g L:Nat} {B:Nat→Nat} {r:Rd} (h:RdR w g L B r) (hb:Below w.heap.size w w'):RdR w' g L B r:=by
 obtain ⟨v,rw_,hv,ha⟩:=h
 exact ⟨v,rw_.still hb,hv.keep hb,ha⟩
theorem RdR.lt {w:World} {g L:Nat} {B:Nat→Nat} {r:Rd} (h:RdR w g L B r):g<w.heap.size:=by
 obtain ⟨_,r,_⟩:=h
 exact r.lt
end Go.Proofs.YtpmkiegabaidjaaGreatDoor
namespace Go.Proofs.YtpmkiegabaidjaaGreatDoor
open Go.RowKit
theorem i64_or_nat (a b:Nat) (ha:a<9223372036854775808) (hb:b<9223372036854775808):bits .or .i64 (a:Int) (b:Int)=((a ||| b:Nat):Int):=by
 have hx:a ||| b<2 ^ 63:=Nat.or_lt_two_pow (by omega) (by omega)
 show IntKind.i64.wrap ((BitVec.ofInt 64 (a:Int) ||| BitVec.ofInt 64 (b:Int)).toNat:Int)=_
 rw [BitVec.toNat_or,show (BitVec.ofInt 64 (a:Int)).toNat=a by simp;omega,show (BitVec.ofInt 64 (b:Int)).toNat=b by simp;omega]
 simp only [IntKind.wrap_i64]
 omega
end Go.Proofs.YtpmkiegabaidjaaGreatDoor
namespace Go.Proofs.YtpmkiegabaidjaaGreatDoor
open Go.RowKit
theorem RW.put {w:World} {g:Nat} {vs:List Value} (r:RW w g 0 vs) (i:Nat) (hi:i<vs.length) (y:Value):RW (w.setCell ⟨g,i,none⟩ y) g 0 (vs.set i y):=by
 have c:w.cell? ⟨g,i,none⟩=some vs[i]:=by
  have:=r.range i vs[i] (List.getElem?_eq_getElem hi)
  rwa [Nat.zero_add] at this
 refine ⟨fun j v hv => ?_,fun j hj => ?_,by rw [World.size_setCell];exact r.lt⟩
 · by_cases e:j=i
   · subst e
     rw [List.getElem?_set_self hi] at hv
     cases hv
     rw [Nat.zero_add]
     exact World.cell?_setCell_same _ _ _ c
   · have hne:(⟨g,i,none⟩:Addr)≠⟨g,0+j,none⟩:=fun e'=>by injection e';omega
     rw [World.cell?_setCell_other _ _ _ _ hne]
     refine r.range j v ?_
     rw [List.getElem?_set_ne (fun e'=>e e'.symm)] at hv
     exact hv
 · rw [List.length_set] at hj
   rw [World.frozen?_setCell]
   refine ⟨?_,(r.there j hj).2⟩
   by_cases e:j=i
   · subst e
     rw [Nat.zero_add,World.cell?_setCell_same _ _ _ c];rfl
   · have hne:(⟨g,i,none⟩:Addr)≠⟨g,0+j,none⟩:=fun e'=>by injection e';omega
     rw [World.cell?_setCell_other _ _ _ _ hne]
     exact (r.there j hj).1
end Go.Proofs.YtpmkiegabaidjaaGreatDoor
namespace Go.Proofs.YtpmkiegabaidjaaGreatDoor
open Go.RowKit
theorem onlyV {P:Program} {md:Region.Mode} {ops:Array Oper} {Q:Exit→Act→World→Prop} {S:World→Prop} {fuel:Nat} {listed:Array Bool} {a:Act} {w:World} (i:Nat) {oi:Oper} {v:Value} {w':World} (hrun:(execOp a.eval oi).run P w = .ok (.value v) w') (hS:S w') (h:wpAnyH P md ops Q S fuel (listed.setIfInBounds i true) (a.put oi.dst v) w')
 (hi:ops.toList[i]? = some oi:=by rfl) (hr:Region.ready md ops listed=[i]:=by kernel_rfl) (hw:Region.wanted oi (yielded ops a.tmps)=true:=by rfl):wpAnyH P md ops Q S (fuel+1) listed a w:=by
 refine wpAnyH_ready hr (by simp) (AllReadyH.cons (at_list hi) (fun K hK => ?_) AllReadyH.nil)
 rw [if_pos hw]
 unfold Oper.wp
 rw [hrun,Oper.upon_value]
 exact hK.out _ _ hS (fun _=>h)
theorem exec_append {o:Oper} {a:Act} {w w':World} {v':Value} (s x:Operand) (ho:o.op = .call { callee := .builtin .append,args:=#[s,x],argTypes:=#[29,29] }) (hty:o.type=29) {sv xv:Value} (hs:a.eval s=sv) (hx:a.eval x=xv) (hrun:(Builtin.append_ #[29,29] 29 #[sv,xv]).run Tryz.prog w = .ok v' w'):(execOp a.eval o).run Tryz.prog w = .ok (.value v') w':=by
 simp [execOp,ho,hty,resolve,invoke,builtin,hs,hx,hrun,Result.andThen]
end Go.Proofs.YtpmkiegabaidjaaGreatDoor
namespace Go.Proofs.YtpmkiegabaidjaaGreatDoor
open Go.RowKit
def BI (lo hi:Nat) (w:World) (v:Value) (n:Nat) (B:Nat→Nat):Prop:=(∃ xo,v = .slice xo 0 0∧n=0)∨∃ bb ob cap,v = .slice (some ⟨bb,ob,none⟩) n cap∧(lo≤bb∧bb<hi)∧n≤cap∧∀ j,j<n→w.cell? ⟨bb,ob+j,none⟩=some (.int .u8 (B j))
theorem BI.of {lo hi:Nat} {w:World} {v:Value} {n:Nat} {B:Nat→Nat} (h:BI lo hi w v n B) (hh:hi≤w.heap.size):BytesIn w v n B:=by
 rcases h with h | ⟨bb,ob,cap,e,hb,hc,hl⟩
 · exact .inl h
 · exact .inr ⟨bb,ob,cap,e,Nat.lt_of_lt_of_le hb.2 hh,hc,hl⟩
theorem BI.all {w:World} {v:Value} {n:Nat} {B:Nat→Nat} (h:BytesIn w v n B):BI 0 w.heap.size w v n B:=by
 rcases h with h | ⟨bb,ob,cap,e,hb,hc,hl⟩
 · exact .inl h
 · exact .inr ⟨bb,ob,cap,e,⟨Nat.zero_le _,hb⟩,hc,hl⟩
theorem BI.own {base:Nat} {w:World} {v:Value} {n:Nat} {X:Nat→Nat} (h:Own base w v n X):BI base w.heap.size w v n X:=by
 rcases h.form with ⟨rfl,rfl⟩ | ⟨g,cap,rfl,h1,h2,h3,h4⟩
 · exact .inl ⟨none,rfl,rfl⟩
 · exact .inr ⟨g,0,cap,rfl,⟨h1,h2⟩,h3,fun j hj=>(h4 j hj).1⟩
theorem BI.wide {lo hi lo' hi':Nat} {w:World} {v:Value} {n:Nat} {B:Nat→Nat} (h:BI lo hi w v n B) (h1:lo'≤lo) (h2:hi≤hi'):BI lo' hi' w v n B:=by
 rcases h with h | ⟨bb,ob,cap,e,hb,hc,hl⟩
 · exact .inl h
 · exact .inr ⟨bb,ob,cap,e,⟨by omega,by omega⟩,hc,hl⟩
theorem BI.cong {lo hi:Nat} {w:World} {v:Value} {n:Nat} {B C:Nat→Nat} (h:BI lo hi w v n B) (e:∀ j,j<n→B j=C j):BI lo hi w v n C:=by
 rcases h with h | ⟨bb,ob,cap,e',hb,hc,hl⟩
 · exact .inl h
 · exact .inr ⟨bb,ob,cap,e',hb,hc,fun j hj=>by rw [hl j hj,e j hj]⟩
theorem BI.same {lo hi:Nat} {w w':World} {v:Value} {n:Nat} {B:Nat→Nat} (h:BI lo hi w v n B) (e:∀ b o z,lo≤b→b<hi→w.cell? ⟨b,o,none⟩=some (.int .u8 z)→w'.cell? ⟨b,o,none⟩=some (.int .u8 z)):BI lo hi w' v n B:=by
 rcases h with h | ⟨bb,ob,cap,e',hb,hc,hl⟩
 · exact .inl h
 · exact .inr ⟨bb,ob,cap,e',hb,hc,fun j hj=>e _ _ _ hb.1 hb.2 (hl j hj)⟩
theorem BI.below {lo hi M:Nat} {w w':World} {v:Value} {n:Nat} {B:Nat→Nat} (h:BI lo hi w v n B) (hb:Below M w w') (hM:hi≤M):BI lo hi w' v n B :=
 h.same fun b o _ _ h2 hc=>(hb.cell (p:=⟨b,o,none⟩) (Nat.lt_of_lt_of_le h2 hM)).trans hc
theorem BI.put {lo hi:Nat} {w:World} {v:Value} {n:Nat} {B:Nat→Nat} (h:BI lo hi w v n B) {g o:Nat} {u:Value} (hc:w.cell? ⟨g,o,none⟩=some u) (hu:∀ z,u ≠ .int .u8 z) (y:Value):BI lo hi (w.setCell ⟨g,o,none⟩ y) v n B:=by
 refine h.same fun b p z _ _ hz => ?_
 by_cases e:(⟨b,p,none⟩:Addr)=⟨g,o,none⟩
 · rw [e,hc] at hz
   exact absurd (Option.some.inj hz) (hu z)
 · exact (World.cell?_setCell_other _ _ _ _ (fun h=>e h.symm)).trans hz
theorem BI.cut {lo hi:Nat} {w:World} {v:Value} {L:Nat} {B:Nat→Nat} (hv:BI lo hi w v L B) (m:Nat) (hm:m≤L):∃ xo cx x1 c1 x2 c2,v = .slice xo L cx∧(xo=none→cx=0)
 ∧ (∀ W:World,(Instr.sliceAt 29 (.slice xo L cx) none (some (.int .i64 m)) none).run Tryz.prog W = .ok (.slice x1 m c1) W)∧BI lo hi w (.slice x1 m c1) m B
 ∧ (∀ W:World,(Instr.sliceAt 29 (.slice xo L cx) (some (.int .i64 m)) none none).run Tryz.prog W = .ok (.slice x2 (L - m) c2) W)∧BI lo hi w (.slice x2 (L - m) c2) (L - m) (fun j=>B (m+j)):=by
 have u1:Tryz.prog.underlying 29=some (.slice (Tryz.prog.elem 29)):=by kernel_rfl
 have u2:Tryz.prog.elem 29=5:=by kernel_rfl
 have u3:∀ W,((sizeOf 5).run Tryz.prog W) = .ok 1 W:=fun W=>by kernel_rfl
 rcases hv with ⟨xo,rfl,rfl⟩ | ⟨bb,ob,cap,rfl,hb,hc,hcell⟩
 · obtain rfl:m=0:=by omega
   refine ⟨xo,0,xo,0,xo,0,rfl,fun _=>rfl,fun W => ?_,.inl ⟨xo,rfl,rfl⟩,fun W => ?_,.inl ⟨xo,rfl,rfl⟩⟩
   · rw [run_sliceAt_slice W 29 _ _ _ _ u1,run_slice_h W 29 _ 0 0 u1 .i64 _ (by omega) (by omega),u2,u3]
     cases xo <;> simp [sliced]
   · rw [run_sliceAt_slice W 29 _ _ _ _ u1,run_slice_l W 29 _ 0 0 u1 .i64 _ (by omega) (by omega),u2,u3]
     cases xo <;> simp [sliced]
 · have h1:∀ W:World,(Instr.sliceAt 29 (.slice (some ⟨bb,ob,none⟩) L cap) none (some (.int .i64 m)) none).run Tryz.prog W = .ok (.slice (some ⟨bb,ob,none⟩) m cap) W:=fun W=>by
    rw [run_sliceAt_slice W 29 _ _ _ _ u1,run_slice_h W 29 _ L cap u1 .i64 _ (by omega) (by omega),u2,u3]
    simp [sliced,Addr.add_mid]
   by_cases ha:cap=m
   · refine ⟨some ⟨bb,ob,none⟩,cap,some ⟨bb,ob,none⟩,cap,some ⟨bb,ob,none⟩,cap - m,rfl,(fun e=>by cases e),h1,.inr ⟨bb,ob,cap,rfl,hb,by omega,fun j hj=>hcell j (by omega)⟩,fun W => ?_,.inr ⟨bb,ob,cap - m,rfl,hb,by omega,fun j hj=>absurd hj (by omega)⟩⟩
     rw [run_sliceAt_slice W 29 _ _ _ _ u1,run_slice_l W 29 _ L cap u1 .i64 _ (by omega) (by omega),u2,u3]
     simp [sliced,ha]
   · refine ⟨some ⟨bb,ob,none⟩,cap,some ⟨bb,ob,none⟩,cap,some ⟨bb,ob+m,none⟩,cap - m,rfl,(fun e=>by cases e),h1,.inr ⟨bb,ob,cap,rfl,hb,by omega,fun j hj=>hcell j (by omega)⟩,fun W => ?_,.inr ⟨bb,ob+m,cap - m,rfl,hb,by omega,fun j hj=>by rw [Nat.add_assoc];exact hcell (m+j) (by omega)⟩⟩
     rw [run_sliceAt_slice W 29 _ _ _ _ u1,run_slice_l W 29 _ L cap u1 .i64 _ (by omega) (by omega),u2,u3]
     simp [sliced,Addr.add_mid,ha]
theorem u64_or_nat (a b:Nat) (ha:a<18446744073709551616) (hb:b<18446744073709551616):bits .or .u64 (a:Int) (b:Int)=((a ||| b:Nat):Int):=by
 have hx:a ||| b<2 ^ 64:=Nat.or_lt_two_pow (by omega) (by omega)
 show IntKind.u64.wrap ((BitVec.ofInt 64 (a:Int) ||| BitVec.ofInt 64 (b:Int)).toNat:Int)=_
 rw [BitVec.toNat_or,show (BitVec.ofInt 64 (a:Int)).toNat=a by simp;omega,show (BitVec.ofInt 64 (b:Int)).toNat=b by simp;omega]
 show ((a ||| b:Nat):Int)%18446744073709551616=_
 omega
end Go.Proofs.YtpmkiegabaidjaaGreatDoor
