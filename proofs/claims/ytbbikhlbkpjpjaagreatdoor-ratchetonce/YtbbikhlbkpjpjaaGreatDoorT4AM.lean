/- What the proof stands on: T4A, R7M. -/
import Derived.Test.YtbbikhlbkpjpjaaGreatDoorR8TM
import Derived.MapKept
import Derived.Maps.RangeRun
namespace Go.Proofs.YtbbikhlbkpjpjaaGreatDoor
open Go.RowKit Go.MapKept
def MpAt (w:World) (b:Nat) (f:Int→Option Value):Prop :=
 ∃ es clock,w.heap[b]? = some (.map es clock)∧Stamped es clock∧(∀ x∈es.toList,IsKey (.int .i64) x.key)∧∀ k v,f k=some v↔∃ e∈es.toList,e.key = .int .i64 k∧e.val=v
def upm (f:Int→Option Value) (k:Int) (v:Option Value):Int→Option Value:=fun j=>if j=k then v else f j
theorem MpAt.lt {w:World} {b:Nat} {f:Int→Option Value} (h:MpAt w b f):b<w.heap.size:=by
 obtain ⟨es,clock,h,-⟩:=h
 exact (Array.getElem?_eq_some_iff.1 h).1
theorem MpAt.same {w w':World} {b:Nat} {f:Int→Option Value} (h:MpAt w b f) (e:w'.heap[b]? = w.heap[b]?):MpAt w' b f:=by
 unfold MpAt;rw [e];exact h
theorem MpAt.below {w w':World} {b n:Nat} {f:Int→Option Value} (h:MpAt w b f) (hb:Below n w w') (hn:b<n):MpAt w' b f:=h.same (hb.block b hn)
theorem MpAt.congr {w:World} {b:Nat} {f g:Int→Option Value} (h:MpAt w b f) (e:∀ k,f k=g k):MpAt w b g:=by
 have:f=g:=funext e
 rw [←this];exact h
theorem MpAt.nocell {w:World} {b:Nat} {f:Int→Option Value} (h:MpAt w b f) (o:Nat):w.cell? ⟨b,o,none⟩=none:=by
 obtain ⟨es,clock,h,-⟩:=h
 simp [World.cell?,h]
theorem mp_empty (w:World):MpAt (w.alloc (.map #[] 0)) w.heap.size (fun _=>none) :=
 ⟨#[],0,World.alloc_heap_new w _,stamped_empty 0,by simp,by simp⟩
theorem mp_look {w:World} {b:Nat} {f:Int→Option Value} (h:MpAt w b f) {P:Program} {mt et:TypeId} {kt:TypeId} (hm:P.underlying mt=some (.map kt et)) (hk:P.underlying kt=some (.int .i64)) {z:Value} (hz:∀ w:World,(zeroValue et).run P w = .ok z w) (k:Int) (c:Bool) :
 (Instr.lookup mt (.map (some b)) (.int .i64 k) c).run P w = .ok (if c then .tuple #[(f k).getD z,.bool (f k).isSome] else (f k).getD z) w:=by
 obtain ⟨es,clock,hb,hs,hks,hf⟩:=h
 have hkk:IsKey (.int .i64) (.int .i64 k):=rfl
 rcases findNow_spec hkk es.toList 0 hks with ⟨h1,h2⟩ | ⟨j,e,h1,h2,h3⟩
 · have hn:f k=none:=by
    cases hfk:f k with
    | none=>rfl
    | some v=>obtain ⟨e,he,h3,-⟩:=(hf k v).1 hfk;exact absurd h3 (h2 e he)
   simp [Instr.lookup,run_underlying hm,MapKept.run_getObj_map hb,run_checkKey hk hkk,run_findKey hk h1,Result.andThen,hz,hn]
 · have hj:e∈es.toList:=List.mem_of_getElem? h2
   have hn:f k=some e.val:=(hf k e.val).2 ⟨e,hj,h3,rfl⟩
   simp [Instr.lookup,run_underlying hm,MapKept.run_getObj_map hb,run_checkKey hk hkk,run_findKey hk h1,Result.andThen,hn]
theorem nodup_at {α:Type} {l:List α} (h:l.Nodup) {i j:Nat} {a:α} (hi:l[i]? = some a) (hj:l[j]? = some a):i=j:=by
 obtain ⟨li,ei⟩:=List.getElem?_eq_some_iff.1 hi
 obtain ⟨lj,ej⟩:=List.getElem?_eq_some_iff.1 hj
 have h':=List.pairwise_iff_getElem.1 h
 rcases Nat.lt_trichotomy i j with hl | hl | hl
 · exact absurd (ei.trans ej.symm) (h' i j li lj hl)
 · exact hl
 · exact absurd (ej.trans ei.symm) (h' j i lj li hl)
theorem but_set {w:World} {b:Nat} (o:Obj):But (fun k=>k=b) w { w with heap:=w.heap.setIfInBounds b o }:=⟨rfl,rfl,rfl,by simp,fun k _ hb=>by simp [Ne.symm hb]⟩
theorem mp_put {w:World} {b:Nat} {f:Int→Option Value} (h:MpAt w b f) {P:Program} {mt et:TypeId} {kt:TypeId} (hm:P.underlying mt=some (.map kt et)) (hk:P.underlying kt=some (.int .i64)) (k:Int) (v:Value) :
 ∃ w',(Instr.mapUpdate mt (.map (some b)) (.int .i64 k) v).run P w = .ok () w'∧MpAt w' b (upm f k (some v))∧But (fun j=>j=b) w w'∧w'.heap.size=w.heap.size:=by
 obtain ⟨es,clock,hb,hs,hks,hf⟩:=h
 have hkk:IsKey (.int .i64) (.int .i64 k):=rfl
 rcases findNow_spec hkk es.toList 0 hks with ⟨h1,h2⟩ | ⟨j,e,h1,h2,h3⟩
 · refine ⟨_,by simp [Instr.mapUpdate,run_underlying hm,MapKept.run_getObj_map hb,run_checkKey hk hkk,run_findKey hk h1,run_setObj_map _ hb,Result.andThen];rfl,⟨_,_,(heap_set hb).1,stamped_push hs h2,?_,?_⟩,but_set _,by simp⟩
   · intro x hx
     simp only [Array.toList_push,List.mem_append,List.mem_singleton] at hx
     rcases hx with hx | rfl
     · exact hks x hx
     · exact hkk
   · intro q u
     simp only [Array.toList_push,List.mem_append,List.mem_singleton,upm]
     by_cases e:q=k
     · subst e
       simp only [if_true]
       constructor
       · rintro ⟨rfl⟩;exact ⟨_,.inr rfl,rfl,rfl⟩
       · rintro ⟨e',he' | rfl,h4,h5⟩
         · exact absurd h4 (h2 e' he')
         · rw [←h5]
     · rw [if_neg e,hf q u]
       constructor
       · rintro ⟨e',he',h4⟩;exact ⟨e',.inl he',h4⟩
       · rintro ⟨e',he' | rfl,h4,h5⟩
         · exact ⟨e',he',h4,h5⟩
         · simp at h4;exact absurd h4.symm e
 · have hj:es[j]? = some e:=by simpa using h2
   have hkey:∀ e',es[j]? = some e'→({ e' with key := .int .i64 k,val:=v }:MapEntry).key=e'.key:=fun e' he'=>by rw [hj] at he';cases he';exact h3.symm
   refine ⟨{ w with heap:=w.heap.setIfInBounds b (.map (es.modify j fun e=>{ e with key := .int .i64 k,val:=v }) clock) },by simp [Instr.mapUpdate,run_underlying hm,MapKept.run_getObj_map hb,run_checkKey hk hkk,run_findKey hk h1,hj,h3,run_keyThatStays hkk,run_setObj_map _ hb,Result.andThen],⟨_,_,(heap_set hb).1,stamped_modify hs _ _ (fun _ _=>rfl) (fun e' _ he'=>hkey e' he'),isKey_modify hks _ _ hkey,?_⟩,but_set _,by simp⟩
   intro q u
   have hmem:∀ x:MapEntry,x∈(es.modify j fun e=>{ e with key := .int .i64 k,val:=v }).toList↔x={ e with key := .int .i64 k,val:=v }∨(x∈es.toList∧x.key ≠ .int .i64 k):=by
    intro x
    constructor
    · intro hx
      obtain ⟨i,hi⟩:=List.getElem?_of_mem hx
      rw [Array.getElem?_toList,Array.getElem?_modify] at hi
      by_cases hij:j=i
      · subst hij;rw [if_pos rfl,hj] at hi;simp at hi;exact .inl hi.symm
      · rw [if_neg hij] at hi
        have hi':es.toList[i]? = some x:=by rw [Array.getElem?_toList];exact hi
        refine .inr ⟨List.mem_of_getElem? hi',fun hxk=>hij ?_⟩
        have hn:=hs.2.2
        have e1:(es.toList.map (·.key))[i]? = some (.int .i64 k):=by rw [List.getElem?_map,hi'];simp [hxk]
        have e2:(es.toList.map (·.key))[j]? = some (.int .i64 k):=by rw [List.getElem?_map,h2];simp [h3]
        exact nodup_at hn e2 e1
    · rintro (rfl | ⟨hx,hxk⟩)
      · refine List.mem_of_getElem? (i:=j) ?_
        rw [Array.getElem?_toList,Array.getElem?_modify,if_pos rfl,hj];rfl
      · obtain ⟨i,hi⟩:=List.getElem?_of_mem hx
        have hij:j≠i:=fun e'=>by subst e';rw [h2] at hi;cases hi;exact hxk h3
        refine List.mem_of_getElem? (i:=i) ?_
        rw [Array.getElem?_toList,Array.getElem?_modify,if_neg hij];simpa using hi
   unfold upm
   by_cases eq:q=k
   · subst eq
     simp only [if_true]
     constructor
     · rintro ⟨rfl⟩;exact ⟨_,(hmem _).2 (.inl rfl),rfl,rfl⟩
     · rintro ⟨e',he',h4,h5⟩
       rcases (hmem e').1 he' with rfl | ⟨-,hne⟩
       · rw [←h5]
       · exact absurd h4 hne
   · rw [if_neg eq,hf q u]
     constructor
     · rintro ⟨e',he',h4,h5⟩
       exact ⟨e',(hmem e').2 (.inr ⟨he',fun h6=>by rw [h4] at h6;simp at h6;exact eq h6⟩),h4,h5⟩
     · rintro ⟨e',he',h4,h5⟩
       rcases (hmem e').1 he' with rfl | ⟨hm',-⟩
       · simp at h4;exact absurd h4.symm eq
       · exact ⟨e',hm',h4,h5⟩
theorem mem_eraseIdx {es:Array MapEntry} {clock:Nat} (hs:Stamped es clock) {j:Nat} {e:MapEntry} (hj:es.toList[j]? = some e) (x:MapEntry):x∈(es.eraseIdxIfInBounds j).toList↔x∈es.toList∧x.key≠e.key:=by
 have hjl:j<es.size:=by have:=(List.getElem?_eq_some_iff.1 hj).1;simpa using this
 have e1:(es.eraseIdxIfInBounds j).toList=es.toList.eraseIdx j:=by
  unfold Array.eraseIdxIfInBounds
  rw [dif_pos hjl,Array.toList_eraseIdx]
 rw [e1,List.mem_eraseIdx_iff_getElem?]
 constructor
 · rintro ⟨i,hij,hi⟩
   refine ⟨List.mem_of_getElem? hi,fun hk=>hij ?_⟩
   have hn:=hs.2.2
   have e1:(es.toList.map (·.key))[i]? = some e.key:=by rw [List.getElem?_map,hi];simp [hk]
   have e2:(es.toList.map (·.key))[j]? = some e.key:=by rw [List.getElem?_map,hj];rfl
   exact nodup_at hn e1 e2
 · rintro ⟨hx,hk⟩
   obtain ⟨i,hi⟩:=List.getElem?_of_mem hx
   exact ⟨i,fun e'=>by subst e';rw [hj] at hi;cases hi;exact hk rfl,hi⟩
theorem mp_del {w:World} {b:Nat} {f:Int→Option Value} (h:MpAt w b f) {P:Program} {mt et ty:TypeId} {kt:TypeId} (hm:P.underlying mt=some (.map kt et)) (hk:P.underlying kt=some (.int .i64)) (k:Int) :
 ∃ w',(Builtin.delete_ #[mt,kt] ty #[.map (some b),.int .i64 k]).run P w = .ok (.tuple #[]) w'∧MpAt w' b (upm f k none)∧But (fun j=>j=b) w w'∧w'.heap.size=w.heap.size:=by
 obtain ⟨es,clock,hb,hs,hks,hf⟩:=h
 have hkk:IsKey (.int .i64) (.int .i64 k):=rfl
 rcases findNow_spec hkk es.toList 0 hks with ⟨h1,h2⟩ | ⟨j,e,h1,h2,h3⟩
 · refine ⟨_,by simp [Builtin.delete_,run_underlying hm,MapKept.run_getObj_map hb,run_checkKey hk hkk,run_findKey hk h1,run_setObj_map _ hb,Result.andThen],⟨_,_,(heap_set hb).1,hs,hks,?_⟩,but_set _,by simp⟩
   intro q u
   unfold upm
   by_cases e:q=k
   · subst e
     simp only [if_true]
     constructor
     · intro h;cases h
     · rintro ⟨e',he',h4,-⟩;exact absurd h4 (h2 e' he')
   · rw [if_neg e];exact hf q u
 · refine ⟨_,by simp [Builtin.delete_,run_underlying hm,MapKept.run_getObj_map hb,run_checkKey hk hkk,run_findKey hk h1,run_setObj_map _ hb,Result.andThen],⟨_,_,(heap_set hb).1,stamped_erase hs j,?_,?_⟩,but_set _,by simp⟩
   · intro x hx
     exact hks x ((mem_eraseIdx hs h2 x).1 hx).1
   · intro q u
     unfold upm
     by_cases e':q=k
     · subst e'
       simp only [if_true]
       constructor
       · intro h;cases h
       · rintro ⟨x,hx,h4,-⟩;exact absurd (h4.trans h3.symm) ((mem_eraseIdx hs h2 x).1 hx).2
     · rw [if_neg e',hf q u]
       constructor
       · rintro ⟨x,hx,h4,h5⟩;exact ⟨x,(mem_eraseIdx hs h2 x).2 ⟨hx,fun h6=>by rw [h4,h3] at h6;simp at h6;exact e' h6⟩,h4,h5⟩
       · rintro ⟨x,hx,h4⟩;exact ⟨x,((mem_eraseIdx hs h2 x).1 hx).1,h4⟩
end Go.Proofs.YtbbikhlbkpjpjaaGreatDoor
namespace Go.Proofs.YtbbikhlbkpjpjaaGreatDoor
open Go.RowKit Go.MapKept
section
variable {K:Type}
def MkAt (kv:K→Value) (w:World) (b:Nat) (f:K→Option Value):Prop :=
 ∃ es clock,w.heap[b]? = some (.map es clock)∧Stamped es clock∧(∀ x∈es.toList,∃ k,x.key=kv k)∧∀ k v,f k=some v↔∃ e∈es.toList,e.key=kv k∧e.val=v
variable {kv:K→Value}
theorem MkAt.lt {w:World} {b:Nat} {f:K→Option Value} (h:MkAt kv w b f):b<w.heap.size:=by
 obtain ⟨es,clock,h,-⟩:=h
 exact (Array.getElem?_eq_some_iff.1 h).1
theorem MkAt.one {w:World} {b:Nat} {f:K→Option Value} (h:MkAt kv w b f) {w':World} (e:w'.heap[b]? = w.heap[b]?):MkAt kv w' b f:=by
 unfold MkAt;rw [e];exact h
theorem MkAt.below {w w':World} {b n:Nat} {f:K→Option Value} (h:MkAt kv w b f) (hb:Below n w w') (hn:b<n):MkAt kv w' b f:=h.one (hb.block b hn)
theorem MkAt.congr {w:World} {b:Nat} {f g:K→Option Value} (h:MkAt kv w b f) (e:∀ k,f k=g k):MkAt kv w b g:=by
 have:f=g:=funext e
 rw [←this];exact h
theorem MkAt.nocell {w:World} {b:Nat} {f:K→Option Value} (h:MkAt kv w b f) (o:Nat):w.cell? ⟨b,o,none⟩=none:=by
 obtain ⟨es,clock,h,-⟩:=h
 simp [World.cell?,h]
theorem mk_empty (w:World):MkAt kv (w.alloc (.map #[] 0)) w.heap.size (fun _=>none) :=
 ⟨#[],0,World.alloc_heap_new w _,stamped_empty 0,by simp,by simp⟩
theorem keys_modify {es:Array MapEntry} (h:∀ x∈es.toList,∃ k,x.key=kv k) (j:Nat) (g:MapEntry→MapEntry) (k:K) (hg:∀ e,(g e).key=kv k):∀ x∈(es.modify j g).toList,∃ k,x.key=kv k:=fun x hx=>by
 obtain ⟨i,hi⟩:=List.getElem?_of_mem hx
 rw [Array.getElem?_toList,Array.getElem?_modify] at hi
 by_cases hij:j=i
 · rw [if_pos hij] at hi
   obtain ⟨e,-,rfl⟩:=Option.map_eq_some_iff.1 hi
   exact ⟨k,hg e⟩
 · rw [if_neg hij] at hi
   exact h x (List.mem_of_getElem? (i:=i) (by rw [Array.getElem?_toList];exact hi))
end
section
variable {K:Type} [DecidableEq K] {kv:K→Value}
structure KeyLw (P:Program) (kt:TypeId) (kv:K→Value):Prop where
 str:∃ fs,P.underlying kt=some (.struct fs)
 row:∀ k,∃ cs,kv k = .agg cs
 chk:∀ (w:World) (e:Bool) (k:K),(Instr.checkKey e 10000 kt (kv k)).run P w = .ok () w
 same:∀ (w:World) (a b:K),(Op.equal kt (kv a) (kv b)).run P w = .ok (decide (a=b)) w
 inj:∀ a b,kv a=kv b→a=b
 stays:∀ (w:World) (k:K),(Instr.keyThatStays (kv k) (kv k)).run P w = .ok (kv k) w
def upk (f:K→Option Value) (k:K) (v:Option Value):K→Option Value:=fun j=>if j=k then v else f j
theorem ask_spec {P:Program} {kt:TypeId} (L:KeyLw P kt kv) (w:World) (k:K):∀ (l:List MapEntry) (i:Nat),(∀ x∈l,∃ k',x.key=kv k') →
 ((Instr.findAsking kt (kv k) l i).run P w = .ok none w∧∀ x∈l,x.key≠kv k)∨∃ j e,(Instr.findAsking kt (kv k) l i).run P w = .ok (some (i+j,e.val)) w∧l[j]? = some e∧e.key=kv k
 | [],i,_ => .inl ⟨by simp [Instr.findAsking],by simp⟩
 | e :: es,i,h=>by
  obtain ⟨k',hk'⟩:=h e (.head _)
  by_cases hkk:k=k'
  · subst hkk
    refine .inr ⟨0,e,?_,rfl,hk'⟩
    simp [Instr.findAsking,hk',L.same,Result.andThen]
  · rcases ask_spec L w k es (i+1) (fun x hx=>h x (.tail _ hx)) with ⟨h1,h2⟩ | ⟨j,e',h1,h2,h3⟩
    · refine .inl ⟨by simp [Instr.findAsking,hk',L.same,hkk,Result.andThen,h1],fun x hx => ?_⟩
      rcases List.mem_cons.1 hx with rfl | hx
      · exact fun e2=>hkk (L.inj _ _ (hk'.symm.trans e2)).symm
      · exact h2 x hx
    · refine .inr ⟨j+1,e',?_,by simpa using h2,h3⟩
      simp [Instr.findAsking,hk',L.same,hkk,Result.andThen,h1]
      omega
theorem key_spec {P:Program} {kt:TypeId} (L:KeyLw P kt kv) (w:World) (k:K) (l:List MapEntry) (h:∀ x∈l,∃ k',x.key=kv k') :
 ((Instr.findKey kt (kv k) l).run P w = .ok none w∧∀ x∈l,x.key≠kv k)∨∃ j e,(Instr.findKey kt (kv k) l).run P w = .ok (some (j,e.val)) w∧l[j]? = some e∧e.key=kv k:=by
 obtain ⟨fs,hfs⟩:=L.str
 cases l with
 | nil=>exact .inl ⟨by simp [Instr.findKey,run_underlying hfs,Result.andThen,Instr.findNow],by simp⟩
 | cons e es =>
  have e0:(Instr.findKey kt (kv k) (e :: es)).run P w=(Instr.findAsking kt (kv k) (e :: es) 0).run P w:=by
   obtain ⟨k',hk'⟩:=h e (.head _)
   obtain ⟨cs,hcs⟩:=L.row k
   obtain ⟨ds,hds⟩:=L.row k'
   simp [Instr.findKey,run_underlying hfs,Result.andThen,Instr.findNow,Instr.sameNow,hcs]
  rw [e0]
  have:=ask_spec L w k (e :: es) 0 h
  simpa using this
theorem mk_look {w:World} {b:Nat} {f:K→Option Value} (h:MkAt kv w b f) {P:Program} {mt et:TypeId} {kt:TypeId} (hm:P.underlying mt=some (.map kt et)) (L:KeyLw P kt kv) {z:Value} (hz:∀ w:World,(zeroValue et).run P w = .ok z w) (k:K) (c:Bool) :
 (Instr.lookup mt (.map (some b)) (kv k) c).run P w = .ok (if c then .tuple #[(f k).getD z,.bool (f k).isSome] else (f k).getD z) w:=by
 obtain ⟨es,clock,hb,hs,hks,hf⟩:=h
 have hck:=L.chk
 rcases key_spec L w k es.toList hks with ⟨h1,h2⟩ | ⟨j,e,h1,h2,h3⟩
 · have hn:f k=none:=by
    cases hfk:f k with
    | none=>rfl
    | some v=>obtain ⟨e,he,h3,-⟩:=(hf k v).1 hfk;exact absurd h3 (h2 e he)
   simp [Instr.lookup,run_underlying hm,MapKept.run_getObj_map hb,hck,h1,Result.andThen,hz,hn]
 · have hj:e∈es.toList:=List.mem_of_getElem? h2
   have hn:f k=some e.val:=(hf k e.val).2 ⟨e,hj,h3,rfl⟩
   simp [Instr.lookup,run_underlying hm,MapKept.run_getObj_map hb,hck,h1,Result.andThen,hn]
theorem mk_put {w:World} {b:Nat} {f:K→Option Value} (h:MkAt kv w b f) {P:Program} {mt et:TypeId} {kt:TypeId} (hm:P.underlying mt=some (.map kt et)) (L:KeyLw P kt kv) (k:K) (v:Value) :
 ∃ w',(Instr.mapUpdate mt (.map (some b)) (kv k) v).run P w = .ok () w'∧MkAt kv w' b (upk f k (some v))∧But (fun j=>j=b) w w'∧w'.heap.size=w.heap.size:=by
 obtain ⟨es,clock,hb,hs,hks,hf⟩:=h
 have hck:=L.chk
 rcases key_spec L w k es.toList hks with ⟨h1,h2⟩ | ⟨j,e,h1,h2,h3⟩
 · refine ⟨_,by simp [Instr.mapUpdate,run_underlying hm,MapKept.run_getObj_map hb,hck,h1,run_setObj_map _ hb,Result.andThen];rfl,⟨_,_,(heap_set hb).1,stamped_push hs h2,?_,?_⟩,but_set _,by simp⟩
   · intro x hx
     simp only [Array.toList_push,List.mem_append,List.mem_singleton] at hx
     rcases hx with hx | rfl
     · exact hks x hx
     · exact ⟨k,rfl⟩
   · intro q u
     simp only [Array.toList_push,List.mem_append,List.mem_singleton,upk]
     by_cases e:q=k
     · subst e
       simp only [if_true]
       constructor
       · rintro ⟨rfl⟩;exact ⟨_,.inr rfl,rfl,rfl⟩
       · rintro ⟨e',he' | rfl,h4,h5⟩
         · exact absurd h4 (h2 e' he')
         · rw [←h5]
     · rw [if_neg e,hf q u]
       constructor
       · rintro ⟨e',he',h4⟩;exact ⟨e',.inl he',h4⟩
       · rintro ⟨e',he' | rfl,h4,h5⟩
         · exact ⟨e',he',h4,h5⟩
         · exact absurd (L.inj _ _ h4).symm e
 · have hj:es[j]? = some e:=by simpa using h2
   have hkey:∀ e',es[j]? = some e'→({ e' with key:=kv k,val:=v }:MapEntry).key=e'.key:=fun e' he'=>by rw [hj] at he';cases he';exact h3.symm
   refine ⟨{ w with heap:=w.heap.setIfInBounds b (.map (es.modify j fun e=>{ e with key:=kv k,val:=v }) clock) },by simp [Instr.mapUpdate,run_underlying hm,MapKept.run_getObj_map hb,hck,h1,hj,h3,L.stays,run_setObj_map _ hb,Result.andThen],⟨_,_,(heap_set hb).1,stamped_modify hs _ _ (fun _ _=>rfl) (fun e' _ he'=>hkey e' he'),keys_modify hks _ _ k (fun _=>rfl),?_⟩,but_set _,by simp⟩
   intro q u
   have hmem:∀ x:MapEntry,x∈(es.modify j fun e=>{ e with key:=kv k,val:=v }).toList↔x={ e with key:=kv k,val:=v }∨(x∈es.toList∧x.key≠kv k):=by
    intro x
    constructor
    · intro hx
      obtain ⟨i,hi⟩:=List.getElem?_of_mem hx
      rw [Array.getElem?_toList,Array.getElem?_modify] at hi
      by_cases hij:j=i
      · subst hij;rw [if_pos rfl,hj] at hi;simp at hi;exact .inl hi.symm
      · rw [if_neg hij] at hi
        have hi':es.toList[i]? = some x:=by rw [Array.getElem?_toList];exact hi
        refine .inr ⟨List.mem_of_getElem? hi',fun hxk=>hij ?_⟩
        have hn:=hs.2.2
        have e1:(es.toList.map (·.key))[i]? = some (kv k):=by rw [List.getElem?_map,hi'];simp [hxk]
        have e2:(es.toList.map (·.key))[j]? = some (kv k):=by rw [List.getElem?_map,h2];simp [h3]
        exact nodup_at hn e2 e1
    · rintro (rfl | ⟨hx,hxk⟩)
      · refine List.mem_of_getElem? (i:=j) ?_
        rw [Array.getElem?_toList,Array.getElem?_modify,if_pos rfl,hj];rfl
      · obtain ⟨i,hi⟩:=List.getElem?_of_mem hx
        have hij:j≠i:=fun e'=>by subst e';rw [h2] at hi;cases hi;exact hxk h3
        refine List.mem_of_getElem? (i:=i) ?_
        rw [Array.getElem?_toList,Array.getElem?_modify,if_neg hij];simpa using hi
   unfold upk
   by_cases eq:q=k
   · subst eq
     simp only [if_true]
     constructor
     · rintro ⟨rfl⟩;exact ⟨_,(hmem _).2 (.inl rfl),rfl,rfl⟩
     · rintro ⟨e',he',h4,h5⟩
       rcases (hmem e').1 he' with rfl | ⟨-,hne⟩
       · rw [←h5]
       · exact absurd h4 hne
   · rw [if_neg eq,hf q u]
     constructor
     · rintro ⟨e',he',h4,h5⟩
       exact ⟨e',(hmem e').2 (.inr ⟨he',fun h6=>eq (L.inj _ _ (h4.symm.trans h6))⟩),h4,h5⟩
     · rintro ⟨e',he',h4,h5⟩
       rcases (hmem e').1 he' with rfl | ⟨hm',-⟩
       · exact absurd (L.inj _ _ h4).symm eq
       · exact ⟨e',hm',h4,h5⟩
theorem mk_del {w:World} {b:Nat} {f:K→Option Value} (h:MkAt kv w b f) {P:Program} {mt et ty:TypeId} {kt:TypeId} (hm:P.underlying mt=some (.map kt et)) (L:KeyLw P kt kv) (k:K) :
 ∃ w',(Builtin.delete_ #[mt,kt] ty #[.map (some b),kv k]).run P w = .ok (.tuple #[]) w'∧MkAt kv w' b (upk f k none)∧But (fun j=>j=b) w w'∧w'.heap.size=w.heap.size:=by
 obtain ⟨es,clock,hb,hs,hks,hf⟩:=h
 have hck:=L.chk
 rcases key_spec L w k es.toList hks with ⟨h1,h2⟩ | ⟨j,e,h1,h2,h3⟩
 · refine ⟨_,by simp [Builtin.delete_,run_underlying hm,MapKept.run_getObj_map hb,hck,h1,run_setObj_map _ hb,Result.andThen],⟨_,_,(heap_set hb).1,hs,hks,?_⟩,but_set _,by simp⟩
   intro q u
   unfold upk
   by_cases e:q=k
   · subst e
     simp only [if_true]
     constructor
     · intro h;cases h
     · rintro ⟨e',he',h4,-⟩;exact absurd h4 (h2 e' he')
   · rw [if_neg e];exact hf q u
 · refine ⟨_,by simp [Builtin.delete_,run_underlying hm,MapKept.run_getObj_map hb,hck,h1,run_setObj_map _ hb,Result.andThen],⟨_,_,(heap_set hb).1,stamped_erase hs j,?_,?_⟩,but_set _,by simp⟩
   · intro x hx
     exact hks x ((mem_eraseIdx hs h2 x).1 hx).1
   · intro q u
     unfold upk
     by_cases e':q=k
     · subst e'
       simp only [if_true]
       constructor
       · intro h;cases h
       · rintro ⟨x,hx,h4,-⟩;exact absurd (h4.trans h3.symm) ((mem_eraseIdx hs h2 x).1 hx).2
     · rw [if_neg e',hf q u]
       constructor
       · rintro ⟨x,hx,h4,h5⟩;exact ⟨x,(mem_eraseIdx hs h2 x).2 ⟨hx,fun h6=>e' (L.inj _ _ (h4.symm.trans (h6.trans h3)))⟩,h4,h5⟩
       · rintro ⟨x,hx,h4⟩;exact ⟨x,((mem_eraseIdx hs h2 x).1 hx).1,h4⟩
end
abbrev Ln:=Int × Bool
def lnV (l:Ln):Value := .agg #[.int .i64 l.1,.bool l.2]
abbrev Ms:=Ln × Int
def msV (m:Ms):Value := .agg #[.int .i64 m.1.1,.bool m.1.2,.int .i64 m.2]
theorem ln_inj (a b:Ln) (h:lnV a=lnV b):a=b:=by
 obtain ⟨a1,a2⟩:=a
 obtain ⟨b1,b2⟩:=b
 simp only [lnV,Value.agg.injEq] at h
 have h':=congrArg Array.toList h
 simp at h'
 simp [h']
theorem ms_inj (a b:Ms) (h:msV a=msV b):a=b:=by
 obtain ⟨⟨a1,a2⟩,a3⟩:=a
 obtain ⟨⟨b1,b2⟩,b3⟩:=b
 simp only [msV,Value.agg.injEq] at h
 have h':=congrArg Array.toList h
 simp at h'
 simp [h']
theorem bits_ln (n:Nat) (l:Ln):Instr.sameBits (n+1) (lnV l) (lnV l)=true:=by
 obtain ⟨a,b⟩:=l
 simp [lnV,Instr.sameBits]
theorem bits_ms (n:Nat) (m:Ms):Instr.sameBits (n+1) (msV m) (msV m)=true:=by
 obtain ⟨⟨a,b⟩,c⟩:=m
 simp [msV,Instr.sameBits]
set_option maxRecDepth 20000 in
theorem ln_law:KeyLw Tryz.prog 77 lnV where
 str:=⟨_,Tryz.underlying77⟩
 row:=fun k=>⟨_,rfl⟩
 chk:=fun w e k=>by kernel_rfl
 same:=fun w a b=>by
  obtain ⟨a1,a2⟩:=a
  obtain ⟨b1,b2⟩:=b
  show Sem.run Tryz.prog (Op.equalIn 10000 77 (.agg #[.int .i64 a1,.bool a2]) (.agg #[.int .i64 b1,.bool b2])) w=_
  go_simp
  by_cases h1:a1=b1
  · by_cases h2:a2=b2
    · rw [if_pos h1,if_pos h2];simp [h1,h2]
    · rw [if_pos h1,if_neg h2];simp [h2]
  · rw [if_neg h1];simp [h1]
 inj:=ln_inj
 stays:=fun w k=>by simp [Instr.keyThatStays,bits_ln 9999 k]
set_option maxRecDepth 20000 in
theorem ms_law:KeyLw Tryz.prog 82 msV where
 str:=⟨_,Tryz.underlying82⟩
 row:=fun k=>⟨_,rfl⟩
 chk:=fun w e k=>by kernel_rfl
 same:=fun w a b=>by
  obtain ⟨⟨a1,a2⟩,a3⟩:=a
  obtain ⟨⟨b1,b2⟩,b3⟩:=b
  show Sem.run Tryz.prog (Op.equalIn 10000 82 (.agg #[.int .i64 a1,.bool a2,.int .i64 a3]) (.agg #[.int .i64 b1,.bool b2,.int .i64 b3])) w=_
  go_simp
  by_cases h1:a1=b1
  · by_cases h2:a2=b2
    · by_cases h3:a3=b3
      · subst h1 h2 h3;simp
      · subst h1 h2;simp [h3]
    · subst h1;simp [h2]
  · simp [h1]
 inj:=ms_inj
 stays:=fun w k=>by simp [Instr.keyThatStays,bits_ms 9999 k]
end Go.Proofs.YtbbikhlbkpjpjaaGreatDoor
