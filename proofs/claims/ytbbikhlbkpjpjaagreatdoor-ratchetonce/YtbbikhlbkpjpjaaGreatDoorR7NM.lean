/- What the proof stands on: R7N, R7Y. -/
import Derived.Test.YtbbikhlbkpjpjaaGreatDoorR7WM
import Derived.Test.YtbbikhlbkpjpjaaGreatDoorT4RM
import Derived.RangeFuncNested
namespace Go.Proofs.YtbbikhlbkpjpjaaGreatDoor
open Go.RowKit Go.Shelf
theorem range_itH {P:Program} {gf:Nat} {lb:Array Value} {K:Nat} {ar:Nat→Option (Array Value)} {Has:Nat→World→Prop} (hit:Iter P gf lb K ar Has)
 {g:Operand} {ps:Array Tmp} {assign body:Code} {Q:Exit→Act→World→Prop} {a:Act} {w:World} {n:Nat} (hg:a.eval g = .func (.func gf) #[] lb) (eg:∀ args w,(callFunc gf args).run P w = .ok (.enter gf args) w)
 (J:Nat→(Nat→Prop)→World→Prop) (Jx:Code→(Nat→Prop)→World→Prop) (M0:Nat→Prop)
 (hJ:∀ k M W W',J k M W→Loc w.heap.size M W W'→J k M W') (hJx:∀ c M W W',Jx c M W→Loc w.heap.size M W W'→Jx c M W')
 (hHas:∀ k M W,k≤K→J k M W→Has k W) (hskip:∀ k M W,k<K→ar k=none→J k M W→J (k+1) M W) (hps:∀ k a',ar k=some a'→a'.size=ps.size)
 (hM0:∀ b,M0 b→b<w.heap.size) (h0:∀ W,Below w.heap.size w W→J 0 M0 W)
 (hround:∀ k M W l a',k<K→ar k=some a'→J k M W→w.heap.size<l→l<W.heap.size→¬M l →
   assign.wpIn (Fence.wide.inRound l) 0 P (Exit.then (fun a₁ W₁=>Below W.heap.size W W₁∧∀ W₂,But (fun k=>k=l) W₁ W₂→W₂.heap.size=W₁.heap.size→(∃ r,W₂.heap[l]? = some (.loop r))→J k M W₂ →
    body.wpIn (Fence.wide.inRound l) 0 P (RoundQ w.heap.size W.heap.size M (J (k+1)) Jx W₂) a₁ W₂) (fun _ _ _=>False)) { tmps:=(ps.zip a').foldl (fun tmps (t,a)=>tmps.setIfInBounds t a) a.tmps,defers:=[] } W)
 (hdone:∀ D M W,w.heap.size≤D→D<W.heap.size→¬M D→J K M W→W.heap[D]? = some (.deferred (some []))→Q .normal { a with defers:={ target := .collected D,args:=#[] } :: a.defers } W)
 (hstop:∀ D c M W,w.heap.size≤D→D<W.heap.size→¬M D→Jx c M W→W.heap[D]? = some (.deferred (some []))→c.wpIn Fence.wide n P Q { a with defers:={ target := .collected D,args:=#[] } :: a.defers } W) :
 (Code.rangeFunc g ps assign body).wpIn Fence.wide n P Q a w:=by
 refine wpIn_range_with rfl (fun _=>trivial) (fun h=>by cases h) hg eg (fun r0 e1 e2 e4 e5 e6 e7=>callsIn_wide.2 ?_)
 obtain ⟨W1,hW1⟩:∃ W1,W1=(w.alloc (.deferred (some []))).alloc (.loop r0):=⟨_,rfl⟩
 obtain ⟨l,hl⟩:∃ l,l=w.heap.size+1:=⟨_,rfl⟩
 have hbl1:Below w.heap.size w W1:=by rw [hW1];exact ((Below.refl _ _).alloc (Nat.le_refl _) _).alloc (by simp) _
 have hl1:W1.heap[l]? = some (.loop r0):=by
  rw [hW1,hl];have:=World.alloc_heap_new (w.alloc (.deferred (some []))) (.loop r0);rwa [World.size_alloc] at this
 have hD1:W1.heap[w.heap.size]? = some (.deferred (some [])):=by
  rw [hW1];exact (Below.heap_alloc _ _ _ (by simp)).trans (World.alloc_heap_new w _)
 have hs1:W1.heap.size=w.heap.size+2:=by rw [hW1];simp
 rw [←hW1,←hl]
 clear hW1
 have hm0:∀ b,w.heap.size≤b→¬M0 b:=fun b hb hm=>by have:=hM0 b hm;omega
 obtain ⟨rd,hrd⟩:∃ rd:Code→Loop,∀ c,rd c={ r0 with state := .done,pending:=some c }:=⟨_,fun _=>rfl⟩
 refine (hit l (w.heap.size+2)
  (fun k M W=>J k M W∧W.heap[l]? = some (.loop r0)∧W.heap[w.heap.size]? = some (.deferred (some []))∧¬M l∧¬M w.heap.size)
  (fun M W=>∃ c,Jx c M W∧W.heap[l]? = some (.loop (rd c))∧W.heap[w.heap.size]? = some (.deferred (some []))∧¬M l∧¬M w.heap.size)
  ?_ ?_ ?_ ?_ ?_ M0 W1 (by omega) (fun b hb=>by have:=hM0 b hb;omega) ⟨h0 W1 hbl1,hl1,hD1,hm0 l (by omega),hm0 _ (Nat.le_refl _)⟩).mono ?_
 · rintro k M W W' ⟨h1,h2,h3,h4⟩ hL
   have l2:=(Array.getElem?_eq_some_iff.1 h2).1
   have l3:=(Array.getElem?_eq_some_iff.1 h3).1
   exact ⟨hJ k M W W' h1 (hL.mono (by omega)),(hL.block l l2 (.inl (by omega))).trans h2,(hL.block _ l3 (.inl (by omega))).trans h3,h4⟩
 · rintro M W W' ⟨c,h1,h2,h3,h4⟩ hL
   have l2:=(Array.getElem?_eq_some_iff.1 h2).1
   have l3:=(Array.getElem?_eq_some_iff.1 h3).1
   exact ⟨c,hJx c M W W' h1 (hL.mono (by omega)),(hL.block l l2 (.inl (by omega))).trans h2,(hL.block _ l3 (.inl (by omega))).trans h3,h4⟩
 · rintro k M W hk ⟨h1,-⟩;exact hHas k M W hk h1
 · rintro k M W hk ha ⟨h1,h2⟩;exact ⟨hskip k M W hk ha h1,h2⟩
 · rintro k M W a' hk ha ⟨h1,h2,h3,h4,h5⟩ hB
   have l2:=(Array.getElem?_eq_some_iff.1 h2).1
   have l3:=(Array.getElem?_eq_some_iff.1 h3).1
   refine yield_round h2 (by rw [e5];exact hps k a' ha) ?_
   rw [e4,e5,e6,e7]
   refine wpIn_mono (hround k M W l a' hk ha h1 (by omega) l2 h4) ?_
   intro ex a1 V1 hx
   cases ex with
   | normal =>
    obtain ⟨hb1,hbody⟩:=hx
    have h2':=(hb1.block l l2).trans h2
    have h3':=(hb1.block _ l3).trans h3
    have l2':=(Array.getElem?_eq_some_iff.1 h2').1
    obtain ⟨V2,hV2⟩:∃ V2,V2=V1.putObj l (.loop { r0 with state := .busy }):=⟨_,rfl⟩
    have hbt:But (fun k=>k=l) V1 V2:=by rw [hV2];exact but_put V1 l _
    have hsz:V2.heap.size=V1.heap.size:=by rw [hV2];simp
    have hl2:V2.heap[l]? = some (.loop { r0 with state := .busy }):=by rw [hV2];exact World.putObj_heap_same l2'
    have hD2:V2.heap[w.heap.size]? = some (.deferred (some [])):=(hbt.block _ (Nat.lt_of_lt_of_le l3 hb1.size) (by omega)).trans h3'
    have hj2:J k M V2:=hJ k M V1 V2 (hJ k M W V1 h1 (Loc.of_below hb1)) (by rw [hV2];exact Loc.put _ (by omega) h4)
    refine ⟨V2,by rw [hV2];exact run_beginRound h2' e1,wpIn_mono (hbody V2 hbt hsz ⟨_,hl2⟩ hj2) ?_⟩
    intro ex a3 V3 hq
    obtain ⟨hF,M',hM',hq⟩:=hq
    have hl3:V3.heap[l]? = some (.loop { r0 with state := .busy }):=(hF.block l (by omega) (by omega) h4).trans hl2
    have hD3:V3.heap[w.heap.size]? = some (.deferred (some [])):=(hF.block _ (by have:=hb1.size;omega) (Nat.le_refl _) h5).trans hD2
    have l23:=(Array.getElem?_eq_some_iff.1 hl3).1
    have nl:¬M' l:=fun h=>by rcases hM' l h with h | h;exact h4 h;omega
    have nD:¬M' w.heap.size:=fun h=>by rcases hM' _ h with h | h;exact h5 h;omega
    have hFr:∀ o,Fro (w.heap.size+2) M W (V3.putObj l o):=fun o=>⟨by have:=hb1.size;have:=hF.size;simp;omega,fun k hk hB hm =>
     (World.putObj_heap_other (by omega)).trans ((hF.block k (by have:=hb1.size;omega) (by omega) hm).trans ((hbt.block k (by have:=hb1.size;omega) (by omega)).trans (hb1.block k hk)))⟩
    have hDl:∀ o,(V3.putObj l o).heap[w.heap.size]? = some (.deferred (some [])):=fun o=>(World.putObj_heap_other (by omega)).trans hD3
    cases ex with
    | normal =>
     refine ⟨_,_,run_endRound none hl3,hFr _,M',hM',.inl ⟨rfl,hJ _ _ _ _ hq (Loc.put _ (by omega) nl),?_,hDl _,nl,nD⟩⟩
     rw [World.putObj_heap_same l23]
     simp only [Option.isNone_none,if_true]
     rw [loop_back r0 e1 e2]
    | ret=>exact ⟨_,_,run_endRound (some .ret) hl3,hFr _,M',hM',.inr ⟨rfl,.ret,hJx _ _ _ _ hq (Loc.put _ (by omega) nl),by rw [World.putObj_heap_same l23,hrd];rfl,hDl _,nl,nD⟩⟩
    | exit i=>exact ⟨_,_,run_endRound (some (.exit i)) hl3,hFr _,M',hM',.inr ⟨rfl,.exit i,hJx _ _ _ _ hq (Loc.put _ (by omega) nl),by rw [World.putObj_heap_same l23,hrd];rfl,hDl _,nl,nD⟩⟩
    | goto t=>exact ⟨_,_,run_endRound (some (.goto t)) hl3,hFr _,M',hM',.inr ⟨rfl,.goto t,hJx _ _ _ _ hq (Loc.put _ (by omega) nl),by rw [World.putObj_heap_same l23,hrd];rfl,hDl _,nl,nD⟩⟩
    | panic ch=>exact hq.elim
    | outgrown=>exact hq.elim
   | ret=>exact hx.elim
   | exit i=>exact hx.elim
   | goto t=>exact hx.elim
   | panic ch=>exact hx.elim
   | outgrown=>exact hx.elim
 · rintro e W2 ⟨⟨v,rfl⟩,-,M',⟨hj,hl2,hD,nl,nD⟩ | ⟨c,hj,hl2,hD,nl,nD⟩⟩
   · have l3:=(Array.getElem?_eq_some_iff.1 hD).1
     exact ⟨none,_,by have:=run_endLoop (P:=P) hl2 (by rw [e1];simp);rw [e2] at this;exact this,hdone _ M' _ (Nat.le_refl _) (by simpa using l3) nD (hJ _ _ _ _ hj (Loc.put _ (by omega) nl)) ((World.putObj_heap_other (by omega)).trans hD)⟩
   · have l3:=(Array.getElem?_eq_some_iff.1 hD).1
     exact ⟨some c,_,by have:=run_endLoop (P:=P) hl2 (by rw [hrd];simp);rw [show (rd c).pending=some c by rw [hrd]] at this;exact this,hstop _ c M' _ (Nat.le_refl _) (by simpa using l3) nD (hJx _ _ _ _ hj (Loc.put _ (by omega) nl)) ((World.putObj_heap_other (by omega)).trans hD)⟩
theorem wpIn_range_in {P:Program} {n:Nat} {g:Operand} {ps:Array Tmp} {assign body:Code} {Q:Exit→Act→World→Prop} {a:Act} {w:World} {gf:Nat} {lb:Array Value} {l₀:Nat} {ro:Loop} (hl₀:w.heap[l₀]? = some (.loop ro)) (hg:a.eval g = .func (.func gf) #[] lb) (eg:∀ args w,(callFunc gf args).run P w = .ok (.enter gf args) w)
 (h:∀ r0:Loop,r0.state = .ready→r0.pending=none→r0.tmps=a.tmps→r0.params=ps→r0.assign=assign→r0.body=body →
   CallsIn (Fence.wide.inRound l₀) (n - 1) P gf (#[.func (.yield w.heap.size) #[] #[]] ++ lb) (w.alloc (.loop r0)) (rangePost (Fence.wide.inRound l₀) n P w.heap.size Q { a with defers:=[] ++ a.defers })) :
 (Code.rangeFunc g ps assign body).wpIn (Fence.wide.inRound l₀) n P Q a w:=by
 refine wpIn_rangeFunc ?_
 intro fn _
 obtain ⟨r0,hr0⟩:∃ r0:Loop,r0={ state := .ready,pending:=none,fn,tmps:=a.tmps,params:=ps,assign,body,defers:=ro.defers }:=⟨_,rfl⟩
 obtain ⟨W1,hW1⟩:∃ W1,w.alloc (.loop r0)=W1:=⟨_,rfl⟩
 have hh:=h r0 (by rw [hr0]) (by rw [hr0]) (by rw [hr0]) (by rw [hr0]) (by rw [hr0]) (by rw [hr0])
 rw [hW1] at hh
 clear h
 refine ⟨w.heap.size,[],W1,{ target := .fn (.func gf) lb,args:=#[.func (.yield w.heap.size) #[] #[]] },W1,gf,
  #[.func (.yield w.heap.size) #[] #[]] ++ lb,W1,?_,?_,?_,?_,(fun h=>by cases h),?_⟩
 · rw [←hW1,hr0];exact run_enterLoop_inner hl₀ _ _ _ _ _
 · simp only [resolve,hg]
   simp [go_sem]
 · intro f' _;trivial
 · simp [invoke,go_sem,eg]
 · exact hh
theorem range_in {P:Program} {gf:Nat} {lb:Array Value} {K:Nat} {ar:Nat→Option (Array Value)} {Has:Nat→World→Prop} (hit:Iter P gf lb K ar Has) {l₀:Nat} {ro:Loop}
 {g:Operand} {ps:Array Tmp} {assign body:Code} {Q:Exit→Act→World→Prop} {a:Act} {w:World} {n:Nat} (hl₀:w.heap[l₀]? = some (.loop ro)) (hg:a.eval g = .func (.func gf) #[] lb) (eg:∀ args w,(callFunc gf args).run P w = .ok (.enter gf args) w)
 (J:Nat→(Nat→Prop)→World→Prop) (Jx:Code→(Nat→Prop)→World→Prop) (M0:Nat→Prop)
 (hJ:∀ k M W W',J k M W→Loc w.heap.size M W W'→J k M W') (hJx:∀ c M W W',Jx c M W→Loc w.heap.size M W W'→Jx c M W')
 (hHas:∀ k M W,k≤K→J k M W→Has k W) (hskip:∀ k M W,k<K→ar k=none→J k M W→J (k+1) M W) (hps:∀ k a',ar k=some a'→a'.size=ps.size)
 (hM0:∀ b,M0 b→b<w.heap.size) (h0:∀ W,Below w.heap.size w W→J 0 M0 W)
 (hround:∀ k M W l a',k<K→ar k=some a'→J k M W→w.heap.size≤l→l<W.heap.size→¬M l →
   assign.wpIn (Fence.wide.inRound l) 0 P (Exit.then (fun a₁ W₁=>Below W.heap.size W W₁∧∀ W₂,But (fun k=>k=l) W₁ W₂→W₂.heap.size=W₁.heap.size→J k M W₂ →
    body.wpIn (Fence.wide.inRound l) 0 P (RoundQ w.heap.size W.heap.size M (J (k+1)) Jx W₂) a₁ W₂) (fun _ _ _=>False)) { tmps:=(ps.zip a').foldl (fun tmps (t,a)=>tmps.setIfInBounds t a) a.tmps,defers:=[] } W)
 (hdone:∀ M W,J K M W→Q .normal { a with defers:=[] ++ a.defers } W)
 (hstop:∀ c M W,Jx c M W→c.wpIn (Fence.wide.inRound l₀) n P Q { a with defers:=[] ++ a.defers } W) :
 (Code.rangeFunc g ps assign body).wpIn (Fence.wide.inRound l₀) n P Q a w:=by
 refine wpIn_range_in hl₀ hg eg (fun r0 e1 e2 e4 e5 e6 e7=>CallsIn.inRound l₀ (callsIn_wide.2 ?_))
 obtain ⟨W1,hW1⟩:∃ W1,W1=w.alloc (.loop r0):=⟨_,rfl⟩
 obtain ⟨l,hl⟩:∃ l,l=w.heap.size:=⟨_,rfl⟩
 have hbl1:Below w.heap.size w W1:=by rw [hW1];exact (Below.refl _ _).alloc (Nat.le_refl _) _
 have hl1:W1.heap[l]? = some (.loop r0):=by
  rw [hW1,hl];exact World.alloc_heap_new w (.loop r0)
 have hs1:W1.heap.size=w.heap.size+1:=by rw [hW1];simp
 rw [←hW1,←hl]
 clear hW1
 have hm0:∀ b,w.heap.size≤b→¬M0 b:=fun b hb hm=>by have:=hM0 b hm;omega
 obtain ⟨rd,hrd⟩:∃ rd:Code→Loop,∀ c,rd c={ r0 with state := .done,pending:=some c }:=⟨_,fun _=>rfl⟩
 refine (hit l (w.heap.size+1)
  (fun k M W=>J k M W∧W.heap[l]? = some (.loop r0)∧¬M l)
  (fun M W=>∃ c,Jx c M W∧W.heap[l]? = some (.loop (rd c))∧¬M l)
  ?_ ?_ ?_ ?_ ?_ M0 W1 (by omega) (fun b hb=>by have:=hM0 b hb;omega) ⟨h0 W1 hbl1,hl1,hm0 l (by omega)⟩).mono ?_
 · rintro k M W W' ⟨h1,h2,h4⟩ hL
   have l2:=(Array.getElem?_eq_some_iff.1 h2).1
   exact ⟨hJ k M W W' h1 (hL.mono (by omega)),(hL.block l l2 (.inl (by omega))).trans h2,h4⟩
 · rintro M W W' ⟨c,h1,h2,h4⟩ hL
   have l2:=(Array.getElem?_eq_some_iff.1 h2).1
   exact ⟨c,hJx c M W W' h1 (hL.mono (by omega)),(hL.block l l2 (.inl (by omega))).trans h2,h4⟩
 · rintro k M W hk ⟨h1,-⟩;exact hHas k M W hk h1
 · rintro k M W hk ha ⟨h1,h2⟩;exact ⟨hskip k M W hk ha h1,h2⟩
 · rintro k M W a' hk ha ⟨h1,h2,h4⟩ hB
   have l2:=(Array.getElem?_eq_some_iff.1 h2).1
   refine yield_round h2 (by rw [e5];exact hps k a' ha) ?_
   rw [e4,e5,e6,e7]
   refine wpIn_mono (hround k M W l a' hk ha h1 (by omega) l2 h4) ?_
   intro ex a1 V1 hx
   cases ex with
   | normal =>
    obtain ⟨hb1,hbody⟩:=hx
    have h2':=(hb1.block l l2).trans h2
    have l2':=(Array.getElem?_eq_some_iff.1 h2').1
    obtain ⟨V2,hV2⟩:∃ V2,V2=V1.putObj l (.loop { r0 with state := .busy }):=⟨_,rfl⟩
    have hbt:But (fun k=>k=l) V1 V2:=by rw [hV2];exact but_put V1 l _
    have hsz:V2.heap.size=V1.heap.size:=by rw [hV2];simp
    have hl2:V2.heap[l]? = some (.loop { r0 with state := .busy }):=by rw [hV2];exact World.putObj_heap_same l2'
    have hj2:J k M V2:=hJ k M V1 V2 (hJ k M W V1 h1 (Loc.of_below hb1)) (by rw [hV2];exact Loc.put _ (by omega) h4)
    refine ⟨V2,by rw [hV2];exact run_beginRound h2' e1,wpIn_mono (hbody V2 hbt hsz hj2) ?_⟩
    intro ex a3 V3 hq
    obtain ⟨hF,M',hM',hq⟩:=hq
    have hl3:V3.heap[l]? = some (.loop { r0 with state := .busy }):=(hF.block l (by omega) (by omega) h4).trans hl2
    have l23:=(Array.getElem?_eq_some_iff.1 hl3).1
    have nl:¬M' l:=fun h=>by rcases hM' l h with h | h;exact h4 h;omega
    have hFr:∀ o,Fro (w.heap.size+1) M W (V3.putObj l o):=fun o=>⟨by have:=hb1.size;have:=hF.size;simp;omega,fun k hk hB hm =>
     (World.putObj_heap_other (by omega)).trans ((hF.block k (by have:=hb1.size;omega) (by omega) hm).trans ((hbt.block k (by have:=hb1.size;omega) (by omega)).trans (hb1.block k hk)))⟩
    cases ex with
    | normal =>
     refine ⟨_,_,run_endRound none hl3,hFr _,M',hM',.inl ⟨rfl,hJ _ _ _ _ hq (Loc.put _ (by omega) nl),?_,nl⟩⟩
     rw [World.putObj_heap_same l23]
     simp only [Option.isNone_none,if_true]
     rw [loop_back r0 e1 e2]
    | ret=>exact ⟨_,_,run_endRound (some .ret) hl3,hFr _,M',hM',.inr ⟨rfl,.ret,hJx _ _ _ _ hq (Loc.put _ (by omega) nl),by rw [World.putObj_heap_same l23,hrd];rfl,nl⟩⟩
    | exit i=>exact ⟨_,_,run_endRound (some (.exit i)) hl3,hFr _,M',hM',.inr ⟨rfl,.exit i,hJx _ _ _ _ hq (Loc.put _ (by omega) nl),by rw [World.putObj_heap_same l23,hrd];rfl,nl⟩⟩
    | goto t=>exact ⟨_,_,run_endRound (some (.goto t)) hl3,hFr _,M',hM',.inr ⟨rfl,.goto t,hJx _ _ _ _ hq (Loc.put _ (by omega) nl),by rw [World.putObj_heap_same l23,hrd];rfl,nl⟩⟩
    | panic ch=>exact hq.elim
    | outgrown=>exact hq.elim
   | ret=>exact hx.elim
   | exit i=>exact hx.elim
   | goto t=>exact hx.elim
   | panic ch=>exact hx.elim
   | outgrown=>exact hx.elim
 · rintro e W2 ⟨⟨v,rfl⟩,-,M',⟨hj,hl2,nl⟩ | ⟨c,hj,hl2,nl⟩⟩
   · exact ⟨none,_,by have:=run_endLoop (P:=P) hl2 (by rw [e1];simp);rw [e2] at this;exact this,hdone M' _ (hJ _ _ _ _ hj (Loc.put _ (by omega) nl))⟩
   · exact ⟨some c,_,by have:=run_endLoop (P:=P) hl2 (by rw [hrd];simp);rw [show (rd c).pending=some c by rw [hrd]] at this;exact this,hstop c M' _ (hJx _ _ _ _ hj (Loc.put _ (by omega) nl))⟩
end Go.Proofs.YtbbikhlbkpjpjaaGreatDoor
namespace Go.Proofs.YtbbikhlbkpjpjaaGreatDoor
open Go.RowKit Go.Shelf
section
variable {P:Program} {md:Region.Mode} {ops:Array Oper} {Q:Exit→Act→World→Prop} {S:World→Prop} {fuel:Nat} {listed:Array Bool} {a:Act} {w:World}
theorem wpIn_last7 {l n id:Nat} (t:Nat) (hm:P.follows .mixedOrders=true) (hd:noDefer ops=true) (ht:t+1=ops.size) (hb:backward .any ops=true) (hw:waitsAll .any ops t=true) (hS:S w.drew)
 (h:S w.drew→wpAnyH P .any ops (LastQ P ops (OnlyN Q) t) S t ((Array.replicate (t+1) false).setIfInBounds t true) a w.drew):(Code.region id ops true).wpIn (Fence.wide.inRound l) n P Q a w:=by
 refine wpIn_mono (wpIn_region_any hm (any_in hd OnlyN.stays _ _ _ _ ?_)) OnlyN.imp
 rw [←ht]
 refine wpAny_last (by omega) hb hw t _ a _ (by simp [ht]) (by simp) ?_
 exact wpAny_of_held _ _ _ _ (h hS)
theorem wpIn_lastW {n id:Nat} (t:Nat) (hm:P.follows .mixedOrders=true) (hd:noDefer ops=true) (ht:t+1=ops.size) (hb:backward .any ops=true) (hw:waitsAll .any ops t=true) (hS:S w.drew)
 (h:S w.drew→wpAnyH P .any ops (LastQ P ops (OnlyN Q) t) S t ((Array.replicate (t+1) false).setIfInBounds t true) a w.drew):(Code.region id ops true).wpIn Fence.wide n P Q a w:=by
 refine wpIn_mono (wpIn_region_any hm (any_wide hd OnlyN.stays _ _ _ _ ?_)) OnlyN.imp
 rw [←ht]
 refine wpAny_last (by omega) hb hw t _ a _ (by simp [ht]) (by simp) ?_
 exact wpAny_of_held _ _ _ _ (h hS)
end
theorem ex_put7 {P:Program} {a:Act} {oi:Oper} {w w':World} {u v r:Value} (t:TypeId) (m k x:Operand) (ho:oi.op = .mapUpdate t m k x) (hm:a.eval m=u) (hk:a.eval k=v) (hx:a.eval x=r) (hrun:(Instr.mapUpdate t u v r).run P w = .ok () w'):(execOp a.eval oi).run P w = .ok .skip w':=by
 unfold execOp
 simp [ho,hm,hk,hx,hrun]
theorem ex_del7 {P:Program} {a:Act} {oi:Oper} {w w':World} {u v r:Value} (ts:Array TypeId) (m k:Operand) (ho:oi.op = .call { callee := .builtin .delete,args:=#[m,k],argTypes:=ts }) (hm:a.eval m=u) (hk:a.eval k=v) (hrun:(Builtin.delete_ ts oi.type #[u,v]).run P w = .ok r w'):(execOp a.eval oi).run P w = .ok (.value r) w':=by
 simp [execOp,ho,resolve,invoke,builtin,hm,hk,hrun,Result.andThen]
theorem wpListIn_run_rd {P:Program} {n l:Nat} {ops:Array Oper} {rest:List Oper} {op:Oper} {a:Act} {w w':World} {Q:Exit→Act→World→Prop} (hw:Region.wanted op (yielded ops a.tmps)=true) (hd:∀ c,op.op ≠ .defer c) (v:Value) (hrun:(execOp a.eval op).run P w = .ok (.value v) w')
 (h:wpListIn (Fence.wide.inRound l) n P ops Q rest (a.put op.dst v) w'):wpListIn (Fence.wide.inRound l) n P ops Q (op :: rest) a w :=
 wpListIn_step fun K hK=>by
  simp only [hw,if_true]
  refine ⟨fun _ _=>trivial,?_⟩
  have hsem:(op.semAt (Fence.wide.inRound l).round a.eval)=execOp a.eval op:=Oper.semAt_some l _ _ hd
  rw [hsem,hrun]
  exact hK _ _ h
theorem But.on {b c:Nat→Prop} {w W W':World} (h:But b w W) (k:But c W W') (e:∀ x,x<w.heap.size→c x→b x):But b w W' :=
 ⟨k.os.trans h.os,k.tape.trans h.tape,k.output.trans h.output,Nat.le_trans h.size k.size,fun i hi hb=>(k.block i (Nat.lt_of_lt_of_le hi h.size) (fun hc=>hb (e i hi hc))).trans (h.block i hi hb)⟩
theorem But.ofB {bad:Nat→Prop} {w w':World} (h:Below w.heap.size w w'):But bad w w':=⟨h.os,h.tape,h.output,h.size,fun k hk _=>h.block k hk⟩
theorem But.loc {b:Nat→Prop} {w W W':World} {B:Nat} {M:Nat→Prop} (h:But b w W) (k:Loc B M W W') (e:w.heap.size≤B):But b w W' :=
 ⟨k.os.trans h.os,k.tape.trans h.tape,k.output.trans h.output,Nat.le_trans h.size k.size,fun i hi hb=>(k.block i (Nat.lt_of_lt_of_le hi h.size) (.inl (Nat.lt_of_lt_of_le hi e))).trans (h.block i hi hb)⟩
theorem Rules32.same7 {w w':World} {b:Nat} (h:Rules32 w b) (e:w'.heap[b]? = w.heap[b]?):Rules32 w' b:=by
 have k:∀ o,w'.cell? ⟨b,o,none⟩=w.cell? ⟨b,o,none⟩:=fun o=>World.cell?_of_block (w:=w) (a:=⟨b,o,none⟩) e
 unfold Rules32 at *
 simpa only [k] using h
theorem Rules64.same7 {w w':World} {b:Nat} (h:Rules64 w b) (e:w'.heap[b]? = w.heap[b]?):Rules64 w' b:=by
 have k:∀ o,w'.cell? ⟨b,o,none⟩=w.cell? ⟨b,o,none⟩:=fun o=>World.cell?_of_block (w:=w) (a:=⟨b,o,none⟩) e
 unfold Rules64 at *
 simpa only [k] using h
theorem TabAt.but {bad:Nat→Prop} {w w':World} (h:TabAt w) (hb:But bad w w') (hm:∀ b,bad b→∀ o,w.cell? ⟨b,o,none⟩=none):TabAt w':=by
 obtain ⟨hH⟩:=h
 have hn:∀ b v,w.cell? ⟨b,0,none⟩=some v→¬bad b:=fun b v hc e=>by rw [hm b e] at hc;cases hc
 have c1:=hH.cubes 0 (by decide)
 have c2:=hH.squares 0 (by decide)
 have c3:=hH.narrow.1
 have c4:=hH.wide.1
 have e1:=hb.block 5 (block_lt_of_cell c1) (hn _ _ c1)
 have e2:=hb.block 3 (block_lt_of_cell c2) (hn _ _ c2)
 have e3:=hb.block 2 (block_lt_of_cell c3) (hn _ _ c3)
 have e4:=hb.block 4 (block_lt_of_cell c4) (hn _ _ c4)
 exact ⟨⟨fun j hj=>(World.cell?_of_block (w:=w) e1).trans (hH.cubes j hj),fun j hj=>(World.cell?_of_block (w:=w) e2).trans (hH.squares j hj),hH.narrow.same7 e3,hH.wide.same7 e4,hH.Klt,hH.qlt⟩⟩
theorem DbT.but {bad:Nat→Prop} {w w':World} (h:DbT w) (hb:But bad w w') (hm:∀ b,bad b→∀ o,w.cell? ⟨b,o,none⟩=none):DbT w':=by
 have c:=h.cell 0 (by decide)
 have e:=hb.block 1 (block_lt_of_cell c) (fun e=>by rw [hm _ e] at c;cases c)
 exact ⟨Nat.lt_of_lt_of_le h.lt hb.size,fun j hj=>(World.cell?_of_block (w:=w) e).trans (h.cell j hj)⟩
def upS (f:Int→Option (Nat→Nat)) (x:Int) (v:Option (Nat→Nat)):Int→Option (Nat→Nat):=fun j=>if j=x then v else f j
def upR (f:Ln→Option (Nat × (Nat→Nat))) (l:Ln) (v:Option (Nat × (Nat→Nat))):Ln→Option (Nat × (Nat→Nat)):=fun j=>if j=l then v else f j
def upQ (f:Ms→Option ((Nat→Nat) × (Nat→Nat))) (m:Ms) (v:Option ((Nat→Nat) × (Nat→Nat))):Ms→Option ((Nat→Nat) × (Nat→Nat)):=fun j=>if j=m then v else f j
theorem RsAt.tbs {w:World} {tb sb rb kb:Nat} {S:Rs} (h:RsAt w tb sb rb kb S):tb≠sb∧tb≠rb∧tb≠kb :=
 ⟨fun e=>(by have c:=h.ms.nocell 0;rw [←e,h.c0] at c;cases c),fun e=>(by have c:=h.mr.nocell 0;rw [←e,h.c0] at c;cases c),fun e=>(by have c:=h.mq.nocell 0;rw [←e,h.c0] at c;cases c)⟩
theorem RsAt.put_sd {w:World} {tb sb rb kb:Nat} {S:Rs} (h:RsAt w tb sb rb kb S) (x:Int) (X:Nat→Nat) :
 ∃ w',(Instr.mapUpdate 47 (.map (some sb)) (.int .i64 x) (sdV X)).run Tryz.prog w = .ok () w'∧RsAt w' tb sb rb kb { S with sd:=upS S.sd x (some X) }∧But (fun j=>j=sb) w w'∧w'.heap.size=w.heap.size:=by
 obtain ⟨w',h1,h2,h3,h4⟩:=mp_put h.ms und_sd und_i7 x (sdV X)
 obtain ⟨t1,t2,t3⟩:=h.tbs
 refine ⟨w',h1,⟨h3.cell h.c0 t1,h3.cell h.c1 t1,h3.cell h.c2 t1,h3.cell h.c3 t1,h2.congr (fun k => ?_),h.mr.one (h3.block rb h.mr.lt (fun e=>h.ne.1 e.symm)),h.mq.one (h3.block kb h.mq.lt (fun e=>h.ne.2.1 e.symm)),h.ne⟩,h3,h4⟩
 unfold upm upS
 dsimp only
 by_cases e:k=x
 · rw [if_pos e,if_pos e];rfl
 · rw [if_neg e,if_neg e]
theorem RsAt.del_sd {w:World} {tb sb rb kb:Nat} {S:Rs} (h:RsAt w tb sb rb kb S) (x:Int) (ty:TypeId) :
 ∃ w',(Builtin.delete_ #[47,3] ty #[.map (some sb),.int .i64 x]).run Tryz.prog w = .ok (.tuple #[]) w'∧RsAt w' tb sb rb kb { S with sd:=upS S.sd x none }∧But (fun j=>j=sb) w w'∧w'.heap.size=w.heap.size:=by
 obtain ⟨w',h1,h2,h3,h4⟩:=mp_del h.ms (ty:=ty) und_sd und_i7 x
 obtain ⟨t1,t2,t3⟩:=h.tbs
 refine ⟨w',h1,⟨h3.cell h.c0 t1,h3.cell h.c1 t1,h3.cell h.c2 t1,h3.cell h.c3 t1,h2.congr (fun k => ?_),h.mr.one (h3.block rb h.mr.lt (fun e=>h.ne.1 e.symm)),h.mq.one (h3.block kb h.mq.lt (fun e=>h.ne.2.1 e.symm)),h.ne⟩,h3,h4⟩
 unfold upm upS
 dsimp only
 by_cases e:k=x
 · rw [if_pos e,if_pos e];rfl
 · rw [if_neg e,if_neg e]
theorem RsAt.put_rt {w:World} {tb sb rb kb:Nat} {S:Rs} (h:RsAt w tb sb rb kb S) (l:Ln) (g:Nat) (X:Nat→Nat) :
 ∃ w',(Instr.mapUpdate 48 (.map (some rb)) (lnV l) (rtV g X)).run Tryz.prog w = .ok () w'∧RsAt w' tb sb rb kb { S with rt:=upR S.rt l (some (g,X)) }∧But (fun j=>j=rb) w w'∧w'.heap.size=w.heap.size:=by
 obtain ⟨w',h1,h2,h3,h4⟩:=mk_put h.mr und_rt ln_law l (rtV g X)
 obtain ⟨t1,t2,t3⟩:=h.tbs
 refine ⟨w',h1,⟨h3.cell h.c0 t2,h3.cell h.c1 t2,h3.cell h.c2 t2,h3.cell h.c3 t2,h.ms.same (h3.block sb h.ms.lt h.ne.1),h2.congr (fun k => ?_),h.mq.one (h3.block kb h.mq.lt (fun e=>h.ne.2.2 e.symm)),h.ne⟩,h3,h4⟩
 unfold upk upR
 dsimp only
 by_cases e:k=l
 · rw [if_pos e,if_pos e];rfl
 · rw [if_neg e,if_neg e]
theorem RsAt.put_ky {w:World} {tb sb rb kb:Nat} {S:Rs} (h:RsAt w tb sb rb kb S) (m:Ms) (A B:Nat→Nat) :
 ∃ w',(Instr.mapUpdate 49 (.map (some kb)) (msV m) (kyV A B)).run Tryz.prog w = .ok () w'∧RsAt w' tb sb rb kb { S with kp:=upQ S.kp m (some (A,B)) }∧But (fun j=>j=kb) w w'∧w'.heap.size=w.heap.size:=by
 obtain ⟨w',h1,h2,h3,h4⟩:=mk_put h.mq und_ky ms_law m (kyV A B)
 obtain ⟨t1,t2,t3⟩:=h.tbs
 refine ⟨w',h1,⟨h3.cell h.c0 t3,h3.cell h.c1 t3,h3.cell h.c2 t3,h3.cell h.c3 t3,h.ms.same (h3.block sb h.ms.lt h.ne.2.1),h.mr.one (h3.block rb h.mr.lt h.ne.2.2),h2.congr (fun k => ?_),h.ne⟩,h3,h4⟩
 unfold upk upQ
 dsimp only
 by_cases e:k=m
 · rw [if_pos e,if_pos e];rfl
 · rw [if_neg e,if_neg e]
theorem RsAt.del_ky {w:World} {tb sb rb kb:Nat} {S:Rs} (h:RsAt w tb sb rb kb S) (m:Ms) (ty:TypeId) :
 ∃ w',(Builtin.delete_ #[49,82] ty #[.map (some kb),msV m]).run Tryz.prog w = .ok (.tuple #[]) w'∧RsAt w' tb sb rb kb { S with kp:=upQ S.kp m none }∧But (fun j=>j=kb) w w'∧w'.heap.size=w.heap.size:=by
 obtain ⟨w',h1,h2,h3,h4⟩:=mk_del h.mq (ty:=ty) und_ky ms_law m
 obtain ⟨t1,t2,t3⟩:=h.tbs
 refine ⟨w',h1,⟨h3.cell h.c0 t3,h3.cell h.c1 t3,h3.cell h.c2 t3,h3.cell h.c3 t3,h.ms.same (h3.block sb h.ms.lt h.ne.2.1),h.mr.one (h3.block rb h.mr.lt h.ne.2.2),h2.congr (fun k => ?_),h.ne⟩,h3,h4⟩
 unfold upk upQ
 dsimp only
 by_cases e:k=m
 · rw [if_pos e,if_pos e];rfl
 · rw [if_neg e,if_neg e]
theorem RsAt.loc {w w':World} {tb sb rb kb B:Nat} {M:Nat→Prop} {S:Rs} (h:RsAt w tb sb rb kb S) (k:Loc B M w w') (e:tb<B∧sb<B∧rb<B∧kb<B):RsAt w' tb sb rb kb S :=
 h.at_eq (fun b hb=>by
  obtain ⟨e1,e2,e3,e4⟩:=e
  rcases hb with rfl | rfl | rfl | rfl
  · exact k.block _ h.lt (.inl e1)
  · exact k.block _ h.ms.lt (.inl e2)
  · exact k.block _ h.mr.lt (.inl e3)
  · exact k.block _ h.mq.lt (.inl e4))
def hfP (x:Nat) (k:Nat):Nat:=if k=0 then lftN x else rgtN x
def hfS (X:Nat→Nat) (k:Nat):Nat→Nat:=if k=0 then halfS X lLef else halfS X lRig
def hfK (x:Nat):Nat:=if innB (x:Int)=true then 2 else 0
theorem halfAr_eq (x:Nat) (X:Nat→Nat) (k:Nat):halfAr x X k=#[.int .i64 (hfP x k:Int),sdV (hfS X k)]:=by
 unfold halfAr hfP hfS
 split <;> rfl
theorem halves_all (p q:Nat) (x:Nat) (X:Nat→Nat) (hX:∀ j,X j<256):Iter Tryz.prog 63 #[pA p 0,pA q 0] (hfK x) (fun k=>some #[.int .i64 (hfP x k:Int),sdV (hfS X k)]) (fun _=>HasH p q (x:Int) X):=by
 unfold hfK
 by_cases hx:innB (x:Int)=true
 · rw [if_pos hx]
   have h:=halves_it p q x X hX hx
   have e:(fun k=>some (halfAr x X k))=(fun k=>some #[.int .i64 (hfP x k:Int),sdV (hfS X k)]):=by funext k;rw [halfAr_eq]
   rwa [e] at h
 · rw [if_neg hx]
   exact halves_none p q (x:Int) X (by cases h:innB (x:Int) with | true=>exact absurd h hx | false=>rfl) _
def opH (f:Int→Option (Nat→Nat)) (x:Nat) (X:Nat→Nat):Nat→(Int→Option (Nat→Nat))
 | 0=>upS f (x:Int) none
 | k+1=>upS (opH f x X k) (hfP x k:Int) (some (hfS X k))
def opS (f:Int→Option (Nat→Nat)) (xs:Nat→Nat) (ss:Nat→Nat→Nat):Nat→(Int→Option (Nat→Nat))
 | 0=>f
 | k+1=>opH (opS f xs ss k) (xs k) (ss k) (hfK (xs k))
def opT (f:Ln→Option (Nat × (Nat→Nat))) (i:Nat) (Y:Nat→Nat):Nat→(Ln→Option (Nat × (Nat→Nat)))
 | 0=>f
 | k+1=>upR (opT f i Y k) ((i:Int),decide (k=0)) (some (0,fstS Y (decide (k=0))))
end Go.Proofs.YtbbikhlbkpjpjaaGreatDoor
