/- What the proof stands on: V6A, V6B, V6C. -/
import Derived.Test.YtkoedfmdhdikaaaDoorD1CE5M
import Derived.Test.YtkoedfmdhdikaaaDoorHExpandM
import Derived.Test.YtkoedfmdhdikaaaDoorL5AM
namespace Go.Proofs.YtkoedfmdhdikaaaDoor
open Go.RowKit
section
variable {P:Program} {md:Region.Mode} {ops:Array Oper} {Q:Exit→Act→World→Prop} {S:World→Prop} {fuel:Nat} {listed:Array Bool} {a:Act} {w:World}
theorem zG (i:Nat) {rs:List Nat} {oi:Oper} (v:Nat→Value) (cs:List Value) (t:TypeId) (hk:∀ u,Below w.heap.size w u→S u) (h:∀ w1 g,w.heap.size≤g→Below w.heap.size w w1→RW w1 g 0 cs→wpAnyH P md ops Q S fuel (listed.setIfInBounds i true) (a.put oi.dst (v g)) w1) (hs:AllReadyH P md ops Q S fuel listed a w rs)
 (hi:ops.toList[i]? = some oi:=by rfl) (hrun:(execOp a.eval oi).run P w = .ok (.value (v w.heap.size)) (w.alloc (.cells cs.toArray t)):=by kernel_rfl) (hw:Region.wanted oi (yielded ops a.tmps)=true:=by rfl):AllReadyH P md ops Q S fuel listed a w (i :: rs) :=
 aG oi v cs t hk h hs hrun (at_list hi) hw
theorem zC (i:Nat) {rs:List Nat} {oi:Oper} {f:FuncId} {args:Array Value} {R:Ending→World→Prop} (c:Calls P f args w R) (h:∀ e w',R e w'→∃ r,e = .returned r∧S w'∧wpAnyH P md ops Q S fuel (listed.setIfInBounds i true) (a.put oi.dst r) w') (hs:AllReadyH P md ops Q S fuel listed a w rs)
 (hi:ops.toList[i]? = some oi:=by rfl) (hw:Region.wanted oi (yielded ops a.tmps)=true:=by rfl) (hrun:(execOp a.eval oi).run P w = .ok (.enter f args) w:=by kernel_rfl):AllReadyH P md ops Q S fuel listed a w (i :: rs) :=
 arC oi c h hs (at_list hi) hw hrun
end
structure CxD where
 gn:Nat
 g:Nat→Nat
 e:Int
 tn:Nat
 t:Nat→Nat
 rn:Nat
 r:Nat→Nat
def CxIn (W:World) (cs:List Value) (d:CxD):Prop:=∃ v0 v1 v2,cs=[v0,.int .i64 d.e,v1,v2]∧BytesIn W v0 d.gn d.g∧BytesIn W v1 d.tn d.t∧BytesIn W v2 d.rn d.r
theorem CxIn.keep {w w':World} {cs:List Value} {d:CxD} (h:CxIn w cs d) (hb:Below w.heap.size w w'):CxIn w' cs d:=by
 obtain ⟨v0,v1,v2,e,h0,h1,h2⟩:=h
 exact ⟨v0,v1,v2,e,h0.keep hb,h1.keep hb,h2.keep hb⟩
def cxB (d:CxD):Prop:=(∀ j,d.g j<256)∧(∀ j,d.t j<256)∧∀ j,d.r j<256
def cxOk (d:CxD):Bool:=(decide (d.gn≤255) && decide (d.tn≤255) && decide (d.rn≤255)) && (decide (0≤d.e) && decide (d.e<4294967296))
theorem mayBe_any (cs:List Value) (d:CxD) (w:World) (h:CxIn w cs d) :
 Calls Tryd.prog 58 #[.agg cs.toArray] w fun e w'=>e = .returned (.bool (cxOk d))∧Below w.heap.size w w':=by
 obtain ⟨v0,v1,v2,rfl,h0,h1,h2⟩:=h
 obtain ⟨x0,c0,rfl,-,-,-⟩:=h0.src
 obtain ⟨x1,c1,rfl,-,-,-⟩:=h1.src
 obtain ⟨x2,c2,rfl,-,-,-⟩:=h2.src
 clear h0 h1 h2
 obtain ⟨gn,g,e,tn,t,rn,r⟩:=d
 dsimp only
 obtain ⟨R,hR⟩:∃ R,R=cxOk ⟨gn,g,e,tn,t,rn,r⟩:=⟨_,rfl⟩
 rw [←hR]
 have HR:Hid (R=((decide (gn≤255) && decide (tn≤255) && decide (rn≤255)) && (decide (0≤e) && decide (e<4294967296)))):=hR
 clear hR
 go_enter Tryd.func58,Tryd.ntmps58
 go_wp2
 go_loopw [4,13] (fun _ i wr=>∃ q:Nat,q≤3∧i = .int .i64 (q:Int)∧Hid ((0<q→gn≤255)∧(1<q→tn≤255)∧(2<q→rn≤255))∧RW wr w.heap.size 0 [.slice x0 gn c0,.int .i64 e,.slice x1 tn c1,.slice x2 rn c2]∧RW wr (w.heap.size+1) 0 [.slice x0 gn c0,.slice x1 tn c1,.slice x2 rn c2]∧Below w.heap.size w wr) (fun _ i _=>3 - (intOf i).toNat)
 case atStart =>
  have b1:Below w.heap.size w (w.alloc (.cells #[.slice x0 gn c0,.int .i64 e,.slice x1 tn c1,.slice x2 rn c2] 40)):=(Below.refl _ _).alloc (Nat.le_refl _) _
  have k1:=RW.fresh w [.slice x0 gn c0,.int .i64 e,.slice x1 tn c1,.slice x2 rn c2] 40
  have k2:=RW.fresh (w.alloc (.cells #[.slice x0 gn c0,.int .i64 e,.slice x1 tn c1,.slice x2 rn c2] 40)) [.slice x0 gn c0,.slice x1 tn c1,.slice x2 rn c2] 24
  rw [World.size_alloc] at k2
  refine ⟨0,Nat.zero_le _,rfl,Hid.mk' ⟨(fun h=>absurd h (by decide)),(fun h=>absurd h (by decide)),(fun h=>absurd h (by decide))⟩,k1.still ((Below.refl _ _).alloc (Nat.le_refl _) _),k2,b1.alloc b1.size _⟩
 case round =>
  obtain ⟨q,hq,rfl,hh,k1,k2,hb⟩:=hrel
  by_cases hlt:q<3
  · obtain ⟨x,n,c,hc,hn⟩:∃ x n c,wr.cell? ⟨w.heap.size+1,q,none⟩=some (.slice x n c)∧((q=0∧n=gn)∨(q=1∧n=tn)∨(q=2∧n=rn)):=by
     have hr:=k2.range
     match q,hlt with
     | 0,_=>exact ⟨_,_,_,by simpa using hr 0 _ rfl,.inl ⟨rfl,rfl⟩⟩
     | 1,_=>exact ⟨_,_,_,by simpa using hr 1 _ rfl,.inr (.inl ⟨rfl,rfl⟩)⟩
     | 2,_=>exact ⟨_,_,_,by simpa using hr 2 _ rfl,.inr (.inr ⟨rfl,rfl⟩)⟩
    have HN:=Hid.mk' hn
    clear hn
    have hqi:(0:Int)≤(q:Int)∧(q:Int)<3:=by omega
    have hq3:(q:Int)<3:=by omega
    by_cases hz:(255:Int)<(n:Int)
    · go_wp2
      go_ret
      refine ⟨?_,hb⟩
      rw [HR.out]
      rcases HN.out with ⟨-,rfl⟩ | ⟨-,rfl⟩ | ⟨-,rfl⟩ <;> (have:¬n≤255:=by omega) <;> simp [this]
    · go_wp2
      go_roundw
      case rel =>
       refine ⟨q+1,hlt,by go_num,Hid.mk' ?_,k1,k2,hb⟩
       obtain ⟨a1,a2,a3⟩:=hh.out
       rcases HN.out with ⟨rfl,rfl⟩ | ⟨rfl,rfl⟩ | ⟨rfl,rfl⟩ <;> exact ⟨fun _=>by omega,fun _=>by omega,fun _=>by omega⟩
      case measure=>simp [intOf];omega
  · obtain rfl:q=3:=by omega
    have hc:wr.cell? ⟨w.heap.size,1,none⟩=some (.int .i64 e):=by simpa using k1.range 1 _ rfl
    have R2:R=(decide (0≤e) && decide (e<4294967296)):=by
     rw [HR.out]
     obtain ⟨a1,a2,a3⟩:=hh.out
     rw [decide_eq_true (a1 (by decide)),decide_eq_true (a2 (by decide)),decide_eq_true (a3 (by decide))]
     rfl
    have H2:=Hid.mk' R2
    clear R2 HR
    by_cases h0:0≤e
    · by_cases h1:e<4294967296
      · go_wp2
        go_ret
        exact ⟨by rw [H2.out,decide_eq_true h0,decide_eq_true h1];rfl,hb⟩
      · go_wp2
        go_ret
        exact ⟨by rw [H2.out,decide_eq_true h0,decide_eq_false (Int.not_lt.2 h1)];rfl,hb⟩
    · go_wp2
      go_ret
      exact ⟨by rw [H2.out,decide_eq_false (Int.not_le.2 h0)];rfl,hb⟩
theorem number_any (n s:Nat) (h:szB s=true) (hn:n<mstN s) (w:World) :
 Calls Tryd.prog 38 #[.int .i64 n,.int .i64 s] w fun e w'=>∃ v,e = .returned v∧BytesIn w' v s (beN n s)∧Below w.heap.size w w':=by
 have hc:=cNum11_good n s h hn w
 clear h hn
 go_enter Tryd.func38,Tryd.ntmps38
 go_wp2_with (go_at_call 32;refine hc.mono ?_;clear hc;rintro e w1 ⟨v1,rfl,B1,b1⟩)
 go_ret
 exact ⟨_,rfl,B1,b1⟩
theorem vectors_any (xo:Option Addr) (cnt cap:Nat) (pv:Nat→Value) (pn:Nat→Nat) (pb:Nat→Nat→Nat) (hsz:bigN pn cnt=false) (hcnt:cnt≤1048576) (hsum:sumN pn cnt≤1048576) (w:World) (hP:PiecesIn w xo cnt pv pn pb) :
 Calls Tryd.prog 37 #[.slice xo cnt cap] w fun e w'=>∃ v,e = .returned v∧Own w.heap.size w' v (vsL pn cnt) (vsB pn pb cnt)∧Below w.heap.size w w':=by
 have hc:=cVecs_any xo cnt cap pv pn pb hcnt hsum w hP
 replace hc:Calls Tryd.prog 54 #[.slice xo cnt cap] w fun e w'=>∃ v,e = .returned (.tuple #[v,.int .i64 0])∧Own w.heap.size w' v (vsL pn cnt) (vsB pn pb cnt)∧Below w.heap.size w w':=hc.mono fun e w' ⟨h1,h2⟩=>by
  rcases h1 with ⟨h,-⟩ | ⟨-,v,h3,h4⟩
  · rw [hsz] at h;cases h
  · exact ⟨v,h3,h4,h2⟩
 obtain ⟨L,hL⟩:∃ L,L=vsL pn cnt:=⟨_,rfl⟩
 obtain ⟨F,hF⟩:∃ F,F=vsB pn pb cnt:=⟨_,rfl⟩
 rw [←hL,←hF] at hc ⊢
 clear hL hF hsz hcnt hsum hP
 go_enter Tryd.func37,Tryd.ntmps37
 go_wp2_with (go_at_call 54;refine hc.mono ?_;clear hc;rintro e w1 ⟨v1,rfl,o1,b1⟩)
 go_ret
 exact ⟨_,rfl,o1,b1⟩
end Go.Proofs.YtkoedfmdhdikaaaDoor
namespace Go.Proofs.YtkoedfmdhdikaaaDoor
open Go.RowKit
theorem parts_rw {w:World} {g:Nat} (ps:List (Value × Nat × (Nat→Nat))) (r:RW w g 0 (ps.map (·.1))) (h:∀ p,p∈ps→BytesIn w p.1 p.2.1 p.2.2) :
 Parts w g ps.length (lenL (ps.map (·.2))) (catL (ps.map (·.2))):=by
 refine ⟨fun i=>((ps.map (·.1))[i]?).getD (.bool false),fun i=>lenL ((ps.map (·.2)).take i),rfl,by show lenL (List.take ps.length _)=_;rw [List.take_of_length_le (by simp)],fun i hi => ?_⟩
 have hp:ps[i]? = some ps[i]:=List.getElem?_eq_getElem hi
 have hp2:(ps.map (·.2))[i]? = some ps[i].2:=by simp [hp]
 have hs:=lenL_succ _ i _ hp2
 have hv:((ps.map (·.1))[i]?).getD (.bool false)=ps[i].1:=by simp [hp]
 have hc:=r.range i ps[i].1 (by simp [hp])
 rw [Nat.zero_add] at hc
 refine ⟨by rw [hc];exact congrArg some hv.symm,?_,lenL_take_le _ _,?_⟩
 · show lenL ((ps.map (·.2)).take i)≤lenL ((ps.map (·.2)).take (i+1))
   rw [hs];exact Nat.le_add_right _ _
 · show BytesIn _ (((ps.map (·.1))[i]?).getD (.bool false)) (lenL ((ps.map (·.2)).take (i+1)) - lenL ((ps.map (·.2)).take i)) _
   rw [hs,Nat.add_sub_cancel_left,hv]
   exact (h ps[i] (List.getElem_mem hi)).cong fun j hj=>(catL_at _ i _ hp2 j hj).symm
theorem pieces_rw {w:World} {g n:Nat} (vs:List Value) (pn:Nat→Nat) (pb:Nat→Nat→Nat) (r:RW w g 0 vs) (hn:vs.length=n) (h:∀ i v,vs[i]? = some v→BytesIn w v (pn i) (pb i)) (lb:∀ i j,pb i j<256):PiecesIn w (some ⟨g,0,none⟩) n (fun i=>(vs[i]?).getD undef) pn pb:=by
 subst hn
 refine ⟨fun q _=>⟨g,0,rfl,fun i hi => ?_⟩,fun i hi => ?_,lb⟩
 · rw [List.getElem?_eq_getElem hi];exact r.range i _ (List.getElem?_eq_getElem hi)
 · rw [List.getElem?_eq_getElem hi];exact h i _ (List.getElem?_eq_getElem hi)
def thr {α:Type} (a b c:α):Nat→α
 | 0=>a
 | 1=>b
 | _=>c
theorem catZ (a b:Nat→Nat):cat 0 a b=b:=by funext j;unfold cat;rw [if_neg (by omega),Nat.sub_zero]
theorem vs1L (n:Nat):vsL (fun _=>n) 1=vcL n:=Nat.zero_add _
theorem vs1B (n:Nat) (b:Nat→Nat):vsB (fun _=>n) (fun _=>b) 1=vcB n b:=catZ (fun _=>0) _
theorem vec1_any (g:Nat) (v:Value) (n:Nat) (b:Nat→Nat) (hn:n≤65536) (lb:∀ j,b j<256) (w:World) (r:RW w g 0 [v]) (hv:BytesIn w v n b):Calls Tryd.prog 37 #[.slice (some ⟨g,0,none⟩) 1 1] w fun e w'=>∃ s,e = .returned s∧Own w.heap.size w' s (vcL n) (vcB n b)∧Below w.heap.size w w' :=
 (vectors_any (some ⟨g,0,none⟩) 1 1 _ (fun _=>n) (fun _=>b) (by show (false || decide (65536<n))=false;rw [decide_eq_false (by omega)];rfl) (by decide) (by show 0+n≤_;omega) w (pieces_rw [v] _ _ r rfl (fun i u hu=>by
   match i,hu with
   | 0,hu=>cases hu;exact hv
   | i+1,hu=>simp at hu) (fun _=>lb))).mono fun e w' ⟨s,h1,h2,h3⟩=>⟨s,h1,by
    rw [vs1L,vs1B] at h2
    exact h2,h3⟩
def t3L (a b c:Nat):Nat:=vsL (thr a b c) 3
def t3B (a:Nat) (A:Nat→Nat) (b:Nat) (B:Nat→Nat) (c:Nat) (C:Nat→Nat):Nat→Nat:=vsB (thr a b c) (thr A B C) 3
theorem t3L_le (a b c:Nat):t3L a b c≤a+b+c+12:=by
 have:=vsL_le (thr a b c) 3
 have e:sumN (thr a b c) 3=0+a+b+c:=rfl
 unfold t3L
 omega
theorem thr_lt {A B C:Nat→Nat} (hA:∀ j,A j<256) (hB:∀ j,B j<256) (hC:∀ j,C j<256):∀ i j,thr A B C i j<256
 | 0=>hA
 | 1=>hB
 | _+2=>hC
theorem vcB_ltV {n:Nat} {b:Nat→Nat} (h:∀ j,b j<256) (j:Nat):vcB n b j<256:=cat_lt (fun j=>Nat.mod_lt _ (by decide)) h j
theorem t3B_lt {a b c:Nat} {A B C:Nat→Nat} (hA:∀ j,A j<256) (hB:∀ j,B j<256) (hC:∀ j,C j<256) (j:Nat):t3B a A b B c C j<256:=allB_lt (pn:=fun i=>vcL (thr a b c i)) (pb:=fun i=>vcB (thr a b c i) (thr A B C i)) (fun i j=>vcB_ltV (thr_lt hA hB hC i) j) 3 j
theorem vec3_any (g:Nat) (u v x:Value) (a b c:Nat) (A B C:Nat→Nat) (ha:a≤65536) (hb:b≤65536) (hc:c≤65536) (lA:∀ j,A j<256) (lB:∀ j,B j<256) (lC:∀ j,C j<256) (w:World) (r:RW w g 0 [u,v,x]) (h1:BytesIn w u a A) (h2:BytesIn w v b B) (h3:BytesIn w x c C):Calls Tryd.prog 37 #[.slice (some ⟨g,0,none⟩) 3 3] w fun e w'=>∃ s,e = .returned s∧Own w.heap.size w' s (t3L a b c) (t3B a A b B c C)∧Below w.heap.size w w' :=
 vectors_any (some ⟨g,0,none⟩) 3 3 _ (thr a b c) (thr A B C) (by show (((false || decide (65536<a)) || decide (65536<b)) || decide (65536<c))=false;rw [decide_eq_false (by omega),decide_eq_false (by omega),decide_eq_false (by omega)];rfl) (by decide) (by show 0+a+b+c≤_;omega) w (pieces_rw [u,v,x] _ _ r rfl (fun i y hy=>by
  match i,hy with
  | 0,hy=>cases hy;exact h1
  | 1,hy=>cases hy;exact h2
  | 2,hy=>cases hy;exact h3
  | i+3,hy=>simp at hy) (thr_lt lA lB lC))
def cxP (d:CxD):List (Nat × (Nat→Nat)):=[(4,litB [0,1,0,1]),(vcL d.gn,vcB d.gn d.g),(8,beN d.e.toNat 8),(t3L d.tn d.rn 0,t3B d.tn d.t d.rn d.r 0 lZ)]
def cxL (d:CxD):Nat:=lenL (cxP d)
def cxT (d:CxD):Nat→Nat:=catL (cxP d)
theorem cxOk_le {d:CxD} (h:cxOk d=true):d.gn≤255∧d.tn≤255∧d.rn≤255∧0≤d.e∧d.e<4294967296:=by
 simp only [cxOk,Bool.and_eq_true,decide_eq_true_eq] at h
 exact ⟨h.1.1.1,h.1.1.2,h.1.2,h.2.1,h.2.2⟩
theorem lnS_le4 (n:Nat):0<lnS n∧lnS n≤4:=by
 unfold lnS
 split
 · decide
 · split <;> decide
theorem cxL_le {d:CxD} (h:cxOk d=true):12<cxL d∧cxL d≤800:=by
 obtain ⟨h1,h2,h3,-,-⟩:=cxOk_le h
 have e:cxL d=4+((lnS d.gn+d.gn)+(8+(t3L d.tn d.rn 0+0))):=rfl
 have:=t3L_le d.tn d.rn 0
 have:=lnS_le4 d.gn
 omega
theorem cxT_lt {d:CxD} (h:cxB d) (j:Nat):cxT d j<256:=by
 refine catL_lt _ (fun p hp => ?_) j
 simp only [cxP,List.mem_cons,List.not_mem_nil,or_false] at hp
 rcases hp with rfl | rfl | rfl | rfl
 · exact litB_lt (by decide)
 · exact vcB_ltV h.1
 · exact fun j=>beN_lt _ _ j
 · exact t3B_lt h.2.1 h.2.2 (fun _=>by show 0<256;decide)
theorem kind_eq (j:Nat) (hj:j<4):catL [(2,beN 1 2),(2,beN 1 2)] j=litB [0,1,0,1] j:=by
 match j,hj with
 | 0,_=>rfl
 | 1,_=>rfl
 | 2,_=>rfl
 | 3,_=>rfl
theorem concat2_any (w:World) (g:Nat) (u v:Value) (a b:Nat) (A B:Nat→Nat) (h0:0<a+b) (hs:a+b≤1000000) (r:RW w g 0 [u,v]) (h1:BytesIn w u a A) (h2:BytesIn w v b B):Calls Tryd.prog 36 #[.slice (some ⟨g,0,none⟩) 2 2] w fun e w'=>∃ s,e = .returned s∧Own w.heap.size w' s (a+(b+0)) (catL [(a,A),(b,B)])∧Below w.heap.size w w' :=
 concat_parts g 2 (a+(b+0)) (catL [(a,A),(b,B)]) w (parts_rw [(u,a,A),(v,b,B)] r (fun p hp=>by
  simp only [List.mem_cons,List.not_mem_nil,or_false] at hp
  rcases hp with rfl | rfl
  · exact h1
  · exact h2)) (by decide) (by omega) (by omega)
theorem concat4_any (w:World) (g:Nat) (u v x y:Value) (a b c d:Nat) (A B C D:Nat→Nat) (h0:0<a) (hs:a+b+c+d≤1000000) (r:RW w g 0 [u,v,x,y]) (h1:BytesIn w u a A) (h2:BytesIn w v b B) (h3:BytesIn w x c C) (h4:BytesIn w y d D):Calls Tryd.prog 36 #[.slice (some ⟨g,0,none⟩) 4 4] w fun e w'=>∃ s,e = .returned s∧Own w.heap.size w' s (lenL [(a,A),(b,B),(c,C),(d,D)]) (catL [(a,A),(b,B),(c,C),(d,D)])∧Below w.heap.size w w' :=
 concat_parts g 4 (a+(b+(c+(d+0)))) (catL [(a,A),(b,B),(c,C),(d,D)]) w (parts_rw [(u,a,A),(v,b,B),(x,c,C),(y,d,D)] r (fun p hp=>by
  simp only [List.mem_cons,List.not_mem_nil,or_false] at hp
  rcases hp with rfl | rfl | rfl | rfl
  · exact h1
  · exact h2
  · exact h3
  · exact h4)) (by decide) (by omega) (by omega)
theorem putCtx_bad (cs:List Value) (d:CxD) (ok:cxOk d=false) (w:World) (h:CxIn w cs d) :
 Calls Tryd.prog 44 #[.agg cs.toArray] w fun e w'=>e = .returned (.tuple #[.slice none 0 0,.int .i64 1])∧Below w.heap.size w w':=by
 have hm:=fun (W:World) (hb:Below w.heap.size w W)=>mayBe_any cs d W (h.keep hb)
 obtain ⟨v0,v1,v2,rfl,h0,h1,h2⟩:=h
 rw [ok] at hm
 clear h0 h1 h2 ok
 obtain ⟨E,hE⟩:∃ E,E=d.e:=⟨_,rfl⟩
 rw [←hE] at hm ⊢
 clear hE d
 have b1:Below w.heap.size w (w.alloc (.cells #[v0,.int .i64 E,v1,v2] 40)):=(Below.refl _ _).alloc (Nat.le_refl _) _
 replace hm:=hm _ b1
 go_enter Tryd.func44,Tryd.ntmps44
 go_wp2_with (go_at_call 58;refine hm.mono ?_;clear hm;rintro e w1 ⟨rfl,hb1⟩)
 go_ret2
 exact ⟨rfl,below_next b1 hb1⟩
set_option maxRecDepth 20000 in
set_option maxHeartbeats 4000000 in
theorem putCtx_good (cs:List Value) (d:CxD) (hB:cxB d) (ok:cxOk d=true) (w:World) (h:CxIn w cs d) :
 Calls Tryd.prog 44 #[.agg cs.toArray] w fun e w'=>∃ s,e = .returned (.tuple #[s,.int .i64 0])∧Own w.heap.size w' s (cxL d) (cxT d)∧Below w.heap.size w w':=by
 obtain ⟨l1,l2,l3,e0,e1⟩:=cxOk_le ok
 have hle:=cxL_le ok
 have hm:=fun (W:World) (hb:Below w.heap.size w W)=>mayBe_any cs d W (h.keep hb)
 rw [ok] at hm
 clear ok
 obtain ⟨v0,v1,v2,rfl,h0,h1,h2⟩:=h
 obtain ⟨gn,gB,e,tn,tB,rn,rB⟩:=d
 dsimp only at hm l1 l2 l3 e0 e1 h0 h1 h2 ⊢
 obtain ⟨E,rfl⟩:∃ E:Nat,e=(E:Int):=⟨e.toNat,by omega⟩
 have hE:E<4294967296:=by omega
 clear e0 e1
 obtain ⟨hBg,hBt,hBr⟩:=hB
 dsimp only at hBg hBt hBr
 have eL:cxL ⟨gn,gB,(E:Int),tn,tB,rn,rB⟩=lenL [(4,litB [0,1,0,1]),(vcL gn,vcB gn gB),(8,beN E 8),(t3L tn rn 0,t3B tn tB rn rB 0 lZ)]:=rfl
 have eT:cxT ⟨gn,gB,(E:Int),tn,tB,rn,rB⟩=catL [(4,litB [0,1,0,1]),(vcL gn,vcB gn gB),(8,beN E 8),(t3L tn rn 0,t3B tn tB rn rB 0 lZ)]:=rfl
 rw [eL] at hle ⊢
 rw [eT]
 have hsum:4+vcL gn+8+t3L tn rn 0≤1000000:=by
  have e:lenL [(4,litB [0,1,0,1]),(vcL gn,vcB gn gB),(8,beN E 8),(t3L tn rn 0,t3B tn tB rn rB 0 lZ)]=4+(vcL gn+(8+(t3L tn rn 0+0))):=rfl
  omega
 obtain ⟨x0,c0,rfl,-,-,-⟩:=h0.src
 obtain ⟨x1,c1,rfl,-,-,-⟩:=h1.src
 obtain ⟨x2,c2,rfl,-,-,-⟩:=h2.src
 have b1:Below w.heap.size w (w.alloc (.cells #[.slice x0 gn c0,.int .i64 E,.slice x1 tn c1,.slice x2 rn c2] 40)):=(Below.refl _ _).alloc (Nat.le_refl _) _
 have k1:=RW.fresh w [.slice x0 gn c0,.int .i64 E,.slice x1 tn c1,.slice x2 rn c2] 40
 replace hm:=hm _ b1
 have n2:=fun (W:World)=>number_any 1 2 (by decide) (by decide) W
 have n8:=fun (W:World)=>number_any E 8 (by decide) (by show E<4611686018427387904;omega) W
 have cv1:=fun (W:World) (g:Nat) (hb:Below w.heap.size w W) (r:RW W g 0 [.slice x0 gn c0])=>vec1_any g (.slice x0 gn c0) gn gB (by omega) hBg W r (h0.keep hb)
 have cv3:=fun (W:World) (g:Nat) (hb:Below w.heap.size w W) (r:RW W g 0 [.slice x1 tn c1,.slice x2 rn c2,.slice none 0 0])=>vec3_any g (.slice x1 tn c1) (.slice x2 rn c2) (.slice none 0 0) tn rn 0 tB rB lZ (by omega) (by omega) (by decide) hBt hBr (fun _=>by show 0<256;decide) W r (h1.keep hb) (h2.keep hb) (.inl ⟨none,rfl,rfl⟩)
 have cc2:=fun (W:World) (g:Nat) (u v:Value) (r:RW W g 0 [u,v]) (a1:BytesIn W u 2 (beN 1 2)) (a2:BytesIn W v 2 (beN 1 2))=>concat2_any W g u v 2 2 _ _ (by decide) (by decide) r a1 a2
 obtain ⟨T1,hT1⟩:∃ T,T=vcL gn:=⟨_,rfl⟩
 obtain ⟨F1,hF1⟩:∃ F,F=vcB gn gB:=⟨_,rfl⟩
 obtain ⟨T3,hT3⟩:∃ T,T=t3L tn rn 0:=⟨_,rfl⟩
 obtain ⟨F3,hF3⟩:∃ F,F=t3B tn tB rn rB 0 lZ:=⟨_,rfl⟩
 obtain ⟨F8,hF8⟩:∃ F,F=beN E 8:=⟨_,rfl⟩
 obtain ⟨F2,hF2⟩:∃ F,F=beN 1 2:=⟨_,rfl⟩
 rw [←hT1,←hF1] at cv1
 rw [←hT3,←hF3] at cv3
 rw [←hF8] at n8
 rw [←hF2] at n2 cc2
 have m2:=n2
 rw [←hT1,←hT3] at hsum
 rw [←hT1,←hF1,←hT3,←hF3,←hF8]
 have hk4:∀ j,j<4→catL [(2,F2),(2,F2)] j=litB [0,1,0,1] j:=by rw [hF2];exact kind_eq
 have cc4:=fun (W:World) (g:Nat) (u v x y:Value) (r:RW W g 0 [u,v,x,y]) (a1:BytesIn W u 4 (litB [0,1,0,1])) (a2:BytesIn W v T1 F1) (a3:BytesIn W x 8 F8) (a4:BytesIn W y T3 F3)=>concat4_any W g u v x y 4 T1 8 T3 _ F1 F8 F3 (by decide) hsum r a1 a2 a3 a4
 obtain ⟨FK,hFK⟩:∃ F,F=litB [0,1,0,1]:=⟨_,rfl⟩
 obtain ⟨PK,hPK⟩:∃ F,F=catL [(2,F2),(2,F2)]:=⟨_,rfl⟩
 obtain ⟨TL,hTL⟩:∃ F,F=lenL [(4,FK),(T1,F1),(8,F8),(T3,F3)]:=⟨_,rfl⟩
 obtain ⟨TF,hTF⟩:∃ F,F=catL [(4,FK),(T1,F1),(8,F8),(T3,F3)]:=⟨_,rfl⟩
 rw [←hFK] at hk4 cc4
 rw [←hPK] at hk4 cc2
 rw [←hFK,←hTL,←hTF]
 rw [←hTL,←hTF] at cc4
 replace cc2:∀ (W:World) (g:Nat) (u v:Value),RW W g 0 [u,v]→BytesIn W u 2 F2→BytesIn W v 2 F2→Calls Tryd.prog 36 #[.slice (some ⟨g,0,none⟩) 2 2] W fun e w'=>∃ s,e = .returned s∧Own W.heap.size w' s 4 FK∧Below W.heap.size W w':=fun W g u v r a1 a2=>(cc2 W g u v r a1 a2).mono fun e w' ⟨s,p1,p2,p3⟩=>⟨s,p1,p2.congr hk4,p3⟩
 clear hle hsum hT1 hF1 hT3 hF3 hF8 hF2 hFK hPK hTL hTF hk4 l1 l2 l3 hE hBg hBt hBr eL eT
 have B1:=Hid.mk' b1
 have K1:=Hid.mk' k1
 clear b1 k1
 go_enter Tryd.func44,Tryd.ntmps44
 go_upto_region 4 with (first
  | (go_at_call 58;refine hm.mono ?_;clear hm;rintro e w1 ⟨rfl,hb1⟩)
  | (go_at_call 38;refine (n2 _).mono ?_;clear n2;rintro e w2 ⟨s2,rfl,B2,hb2⟩;(obtain ⟨x2k,c2k,hs2,-,-,-⟩:=B2.src);subst hs2)
  | (go_at_call 38;refine (m2 _).mono ?_;clear m2;rintro e w3 ⟨s3,rfl,B3,hb3⟩;(obtain ⟨x3k,c3k,hs3,-,-,-⟩:=B3.src);subst hs3;have r4:=RW.fresh w3 [.slice x2k 2 c2k,.slice x3k 2 c3k] 24;have b4:Below w3.heap.size w3 (w3.alloc (.cells #[.slice x2k 2 c2k,.slice x3k 2 c3k] 24)):=(Below.refl _ _).alloc (Nat.le_refl _) _;have D2:=(B2.keep hb3).keep b4;have D3:=B3.keep b4)
  | (go_at_call 36;refine (cc2 _ _ _ _ r4 D2 D3).mono ?_;clear cc2;rintro e w5 ⟨s5,rfl,o5,hb5⟩;(obtain ⟨x5,c5,hs5⟩:=o5.slice);subst hs5))
 have bA:=below_next (below_next (below_next (below_next hb1 hb2) hb3) b4) hb5
 have hk:=o5.bytesIn
 have kV:=K1.out.still bA
 have hw:=below_next B1.out bA
 have hdrew:Below w5.heap.size w5 w5.drew:=(Below.refl _ _).drew
 replace hk:=hk.keep hdrew
 replace kV:=kV.still hdrew
 replace hw:=below_next hw hdrew
 clear bA b4 hb5 hb3 hb2 hb1 D2 D3 B2 B3 r4 o5 B1 K1 hdrew
 have q0:∀ u,Below w5.drew.heap.size w5.drew u→u.cell? ⟨w.heap.size,0,none⟩=some (.slice x0 gn c0):=fun u hu=>by simpa using (kV.still hu).range 0 _ rfl
 have q1:∀ u,Below w5.drew.heap.size w5.drew u→u.cell? ⟨w.heap.size,1,none⟩=some (.int .i64 E):=fun u hu=>by simpa using (kV.still hu).range 1 _ rfl
 have q2:∀ u,Below w5.drew.heap.size w5.drew u→u.cell? ⟨w.heap.size,2,none⟩=some (.slice x1 tn c1):=fun u hu=>by simpa using (kV.still hu).range 2 _ rfl
 have q3:∀ u,Below w5.drew.heap.size w5.drew u→u.cell? ⟨w.heap.size,3,none⟩=some (.slice x2 rn c2):=fun u hu=>by simpa using (kV.still hu).range 3 _ rfl
 clear kV
 refine wp_region_noPanic ?_
 refine wp_region_held_drew (S:=fun u=>Below w5.drew.heap.size w5.drew u) (by kernel_rfl) (Below.refl _ _) (fun hS => ?_)
 generalize w5.drew=V at *
 refine tg 0 hS ?_
 (try simp only [pS])
 refine tg 1 hS ?_
 (try simp only [pS])
 refine tc 2 hS (fun u hu=>q0 u hu) ?_
 (try simp only [pS])
 refine tg 5 hS ?_
 (try simp only [pS])
 refine tc 6 hS (fun u hu=>q1 u hu) ?_
 (try simp only [pS])
 refine tg 8 hS ?_
 (try simp only [pS])
 refine tc 9 hS (fun u hu=>q2 u hu) ?_
 (try simp only [pS])
 refine tg 10 hS ?_
 (try simp only [pS])
 refine tc 11 hS (fun u hu=>q3 u hu) ?_
 (try simp only [pS])
 clear q0 q1 q2 q3
 refine wpAnyH_ready (rs:=[3,12]) (by kernel_rfl) (by simp) ?_
 refine zG 3 (fun g => .slice (some ⟨g,0,none⟩) 1 1) ([.slice x0 gn c0]) 24 (fun u hb=>below_next hS hb) (fun w1 g3 lr3 hb r3 => ?_) ?_
 · replace hS:=below_next hS hb
   (try simp only [pS])
   refine wpAnyH_ready (rs:=[4,12]) (by kernel_rfl) (by simp) ?_
   refine zC 4 (cv1 w1 g3 (below_next hw hS) r3) (fun e w2 hr => ?_) ?_
   · obtain ⟨s4,rfl,o4,hb⟩:=hr
     (obtain ⟨x4,c4,hs4⟩:=o4.slice);subst hs4;have B4:=o4.bytesIn;clear o4
     replace hS:=below_next hS hb
     refine ⟨_,rfl,hS,?_⟩
     (try simp only [pS])
     replace r3:=r3.still hb
     refine wpAnyH_ready (rs:=[7,12]) (by kernel_rfl) (by simp) ?_
     refine zC 7 (n8 w2) (fun e w3 hr => ?_) ?_
     · obtain ⟨s7,rfl,B7,hb⟩:=hr
       (obtain ⟨x7,c7,hs7,-⟩:=B7.src);subst hs7
       replace hS:=below_next hS hb
       refine ⟨_,rfl,hS,?_⟩
       (try simp only [pS])
       replace r3:=r3.still hb
       replace B4:=B4.keep hb
       refine wpAnyH_ready (rs:=[12]) (by kernel_rfl) (by simp) ?_
       refine zG 12 (fun g => .slice (some ⟨g,0,none⟩) 3 3) ([.slice x1 tn c1,.slice x2 rn c2,.slice none 0 0]) 24 (fun u hb=>below_next hS hb) (fun w4 g12 lr12 hb r12 => ?_) ?_
       · replace hS:=below_next hS hb
         (try simp only [pS])
         replace r3:=r3.still hb
         replace B4:=B4.keep hb
         replace B7:=B7.keep hb
         refine wpAnyH_ready (rs:=[13]) (by kernel_rfl) (by simp) ?_
         refine zC 13 (cv3 w4 g12 (below_next hw hS) r12) (fun e w5 hr => ?_) ?_
         · obtain ⟨s13,rfl,o13,hb⟩:=hr
           (obtain ⟨x13,c13,hs13⟩:=o13.slice);subst hs13;have B13:=o13.bytesIn;clear o13
           replace hS:=below_next hS hb
           refine ⟨_,rfl,hS,?_⟩
           (try simp only [pS])
           replace r3:=r3.still hb
           replace B4:=B4.keep hb
           replace B7:=B7.keep hb
           replace r12:=r12.still hb
           refine wpAnyH_ready (rs:=[14]) (by kernel_rfl) (by simp) ?_
           refine zG 14 (fun g => .slice (some ⟨g,0,none⟩) 4 4) ([.slice x5 4 c5,.slice x4 T1 c4,.slice x7 8 c7,.slice x13 T3 c13]) 24 (fun u hb=>below_next hS hb) (fun w6 g14 lr14 hb r14 => ?_) ?_
           · replace hS:=below_next hS hb
             (try simp only [pS])
             replace r3:=r3.still hb
             replace B4:=B4.keep hb
             replace B7:=B7.keep hb
             replace r12:=r12.still hb
             replace B13:=B13.keep hb
             refine wpAnyH_ready (rs:=[15]) (by kernel_rfl) (by simp) ?_
             refine zC 15 (cc4 w6 g14 _ _ _ _ r14 (hk.keep hS) B4 B7 B13) (fun e w7 hr => ?_) ?_
             · obtain ⟨s15,rfl,o15,hb⟩:=hr
               have hz:=(below_next hw hS).size
               replace hS:=below_next hS hb
               refine ⟨_,rfl,hS,?_⟩
               (try simp only [pS])
               replace r3:=r3.still hb
               replace B4:=B4.keep hb
               replace B7:=B7.keep hb
               replace r12:=r12.still hb
               replace B13:=B13.keep hb
               replace r14:=r14.still hb
               refine tg 16 hS ?_
               (try simp only [pS])
               refine tg 17 hS ?_
               (try simp only [pS])
               refine wpAnyH_done (by kernel_rfl) ?_ _
               refine NoPanic.normal ?_
               go_wp2
               go_ret2
               exact ⟨_,rfl,o15.lower hz,below_next hw hS⟩
             exact AllReadyH.nil
           exact AllReadyH.nil
         exact AllReadyH.nil
       exact AllReadyH.nil
     refine zG 12 (fun g => .slice (some ⟨g,0,none⟩) 3 3) ([.slice x1 tn c1,.slice x2 rn c2,.slice none 0 0]) 24 (fun u hb=>below_next hS hb) (fun w3 g12 lr12 hb r12 => ?_) ?_
     · replace hS:=below_next hS hb
       (try simp only [pS])
       replace r3:=r3.still hb
       replace B4:=B4.keep hb
       refine wpAnyH_ready (rs:=[7]) (by kernel_rfl) (by simp) ?_
       refine zC 7 (n8 w3) (fun e w4 hr => ?_) ?_
       · obtain ⟨s7,rfl,B7,hb⟩:=hr
         (obtain ⟨x7,c7,hs7,-⟩:=B7.src);subst hs7
         replace hS:=below_next hS hb
         refine ⟨_,rfl,hS,?_⟩
         (try simp only [pS])
         replace r3:=r3.still hb
         replace B4:=B4.keep hb
         replace r12:=r12.still hb
         refine wpAnyH_ready (rs:=[13]) (by kernel_rfl) (by simp) ?_
         refine zC 13 (cv3 w4 g12 (below_next hw hS) r12) (fun e w5 hr => ?_) ?_
         · obtain ⟨s13,rfl,o13,hb⟩:=hr
           (obtain ⟨x13,c13,hs13⟩:=o13.slice);subst hs13;have B13:=o13.bytesIn;clear o13
           replace hS:=below_next hS hb
           refine ⟨_,rfl,hS,?_⟩
           (try simp only [pS])
           replace r3:=r3.still hb
           replace B4:=B4.keep hb
           replace r12:=r12.still hb
           replace B7:=B7.keep hb
           refine wpAnyH_ready (rs:=[14]) (by kernel_rfl) (by simp) ?_
           refine zG 14 (fun g => .slice (some ⟨g,0,none⟩) 4 4) ([.slice x5 4 c5,.slice x4 T1 c4,.slice x7 8 c7,.slice x13 T3 c13]) 24 (fun u hb=>below_next hS hb) (fun w6 g14 lr14 hb r14 => ?_) ?_
           · replace hS:=below_next hS hb
             (try simp only [pS])
             replace r3:=r3.still hb
             replace B4:=B4.keep hb
             replace r12:=r12.still hb
             replace B7:=B7.keep hb
             replace B13:=B13.keep hb
             refine wpAnyH_ready (rs:=[15]) (by kernel_rfl) (by simp) ?_
             refine zC 15 (cc4 w6 g14 _ _ _ _ r14 (hk.keep hS) B4 B7 B13) (fun e w7 hr => ?_) ?_
             · obtain ⟨s15,rfl,o15,hb⟩:=hr
               have hz:=(below_next hw hS).size
               replace hS:=below_next hS hb
               refine ⟨_,rfl,hS,?_⟩
               (try simp only [pS])
               replace r3:=r3.still hb
               replace B4:=B4.keep hb
               replace r12:=r12.still hb
               replace B7:=B7.keep hb
               replace B13:=B13.keep hb
               replace r14:=r14.still hb
               refine tg 16 hS ?_
               (try simp only [pS])
               refine tg 17 hS ?_
               (try simp only [pS])
               refine wpAnyH_done (by kernel_rfl) ?_ _
               refine NoPanic.normal ?_
               go_wp2
               go_ret2
               exact ⟨_,rfl,o15.lower hz,below_next hw hS⟩
             exact AllReadyH.nil
           exact AllReadyH.nil
         exact AllReadyH.nil
       exact AllReadyH.nil
     exact AllReadyH.nil
   refine zG 12 (fun g => .slice (some ⟨g,0,none⟩) 3 3) ([.slice x1 tn c1,.slice x2 rn c2,.slice none 0 0]) 24 (fun u hb=>below_next hS hb) (fun w2 g12 lr12 hb r12 => ?_) ?_
   · replace hS:=below_next hS hb
     (try simp only [pS])
     replace r3:=r3.still hb
     refine wpAnyH_ready (rs:=[4]) (by kernel_rfl) (by simp) ?_
     refine zC 4 (cv1 w2 g3 (below_next hw hS) r3) (fun e w3 hr => ?_) ?_
     · obtain ⟨s4,rfl,o4,hb⟩:=hr
       (obtain ⟨x4,c4,hs4⟩:=o4.slice);subst hs4;have B4:=o4.bytesIn;clear o4
       replace hS:=below_next hS hb
       refine ⟨_,rfl,hS,?_⟩
       (try simp only [pS])
       replace r3:=r3.still hb
       replace r12:=r12.still hb
       refine wpAnyH_ready (rs:=[7]) (by kernel_rfl) (by simp) ?_
       refine zC 7 (n8 w3) (fun e w4 hr => ?_) ?_
       · obtain ⟨s7,rfl,B7,hb⟩:=hr
         (obtain ⟨x7,c7,hs7,-⟩:=B7.src);subst hs7
         replace hS:=below_next hS hb
         refine ⟨_,rfl,hS,?_⟩
         (try simp only [pS])
         replace r3:=r3.still hb
         replace r12:=r12.still hb
         replace B4:=B4.keep hb
         refine wpAnyH_ready (rs:=[13]) (by kernel_rfl) (by simp) ?_
         refine zC 13 (cv3 w4 g12 (below_next hw hS) r12) (fun e w5 hr => ?_) ?_
         · obtain ⟨s13,rfl,o13,hb⟩:=hr
           (obtain ⟨x13,c13,hs13⟩:=o13.slice);subst hs13;have B13:=o13.bytesIn;clear o13
           replace hS:=below_next hS hb
           refine ⟨_,rfl,hS,?_⟩
           (try simp only [pS])
           replace r3:=r3.still hb
           replace r12:=r12.still hb
           replace B4:=B4.keep hb
           replace B7:=B7.keep hb
           refine wpAnyH_ready (rs:=[14]) (by kernel_rfl) (by simp) ?_
           refine zG 14 (fun g => .slice (some ⟨g,0,none⟩) 4 4) ([.slice x5 4 c5,.slice x4 T1 c4,.slice x7 8 c7,.slice x13 T3 c13]) 24 (fun u hb=>below_next hS hb) (fun w6 g14 lr14 hb r14 => ?_) ?_
           · replace hS:=below_next hS hb
             (try simp only [pS])
             replace r3:=r3.still hb
             replace r12:=r12.still hb
             replace B4:=B4.keep hb
             replace B7:=B7.keep hb
             replace B13:=B13.keep hb
             refine wpAnyH_ready (rs:=[15]) (by kernel_rfl) (by simp) ?_
             refine zC 15 (cc4 w6 g14 _ _ _ _ r14 (hk.keep hS) B4 B7 B13) (fun e w7 hr => ?_) ?_
             · obtain ⟨s15,rfl,o15,hb⟩:=hr
               have hz:=(below_next hw hS).size
               replace hS:=below_next hS hb
               refine ⟨_,rfl,hS,?_⟩
               (try simp only [pS])
               replace r3:=r3.still hb
               replace r12:=r12.still hb
               replace B4:=B4.keep hb
               replace B7:=B7.keep hb
               replace B13:=B13.keep hb
               replace r14:=r14.still hb
               refine tg 16 hS ?_
               (try simp only [pS])
               refine tg 17 hS ?_
               (try simp only [pS])
               refine wpAnyH_done (by kernel_rfl) ?_ _
               refine NoPanic.normal ?_
               go_wp2
               go_ret2
               exact ⟨_,rfl,o15.lower hz,below_next hw hS⟩
             exact AllReadyH.nil
           exact AllReadyH.nil
         exact AllReadyH.nil
       exact AllReadyH.nil
     exact AllReadyH.nil
   exact AllReadyH.nil
 refine zG 12 (fun g => .slice (some ⟨g,0,none⟩) 3 3) ([.slice x1 tn c1,.slice x2 rn c2,.slice none 0 0]) 24 (fun u hb=>below_next hS hb) (fun w1 g12 lr12 hb r12 => ?_) ?_
 · replace hS:=below_next hS hb
   (try simp only [pS])
   refine wpAnyH_ready (rs:=[3]) (by kernel_rfl) (by simp) ?_
   refine zG 3 (fun g => .slice (some ⟨g,0,none⟩) 1 1) ([.slice x0 gn c0]) 24 (fun u hb=>below_next hS hb) (fun w2 g3 lr3 hb r3 => ?_) ?_
   · replace hS:=below_next hS hb
     (try simp only [pS])
     replace r12:=r12.still hb
     refine wpAnyH_ready (rs:=[4]) (by kernel_rfl) (by simp) ?_
     refine zC 4 (cv1 w2 g3 (below_next hw hS) r3) (fun e w3 hr => ?_) ?_
     · obtain ⟨s4,rfl,o4,hb⟩:=hr
       (obtain ⟨x4,c4,hs4⟩:=o4.slice);subst hs4;have B4:=o4.bytesIn;clear o4
       replace hS:=below_next hS hb
       refine ⟨_,rfl,hS,?_⟩
       (try simp only [pS])
       replace r12:=r12.still hb
       replace r3:=r3.still hb
       refine wpAnyH_ready (rs:=[7]) (by kernel_rfl) (by simp) ?_
       refine zC 7 (n8 w3) (fun e w4 hr => ?_) ?_
       · obtain ⟨s7,rfl,B7,hb⟩:=hr
         (obtain ⟨x7,c7,hs7,-⟩:=B7.src);subst hs7
         replace hS:=below_next hS hb
         refine ⟨_,rfl,hS,?_⟩
         (try simp only [pS])
         replace r12:=r12.still hb
         replace r3:=r3.still hb
         replace B4:=B4.keep hb
         refine wpAnyH_ready (rs:=[13]) (by kernel_rfl) (by simp) ?_
         refine zC 13 (cv3 w4 g12 (below_next hw hS) r12) (fun e w5 hr => ?_) ?_
         · obtain ⟨s13,rfl,o13,hb⟩:=hr
           (obtain ⟨x13,c13,hs13⟩:=o13.slice);subst hs13;have B13:=o13.bytesIn;clear o13
           replace hS:=below_next hS hb
           refine ⟨_,rfl,hS,?_⟩
           (try simp only [pS])
           replace r12:=r12.still hb
           replace r3:=r3.still hb
           replace B4:=B4.keep hb
           replace B7:=B7.keep hb
           refine wpAnyH_ready (rs:=[14]) (by kernel_rfl) (by simp) ?_
           refine zG 14 (fun g => .slice (some ⟨g,0,none⟩) 4 4) ([.slice x5 4 c5,.slice x4 T1 c4,.slice x7 8 c7,.slice x13 T3 c13]) 24 (fun u hb=>below_next hS hb) (fun w6 g14 lr14 hb r14 => ?_) ?_
           · replace hS:=below_next hS hb
             (try simp only [pS])
             replace r12:=r12.still hb
             replace r3:=r3.still hb
             replace B4:=B4.keep hb
             replace B7:=B7.keep hb
             replace B13:=B13.keep hb
             refine wpAnyH_ready (rs:=[15]) (by kernel_rfl) (by simp) ?_
             refine zC 15 (cc4 w6 g14 _ _ _ _ r14 (hk.keep hS) B4 B7 B13) (fun e w7 hr => ?_) ?_
             · obtain ⟨s15,rfl,o15,hb⟩:=hr
               have hz:=(below_next hw hS).size
               replace hS:=below_next hS hb
               refine ⟨_,rfl,hS,?_⟩
               (try simp only [pS])
               replace r12:=r12.still hb
               replace r3:=r3.still hb
               replace B4:=B4.keep hb
               replace B7:=B7.keep hb
               replace B13:=B13.keep hb
               replace r14:=r14.still hb
               refine tg 16 hS ?_
               (try simp only [pS])
               refine tg 17 hS ?_
               (try simp only [pS])
               refine wpAnyH_done (by kernel_rfl) ?_ _
               refine NoPanic.normal ?_
               go_wp2
               go_ret2
               exact ⟨_,rfl,o15.lower hz,below_next hw hS⟩
             exact AllReadyH.nil
           exact AllReadyH.nil
         exact AllReadyH.nil
       exact AllReadyH.nil
     exact AllReadyH.nil
   exact AllReadyH.nil
 exact AllReadyH.nil
end Go.Proofs.YtkoedfmdhdikaaaDoor
namespace Go.Proofs.YtkoedfmdhdikaaaDoor
open Go.RowKit
def xtN (n:Nat) (bs:Nat→Nat) (m:Nat) (t:Nat→Nat):Nat→Nat:=tagH (keyB n bs) m t
theorem xtN_lt (n:Nat) (bs:Nat→Nat) (m:Nat) (t:Nat→Nat) (j:Nat):xtN n bs m t j<256:=tagH_lt _ _ _ j
theorem row32 {w:World} {g:Nat} {X:Nat→Nat} (h:RowAt .u8 w g 0 32 X):BytesIn w (.slice (some ⟨g,0,none⟩) 32 32) 32 X:=row5 h
theorem cXt_any (v tv:Value) (n m:Nat) (bs t:Nat→Nat) (hbs:∀ j,bs j<256) (ht:∀ j,t j<256) (hnb:n<140737488355000) (hm:m<140737488355000) (w:World) (hT:TabAt w) (hv:BytesIn w v n bs) (htv:BytesIn w tv m t) :
 Calls Tryd.prog 18 #[v,tv] w fun e w'=>∃ x c,e = .returned (.slice x 32 c)∧BytesIn w' (.slice x 32 c) 32 (xtN n bs m t)∧Below w.heap.size w w' :=
 (extract_any v tv n m bs t hbs ht (by omega) (by omega) w hT.h hv htv).mono fun _ _ ⟨g,h1,_,h3,h4⟩=>⟨_,_,h1,row32 h3,h4⟩
theorem cHm_any (v tv:Value) (n m:Nat) (bs t:Nat→Nat) (hbs:∀ j,bs j<256) (ht:∀ j,t j<256) (hnb:n<140737488355000) (hm:m<140737488355000) (w:World) (hT:TabAt w) (hv:BytesIn w v n bs) (htv:BytesIn w tv m t) :
 Calls Tryd.prog 35 #[v,tv] w fun e w'=>∃ x c,e = .returned (.slice x 32 c)∧BytesIn w' (.slice x 32 c) 32 (xtN n bs m t)∧Below w.heap.size w w' :=
 (hmac_any v tv n m bs t hbs ht (by omega) (by omega) w hT.h hv htv).mono fun _ _ ⟨g,h1,_,h3,h4⟩=>⟨_,_,h1,row32 h3,h4⟩
theorem cxD_long (d:CxD) (ok:cxOk d=true):cxL d≤65528:=by have:=(cxL_le ok).2;omega
theorem keyFor_good (l:List Nat) (h:∀ x,x∈l→x<256) (hl:l.length≤65528) (sv:Value) (sn:Nat) (ks:Nat→Nat) (hks:∀ j,ks j<256) (hsn:sn<140737488355000) (cs:List Value) (d:CxD) (hB:cxB d) (ok:cxOk d=true) (w:World) (hT:TabAt w) (h1:BytesIn w sv sn ks) (hc:CxIn w cs d) :
 Calls Tryd.prog 25 #[sv,.string (strL l),.agg cs.toArray] w fun e w'=>∃ x c,e = .returned (.tuple #[.slice x 32 c,.int .i64 0])∧BytesIn w' (.slice x 32 c) 32 (exN sn ks l (cxL d) (cxT d) 32)∧Below w.heap.size w w':=by
 have hp:=fun (W:World) (hb:Below w.heap.size w W)=>putCtx_good cs d hB ok W (hc.keep hb)
 have hx:=fun (W:World) (v:Value) (hb:Below w.heap.size w W) (hv:BytesIn W v (cxL d) (cxT d))=>cExpand_good l h hl sv v sn (cxL d) ks (cxT d) hks (cxT_lt hB) hsn (cxD_long d ok) 32 (by decide) W (hT.still hb).h (h1.keep hb) hv
 replace hx:∀ (W:World) (v:Value),Below w.heap.size w W→BytesIn W v (cxL d) (cxT d)→Calls Tryd.prog 17 #[sv,.string (strL l),v,.int .i64 32] W _:=hx
 obtain ⟨S,hS⟩:∃ S,S=strL l:=⟨_,rfl⟩
 obtain ⟨E,hE⟩:∃ E,E=exN sn ks l (cxL d) (cxT d) 32:=⟨_,rfl⟩
 replace hx:∀ (W:World) (v:Value),Below w.heap.size w W→BytesIn W v (cxL d) (cxT d)→Calls Tryd.prog 17 #[sv,.string S,v,.int .i64 32] W fun e w'=>∃ s,e = .returned (.tuple #[s,.int .i64 0])∧BytesIn w' s 32 E∧Below W.heap.size W w':=by rw [hS,hE];exact hx
 obtain ⟨L,hL⟩:∃ L,L=cxL d:=⟨_,rfl⟩
 obtain ⟨F,hF⟩:∃ F,F=cxT d:=⟨_,rfl⟩
 rw [←hL,←hF] at hx hp
 rw [←hS,←hE]
 clear hS hE hL hF hT h1 ok
 obtain ⟨v0,v1,v2,rfl,g0,g1,g2⟩:=hc
 obtain ⟨x0,c0,rfl,-⟩:=g0.src
 obtain ⟨x1,c1,rfl,-⟩:=g1.src
 obtain ⟨x2,c2,rfl,-⟩:=g2.src
 obtain ⟨N,hN⟩:∃ N,N=d.e:=⟨_,rfl⟩
 rw [←hN] at hp ⊢
 obtain ⟨n0,hn0⟩:∃ N,N=d.gn:=⟨_,rfl⟩
 obtain ⟨n1,hn1⟩:∃ N,N=d.tn:=⟨_,rfl⟩
 obtain ⟨n2,hn2⟩:∃ N,N=d.rn:=⟨_,rfl⟩
 rw [←hn0,←hn1,←hn2] at hp ⊢
 clear hN g0 g1 g2 hB hn0 hn1 hn2
 have b1:Below w.heap.size w (w.alloc (.cells #[.slice x0 n0 c0,.int .i64 N,.slice x1 n1 c1,.slice x2 n2 c2] 40)):=(Below.refl _ _).alloc (Nat.le_refl _) _
 replace hp:=hp _ b1
 have B1:=Hid.mk' b1
 clear b1
 go_enter Tryd.func25,Tryd.ntmps25
 go_wp2_with (first
  | (go_at_call 44;refine hp.mono ?_;clear hp;rintro e w2 ⟨s2,rfl,o2,hb2⟩;have b2:=below_next B1.out hb2;have B2:=o2.bytesIn;(obtain ⟨x3,c3,hs2⟩:=o2.slice);subst hs2)
  | (go_at_call 17;refine (hx w2 _ b2 B2).mono ?_;clear hx;rintro e w3 ⟨s3,rfl,B3,hb3⟩;(obtain ⟨x4,c4,hs3,-⟩:=B3.src);subst hs3))
 go_ret2
 exact ⟨_,_,rfl,B3,below_next b2 hb3⟩
theorem keyFor_bad (S:ByteArray) (sv:Value) (cs:List Value) (d:CxD) (ok:cxOk d=false) (w:World) (hc:CxIn w cs d) :
 Calls Tryd.prog 25 #[sv,.string S,.agg cs.toArray] w fun e w'=>e = .returned (.tuple #[.slice none 0 0,.int .i64 1])∧Below w.heap.size w w':=by
 have hp:=fun (W:World) (hb:Below w.heap.size w W)=>putCtx_bad cs d ok W (hc.keep hb)
 obtain ⟨v0,v1,v2,rfl,g0,g1,g2⟩:=hc
 obtain ⟨N,hN⟩:∃ N,N=d.e:=⟨_,rfl⟩
 rw [←hN] at hp ⊢
 clear hN g0 g1 g2 ok
 have b1:Below w.heap.size w (w.alloc (.cells #[v0,.int .i64 N,v1,v2] 40)):=(Below.refl _ _).alloc (Nat.le_refl _) _
 replace hp:=hp _ b1
 have B1:=Hid.mk' b1
 clear b1
 go_enter Tryd.func25,Tryd.ntmps25
 go_wp2_with (go_at_call 44;refine hp.mono ?_;clear hp;rintro e w2 ⟨rfl,hb2⟩;have b2:=below_next B1.out hb2)
 go_ret2
 exact ⟨rfl,b2⟩
def lWel:List Nat:=[119,101,108,99,111,109,101]
theorem welcomeOf_any (sv:Value) (sn:Nat) (ks:Nat→Nat) (hks:∀ j,ks j<256) (hsn:sn<140737488355000) (w:World) (hT:TabAt w) (h1:BytesIn w sv sn ks) :
 Calls Tryd.prog 26 #[sv] w fun e w'=>∃ x c,e = .returned (.slice x 32 c)∧BytesIn w' (.slice x 32 c) 32 (exN sn ks lWel 0 lZ 32)∧Below w.heap.size w w':=by
 have hd:=cDerive_good5 lWel (by decide) (by decide) sv sn ks hks hsn w hT.h h1
 replace hd:Calls Tryd.prog 29 #[sv,.string { data:=#[119,101,108,99,111,109,101] }] w _:=hd
 obtain ⟨E,hE⟩:∃ E,E=exN sn ks lWel 0 lZ 32:=⟨_,rfl⟩
 rw [←hE] at hd ⊢
 clear hE hT h1
 go_enter Tryd.func26,Tryd.ntmps26
 go_wp2_with (go_at_call 29;refine hd.mono ?_;clear hd;rintro e w1 ⟨s1,rfl,B1,b1⟩;(obtain ⟨x1,c1,hs1,-⟩:=B1.src);subst hs1)
 go_ret
 exact ⟨_,_,rfl,B1,b1⟩
end Go.Proofs.YtkoedfmdhdikaaaDoor
