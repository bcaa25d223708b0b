/- What the proof stands on: Base, W64, Bts, IRow, Words, ICar, RefCarry, RefSmall. -/
import Derived.Test.YtdgkmloabificaaGreatDoorRows
import Derived.ArgAppend
import Derived.BigQuiet
import Derived.Deep.AppendLies
import Derived.Deep.MidRow
import Derived.Deep.QuietTactic
import Derived.Deep.RegionHeld3
import Derived.Deep.RegionLawGrows
import Derived.Deep.Upon
import Derived.Laws.Bits64
import Derived.Laws.Bits64b
import Derived.Laws.BitsAllLaws
import Derived.Laws.Externs
import Derived.Shelf.Bits.Mul64
import Derived.Shelf.Spec.BitsCarry
import Derived.WalkKit
import Derived.WalkLawsBesides
import Derived.WalkSpells
namespace Go.Proofs.YtdgkmloabificaaGreatDoor
open Go.RowKit
theorem retInt {k:IntKind} {a b:Int} (h:a=b):Ending.returned (.int k a) = .returned (.int k b):=by rw [h]
theorem below_drewN {B:Nat} {a w:World} (h:Below B a w) (n:Nat):Below B a (w.drewN n):=⟨h.os,h.tape,h.output,h.size,h.block⟩
def upd (X:Nat→Nat) (i v:Nat):Nat→Nat:=fun j=>if j=i then v else X j
def RowAt (K:IntKind) (w:World) (b o n:Nat) (X:Nat→Nat):Prop:=∀ j,j<n→w.cell? ⟨b,o+j,none⟩=some (.int K (X j))∧w.frozen? ⟨b,o+j,none⟩=false
theorem RowAt.drew {K:IntKind} {w:World} {b o n:Nat} {X:Nat→Nat} (h:RowAt K w b o n X):RowAt K w.drew b o n X:=fun j hj=>h j hj
theorem RowAt.set {K:IntKind} {w:World} {b o n:Nat} {X:Nat→Nat} (h:RowAt K w b o n X) {i:Nat} (hi:i<n) {v:Int} {u:Nat} (hv:v=(u:Int)):RowAt K (w.setCell ⟨b,o+i,none⟩ (.int K v)) b o n (upd X i u):=fun j hj=>by
 refine ⟨?_,by rw [World.frozen?_setCell];exact (h j hj).2⟩
 by_cases e:j=i
 · subst e;rw [World.cell?_setCell_same _ _ _ (h j hj).1];simp [upd,hv]
 · have hne:(⟨b,o+i,none⟩:Addr)≠⟨b,o+j,none⟩:=fun h=>by injection h;omega
   rw [World.cell?_setCell_other _ _ _ _ hne];simp [upd,e,(h j hj).1]
theorem RowAt.far {K:IntKind} {w:World} {b o n:Nat} {X:Nat→Nat} (h:RowAt K w b o n X) {a:Addr} (ha:a.block≠b) (v:Value):RowAt K (w.setCell a v) b o n X:=fun j hj=>by
 refine ⟨?_,by rw [World.frozen?_setCell];exact (h j hj).2⟩
 rw [World.cell?_setCell_other _ _ _ _ (fun e=>ha (by rw [e]))];exact (h j hj).1
theorem RowAt.below {K:IntKind} {B:Nat} {w w':World} {b o n:Nat} {X:Nat→Nat} (h:RowAt K w b o n X) (hb:Below B w w') (hB:b<B):RowAt K w' b o n X:=fun j hj =>
 ⟨(hb.cell (p:=⟨b,o+j,none⟩) hB).trans (h j hj).1,(hb.frozen (p:=⟨b,o+j,none⟩) hB).trans (h j hj).2⟩
theorem RowAt.fresh {K:IntKind} {w:World} {cs:Array Value} {t:TypeId} {n:Nat} {X:Nat→Nat} (h:∀ j,j<n→cs[j]? = some (.int K (X j))):RowAt K (w.alloc (.cells cs t)) w.heap.size 0 n X:=fun j hj=>by
 constructor
 · simp [h j hj]
 · simp
theorem RowAt.alloc {K:IntKind} {w:World} {b o n:Nat} {X:Nat→Nat} (h:RowAt K w b o n X) (hb:b<w.heap.size) (ob:Obj):RowAt K (w.alloc ob) b o n X :=
 h.below ((Below.refl w.heap.size w).alloc (Nat.le_refl _) ob) hb
def ints (K:IntKind) (n:Nat) (X:Nat→Nat):List Value:=(List.range n).map fun j => .int K (X j)
theorem ints_len (K:IntKind) (n:Nat) (X:Nat→Nat):(ints K n X).length=n:=by simp [ints]
theorem ints_at (K:IntKind) (n:Nat) (X:Nat→Nat) (j:Nat) (h:j<n):(ints K n X)[j]? = some (.int K (X j)):=by simp [ints,h]
theorem ints_one (K:IntKind) (n:Nat) (X:Nat→Nat):∀ v∈ints K n X,v.oneCell'=true:=fun v hv=>by
 simp only [ints,List.mem_map] at hv
 obtain ⟨_,_,rfl⟩:=hv
 rfl
theorem RowAt.range {K:IntKind} {w:World} {b o n:Nat} {X:Nat→Nat} (h:RowAt K w b o n X):w.rangeAt b o (ints K n X):=fun j v hv=>by
 have hj:j<n:=by have:=(List.getElem?_eq_some_iff.1 hv).1;rwa [ints_len] at this
 rw [ints_at K n X j hj] at hv
 rw [←hv];exact (h j hj).1
theorem RowAt.there {K:IntKind} {w:World} {b o n:Nat} {X:Nat→Nat} (h:RowAt K w b o n X):w.there b o n:=fun j hj=>by
 rw [(h j hj).1];exact ⟨rfl,(h j hj).2⟩
theorem results_cell_mid {P:Program} {fn:Func} {p:Tmp} {ty:TypeId} (h:fn.results=#[.cell p ty]) (tmps:Array Value) (w:World) (g o:Nat) (cs:List Value) (d:TypeDesc)
 (hp:tmps.getD p undef = .pointer (some ⟨g,o,none⟩)) (hc:w.rangeAt g o cs)
 (hu:P.underlying ty=some d) (hd:d.isRow=true) (hi:(P.info? ty).map (·.size)=some cs.length) :
 (results fn tmps).run P w = .ok (.agg cs.toArray) w:=by
 have hp':tmps[p]?.getD undef = .pointer (some ⟨g,o,none⟩):=by simpa using hp
 simp [results,h,hp',asAddr,run_loadVar_mid w g o ty cs d hc hu hd hi]
theorem below_setCells {B:Nat} {a:World} {b:Nat} (hb:B≤b):∀ (vs:List Value) (o:Nat) (w:World),Below B a w→Below B a (w.setCells b o vs)
 | [],_,_,h=>h
 | v :: r,o,w,h=>by rw [World.setCells];exact below_setCells hb r (o+1) _ (h.setCell hb v)
theorem below_next {W a b:World} (h:Below W.heap.size W a) (hb:Below a.heap.size a b):Below W.heap.size W b:=h.trans (hb.mono h.size)
def Near (b o:Nat) (W w':World):Prop:=∃ w0,Below W.heap.size W w0∧(w'=w0∨∃ u,w'=w0.setCell ⟨b,o,none⟩ u)
theorem Near.of_below {b o:Nat} {W w':World} (h:Below W.heap.size W w'):Near b o W w':=⟨w',h,.inl rfl⟩
theorem Near.set {b o:Nat} {W w':World} (h:Below W.heap.size W w') (u:Value):Near b o W (w'.setCell ⟨b,o,none⟩ u):=⟨w',h,.inr ⟨u,rfl⟩⟩
theorem Near.cell {b o:Nat} {W w':World} (h:Near b o W w') (p q:Nat) (hp:p<W.heap.size) (hne:p=b→q≠o):w'.cell? ⟨p,q,none⟩=W.cell? ⟨p,q,none⟩:=by
 obtain ⟨w0,hb,rfl | ⟨u,rfl⟩⟩:=h
 · exact hb.cell (p:=⟨p,q,none⟩) hp
 · rw [World.cell?_setCell_other _ _ _ _ (fun e=>by injection e with e1 e2;exact hne e1.symm e2.symm)];exact hb.cell (p:=⟨p,q,none⟩) hp
theorem Near.frozen {b o:Nat} {W w':World} (h:Near b o W w') (p q:Nat) (hp:p<W.heap.size):w'.frozen? ⟨p,q,none⟩=W.frozen? ⟨p,q,none⟩:=by
 obtain ⟨w0,hb,rfl | ⟨u,rfl⟩⟩:=h
 · exact hb.frozen (p:=⟨p,q,none⟩) hp
 · rw [World.frozen?_setCell];exact hb.frozen (p:=⟨p,q,none⟩) hp
theorem Near.some {b o:Nat} {W w':World} (h:Near b o W w') {v:Value} (hv:W.cell? ⟨b,o,none⟩ = .some v):∃ u,w'.cell? ⟨b,o,none⟩ = .some u:=by
 obtain ⟨w0,hb,rfl | ⟨u,rfl⟩⟩:=h
 · exact ⟨v,(hb.cell (p:=⟨b,o,none⟩) (block_lt_of_cell hv)).trans hv⟩
 · exact ⟨u,World.cell?_setCell_same _ _ _ ((hb.cell (p:=⟨b,o,none⟩) (block_lt_of_cell hv)).trans hv)⟩
structure Out (b o n:Nat) (w w':World):Prop where
 os:w'.os=w.os
 tape:w'.tape=w.tape
 output:w'.output=w.output
 size:w.heap.size≤w'.heap.size
 block:∀ k,k<w.heap.size→k≠b→w'.heap[k]? = w.heap[k]?
 cell:∀ q,(q<o∨o+n≤q)→w'.cell? ⟨b,q,none⟩=w.cell? ⟨b,q,none⟩
 frozen:∀ q,w'.frozen? ⟨b,q,none⟩=w.frozen? ⟨b,q,none⟩
theorem Out.refl (b o n:Nat) (w:World):Out b o n w w:=⟨rfl,rfl,rfl,Nat.le_refl _,fun _ _ _=>rfl,fun _ _=>rfl,fun _=>rfl⟩
theorem Out.trans {b o n:Nat} {u v w:World} (h:Out b o n u v) (k:Out b o n v w):Out b o n u w :=
 ⟨k.os.trans h.os,k.tape.trans h.tape,k.output.trans h.output,Nat.le_trans h.size k.size,fun i hi hb=>(k.block i (Nat.lt_of_lt_of_le hi h.size) hb).trans (h.block i hi hb),fun q hq=>(k.cell q hq).trans (h.cell q hq),fun q=>(k.frozen q).trans (h.frozen q)⟩
theorem Out.of_below {b o n:Nat} {w w':World} (h:Below w.heap.size w w') (hb:b<w.heap.size):Out b o n w w' :=
 ⟨h.os,h.tape,h.output,h.size,fun k hk _=>h.block k hk,fun q _=>h.cell (p:=⟨b,q,none⟩) hb,fun q=>h.frozen (p:=⟨b,q,none⟩) hb⟩
theorem heap_setCells_other (b:Nat):∀ (vs:List Value) (o:Nat) (w:World) (k:Nat),k≠b→(w.setCells b o vs).heap[k]? = w.heap[k]?
 | [],_,_,_,_=>rfl
 | v :: r,o,w,k,h=>by rw [World.setCells,heap_setCells_other b r (o+1) _ k h];exact Below.heap_setCell w ⟨b,o,none⟩ v k h
theorem setCells_same (b:Nat):∀ (vs:List Value) (o:Nat) (w:World),(w.setCells b o vs).os=w.os∧(w.setCells b o vs).tape=w.tape∧(w.setCells b o vs).output=w.output∧(w.setCells b o vs).heap.size=w.heap.size
 | [],_,_=>⟨rfl,rfl,rfl,rfl⟩
 | v :: r,o,w=>by
  have h:=setCells_same b r (o+1) (w.setCell ⟨b,o,none⟩ v)
  rw [World.setCells]
  exact ⟨h.1,h.2.1,h.2.2.1,by rw [h.2.2.2];simp⟩
theorem Out.setCells {b o n:Nat} (w:World) {p:Nat} (vs:List Value) (h1:o≤p) (h2:p+vs.length≤o+n):Out b o n w (w.setCells b p vs):=by
 have h:=setCells_same b vs p w
 refine ⟨h.1,h.2.1,h.2.2.1,by rw [h.2.2.2];exact Nat.le_refl _,fun k _ hk=>heap_setCells_other b vs p w k hk,fun q hq => ?_,fun q=>World.frozen?_setCells b vs p w _⟩
 exact World.cell?_setCells_out b vs p w _ (fun _ _=>by show q<p∨p+vs.length≤q;omega)
theorem Out.drew {b o n:Nat} (w:World):Out b o n w w.drew:=⟨rfl,rfl,rfl,Nat.le_refl _,fun _ _ _=>rfl,fun _ _=>rfl,fun _=>rfl⟩
theorem Out.setCell {b o n:Nat} (w:World) {p:Nat} (v:Value) (h1:o≤p) (h2:p<o+n):Out b o n w (w.setCell ⟨b,p,none⟩ v) :=
 Out.setCells w [v] h1 (by simp;omega)
theorem Out.below {b o n B:Nat} {w w':World} (h:Out b o n w w') (hb:B≤b) (hB:B≤w.heap.size):Below B w w' :=
 ⟨h.os,h.tape,h.output,h.size,fun k hk=>h.block k (by omega) (by omega)⟩
theorem Out.cell' {b o n:Nat} {w w':World} (h:Out b o n w w') {c q:Nat} (hc:c<w.heap.size) (hb:c≠b):w'.cell? ⟨c,q,none⟩=w.cell? ⟨c,q,none⟩:=World.cell?_of_block (w:=w) (h.block c hc hb)
theorem Out.frozen' {b o n:Nat} {w w':World} (h:Out b o n w w') {c q:Nat} (hc:c<w.heap.size) (hb:c≠b):w'.frozen? ⟨c,q,none⟩=w.frozen? ⟨c,q,none⟩:=World.frozen?_of_block (w:=w) (h.block c hc hb)
theorem Out.row {b o n:Nat} {w w':World} (h:Out b o n w w') {K:IntKind} {c p m:Nat} {X:Nat→Nat} (hr:RowAt K w c p m X) (hc:c≠b):RowAt K w' c p m X:=fun j hj =>
 ⟨(h.cell' (block_lt_of_cell (hr j hj).1) hc).trans (hr j hj).1,(h.frozen' (block_lt_of_cell (hr j hj).1) hc).trans (hr j hj).2⟩
def over (R:Nat→Nat) (i c:Nat) (Y:Nat→Nat):Nat→Nat:=fun j=>if i≤j∧j<i+c then Y (j - i) else R j
theorem over_lt {R Y:Nat→Nat} {i c p:Nat} (hR:∀ j,R j<p) (hY:∀ j,Y j<p):∀ j,over R i c Y j<p:=fun j=>by
 unfold over;split
 · exact hY _
 · exact hR _
theorem RowAt.splice {K:IntKind} {w:World} {b o n:Nat} {X:Nat→Nat} (h:RowAt K w b o n X) (i c:Nat) (Y:Nat→Nat) (hi:i+c≤n):RowAt K (w.setCells b (o+i) (ints K c Y)) b o n (over X i c Y):=fun j hj=>by
 refine ⟨?_,by rw [World.frozen?_setCells];exact (h j hj).2⟩
 by_cases e:i≤j∧j<i+c
 · have hin:=World.cell?_setCells_in b (ints K c Y) (o+i) w (fun q hq=>by rw [ints_len] at hq;have:=(h (i+q) (by omega)).1;rw [←Nat.add_assoc] at this;rw [this];rfl) (j - i) (by rw [ints_len];omega)
   rw [show o+i+(j - i)=o+j by omega] at hin
   rw [hin]
   have:=ints_at K c Y (j - i) (by omega)
   rw [List.getElem?_eq_getElem (by rw [ints_len];omega)] at this
   simp only [over,e,and_self,if_true]
   exact this
 · rw [World.cell?_setCells_out b _ _ w _ (fun _ _=>by rw [ints_len];show o+j<o+i∨o+i+c≤o+j;omega)]
   simp only [over,e,if_false]
   exact (h j hj).1
theorem RowAt.apart {K:IntKind} {w:World} {b o n:Nat} {X:Nat→Nat} (h:RowAt K w b o n X) (p:Nat) (vs:List Value) (hp:o+n≤p∨p+vs.length≤o):RowAt K (w.setCells b p vs) b o n X:=fun j hj =>
 ⟨by rw [World.cell?_setCells_out b vs p w _ (fun _ _=>by show o+j<p∨p+vs.length≤o+j;omega)];exact (h j hj).1,by rw [World.frozen?_setCells];exact (h j hj).2⟩
def Src (w:World) (v:Option Addr) (n:Nat) (bs:Nat→Nat):Prop:=n=0∨∃ bb ob,v=some ⟨bb,ob,none⟩∧∀ j,j<n→w.cell? ⟨bb,ob+j,none⟩=some (.int .u8 (bs j))
theorem run_copy_bytes {P:Program} (w:World) (dT sT ty elem:TypeId) (b o dLen dCap:Nat) (v:Option Addr) (n cap m:Nat) (bs:Nat→Nat)
 (hu:P.underlying dT=some (.slice elem)) (hs:(P.info? elem).map (·.size)=some 1) (hsrc:Src w v n bs) (hm:m=Nat.min n dLen)
 (ht:w.there b o dLen) :
 (Builtin.copy_ #[dT,sT] ty #[.slice (some ⟨b,o,none⟩) dLen dCap,.slice v n cap]).run P w = .ok (goInt m) (w.setCells b o (ints .u8 m bs)):=by
 by_cases h0:m=0
 · subst h0;exact run_copy_none w dT sT ty elem _ _ dLen dCap n cap hu hs hm.symm
 · have hn:m≤n∧m≤dLen:=by subst hm;exact ⟨Nat.min_le_left _ _,Nat.min_le_right _ _⟩
   rcases hsrc with h | ⟨bb,ob,rfl,hc⟩
   · omega
   · have:=run_copy_cells (P:=P) w dT sT ty elem b o dLen dCap ⟨bb,ob,none⟩ n cap (ints .u8 m bs) hu hs (by rw [ints_len,hm]) (fun j u hj=>by
      have hj':j<m:=by have:=(List.getElem?_eq_some_iff.1 hj).1;rwa [ints_len] at this
      rw [ints_at _ _ _ j hj'] at hj
      rw [Addr.add_mid,←hj]
      exact hc j (by omega)) (fun j hj=>(ht j (by rw [ints_len] at hj;omega)).1) (fun j hj=>(ht j (by rw [ints_len] at hj;omega)).2) (ints_one _ _ _)
     rw [ints_len] at this
     exact this
theorem wpList_copy_bytes {P:Program} {w:World} {ops:Array Oper} {rest:List Oper} {op:Oper} {a:Act} {Q:Exit→Act→World→Prop} (hgd:op.guard=none) (d s:Operand) (dT sT:TypeId)
 (ho:op.op = .call { callee := .builtin .copy,args:=#[d,s],argTypes:=#[dT,sT] }) (elem:TypeId) (hu:P.underlying dT=some (.slice elem)) (hsz:(P.info? elem).map (·.size)=some 1)
 (b o dLen dCap:Nat) (v:Option Addr) (n cap:Nat) (hd:a.eval d = .slice (some ⟨b,o,none⟩) dLen dCap) (hs:a.eval s = .slice v n cap)
 (m:Nat) (bs:Nat→Nat) (hsrc:Src w v n bs) (hm:m=Nat.min n dLen) (ht:w.there b o dLen)
 (h:wpList P ops Q rest (a.put op.dst (goInt m)) (w.setCells b o (ints .u8 m bs))):wpList P ops Q (op :: rest) a w:=by
 refine wpList_plain hgd fun K hK => ?_
 have hrun:=run_copy_bytes (P:=P) w dT sT op.type elem b o dLen dCap v n cap m bs hu hsz hsrc hm ht
 unfold Oper.wp
 simp [execOp,ho,resolve,invoke,builtin,hd,hs,hrun,Result.andThen]
 exact hK _ _ h
theorem RowAt.congr {K:IntKind} {w:World} {b o n:Nat} {X Y:Nat→Nat} (h:RowAt K w b o n X) (e:∀ j,j<n→X j=Y j):RowAt K w b o n Y:=fun j hj=>by rw [←e j hj];exact h j hj
def zb (n:Nat):Array Value:=Array.replicate n (.int .u8 0)
theorem zb_at (n j:Nat) (h:j<n):(zb n)[j]? = some (.int .u8 0):=by simp [zb,h]
theorem made_zb (n:Nat):madeCells (Value.int .u8 0).cells (n*1)=zb n:=by
 apply Array.ext_getElem?
 intro j
 by_cases h:j<n
 · rw [zb_at n j h];simp [madeCells,Value.cells,h,Nat.mod_one]
 · simp [madeCells,zb,Value.cells,h]
theorem make_bytes (W:World) (n:Nat) (l:Int) (hl:l=(n:Int)) (hn:n≤1000000):(Instr.makeSlice 22 (.int .i64 l) (.int .i64 l)).run Tryz.prog W = .ok (.slice (some ⟨W.heap.size,0,none⟩) n n) (W.alloc (.cells (zb n) 5)):=by
 subst hl
 obtain ⟨i0,hi,hz0,hz1,hz2⟩:=info_parts (show (Tryz.prog.info? 5).map (fun i=>(i.zero,i.size,i.bytes))=some (some (.int .u8 0),1,1) by kernel_rfl)
 have:=run_makeSlice (P:=Tryz.prog) W 22 5 i0 (.int .u8 0) Tryz.underlying22 hi hz0 .i64 .i64 n n (by omega) (Int.le_refl _) (by rw [hz1];simp;omega) (by rw [hz2];omega) (by omega)
 rw [this,hz1]
 simp only [Int.toNat_natCast,made_zb]
def BytesIn (w:World) (v:Value) (n:Nat) (bs:Nat→Nat):Prop:=(∃ xo,v = .slice xo 0 0∧n=0)∨∃ bb ob cap,v = .slice (some ⟨bb,ob,none⟩) n cap∧bb<w.heap.size∧n≤cap∧∀ j,j<n→w.cell? ⟨bb,ob+j,none⟩=some (.int .u8 (bs j))
def Seen (B g n:Nat) (W w':World):Prop:=(∀ b o,b<B→w'.cell? ⟨b,o,none⟩=W.cell? ⟨b,o,none⟩)∧∀ q,q<n→w'.cell? ⟨g,q,none⟩=W.cell? ⟨g,q,none⟩
theorem Seen.of_below {B g n:Nat} {W w':World} (h:Below W.heap.size W w') (hB:B≤W.heap.size) (hg:g<W.heap.size):Seen B g n W w' :=
 ⟨fun b o hb=>h.cell (p:=⟨b,o,none⟩) (by show b<_;omega),fun q _=>h.cell (p:=⟨g,q,none⟩) hg⟩
theorem ints_snoc (K:IntKind) (n:Nat) (X:Nat→Nat):ints K n X ++ [.int K (X n)]=ints K (n+1) X:=by simp [ints,List.range_succ]
theorem ints_congr (K:IntKind) (n:Nat) (X Y:Nat→Nat) (h:∀ j,j<n→X j=Y j):ints K n X=ints K n Y:=by
 unfold ints
 apply List.map_congr_left
 intro j hj
 rw [h j (List.mem_range.1 hj)]
theorem one_new (w:World) (v:Value) (t:TypeId):∀ j u,[v][j]? = some u→(w.alloc (.cells #[v] t)).cell? ((⟨w.heap.size,0,none⟩:Addr).add j)=some u:=fun j u h=>by
 match j,h with
 | 0,h=>simp at h;subst h;rw [Addr.add_mid];simp
theorem one_cell (K:IntKind) (x:Int):∀ u∈[Value.int K x],u.oneCell'=true:=fun u hu=>by simp at hu;subst hu;rfl
theorem Tryz.info5:(Tryz.prog.info? 5).map (fun i=>(i.zero,i.size,i.bytes))=some (some (.int .u8 0),1,1):=by kernel_rfl
theorem below_grown {B:Nat} {a w w':World} {v:Value} {base:Nat} {e:TypeId} {size n:Nat} {xs:List Value} (h:Below B a w) (hg:w.grownBy w' v.ownBlock) (ho:w.ownsRow base e size v n xs) (hB:B≤base) (hs:B≤w.heap.size):Below B a w' :=
 h.grown hg hs (fun k hk=>Nat.le_trans hB (ho.lt k hk).1)
theorem run_append_keep {P:Program} (w:World) (t ty base e:TypeId) (i:TypeInfo) (z:Value) (bytes:Nat) (ht:P.underlying t=some (.slice e)) (hi:P.info? e=some i) (hz:i.zero=some z) (hsize:i.size=1) (hby:i.bytes=bytes) (hzs:z.cells.size=1)
 (g cap n:Nat) (xs:List Value) (hown:w.ownsRow base e 1 (.slice (some ⟨g,0,none⟩) n cap) n xs) (ad:Addr) (c:Nat) (x:Value) (hx:∀ j u,[x][j]? = some u→w.cell? (ad.add j)=some u) (h1:x.oneCell'=true)
 (h63:n+1≤maxLen) (hbytes:(n+1)*bytes≤140737488355328) (hbase:base≤w.heap.size) :
 ∃ g' cap' w',(Builtin.append_ #[t,t] ty #[.slice (some ⟨g,0,none⟩) n cap,.slice (some ad) 1 c]).run P w = .ok (.slice (some ⟨g',0,none⟩) (n+1) cap') w' ∧
  w'.ownsRow base e 1 (.slice (some ⟨g',0,none⟩) (n+1) cap') (n+1) (xs ++ [x])∧w.grownBy w' (some g)∧(∀ q,q<n→w'.cell? ⟨g,q,none⟩=w.cell? ⟨g,q,none⟩):=by
 have ho:∀ u∈[x],u.oneCell'=true:=fun u hu=>by simp at hu;subst hu;exact h1
 obtain ⟨v',w',hr,h2,h3,_,_⟩:=run_append_own_at (P:=P) w base t ty e i z 1 bytes ht hi hz hsize hby hzs (by decide) _ n xs hown ad 1 c [x] rfl hx ho h63 hbytes hbase
 obtain ⟨g',cap',rfl,_,_⟩:=h2.form (by omega)
 refine ⟨g',cap',w',hr,h2,h3,fun q hq => ?_⟩
 obtain ⟨hl,hf⟩:=hown
 rcases hf with ⟨hv,_⟩ | ⟨g2,cap2,cur,hv,hb,hg,hnc,hcm,hcs,hxs⟩
 · cases hv
 · cases hv
   by_cases hroom:n+1≤cap
   · have hrun:=run_append_room_cells (P:=P) w t ty e i ht hi g 0 n cap ad 1 c [x] (by rw [hsize];rfl) hx ho hroom (fun j hj=>by
      have:j=0:=by simpa using hj
      subst this
      rw [hsize,cell_of_row w g _ cur e (0,0) hg,Array.getElem?_eq_getElem (by omega)];rfl) (fun j hj=>frozen_of_row w g _ cur e hg)
     rw [hr] at hrun
     cases hrun
     exact World.cell?_setCells_out g _ _ w _ (fun _ _ => .inl (by show q<0+n*i.size;rw [hsize];omega))
   · obtain ⟨v2,w2,hrun,_,r2⟩:=run_append_arg_grows (P:=P) w t ty e i z 1 bytes ht hi hz hsize hby hzs (by decide) ⟨g,0,none⟩ n cap xs hl (fun j u hu=>by
      have hjn:j<n*1:=by have:=(List.getElem?_eq_some_iff.1 hu).1;omega
      rw [Addr.add_mid,Nat.zero_add,cell_of_row w g j cur e (0,0) hg,←Array.getElem?_toList]
      rw [←hxs,List.getElem?_take,if_pos hjn] at hu
      exact hu) ad 1 c [x] rfl hx (by omega) h63 hbytes
     rw [hr] at hrun
     cases hrun
     have hlt:g<w.heap.size:=by
      rcases Nat.lt_or_ge g w.heap.size with h | h
      · exact h
      · rw [Array.getElem?_eq_none h] at hg;cases hg
     exact World.cell?_of_block (r2.block g hlt (by simp))
theorem step_append_keep {P:Program} {ops:Array Oper} {o:Oper} {a:Act} {w:World} {K:Act→World→Prop} {Q:Exit→Act→World→Prop} {E:Prop} (hgd:o.guard=none) (s x:Operand) (t:TypeId)
 (hop:o.op = .call { callee := .builtin .append,args:=#[s,x],argTypes:=#[t,t] }) (base e:TypeId) (i:TypeInfo) (z:Value) (bytes:Nat) (ht:P.underlying t=some (.slice e)) (hi:P.info? e=some i) (hz:i.zero=some z) (hsize:i.size=1) (hby:i.bytes=bytes) (hzs:z.cells.size=1)
 (g cap n:Nat) (xs:List Value) (hs:a.eval s = .slice (some ⟨g,0,none⟩) n cap) (hown:w.ownsRow base e 1 (.slice (some ⟨g,0,none⟩) n cap) n xs) (ad:Addr) (c:Nat) (u:Value) (hx:a.eval x = .slice (some ad) 1 c) (hu:∀ j v,[u][j]? = some v→w.cell? (ad.add j)=some v) (h1:u.oneCell'=true)
 (h63:n+1≤maxLen) (hbytes:(n+1)*bytes≤140737488355328) (hbase:base≤w.heap.size)
 (h:∀ g' cap' w',w'.ownsRow base e 1 (.slice (some ⟨g',0,none⟩) (n+1) cap') (n+1) (xs ++ [u])→w.grownBy w' (some g)→(∀ q,q<n→w'.cell? ⟨g,q,none⟩=w.cell? ⟨g,q,none⟩)→K (a.put o.dst (.slice (some ⟨g',0,none⟩) (n+1) cap')) w') :
 if Region.wanted o (yielded ops a.tmps)=true then Oper.wp P o a w K Q else E:=by
 have hw:Region.wanted o (yielded ops a.tmps)=true:=by simp [Region.wanted,hgd]
 rw [if_pos hw]
 obtain ⟨g',cap',w',hrun,r1,r2,r3⟩:=run_append_keep (P:=P) w t o.type base e i z bytes ht hi hz hsize hby hzs g cap n xs hown ad c u hu h1 h63 hbytes hbase
 unfold Oper.wp
 simp [execOp,hop,resolve,invoke,builtin,hs,hx,hrun,Result.andThen]
 exact h g' cap' w' r1 r2 r3
theorem own_below {w w':World} {base:Nat} {e:TypeId} {size:Nat} {v:Value} {n:Nat} {xs:List Value} (h:w.ownsRow base e size v n xs) (hb:Below w.heap.size w w'):w'.ownsRow base e size v n xs :=
 h.kept (row:=none) ⟨hb.os,hb.tape,hb.output,hb.size,fun k hk _=>hb.block k hk⟩ (by cases hv:v.ownBlock with | none=>exact .inl rfl | some b=>exact .inr (by simp))
theorem own_base {w:World} {base base':Nat} {e:TypeId} {size:Nat} {v:Value} {n:Nat} {xs:List Value} (h:w.ownsRow base e size v n xs) (hb:base'≤base):w.ownsRow base' e size v n xs:=by
 obtain ⟨h1,h2⟩:=h
 refine ⟨h1,?_⟩
 rcases h2 with h2 | ⟨g,cap,cur,hv,hg,r⟩
 · exact .inl h2
 · exact .inr ⟨g,cap,cur,hv,by omega,r⟩
theorem seen_append {B g n:Nat} {W W2 w1:World} (hb:Below W.heap.size W W2) (hgrow:W2.grownBy w1 (some g)) (hq:∀ q,q<n→w1.cell? ⟨g,q,none⟩=W2.cell? ⟨g,q,none⟩) (hB:B≤g) (_hs:B≤W.heap.size) (hg:g<W.heap.size):Seen B g n W w1:=by
 have hz:=hb.size
 refine ⟨fun b o h => ?_,fun q h=>(hq q h).trans (hb.cell (p:=⟨g,q,none⟩) hg)⟩
 exact (hgrow.cell_far ⟨b,o,none⟩ (by show b<_;omega) (by show some b≠some g;simp;omega)).trans (hb.cell (p:=⟨b,o,none⟩) (by show b<_;omega))
def cat (n:Nat) (a b:Nat→Nat):Nat→Nat:=fun j=>if j<n then a j else b (j - n)
theorem cat_lt {n p:Nat} {a b:Nat→Nat} (ha:∀ j,a j<p) (hb:∀ j,b j<p):∀ j,cat n a b j<p:=fun j=>by
 unfold cat;split
 · exact ha _
 · exact hb _
theorem cat_left {n:Nat} {a b:Nat→Nat} {j:Nat} (h:j<n):cat n a b j=a j:=by unfold cat;rw [if_pos h]
theorem cat_right {n:Nat} {a b:Nat→Nat} (j:Nat):cat n a b (n+j)=b j:=by unfold cat;rw [if_neg (by omega),Nat.add_sub_cancel_left]
theorem ints_add (K:IntKind) (n m:Nat) (X Y:Nat→Nat):ints K n X ++ ints K m Y=ints K (n+m) (cat n X Y):=by
 apply List.ext_getElem?
 intro j
 by_cases h:j<n
 · rw [List.getElem?_append_left (by rw [ints_len];exact h),ints_at _ _ _ j h,ints_at _ _ _ j (by omega),cat_left h]
 · rw [List.getElem?_append_right (by rw [ints_len];omega),ints_len]
   by_cases h2:j<n+m
   · rw [ints_at _ _ _ (j - n) (by omega),ints_at _ _ _ j h2]
     unfold cat;rw [if_neg h]
   · rw [List.getElem?_eq_none (by rw [ints_len];omega),List.getElem?_eq_none (by rw [ints_len];omega)]
theorem run_append_any {P:Program} (w:World) (t ty base e:TypeId) (i:TypeInfo) (z:Value) (bytes:Nat) (ht:P.underlying t=some (.slice e)) (hi:P.info? e=some i) (hz:i.zero=some z) (hsize:i.size=1) (hby:i.bytes=bytes) (hzs:z.cells.size=1)
 (v:Value) (n:Nat) (xs:List Value) (hown:w.ownsRow base e 1 v n xs) (xo:Option Addr) (m c:Nat) (bs:Nat→Nat) (hsrc:Src w xo m bs) (hxn:xo=none→c=0)
 (h63:n+m≤maxLen) (hbytes:(n+m)*bytes≤140737488355328) (hbase:base≤w.heap.size) :
 ∃ v' w',(Builtin.append_ #[t,t] ty #[v,.slice xo m c]).run P w = .ok v' w'∧w'.ownsRow base e 1 v' (n+m) (xs ++ ints .u8 m bs)∧w.grownBy w' v.ownBlock:=by
 cases xo with
 | none =>
  have hm:m=0:=by
   rcases hsrc with h | ⟨_,_,h,_⟩
   · exact h
   · cases h
  subst hm
  have hc:=hxn rfl
  subst hc
  refine ⟨v,w,?_,by rw [show ints .u8 0 bs=[] from rfl,List.append_nil];exact hown,⟨rfl,rfl,rfl,Nat.le_refl _,fun _ _ _=>rfl⟩⟩
  rcases hown.2 with ⟨rfl,_⟩ | ⟨g,cap,cur,rfl,_,_,hnc,_⟩
  · exact run_append_nothing w t t ty e i ht hi none 0 0 (Nat.le_refl _) _ ⟨.inl ⟨_,ht⟩,fun _=>rfl,rfl,rfl,by simp,fun _ h=>by cases h⟩
  · exact run_append_nothing w t t ty e i ht hi _ n cap hnc _ ⟨.inl ⟨_,ht⟩,fun _=>rfl,rfl,rfl,by simp,fun _ h=>by cases h⟩
 | some ad =>
  have hnews:∀ j u,(ints .u8 m bs)[j]? = some u→w.cell? (ad.add j)=some u:=fun j u hu=>by
   have hj:j<m:=by have:=(List.getElem?_eq_some_iff.1 hu).1;rwa [ints_len] at this
   rw [ints_at _ _ _ j hj] at hu
   rcases hsrc with h | ⟨bb,ob,h,hc⟩
   · omega
   · cases h
     rw [Addr.add_mid,←hu]
     exact hc j hj
  obtain ⟨v',w',h1,h2,h3,_,_⟩:=run_append_own_at (P:=P) w base t ty e i z 1 bytes ht hi hz hsize hby hzs (by decide) v n xs hown ad m c (ints .u8 m bs) (by rw [ints_len,Nat.mul_one]) hnews (ints_one _ _ _) h63 hbytes hbase
  exact ⟨v',w',h1,h2,h3⟩
theorem wpList_append_any {P:Program} {w:World} {ops:Array Oper} {rest:List Oper} {o:Oper} {a:Act} {Q:Exit→Act→World→Prop} (hgd:o.guard=none) (s x:Operand) (t:TypeId)
 (ho:o.op = .call { callee := .builtin .append,args:=#[s,x],argTypes:=#[t,t] }) (base e:TypeId) (i:TypeInfo) (z:Value) (bytes:Nat) (ht:P.underlying t=some (.slice e)) (hi:P.info? e=some i) (hz:i.zero=some z) (hsize:i.size=1) (hby:i.bytes=bytes) (hzs:z.cells.size=1)
 (v:Value) (n:Nat) (xs:List Value) (hs:a.eval s=v) (hown:w.ownsRow base e 1 v n xs) (xo:Option Addr) (m c:Nat) (bs:Nat→Nat) (hx:a.eval x = .slice xo m c) (hsrc:Src w xo m bs) (hxn:xo=none→c=0)
 (h63:n+m≤maxLen) (hbytes:(n+m)*bytes≤140737488355328) (hbase:base≤w.heap.size)
 (h:∀ v' w',w'.ownsRow base e 1 v' (n+m) (xs ++ ints .u8 m bs)→w.grownBy w' v.ownBlock→wpList P ops Q rest (a.put o.dst v') w'):wpList P ops Q (o :: rest) a w:=by
 refine wpList_plain hgd fun K hK => ?_
 obtain ⟨v',w',h1,h2,h3⟩:=run_append_any (P:=P) w t o.type base e i z bytes ht hi hz hsize hby hzs v n xs hown xo m c bs hsrc hxn h63 hbytes hbase
 unfold Oper.wp execOp
 simp only [ho,resolve,invoke,builtin,Sem.run_bind,Sem.run_pure,Result.andThen_ok,List.map_toArray,List.map_cons,List.map_nil,hs,hx,h1]
 exact hK _ _ (h v' w' h2 h3)
def Own (base:Nat) (w:World) (v:Value) (n:Nat) (X:Nat→Nat):Prop:=w.ownsRow base 5 1 v n (ints .u8 n X)
theorem Own.below {base:Nat} {w w':World} {v:Value} {n:Nat} {X:Nat→Nat} (h:Own base w v n X) (hb:Below w.heap.size w w'):Own base w' v n X:=own_below h hb
theorem Own.alloc {base:Nat} {w:World} {v:Value} {n:Nat} {X:Nat→Nat} (h:Own base w v n X) (o:Obj):Own base (w.alloc o) v n X:=h.below ((Below.refl _ _).alloc (Nat.le_refl _) _)
theorem Own.congr {base:Nat} {w:World} {v:Value} {n:Nat} {X Y:Nat→Nat} (h:Own base w v n X) (e:∀ j,j<n→X j=Y j):Own base w v n Y:=by
 unfold Own;rw [←ints_congr _ _ _ _ e];exact h
theorem Own.form {base:Nat} {w:World} {v:Value} {n:Nat} {X:Nat→Nat} (h:Own base w v n X):(v = .slice none 0 0∧n=0)∨∃ g cap,v = .slice (some ⟨g,0,none⟩) n cap∧base≤g∧g<w.heap.size∧n≤cap∧RowAt .u8 w g 0 n X:=by
 rcases h.2 with hv | ⟨g,cap,cur,rfl,hb,hg,hn,_⟩
 · exact .inl hv
 · refine .inr ⟨g,cap,rfl,hb,(h.lt g rfl).2,hn,fun j hj => ?_⟩
   rw [Nat.zero_add]
   exact ⟨by rw [World.ownsRow.cellAt h j (by omega),ints_at _ _ _ j hj],World.ownsRow.frozenAt h j⟩
theorem Own.nil (base:Nat) (w:World) (X:Nat→Nat):Own base w (.slice none 0 0) 0 X:=World.ownsRow_nil w base _ _
theorem Own.lit (base:Nat) (w:World) (X:Nat→Nat) (h:base≤w.heap.size):Own base (w.alloc (.cells #[] 5)) (.slice (some ⟨w.heap.size,0,none⟩) 0 0) 0 X:=World.ownsRow_lit w #[] 0 h (by decide) rfl
theorem Own.grown {B base:Nat} {a w w':World} {v:Value} {n:Nat} {X:Nat→Nat} (h:Below B a w) (hg:w.grownBy w' v.ownBlock) (ho:Own base w v n X) (hB:B≤base) (hs:B≤w.heap.size):Below B a w':=below_grown h hg ho hB hs
theorem src_one (w:World) (x:Int) (y:Nat) (h:x=(y:Int)):Src (w.alloc (.cells #[.int .u8 x] 5)) (some ⟨w.heap.size,0,none⟩) 1 (fun _=>y):=by
 subst h
 refine .inr ⟨w.heap.size,0,rfl,fun j hj => ?_⟩
 have:j=0:=by omega
 subst this
 simp
theorem wpList_append_bytes {w:World} {ops:Array Oper} {rest:List Oper} {o:Oper} {a:Act} {Q:Exit→Act→World→Prop} (hgd:o.guard=none) (s x:Operand)
 (ho:o.op = .call { callee := .builtin .append,args:=#[s,x],argTypes:=#[22,22] }) (base:Nat)
 (v:Value) (n:Nat) (X:Nat→Nat) (hs:a.eval s=v) (hown:Own base w v n X) (xo:Option Addr) (m c:Nat) (bs:Nat→Nat) (hx:a.eval x = .slice xo m c) (hsrc:Src w xo m bs) (hxn:xo=none→c=0)
 (hl:n+m≤140737488355328) (hbase:base≤w.heap.size)
 (h:∀ v' w',Own base w' v' (n+m) (cat n X bs)→w.grownBy w' v.ownBlock→wpList Tryz.prog ops Q rest (a.put o.dst v') w'):wpList Tryz.prog ops Q (o :: rest) a w:=by
 obtain ⟨i0,hi,hz0,hz1,hz2⟩:=info_parts Tryz.info5
 exact wpList_append_any hgd s x 22 ho base 5 i0 (.int .u8 0) 1 Tryz.underlying22 hi hz0 hz1 hz2 rfl v n _ hs hown xo m c bs hx hsrc hxn (by unfold maxLen;omega) (by omega) hbase (fun v' w' h1 h2=>h v' w' (by unfold Own;rw [←ints_add];exact h1) h2)
theorem wpList_append_next {w:World} {ops:Array Oper} {rest:List Oper} {o:Oper} {a:Act} {Q:Exit→Act→World→Prop} (hgd:o.guard=none) (s x:Operand)
 (ho:o.op = .call { callee := .builtin .append,args:=#[s,x],argTypes:=#[22,22] }) (base:Nat)
 (v:Value) (n:Nat) (F:Nat→Nat) (y:Int) (hs:a.eval s=v) (hown:Own base w v n F) (hx:a.eval x = .slice (some ⟨w.heap.size,0,none⟩) 1 1) (hF:y=(F n:Int))
 (hl:n+1≤140737488355328) (hbase:base≤w.heap.size)
 (h:∀ v' w',Own base w' v' (n+1) F→Below base w w'→wpList Tryz.prog ops Q rest (a.put o.dst v') w'):wpList Tryz.prog ops Q (o :: rest) a (w.alloc (.cells #[.int .u8 y] 5)):=by
 have hb:Below base w (w.alloc (.cells #[.int .u8 y] 5)):=(Below.refl _ _).alloc hbase _
 have hz:base≤(w.alloc (.cells #[.int .u8 y] 5)).heap.size:=by simp only [World.size_alloc];omega
 refine wpList_append_bytes hgd s x ho base v n F hs (hown.alloc _) _ 1 1 (fun _=>F n) hx (src_one w y (F n) hF) (fun h=>by cases h) hl hz (fun v' w' h1 h2=>h v' w' (h1.congr fun j hj => ?_) (Own.grown hb h2 (hown.alloc _) (Nat.le_refl _) hz))
 by_cases e:j<n
 · rw [cat_left e]
 · obtain rfl:j=n:=by omega
   unfold cat;rw [if_neg e]
theorem run_append_bytes (w:World) (base:Nat) (v:Value) (n:Nat) (X:Nat→Nat) (hown:Own base w v n X) (xo:Option Addr) (m c:Nat) (bs:Nat→Nat) (hsrc:Src w xo m bs) (hxn:xo=none→c=0)
 (hl:n+m≤140737488355328) (hbase:base≤w.heap.size) :
 ∃ v' w',(Builtin.append_ #[22,22] 22 #[v,.slice xo m c]).run Tryz.prog w = .ok v' w'∧Own base w' v' (n+m) (cat n X bs)∧Below base w w':=by
 obtain ⟨i0,hi,hz0,hz1,hz2⟩:=info_parts Tryz.info5
 obtain ⟨v',w',h1,h2,h3⟩:=run_append_any (P:=Tryz.prog) w 22 22 base 5 i0 (.int .u8 0) 1 Tryz.underlying22 hi hz0 hz1 hz2 rfl v n _ hown xo m c bs hsrc hxn (by unfold maxLen;omega) (by omega) hbase
 exact ⟨v',w',h1,by unfold Own;rw [←ints_add];exact h2,Own.grown (Below.refl _ _) h3 hown (Nat.le_refl _) hbase⟩
theorem wpList_append_empty {w:World} {ops:Array Oper} {rest:List Oper} {o:Oper} {a:Act} {Q:Exit→Act→World→Prop} (hgd:o.guard=none) (s x:Operand)
 (ho:o.op = .call { callee := .builtin .append,args:=#[s,x],argTypes:=#[22,22] }) (base:Nat)
 (F:Nat→Nat) (g:Nat) (hg:w.heap.size=g) (hs:a.eval s = .slice (some ⟨g,0,none⟩) 0 0) (xo:Option Addr) (m c:Nat) (hx:a.eval x = .slice xo m c) (hsrc:Src (w.alloc (.cells #[] 5)) xo m F) (hxn:xo=none→c=0)
 (hl:m≤140737488355328) (hbase:base≤w.heap.size)
 (h:∀ v' w',Own base w' v' m F→Below base w w'→wpList Tryz.prog ops Q rest (a.put o.dst v') w'):wpList Tryz.prog ops Q (o :: rest) a (w.alloc (.cells #[] 5)):=by
 subst hg
 have hb:Below base w (w.alloc (.cells #[] 5)):=(Below.refl _ _).alloc hbase _
 have hz:base≤(w.alloc (.cells #[] 5)).heap.size:=by simp only [World.size_alloc];omega
 refine wpList_append_bytes hgd s x ho base _ 0 F hs (Own.lit base w F hbase) xo m c F hx hsrc hxn (by omega) hz (fun v' w' h1 h2=>h v' w' ?_ (Own.grown hb h2 (Own.lit base w F hbase) (Nat.le_refl _) hz))
 rw [Nat.zero_add] at h1
 exact h1.congr fun j _=>by unfold cat;rw [if_neg (by omega),Nat.sub_zero]
theorem Own.start {base:Nat} {w:World} {v:Value} {n m:Nat} {X:Nat→Nat} (h:Own base w v m X) (e:m=n):Own base w v n X:=by subst e;exact h
theorem BytesIn.src {w:World} {v:Value} {n:Nat} {bs:Nat→Nat} (h:BytesIn w v n bs):∃ xo c,v = .slice xo n c∧(xo=none→c=0)∧n≤c∧∀ w',Below w.heap.size w w'→Src w' xo n bs:=by
 rcases h with ⟨xo,rfl,rfl⟩ | ⟨bb,ob,cap,rfl,h1,h2,h3⟩
 · exact ⟨xo,0,rfl,fun _=>rfl,Nat.le_refl _,fun _ _ => .inl rfl⟩
 · exact ⟨_,cap,rfl,(fun h=>by cases h),h2,fun w' hb => .inr ⟨bb,ob,rfl,fun j hj=>(hb.cell (p:=⟨bb,ob+j,none⟩) h1).trans (h3 j hj)⟩⟩
theorem BytesIn.keep {w w':World} {v:Value} {n:Nat} {bs:Nat→Nat} (h:BytesIn w v n bs) (hb:Below w.heap.size w w'):BytesIn w' v n bs:=by
 rcases h with h | ⟨bb,ob,cap,rfl,h1,h2,h3⟩
 · exact .inl h
 · exact .inr ⟨bb,ob,cap,rfl,Nat.lt_of_lt_of_le h1 hb.size,h2,fun j hj=>(hb.cell (p:=⟨bb,ob+j,none⟩) h1).trans (h3 j hj)⟩
def strB (n:Nat) (bs:Nat→Nat):ByteArray:=⟨((List.range n).map fun j=>UInt8.ofNat (bs j)).toArray⟩
theorem strB_congr {n:Nat} {a b:Nat→Nat} (h:∀ j,j<n→a j=b j):strB n a=strB n b:=by
 unfold strB
 congr 2
 exact List.map_congr_left fun j hj=>by rw [h j (List.mem_range.1 hj)]
theorem conv_bytes (w:World) (bb ob n cap:Nat) (bs:Nat→Nat) (hb:∀ j,bs j<256) (h:∀ j,j<n→w.cell? ⟨bb,ob+j,none⟩=some (.int .u8 (bs j))) :
 (convert 22 9 (.slice (some ⟨bb,ob,none⟩) n cap)).run Tryz.prog w = .ok (.string (strB n bs)) w:=by
 have hl:((List.range n).map fun j=>UInt8.ofNat (bs j)).length=n:=by simp
 have:=run_convert_bytes_back (P:=Tryz.prog) w 22 9 5 ⟨bb,ob,none⟩ cap ((List.range n).map fun j=>UInt8.ofNat (bs j)) Tryz.underlying22 Tryz.underlying5 (by kernel_rfl) (fun j hj=>by
  rw [hl] at hj
  rw [Addr.add_mid,h j hj]
  simp only [List.getElem_map,List.getElem_range]
  rw [UInt8.toNat_ofNat_of_lt' (by have:=hb j;simp [UInt8.size];omega)])
 rw [hl] at this
 exact this
theorem conv_nil (w:World):(convert 22 9 (.slice none 0 0)).run Tryz.prog w = .ok (.string (strB 0 (fun _=>0))) w:=by
 rw [run_convert_bytes_string w 22 9 5 none 0 0 Tryz.underlying22 Tryz.underlying5 (by kernel_rfl)]
 rfl
theorem conv_empty (w:World) (a:Addr):(convert 22 9 (.slice (some a) 0 0)).run Tryz.prog w = .ok (.string (strB 0 (fun _=>0))) w :=
 run_convert_bytes_back (P:=Tryz.prog) w 22 9 5 a 0 [] Tryz.underlying22 Tryz.underlying5 (by kernel_rfl) (fun j hj=>absurd hj (Nat.not_lt_zero j))
theorem BytesIn.conv {w:World} {v:Value} {n:Nat} {bs:Nat→Nat} (h:BytesIn w v n bs) (hb:∀ j,bs j<256) (w':World) (hw:Below w.heap.size w w'):(convert 22 9 v).run Tryz.prog w' = .ok (.string (strB n bs)) w':=by
 rcases h with ⟨xo,rfl,rfl⟩ | ⟨bb,ob,cap,rfl,h1,h2,h3⟩
 · have e:=strB_congr (n:=0) (a:=fun _=>0) (b:=bs) (fun j hj=>by omega)
   cases xo with
   | none=>exact (conv_nil w').trans (by rw [e])
   | some a=>exact (conv_empty w' a).trans (by rw [e])
 · exact conv_bytes w' bb ob n cap bs hb (fun j hj=>(hw.cell (p:=⟨bb,ob+j,none⟩) h1).trans (h3 j hj))
theorem BytesIn.still {w w':World} {v:Value} {n:Nat} {bs:Nat→Nat} (h:BytesIn w v n bs) (hb:Below w.heap.size w w'):BytesIn w' v n bs:=by
 rcases h with h | ⟨bb,ob,cap,rfl,h1,h2,h3⟩
 · exact .inl h
 · exact .inr ⟨bb,ob,cap,rfl,Nat.lt_of_lt_of_le h1 hb.size,h2,fun j hj=>(hb.cell (p:=⟨bb,ob+j,none⟩) h1).trans (h3 j hj)⟩
theorem BytesIn.of_own {base:Nat} {w:World} {v:Value} {n:Nat} {X:Nat→Nat} (h:Own base w v n X):BytesIn w v n X:=by
 rcases h.form with ⟨rfl,rfl⟩ | ⟨g,cap,rfl,_,hl,hc,hr⟩
 · exact .inl ⟨none,rfl,rfl⟩
 · exact .inr ⟨g,0,cap,rfl,hl,hc,fun j hj=>(hr j hj).1⟩
theorem strB_eq {n m:Nat} {a b:Nat→Nat} (ha:∀ j,a j<256) (hb:∀ j,b j<256):strB n a=strB m b↔n=m∧∀ j,j<n→a j=b j:=by
 constructor
 · intro h
   have h1:((List.range n).map fun j=>UInt8.ofNat (a j))=((List.range m).map fun j=>UInt8.ofNat (b j)):=by
    have:=congrArg (fun x:ByteArray=>x.data.toList) h
    simpa [strB] using this
   have hl:=congrArg List.length h1
   simp at hl
   subst hl
   refine ⟨rfl,fun j hj => ?_⟩
   have h2:=congrArg (fun l:List UInt8=>l[j]?) h1
   simp [hj] at h2
   have h3:=congrArg UInt8.toNat h2
   rw [UInt8.toNat_ofNat_of_lt' (by have:=ha j;simp [UInt8.size];omega),UInt8.toNat_ofNat_of_lt' (by have:=hb j;simp [UInt8.size];omega)] at h3
   exact h3
 · rintro ⟨rfl,h⟩
   exact strB_congr h
theorem zeroCells_u8 (m:Nat):Builtin.zeroCells #[.int .u8 0] m=(ints .u8 m (fun _=>0)).toArray:=by
 apply Array.ext'
 apply List.ext_getElem?
 intro j
 by_cases hj:j<m
 · rw [ints_at _ _ _ j hj]
   simp [Builtin.zeroCells,hj,Nat.mod_one]
 · rw [List.getElem?_eq_none (by rw [Array.length_toList,size_zeroCells];simp;omega),List.getElem?_eq_none (by show (ints .u8 m (fun _=>0)).length≤j;rw [ints_len];omega)]
end Go.Proofs.YtdgkmloabificaaGreatDoor
namespace Go.Proofs.YtdgkmloabificaaGreatDoor
open Go.RowKit Go.Lib
theorem Hid.mk' {P:Prop} (h:P):Hid P:=h
def val4 (a b c d:Nat):Nat:=a+18446744073709551616*b+340282366920938463463374607431768211456*c+6277101735386680763835789423207666416102355444464034512896*d
def lw (n i:Nat):Nat:=n / 18446744073709551616 ^ i%18446744073709551616
def numV (n:Nat):Value := .agg #[.int .u64 (lw n 0),.int .u64 (lw n 1),.int .u64 (lw n 2),.int .u64 (lw n 3)]
theorem lw_lt (n i:Nat):lw n i<18446744073709551616:=Nat.mod_lt _ (by decide)
theorem lw_val (n:Nat) (h:n<115792089237316195423570985008687907853269984665640564039457584007913129639936):val4 (lw n 0) (lw n 1) (lw n 2) (lw n 3)=n:=by
 unfold val4 lw
 simp only [Nat.reducePow]
 omega
theorem val4_lw (a b c d:Nat) (ha:a<18446744073709551616) (hb:b<18446744073709551616) (hc:c<18446744073709551616) (hd:d<18446744073709551616):lw (val4 a b c d) 0=a∧lw (val4 a b c d) 1=b∧lw (val4 a b c d) 2=c∧lw (val4 a b c d) 3=d:=by
 unfold val4 lw
 simp only [Nat.reducePow]
 refine ⟨?_,?_,?_,?_⟩ <;> omega
theorem val4_lt (a b c d:Nat) (ha:a<18446744073709551616) (hb:b<18446744073709551616) (hc:c<18446744073709551616) (hd:d<18446744073709551616):val4 a b c d<115792089237316195423570985008687907853269984665640564039457584007913129639936:=by
 unfold val4;omega
theorem numV_of (n a b c d:Nat) (ha:a<18446744073709551616) (hb:b<18446744073709551616) (hc:c<18446744073709551616) (hd:d<18446744073709551616) (h:val4 a b c d=n):(Value.agg #[.int .u64 a,.int .u64 b,.int .u64 c,.int .u64 d]:Value)=numV n:=by
 obtain ⟨h0,h1,h2,h3⟩:=val4_lw a b c d ha hb hc hd
 rw [h] at h0 h1 h2 h3
 unfold numV
 rw [h0,h1,h2,h3]
theorem add64_run (x y c:Nat) (hc:c≤1) (w:World):(callFunc 95 #[.int .u64 x,.int .u64 y,.int .u64 c]).run Tryz.prog w =
 .ok (.value (.tuple #[.int .u64 (((x+y+c)%18446744073709551616:Nat):Int),.int .u64 (((x+y+c) / 18446744073709551616:Nat):Int)])) w:=by
 rw [run_callFunc_extern Tryz.func95 (by kernel_rfl) (by kernel_rfl) (by kernel_rfl) (e:=add64Entry) (by kernel_rfl),run_add64 x y c (by omega) (by omega) (by omega) (by omega)]
 simp only [Result.andThen]
 congr 5 <;> omega
theorem add64_ex (x y c:Nat) (hx:x<18446744073709551616) (hy:y<18446744073709551616) (hc:c≤1):∃ s k:Nat,s<18446744073709551616∧k≤1∧s+18446744073709551616*k=x+y+c∧∀ w,(callFunc 95 #[.int .u64 x,.int .u64 y,.int .u64 c]).run Tryz.prog w = .ok (.value (.tuple #[.int .u64 s,.int .u64 k])) w :=
 ⟨_,_,by omega,by omega,by omega,fun w=>add64_run x y c hc w⟩
theorem add64_ex0 (x y:Nat) (hx:x<18446744073709551616) (hy:y<18446744073709551616):∃ s k:Nat,s<18446744073709551616∧k≤1∧s+18446744073709551616*k=x+y∧∀ w,(callFunc 95 #[.int .u64 x,.int .u64 y,.int .u64 0]).run Tryz.prog w = .ok (.value (.tuple #[.int .u64 s,.int .u64 k])) w :=
 add64_ex x y 0 hx hy (by decide)
theorem add64_exz (x c:Nat) (hx:x<18446744073709551616) (hc:c≤1):∃ s k:Nat,s<18446744073709551616∧k≤1∧s+18446744073709551616*k=x+c∧∀ w,(callFunc 95 #[.int .u64 x,.int .u64 0,.int .u64 c]).run Tryz.prog w = .ok (.value (.tuple #[.int .u64 s,.int .u64 k])) w :=
 add64_ex x 0 c hx (by decide) hc
theorem sub64_run (x y b:Nat) (hb:b≤1) (w:World):(callFunc 124 #[.int .u64 x,.int .u64 y,.int .u64 b]).run Tryz.prog w =
 .ok (.value (.tuple #[.int .u64 (((x+18446744073709551616 - y - b)%18446744073709551616:Nat):Int),.int .u64 ((if x<y+b then 1 else 0:Nat):Int)])) w:=by
 rw [run_callFunc_extern Tryz.func124 (by kernel_rfl) (by kernel_rfl) (by kernel_rfl) (e:=sub64Entry) (by kernel_rfl),run_sub64 x y b hb]
 rfl
theorem sub64_ex (x y b:Nat) (hx:x<18446744073709551616) (hy:y<18446744073709551616) (hb:b≤1):∃ s k:Nat,s<18446744073709551616∧k≤1∧s+y+b=x+18446744073709551616*k∧∀ w,(callFunc 124 #[.int .u64 x,.int .u64 y,.int .u64 b]).run Tryz.prog w = .ok (.value (.tuple #[.int .u64 s,.int .u64 k])) w :=
 ⟨_,_,by omega,by split <;> omega,by split <;> omega,fun w=>sub64_run x y b hb w⟩
theorem sub64_ex0 (x y:Nat) (hx:x<18446744073709551616) (hy:y<18446744073709551616):∃ s k:Nat,s<18446744073709551616∧k≤1∧s+y=x+18446744073709551616*k∧∀ w,(callFunc 124 #[.int .u64 x,.int .u64 y,.int .u64 0]).run Tryz.prog w = .ok (.value (.tuple #[.int .u64 s,.int .u64 k])) w :=
 sub64_ex x y 0 hx hy (by decide)
theorem sub64_exz (x b:Nat) (hx:x<18446744073709551616) (hb:b≤1):∃ s k:Nat,s<18446744073709551616∧k≤1∧s+b=x+18446744073709551616*k∧∀ w,(callFunc 124 #[.int .u64 x,.int .u64 0,.int .u64 b]).run Tryz.prog w = .ok (.value (.tuple #[.int .u64 s,.int .u64 k])) w :=
 sub64_ex x 0 b hx (by decide) hb
def rho64:Go.Shelf.Ren:=⟨fun _=>94,fun n=>if n=46 then 91 else 47,fun x=>x⟩
theorem lays64:Lays.n264 Tryz.prog rho64:=by
 constructor <;> first | kernel_rfl | (intro w;kernel_rfl)
theorem mul64_any (x y:Nat) (hx:x<18446744073709551616) (hy:y<18446744073709551616) (w:World) :
 Calls Tryz.prog 94 #[.int .u64 x,.int .u64 y] w fun e w'=>e = .returned (.tuple #[.int .u64 ((x*y / 18446744073709551616:Nat):Int),.int .u64 ((x*y%18446744073709551616:Nat):Int)])∧w'=w :=
 Any.bits_Mul64 lays64 x y hx hy w
theorem mul64_ex (x y:Nat) (hx:x<18446744073709551616) (hy:y<18446744073709551616):∃ h l:Nat,h≤18446744073709551614∧l<18446744073709551616∧l+18446744073709551616*h=x*y∧∀ w,Calls Tryz.prog 94 #[.int .u64 x,.int .u64 y] w fun e w'=>e = .returned (.tuple #[.int .u64 h,.int .u64 l])∧w'=w:=by
 have h1:x*y≤18446744073709551615*18446744073709551615:=Nat.mul_le_mul (by omega) (by omega)
 exact ⟨x*y / 18446744073709551616,x*y%18446744073709551616,by omega,by omega,by omega,fun w=>mul64_any x y hx hy w⟩
theorem results_tmp4 {fn:Func} {t u v x:Tmp} (h:fn.results=#[.tmp t,.tmp u,.tmp v,.tmp x]) (tmps:Array Value) (P:Program) (w:World) :
 (results fn tmps).run P w = .ok (.tuple #[tmps.getD t undef,tmps.getD u undef,tmps.getD v undef,tmps.getD x undef]) w:=by
 simp [results,h]
theorem results_tmp5 {fn:Func} {t u v x y:Tmp} (h:fn.results=#[.tmp t,.tmp u,.tmp v,.tmp x,.tmp y]) (tmps:Array Value) (P:Program) (w:World) :
 (results fn tmps).run P w = .ok (.tuple #[tmps.getD t undef,tmps.getD u undef,tmps.getD v undef,tmps.getD x undef,tmps.getD y undef]) w:=by
 simp [results,h]
theorem mask63 (d:Nat) (hd:d<18446744073709551616):bits .and .u64 (d:Int) 9223372036854775807=((d%9223372036854775808:Nat):Int):=by
 have h:=bits_and_u64_nat d 9223372036854775807 hd (by omega)
 have e:d &&& 9223372036854775807=d%9223372036854775808:=Nat.and_two_pow_sub_one_eq_mod d 63
 rw [e] at h
 exact h
theorem range_fresh4 (w:World) (a b c d:Value) (t:TypeId):(w.alloc (.cells #[a,b,c,d] t)).rangeAt w.heap.size 0 [a,b,c,d]:=fun j v hv=>by
 match j,hv with
 | 0,hv=>simpa using hv
 | 1,hv=>simpa using hv
 | 2,hv=>simpa using hv
 | 3,hv=>simpa using hv
theorem results_fresh4 {P:Program} {fn:Func} {p:Tmp} {ty:TypeId} (h:fn.results=#[.cell p ty]) (tmps:Array Value) (w:World) (t:TypeId) (a b c d:Value) {D:TypeDesc}
 (hp:tmps.getD p undef = .pointer (some ⟨w.heap.size,0,none⟩)) (hu:P.underlying ty=some D) (hd:D.isRow=true) (hi:(P.info? ty).map (·.size)=some 4) :
 (results fn tmps).run P (w.alloc (.cells #[a,b,c,d] t)) = .ok (.agg #[a,b,c,d]) (w.alloc (.cells #[a,b,c,d] t)) :=
 results_cell_mid h tmps _ _ 0 [a,b,c,d] D hp (range_fresh4 w a b c d t) hu hd hi
end Go.Proofs.YtdgkmloabificaaGreatDoor
namespace Go.Proofs.YtdgkmloabificaaGreatDoor
def byt (n j:Nat):Nat:=n / 256 ^ j%256
theorem byt_lt (n j:Nat):byt n j<256:=Nat.mod_lt _ (by decide)
def ofB (bs:Nat→Nat):Nat→Nat
 | 0=>0
 | k+1=>ofB bs k+256 ^ k*bs k
theorem ofB_lt (bs:Nat→Nat) (hb:∀ j,bs j<256):∀ k,ofB bs k<256 ^ k
 | 0=>Nat.one_pos
 | k+1=>by
  have h:=ofB_lt bs hb k
  have h2:256 ^ k*bs k≤256 ^ k*255:=Nat.mul_le_mul_left _ (by have:=hb k;omega)
  rw [ofB,Nat.pow_succ]
  omega
theorem ofB_congr {a b:Nat→Nat}:∀ k,(∀ j,j<k→a j=b j)→ofB a k=ofB b k
 | 0,_=>rfl
 | k+1,h=>by rw [ofB,ofB,ofB_congr k (fun j hj=>h j (by omega)),h k (by omega)]
theorem pow_B (a:Nat):18446744073709551616 ^ a=2 ^ (64*a):=by
 rw [show (18446744073709551616:Nat)=2 ^ 64 from rfl,←Nat.pow_mul]
theorem pow_b (a:Nat):256 ^ a=2 ^ (8*a):=by
 rw [show (256:Nat)=2 ^ 8 from rfl,←Nat.pow_mul]
theorem word_byte (n k:Nat):lw n (k / 8) / 2 ^ (k%8*8)%256=byt n k:=by
 unfold lw byt
 rw [←Nat.mod_mul_right_div_self,Nat.mod_mod_of_dvd,Nat.mod_mul_right_div_self,Nat.div_div_eq_div_mul,pow_B,pow_b,←Nat.pow_add]
 · congr 4;omega
 · rw [show (256:Nat)=2 ^ 8 from rfl,show (18446744073709551616:Nat)=2 ^ 64 from rfl,←Nat.pow_add]
   exact Nat.pow_dvd_pow 2 (by omega)
theorem word_byte_int (n k:Nat):(lw n (k / 8):Int) / 2 ^ (k%8*8)%256=((byt n k:Nat):Int):=by
 rw [←word_byte];simp
theorem word_more (bs:Nat→Nat) (hb:∀ j,bs j<256) (k a:Nat):lw (ofB bs (k+1)) a=if a=k / 8 then lw (ofB bs k) a ||| bs k*2 ^ (k%8*8) else lw (ofB bs k) a:=by
 have hV:=ofB_lt bs hb k
 have hbk:=hb k
 rw [ofB]
 generalize hv:ofB bs k=V at hV ⊢
 clear hv
 unfold lw
 rw [pow_b] at hV ⊢
 rw [pow_B]
 have hk:8*k=64*(k / 8)+k%8*8:=by omega
 have hc:k%8*8+8≤64:=by omega
 rw [hk,Nat.pow_add] at hV
 rw [hk,Nat.pow_add]
 generalize hA:k / 8=A at *
 generalize k%8*8=c at *
 clear hk hA
 have hBp:0<2 ^ (64*A):=Nat.two_pow_pos _
 have hcp:0<2 ^ c:=Nat.two_pow_pos _
 have h2:2 ^ c*bs k+2 ^ c≤18446744073709551616:=by
  have:2 ^ c*256≤18446744073709551616:=by
   rw [show (256:Nat)=2 ^ 8 from rfl,show (18446744073709551616:Nat)=2 ^ 64 from rfl,←Nat.pow_add]
   exact Nat.pow_le_pow_right (by decide) hc
  have h3:2 ^ c*bs k≤2 ^ c*255:=Nat.mul_le_mul_left _ (by omega)
  omega
 rcases Nat.lt_trichotomy a A with h | h | h
 · rw [if_neg (by omega)]
   have e:64*A=64*a+(64+64*(A - a - 1)):=by omega
   rw [e,Nat.pow_add,Nat.mul_assoc,Nat.mul_assoc,Nat.add_mul_div_left _ _ (Nat.two_pow_pos _),Nat.pow_add,Nat.mul_assoc,show (2:Nat) ^ 64=18446744073709551616 from rfl,Nat.add_mul_mod_self_left]
 · subst h
   rw [if_pos rfl,Nat.mul_assoc,Nat.add_mul_div_left _ _ hBp]
   have hq:V / 2 ^ (64*a)<2 ^ c:=Nat.div_lt_of_lt_mul hV
   rw [Nat.mod_eq_of_lt (by omega),Nat.mod_eq_of_lt (by omega),Nat.or_comm,Nat.mul_comm (bs k)]
   have:=Nat.two_pow_add_eq_or_of_lt hq (bs k)
   omega
 · rw [if_neg (by omega)]
   have e:64*a=64*A+(64+64*(a - A - 1)):=by omega
   have hle:2 ^ (64*A)*18446744073709551616≤2 ^ (64*a):=by
    rw [show (18446744073709551616:Nat)=2 ^ 64 from rfl,←Nat.pow_add]
    exact Nat.pow_le_pow_right (by decide) (by omega)
   have h5:V+2 ^ (64*A)*2 ^ c*bs k<2 ^ (64*A)*(2 ^ c*bs k+2 ^ c):=by
    rw [Nat.mul_add,Nat.mul_assoc];omega
   have h6:2 ^ (64*A)*(2 ^ c*bs k+2 ^ c)≤2 ^ (64*A)*18446744073709551616:=Nat.mul_le_mul_left _ h2
   rw [Nat.div_eq_of_lt (by omega),Nat.div_eq_of_lt (by omega)]
theorem byt_ofB (bs:Nat→Nat) (hb:∀ j,bs j<256):∀ k j,j<k→byt (ofB bs k) j=bs j
 | 0,_,h=>absurd h (Nat.not_lt_zero _)
 | k+1,j,h=>by
  unfold byt
  rw [ofB]
  by_cases e:j=k
  · subst e
    rw [Nat.add_mul_div_left _ _ (Nat.pow_pos (by decide)),Nat.div_eq_of_lt (ofB_lt bs hb j),Nat.zero_add,Nat.mod_eq_of_lt (hb j)]
  · have hj:j<k:=by omega
    have e2:k=j+(1+(k - j - 1)):=by omega
    have:256 ^ k=256 ^ j*(256*256 ^ (k - j - 1)):=by
     conv=>lhs;rw [e2]
     rw [Nat.pow_add,Nat.pow_add,Nat.pow_one]
    rw [this,Nat.mul_assoc,Nat.add_mul_div_left _ _ (Nat.pow_pos (by decide)),Nat.mul_assoc,Nat.add_mul_mod_self_left]
    exact byt_ofB bs hb k j hj
theorem ofB_byt (n:Nat):∀ k,ofB (byt n) k=n%256 ^ k
 | 0=>by rw [ofB,Nat.pow_zero,Nat.mod_one]
 | k+1=>by
  rw [ofB,ofB_byt n k,Nat.pow_succ,Nat.mod_mul]
  rfl
theorem byt_inj {a b:Nat} (ha:a<115792089237316195423570985008687907853269984665640564039457584007913129639936) (hb:b<115792089237316195423570985008687907853269984665640564039457584007913129639936) (h:∀ j,j<32→byt a j=byt b j):a=b:=by
 have:=ofB_congr 32 h
 rw [ofB_byt,ofB_byt,show (256:Nat) ^ 32=115792089237316195423570985008687907853269984665640564039457584007913129639936 from rfl,Nat.mod_eq_of_lt ha,Nat.mod_eq_of_lt hb] at this
 exact this
theorem or_byte (V b k:Nat) (hV:V<18446744073709551616) (hb:b<256):bits .or .u64 (V:Int) (IntKind.u64.wrap ((b:Int)*2 ^ (k%8*8)))=((V ||| b*2 ^ (k%8*8):Nat):Int):=by
 have h2:b*2 ^ (k%8*8)<18446744073709551616:=by
  have h1:2 ^ (k%8*8)≤2 ^ 56:=Nat.pow_le_pow_right (by decide) (by omega)
  have h3:b*2 ^ (k%8*8)≤255*2 ^ 56:=Nat.mul_le_mul (by omega) h1
  omega
 have e:IntKind.u64.wrap ((b:Int)*2 ^ (k%8*8))=((b*2 ^ (k%8*8):Nat):Int):=by
  rw [IntKind.wrap_u64]
  have e1:(b:Int)*2 ^ (k%8*8)=((b*2 ^ (k%8*8):Nat):Int):=by simp
  rw [e1];omega
 rw [e,bits_or_u64_nat _ _ hV h2]
end Go.Proofs.YtdgkmloabificaaGreatDoor
namespace Go.Proofs.YtdgkmloabificaaGreatDoor
open Go.RowKit
def IRow (w:World) (g n:Nat) (L:Nat→Int):Prop:=∀ j,j<n→w.cell? ⟨g,j,none⟩=some (.int .i64 (L j))∧w.frozen? ⟨g,j,none⟩=false
def intsI (n:Nat) (L:Nat→Int):List Value:=(List.range n).map fun j => .int .i64 (L j)
theorem intsI_len (n:Nat) (L:Nat→Int):(intsI n L).length=n:=by simp [intsI]
theorem intsI_size (n:Nat) (L:Nat→Int):(intsI n L).toArray.size=n:=by simp [intsI]
theorem intsI_at (n:Nat) (L:Nat→Int) (j:Nat) (h:j<n):(intsI n L)[j]? = some (.int .i64 (L j)):=by simp [intsI,h]
theorem intsI_one (n:Nat) (L:Nat→Int):∀ v∈intsI n L,v.oneCell'=true:=fun v hv=>by
 simp only [intsI,List.mem_map] at hv
 obtain ⟨j,_,rfl⟩:=hv
 rfl
def refV (L:Nat→Int):Value := .agg (intsI 16 L).toArray
theorem IRow.below {B:Nat} {w w':World} {g n:Nat} {L:Nat→Int} (h:IRow w g n L) (hb:Below B w w') (hB:g<B):IRow w' g n L:=fun j hj =>
 ⟨(hb.cell (p:=⟨g,j,none⟩) hB).trans (h j hj).1,(hb.frozen (p:=⟨g,j,none⟩) hB).trans (h j hj).2⟩
theorem IRow.congr {w:World} {g n:Nat} {L M:Nat→Int} (h:IRow w g n L) (e:∀ j,j<n→L j=M j):IRow w g n M:=fun j hj=>by rw [←e j hj];exact h j hj
theorem IRow.drew {w:World} {g n:Nat} {L:Nat→Int} (h:IRow w g n L):IRow w.drew g n L:=fun j hj=>h j hj
def updI (L:Nat→Int) (i:Nat) (v:Int):Nat→Int:=fun j=>if j=i then v else L j
theorem IRow.set {w:World} {g n:Nat} {L:Nat→Int} (h:IRow w g n L) {i:Nat} (hi:i<n) (v:Int):IRow (w.setCell ⟨g,i,none⟩ (.int .i64 v)) g n (updI L i v):=fun j hj=>by
 obtain ⟨h1,h2⟩:=h j hj
 by_cases e:j=i
 · subst e
   refine ⟨?_,?_⟩
   · have:=World.rangeAt_setCells_same w g j [.int .i64 v] (fun k hk=>by
      have:k=0:=by simpa using hk
      subst this
      rw [Nat.add_zero,h1];exact ⟨rfl,h2⟩) 0 _ rfl
     simp only [updI,if_true]
     exact this
   · exact (World.frozen?_setCells g [.int .i64 v] j w _).trans h2
 · refine ⟨?_,(World.frozen?_setCells g [.int .i64 v] i w _).trans h2⟩
   simp only [updI,if_neg e]
   rw [←h1]
   exact World.cell?_setCells_out g [.int .i64 v] i w _ (fun _ _=>by show j<i∨i+1≤j;omega)
theorem IRow.far {w:World} {g n:Nat} {L:Nat→Int} (h:IRow w g n L) {a:Addr} (ha:a.block≠g) (v:Value):IRow (w.setCell a v) g n L:=fun j hj=>by
 have hk:(w.setCell a v).heap[g]? = w.heap[g]?:=Below.heap_setCell w a v g (Ne.symm ha)
 exact ⟨(World.cell?_of_block (w:=w) hk).trans (h j hj).1,(World.frozen?_of_block (w:=w) hk).trans (h j hj).2⟩
theorem IRow.range {w:World} {g n:Nat} {L:Nat→Int} (h:IRow w g n L):w.rangeAt g 0 (intsI n L):=fun j v hv=>by
 have hj:j<n:=by have:=(List.getElem?_eq_some_iff.1 hv).1;rwa [intsI_len] at this
 rw [intsI_at _ _ j hj] at hv
 cases hv
 rw [Nat.zero_add];exact (h j hj).1
theorem IRow.there {w:World} {g n:Nat} {L:Nat→Int} (h:IRow w g n L):w.there g 0 n:=fun j hj=>by
 rw [Nat.zero_add,(h j hj).1];exact ⟨rfl,(h j hj).2⟩
theorem IRow.fresh (w:World) (cs:Array Value) (t:TypeId) {n:Nat} {L:Nat→Int} (h:∀ j,j<n→cs[j]? = some (.int .i64 (L j))):IRow (w.alloc (.cells cs t)) w.heap.size n L:=fun j hj=>by
 refine ⟨?_,by simp⟩
 have:=h j hj
 simp [this]
theorem IRow.box (w:World) (n:Nat) (L:Nat→Int) (t:TypeId):IRow (w.alloc (.cells (intsI n L).toArray t)) w.heap.size n L:=IRow.fresh w _ t (fun j hj=>by rw [List.getElem?_toArray];exact intsI_at n L j hj)
theorem IRow.stored {w:World} {g n:Nat} {M L:Nat→Int} (h:IRow w g n M):IRow (w.setCells g 0 (intsI n L)) g n L:=fun j hj=>by
 have hr:=World.rangeAt_setCells_same w g 0 (intsI n L) (by rw [intsI_len];exact h.there)
 refine ⟨?_,(World.frozen?_setCells g (intsI n L) 0 w _).trans (h j hj).2⟩
 have:=hr j _ (intsI_at n L j hj)
 rwa [Nat.zero_add] at this
theorem IRow.farCells {w:World} {g n:Nat} {L:Nat→Int} (h:IRow w g n L) {k:Nat} (hk:g≠k) (o:Nat) (vs:List Value):IRow (w.setCells k o vs) g n L:=fun j hj=>by
 have hb:(w.setCells k o vs).heap[g]? = w.heap[g]?:=heap_setCells_other k vs o w g hk
 exact ⟨(World.cell?_of_block (w:=w) hb).trans (h j hj).1,(World.frozen?_of_block (w:=w) hb).trans (h j hj).2⟩
end Go.Proofs.YtdgkmloabificaaGreatDoor
namespace Go.Proofs.YtdgkmloabificaaGreatDoor
open Go.RowKit Go.Lib
def pF:Nat:=57896044618658097711785492504343953926634992332820282019728792003956564819949
set_option maxHeartbeats 1000000 in
theorem addProduct_any (t x y c:Nat) (ht:t<18446744073709551616) (hx:x<18446744073709551616) (hy:y<18446744073709551616) (hc:c<18446744073709551616) :
 ∃ l h:Nat,l<18446744073709551616∧h<18446744073709551616∧l+18446744073709551616*h=t+x*y+c∧∀ w,Calls Tryz.prog 122 #[.int .u64 t,.int .u64 x,.int .u64 y,.int .u64 c] w fun e w'=>e = .returned (.tuple #[.int .u64 l,.int .u64 h])∧w'=w:=by
 obtain ⟨h0,l0,hh0,hl0,e0,r0⟩:=mul64_ex x y hx hy
 obtain ⟨l1,k1,hl1,hk1,e1,r1⟩:=add64_ex0 l0 t hl0 ht
 obtain ⟨l2,k2,hl2,hk2,e2,r2⟩:=add64_ex0 l1 c hl1 hc
 have hxy:x*y≤18446744073709551615*18446744073709551615:=Nat.mul_le_mul (by omega) (by omega)
 obtain ⟨P,hP⟩:∃ P,P=x*y:=⟨_,rfl⟩
 rw [←hP] at e0 hxy ⊢
 clear hP
 refine ⟨l2,h0+k1+k2,hl2,by omega,by omega,fun w => ?_⟩
 have r0':=r0 w
 have b1:h0+k1<18446744073709551616:=by omega
 have b2:h0+k1+k2<18446744073709551616:=by omega
 clear e0 e1 e2 r0 hxy
 go_enter Tryz.func122,Tryz.ntmps122
 go_wp2_with (first
  | (go_at_call 94;refine r0'.mono ?_;rintro e w' ⟨rfl,rfl⟩)
  | rw [r1] | rw [r2])
 go_ret2
 exact ⟨rfl,rfl⟩
set_option maxHeartbeats 1000000 in
theorem addSmall_any (a b c d x:Nat) (ha:a<18446744073709551616) (hb:b<18446744073709551616) (hc:c<18446744073709551616) (hd:d<18446744073709551615) (hx:x<18446744073709551616) :
 ∃ s0 s1 s2 s3:Nat,s0<18446744073709551616∧s1<18446744073709551616∧s2<18446744073709551616∧s3<18446744073709551616∧val4 s0 s1 s2 s3=val4 a b c d+x∧∀ w,Calls Tryz.prog 136 #[.int .u64 a,.int .u64 b,.int .u64 c,.int .u64 d,.int .u64 x] w fun e w'=>e = .returned (.tuple #[.int .u64 s0,.int .u64 s1,.int .u64 s2,.int .u64 s3])∧w'=w:=by
 obtain ⟨s0,k0,hs0,hk0,e0,r0⟩:=add64_ex0 a x ha hx
 obtain ⟨s1,k1,hs1,hk1,e1,r1⟩:=add64_exz b k0 hb hk0
 obtain ⟨s2,k2,hs2,hk2,e2,r2⟩:=add64_exz c k1 hc hk1
 have b3:d+k2<18446744073709551616:=by omega
 refine ⟨s0,s1,s2,d+k2,hs0,hs1,hs2,b3,by unfold val4;omega,fun w => ?_⟩
 clear e0 e1 e2
 go_enter Tryz.func136,Tryz.ntmps136
 go_wp2_with (first | rw [r0] | rw [r1] | rw [r2])
 (try simp only [Exit.inBlock,Exit.then])
 refine bodyPost_ret (results_tmp4 rfl _ _ _) rfl ?_
 exact ⟨rfl,rfl⟩
theorem over_bits (top d:Nat) (ht:top≤38) (hd:d<18446744073709551616):bits .or .u64 ((top:Int)*2) ((d:Int) / 9223372036854775808)=((top*2+d / 9223372036854775808:Nat):Int):=by
 have e1:(top:Int)*2=((top*2:Nat):Int):=by omega
 have e2:(d:Int) / 9223372036854775808=((d / 9223372036854775808:Nat):Int):=by omega
 rw [e1,e2,bits_or_u64_nat _ _ (by omega) (by omega)]
 have h1:d / 9223372036854775808=0∨d / 9223372036854775808=1:=by omega
 congr 1
 rcases h1 with h | h <;> rw [h]
 · simp
 · have key:∀ k,k<39→k*2 ||| 1=k*2+1:=by decide
   exact key top (by omega)
theorem settle_val (V V' S M T o:Nat) (hV:V=V'+57896044618658097711785492504343953926634992332820282019728792003956564819968*o) (hS:S=V'+(T*2+o)*19) (hV':V'<57896044618658097711785492504343953926634992332820282019728792003956564819968) (hT:T≤38) (ho:o≤1) (hM:M=S+19) :
 (M<57896044618658097711785492504343953926634992332820282019728792003956564819968→(V+115792089237316195423570985008687907853269984665640564039457584007913129639936*T)%pF=S)∧(57896044618658097711785492504343953926634992332820282019728792003956564819968≤M→(V+115792089237316195423570985008687907853269984665640564039457584007913129639936*T)%pF=M - 57896044618658097711785492504343953926634992332820282019728792003956564819968):=by
 have key:V+115792089237316195423570985008687907853269984665640564039457584007913129639936*T=S+pF*(T*2+o):=by unfold pF;omega
 rw [key,Nat.add_mul_mod_self_left]
 unfold pF
 constructor <;> intro h <;> omega
theorem rm19 {f:FuncId} {a b c d:Value} {Q:Ending→World→Prop} {w:World} (h:Calls Tryz.prog f #[a,b,c,d,.int .u64 ((19:Nat):Int)] w Q):Calls Tryz.prog f #[a,b,c,d,.int .u64 19] w Q:=h
set_option maxRecDepth 20000 in
set_option maxHeartbeats 1000000 in
theorem settle_any (a b c d t:Nat) (ha:a<18446744073709551616) (hb:b<18446744073709551616) (hc:c<18446744073709551616) (hd:d<18446744073709551616) (ht:t≤38) (w:World) :
 Calls Tryz.prog 123 #[.int .u64 a,.int .u64 b,.int .u64 c,.int .u64 d,.int .u64 t] w fun e w'=>e = .returned (numV ((val4 a b c d+115792089237316195423570985008687907853269984665640564039457584007913129639936*t)%pF))∧Below w.heap.size w w':=by
 obtain ⟨s0,s1,s2,s3,h0,h1,h2,h3,es,rs⟩:=addSmall_any a b c (d%9223372036854775808) ((t*2+d / 9223372036854775808)*19) ha hb hc (by omega) (by omega)
 have hs3:s3<9223372036854775809:=by unfold val4 at es;omega
 obtain ⟨m0,m1,m2,m3,g0,g1,g2,g3,em,rm⟩:=addSmall_any s0 s1 s2 s3 19 h0 h1 h2 (by omega) (by decide)
 obtain ⟨f1,f2⟩:=settle_val (val4 a b c d) (val4 a b c (d%9223372036854775808)) (val4 s0 s1 s2 s3) (val4 m0 m1 m2 m3) t (d / 9223372036854775808) (by unfold val4;omega) es (by unfold val4;omega) ht (by omega) em
 obtain ⟨N,hN⟩:∃ N,N=(val4 a b c d+115792089237316195423570985008687907853269984665640564039457584007913129639936*t)%pF:=⟨_,rfl⟩
 rw [←hN] at f1 f2 ⊢
 have o1:=over_bits t d ht hd
 obtain ⟨ox,hox⟩:∃ ox,ox=t*2+d / 9223372036854775808:=⟨_,rfl⟩
 obtain ⟨dl,hdl⟩:∃ dl,dl=d%9223372036854775808:=⟨_,rfl⟩
 obtain ⟨ml,hml⟩:∃ ml,ml=m3%9223372036854775808:=⟨_,rfl⟩
 have hox77:ox≤77:=by omega
 rw [←hox,←hdl] at rs
 rw [←hox] at o1
 have o2:=mask63 d hd
 have o3:=mask63 m3 g3
 rw [←hdl] at o2
 rw [←hml] at o3
 obtain ⟨ov,hov⟩:∃ ov,ov=ox*19:=⟨_,rfl⟩
 rw [←hov] at rs
 have o4:(ox:Int)*19=(ov:Int):=by omega
 have hmll:ml<18446744073709551616:=by omega
 have fin1:m3 > 9223372036854775807→(Value.agg #[.int .u64 m0,.int .u64 m1,.int .u64 m2,.int .u64 ml]:Value)=numV N:=fun hm=>numV_of N m0 m1 m2 ml g0 g1 g2 (by omega) (by rw [f2 (by unfold val4;omega)];unfold val4;omega)
 have fin2:¬m3 > 9223372036854775807→(Value.agg #[.int .u64 s0,.int .u64 s1,.int .u64 s2,.int .u64 s3]:Value)=numV N:=fun hm=>numV_of N s0 s1 s2 s3 h0 h1 h2 (by omega) (by rw [f1 (by unfold val4;omega)])
 clear es em hN f1 f2 hox hdl hml hov
 by_cases hm:m3 > 9223372036854775807
 · have fin:=Hid.mk' (fin1 hm)
   have hm':(9223372036854775807:Int)<(m3:Int):=by omega
   clear fin1 fin2
   go_enter Tryz.func123,Tryz.ntmps123
   go_wp2_with (first
    | (go_at_call 136;refine (rs _).mono ?_;clear rs;rintro e w' ⟨rfl,hw⟩;subst hw)
    | (go_at_call 136;refine (rm19 (rm _)).mono ?_;rintro e w' ⟨rfl,hw⟩;subst hw))
   (try simp only [Exit.inBlock,Exit.then])
   exact bodyPost_ret (results_fresh4 Tryz.results123 _ _ _ _ _ _ _ rfl Tryz.underlying49 rfl (by kernel_rfl)) rfl ⟨by rw [fin.out],(Below.refl _ _).alloc (Nat.le_refl _) _⟩
 · have fin:=Hid.mk' (fin2 hm)
   have hm':¬(9223372036854775807:Int)<(m3:Int):=by omega
   clear fin1 fin2
   go_enter Tryz.func123,Tryz.ntmps123
   go_wp2_with (first
    | (go_at_call 136;refine (rs _).mono ?_;clear rs;rintro e w' ⟨rfl,hw⟩;subst hw)
    | (go_at_call 136;refine (rm19 (rm _)).mono ?_;rintro e w' ⟨rfl,hw⟩;subst hw))
   (try simp only [Exit.inBlock,Exit.then])
   exact bodyPost_ret (results_fresh4 Tryz.results123 _ _ _ _ _ _ _ rfl Tryz.underlying49 rfl (by kernel_rfl)) rfl ⟨by rw [fin.out],(Below.refl _ _).alloc (Nat.le_refl _) _⟩
end Go.Proofs.YtdgkmloabificaaGreatDoor
namespace Go.Proofs.YtdgkmloabificaaGreatDoor
open Go.RowKit
def cr (L:Nat→Int):Nat→Int
 | 0=>0
 | i+1=>(L i+cr L i) / 65536
def stC (L:Nat→Int) (k:Nat):Nat→Int:=fun j=>if j<k then (L j+cr L j)%65536 else if j=k then L j+cr L j else L j
def carryL (L:Nat→Int):Nat→Int:=fun j=>if j=0 then L 0%65536+38*cr L 16 else (L j+cr L j)%65536
def valR (L:Nat→Int):Nat→Int
 | 0=>0
 | n+1=>valR L n+L n*65536 ^ n
theorem valR_congr {L M:Nat→Int}:∀ n,(∀ j,j<n→L j=M j)→valR L n=valR M n
 | 0,_=>rfl
 | n+1,h=>by rw [valR,valR,valR_congr n (fun j hj=>h j (by omega)),h n (by omega)]
theorem valR_digits (L:Nat→Int):∀ n,valR (fun j=>(L j+cr L j)%65536) n+cr L n*65536 ^ n=valR L n
 | 0=>by simp [valR,cr]
 | n+1=>by
  have h:=valR_digits L n
  rw [valR,valR,cr,←h]
  have e:L n+cr L n=65536*((L n+cr L n) / 65536)+(L n+cr L n)%65536:=(Int.mul_ediv_add_emod _ _).symm
  have e2:(L n+cr L n)*65536 ^ n=(65536*((L n+cr L n) / 65536)+(L n+cr L n)%65536)*65536 ^ n:=congrArg (· * 65536 ^ n) e
  rw [Int.add_mul,Int.add_mul] at e2
  have e3:65536*((L n+cr L n) / 65536)*65536 ^ n=(L n+cr L n) / 65536*65536 ^ (n+1):=by
   rw [Int.pow_succ,Int.mul_comm 65536,Int.mul_assoc,Int.mul_comm 65536 (65536 ^ n)]
  omega
theorem valR_carry (L:Nat→Int):valR (carryL L) 16=valR L 16 - cr L 16*2*(pF:Int):=by
 have h:=valR_digits L 16
 have h1:∀ n,valR (carryL L) (n+1)=valR (fun j=>(L j+cr L j)%65536) (n+1)+38*cr L 16:=by
  intro n
  induction n with
  | zero =>
   simp only [valR,carryL,if_true,cr]
   simp
  | succ n ih =>
   rw [valR,ih]
   conv=>rhs;rw [valR]
   simp only [carryL,Nat.add_eq_zero_iff,Nat.one_ne_zero,and_false,if_false]
   omega
 have h2:valR (carryL L) 16=valR (fun j=>(L j+cr L j)%65536) 16+38*cr L 16:=h1 15
 have e:(65536:Int) ^ 16=2*(pF:Int)+38:=by decide
 have e2:cr L 16*(65536:Int) ^ 16=cr L 16*2*(pF:Int)+38*cr L 16:=by rw [e,Int.mul_add,Int.mul_assoc,Int.mul_comm (cr L 16) 38]
 rw [h2,←h,e2]
 generalize cr L 16*2*(pF:Int)=Y
 omega
theorem cr_bd (L:Nat→Int) (M:Int) (hM:2≤M) (h:∀ j,j<16→-M≤L j∧L j≤M):∀ i,i≤16→-M≤cr L i∧cr L i≤M
 | 0,_=>by simp [cr];omega
 | i+1,hi=>by
  have h1:=cr_bd L M hM h i (by omega)
  have h2:=h i (by omega)
  rw [cr];omega
theorem cr_bd2 (L:Nat→Int) (M:Int) (hM:2≤M) (h:∀ j,j<16→-M≤L j∧L j≤M) (i:Nat) (hi:i≤16):-(M / 32768) - 1≤cr L i∧cr L i≤M / 32768+1:=by
 cases i with
 | zero=>simp [cr];omega
 | succ i =>
  have h1:=cr_bd L M hM h i (by omega)
  have h2:=h i (by omega)
  rw [cr];omega
structure Dig (R:Int) (L:Nat→Int):Prop where
 low:-R≤L 0∧L 0≤R
 dig:∀ j,0<j→j<16→0≤L j∧L j≤65535
theorem Dig.all {R:Int} {L:Nat→Int} (h:Dig R L) (hR:65535≤R):∀ j,j<16→-R≤L j∧L j≤R:=fun j hj=>by
 by_cases e:j=0
 · rw [e];exact h.low
 · have:=h.dig j (by omega) hj;omega
theorem carry_dig (L:Nat→Int) (M:Int) (hM:2≤M) (h:∀ j,j<16→-M≤L j∧L j≤M):Dig (65535+38*(M / 32768+1)) (carryL L):=by
 have h1:=cr_bd2 L M hM h 16 (Nat.le_refl _)
 refine ⟨?_,fun j h0 hj => ?_⟩
 · unfold carryL;rw [if_pos rfl];omega
 · unfold carryL;rw [if_neg (by omega)];omega
theorem cr_small (L:Nat→Int) (h:Dig 9007199254740992 L):∀ i,4≤i→i≤16→-1≤cr L i∧cr L i≤1:=by
 have c1:-137438953472≤cr L 1∧cr L 1≤137438953472:=by
  have:=h.low
  show _≤(L 0+0) / 65536∧(L 0+0) / 65536≤_
  omega
 have c2:-2097152≤cr L 2∧cr L 2≤2097153:=by
  have:=h.dig 1 (by decide) (by decide)
  show _≤(L 1+cr L 1) / 65536∧(L 1+cr L 1) / 65536≤_
  omega
 have c3:-33≤cr L 3∧cr L 3≤33:=by
  have:=h.dig 2 (by decide) (by decide)
  show _≤(L 2+cr L 2) / 65536∧(L 2+cr L 2) / 65536≤_
  omega
 intro i h4 hi
 induction i with
 | zero=>omega
 | succ i ih =>
  have hd:=h.dig i (by omega) (by omega)
  rw [cr]
  by_cases e:i=3
  · subst e;omega
  · have:=ih (by omega) (by omega);omega
theorem carry_fine (L:Nat→Int) (h:Dig 9007199254740992 L):Dig 65573 (carryL L)∧-38≤carryL L 0:=by
 have h1:=cr_small L h 16 (by decide) (Nat.le_refl _)
 refine ⟨⟨?_,fun j h0 hj => ?_⟩,?_⟩
 · unfold carryL;rw [if_pos rfl];omega
 · unfold carryL;rw [if_neg (by omega)];omega
 · unfold carryL;rw [if_pos rfl];omega
def Nrm (L:Nat→Int):Prop:=∀ j,j<16→0≤L j∧L j≤65535
theorem carry_nrm (L:Nat→Int) (h:Dig 65573 L) (h0:-38≤L 0):Nrm (carryL L):=by
 have key:∀ i,1≤i→i≤16→(cr L i=0∨cr L i=cr L 1):=by
  intro i h1 hi
  have c1:cr L 1=(L 0+0) / 65536:=rfl
  have hl:=h.low
  induction i with
  | zero=>omega
  | succ i ih =>
   by_cases e:i=0
   · subst e;exact .inr rfl
   · have hd:=h.dig i (by omega) (by omega)
     rw [cr]
     rcases ih (by omega) (by omega) with e2 | e2 <;> rw [e2] <;> omega
 intro j hj
 by_cases e:j=0
 · subst e
   unfold carryL;rw [if_pos rfl]
   have c1:cr L 1=(L 0+0) / 65536:=rfl
   have hl:=h.low
   rcases key 16 (by decide) (Nat.le_refl _) with e2 | e2 <;> rw [e2] <;> omega
 · unfold carryL;rw [if_neg e];omega
end Go.Proofs.YtdgkmloabificaaGreatDoor
namespace Go.Proofs.YtdgkmloabificaaGreatDoor
open Go.RowKit
def zI:Array Value:=Array.replicate 16 (.int .i64 0)
theorem zI_at (j:Nat) (h:j<16):zI[j]? = some (.int .i64 0):=by simp [zI,h]
theorem zeroR (w:World):Sem.run Tryz.prog (zeroValue 66) w = .ok (.agg zI) w:=by kernel_rfl
theorem infoR:(Tryz.prog.info? 66).map (·.size)=some 16:=by kernel_rfl
theorem infoRL (L:Nat→Int):(Tryz.prog.info? 66).map (·.size)=some (intsI 16 L).length:=by rw [intsI_len];exact infoR
theorem infoRA (L:Nat→Int):(Tryz.prog.info? 66).map (·.size)=some (intsI 16 L).toArray.size:=by rw [intsI_size];exact infoR
theorem oneR (L:Nat→Int):(intsI 16 L).toArray.all (·.oneCell')=true:=all_oneCell_toArray (intsI_one 16 L)
theorem stC_zero (L:Nat→Int) (j:Nat):(if 0=16 then carryL L else stC L 0) j=L j:=by
 rw [if_neg (by decide)]
 unfold stC
 rw [if_neg (Nat.not_lt_zero j)]
 by_cases e:j=0
 · rw [if_pos e,e];show L 0+0=L 0;omega
 · rw [if_neg e]
set_option maxRecDepth 20000 in
set_option maxHeartbeats 2000000 in
theorem carry_any (L:Nat→Int) (hL:∀ j,j<16→-4611686018427387904≤L j∧L j≤4611686018427387904) (w:World) :
 Calls Tryz.prog 107 #[refV L] w fun e w'=>e = .returned (refV (carryL L))∧Below w.heap.size w w':=by
 have hz:=zeroR
 have hcb:=cr_bd2 L 4611686018427387904 (by decide) hL
 obtain ⟨W,hW⟩:∃ W,W=(w.alloc (.cells (intsI 16 L).toArray 66)).alloc (.cells zI 66):=⟨_,rfl⟩
 have HW:=Hid.mk' hW
 have hWs:W.heap.size=w.heap.size+1+1:=by rw [hW];simp
 have hbW:Below w.heap.size w W:=by rw [hW];exact ((Below.refl _ _).alloc (Nat.le_refl _) _).alloc (by simp) _
 have hrow0:IRow W w.heap.size 16 L:=by rw [hW];exact (IRow.box w 16 L _).below ((Below.refl _ _).alloc (Nat.le_refl _) _) (by simp)
 have hres:IRow W (w.heap.size+1) 16 (fun _=>0):=by
  have:=IRow.fresh (w.alloc (.cells (intsI 16 L).toArray 66)) zI 66 (n:=16) (L:=fun _=>0) (fun j hj=>zI_at j hj)
  rw [World.size_alloc] at this
  rw [hW];exact this
 unfold refV
 clear hW
 go_enter Tryz.func107,Tryz.ntmps107
 go_wp2
 rw [←HW.out]
 go_loopw [3] (fun i wr=>∃ k:Nat,k≤16∧i = .int .i64 k∧IRow wr w.heap.size 16 (if k=16 then carryL L else stC L k)∧IRow wr (w.heap.size+1) 16 (fun _=>0)∧Below w.heap.size w wr) (fun i _=>16 - (intOf i).toNat)
 case atStart=>exact ⟨0,Nat.zero_le _,rfl,hrow0.congr (fun j _=>(stC_zero L j).symm),hres,hbW⟩
 case round =>
  clear hrow0 hres hbW hz
  obtain ⟨k,hk,rfl,hrow,hre,hb⟩:=hrel
  by_cases hlt:k<16
  · rw [if_neg (by omega)] at hrow
    obtain ⟨rk,fk⟩:=hrow k hlt
    have ek:stC L k k=L k+cr L k:=by simp [stC]
    rw [ek] at rk
    have hc1:=hcb k (by omega)
    have hc2:=hcb (k+1) (by omega)
    have hl1:=hL k hlt
    have ec:(L k+cr L k) / 65536=cr L (k+1):=rfl
    have hab:-4611826755915743233≤L k+cr L k∧L k+cr L k≤4611826755915743233:=by omega
    have hcb2:-140737488355329≤cr L (k+1)∧cr L (k+1)≤140737488355329:=by omega
    by_cases h15:k<15
    · obtain ⟨rn,fn⟩:=hrow (k+1) (by omega)
      have en:stC L k (k+1)=L (k+1):=by unfold stC;rw [if_neg (by omega),if_neg (by omega)]
      rw [en] at rn
      have hl2:=hL (k+1) (by omega)
      clear hcb hL hc1 hc2 ek en
      go_wp2
      go_roundw
      case rel =>
       refine ⟨k+1,by omega,by go_num,?_,(hre.far (by show w.heap.size≠w.heap.size+1;omega) _).far (by show w.heap.size≠w.heap.size+1;omega) _,(hb.setCell (Nat.le_refl _) _).setCell (Nat.le_refl _) _⟩
       have h1:=(hrow.set (i:=k) hlt (L k+cr L k - cr L (k+1)*65536)).set (i:=k+1) (by omega) (L (k+1)+cr L (k+1))
       refine h1.congr (fun j hj => ?_)
       rw [if_neg (by omega)]
       unfold updI stC
       by_cases e1:j=k+1
       · subst e1;rw [if_pos rfl,if_neg (by omega),if_pos rfl]
       · rw [if_neg e1]
         by_cases e2:j=k
         · subst e2
           rw [if_pos rfl,if_pos (by omega)]
           rw [←ec];omega
         · rw [if_neg e2]
           by_cases e3:j<k
           · rw [if_pos e3,if_pos (by omega)]
           · rw [if_neg e3,if_neg e2,if_neg (by omega),if_neg e1]
      case measure=>simp [intOf];omega
    · have hke:k=15:=by omega
      subst hke
      obtain ⟨rn,fn⟩:=hrow 0 (by decide)
      have en:stC L 15 0=L 0%65536:=by unfold stC;rw [if_pos (by decide)];show (L 0+0)%65536=_;rw [Int.add_zero]
      rw [en] at rn
      clear hcb hL hc1 hc2 ek en
      have hm0:0≤L 0%65536∧L 0%65536<65536:=by omega
      have hcb3:-140737488355329≤cr L 16∧cr L 16≤140737488355329:=hcb2
      have ec3:(L 15+cr L 15) / 65536=cr L 16:=rfl
      clear hcb2 ec
      go_wp2
      go_roundw
      case rel =>
       refine ⟨16,by omega,by go_num,?_,(hre.far (by show w.heap.size≠w.heap.size+1;omega) _).far (by show w.heap.size≠w.heap.size+1;omega) _,(hb.setCell (Nat.le_refl _) _).setCell (Nat.le_refl _) _⟩
       have h1:=(hrow.set (i:=15) (by decide) (L 15+cr L 15 - cr L 16*65536)).set (i:=0) (by decide) (L 0%65536+38*cr L 16)
       refine h1.congr (fun j hj => ?_)
       rw [if_pos rfl]
       unfold updI stC carryL
       by_cases e1:j=0
       · rw [if_pos e1,if_pos e1]
       · rw [if_neg e1,if_neg e1]
         by_cases e2:j=15
         · subst e2
           rw [if_pos rfl]
           show L 15+cr L 15 - (L 15+cr L 15) / 65536*65536=_
           omega
         · rw [if_neg e2,if_pos (by omega)]
      case measure=>simp [intOf]
  · have hke:k=16:=by omega
    subst hke
    rw [if_pos rfl] at hrow
    obtain ⟨X,hX⟩:∃ X,X=carryL L:=⟨_,rfl⟩
    rw [←hX] at hrow
    have HX:=Hid.mk' hX
    clear hX hcb hL
    have hi1:=infoRL X
    have hi2:=infoRA X
    have ho:=oneR X
    have hth:wr.there (w.heap.size+1) 0 (intsI 16 X).toArray.size:=by rw [intsI_size];exact hre.there
    go_wp2_with (first
     | (refine wpList_load_mid rfl 66 _ rfl w.heap.size 0 rfl (intsI 16 X) _ hrow.range Tryz.underlying66 rfl hi1 ?_)
     | (refine wpList_store_mid rfl 66 _ _ rfl (w.heap.size+1) 0 (intsI 16 X).toArray rfl rfl hth hi2 ho ?_))
    (try simp only [Exit.inBlock,Exit.then])
    refine bodyPost_ret (results_cell_mid Tryz.results107 _ _ (w.heap.size+1) 0 (intsI 16 X) _ rfl (World.rangeAt_setCells_same _ _ _ _ (by rw [intsI_len];exact hre.there)) Tryz.underlying66 rfl hi1) rfl ⟨by rw [HX.out],?_⟩
    exact below_setCells (by omega) _ _ _ hb
end Go.Proofs.YtdgkmloabificaaGreatDoor
namespace Go.Proofs.YtdgkmloabificaaGreatDoor
open Go.RowKit
def smL (x:Int):Nat→Int:=fun j=>if j<3 then x / 65536 ^ j%65536 else if j=3 then x / 65536 ^ 3 else 0
def smK (x:Int) (k:Nat):Nat→Int:=fun j=>if j<k then x / 65536 ^ j%65536 else 0
theorem smL_val (x:Int):valR (smL x) 16=x:=by
 have e:∀ j,4≤j→smL x j=0:=fun j h=>by unfold smL;rw [if_neg (by omega),if_neg (by omega)]
 simp only [valR]
 rw [e 4 (by decide),e 5 (by decide),e 6 (by decide),e 7 (by decide),e 8 (by decide),e 9 (by decide),e 10 (by decide),e 11 (by decide),e 12 (by decide),e 13 (by decide),e 14 (by decide),e 15 (by decide)]
 simp only [smL]
 simp
 omega
theorem and_mask (x:Int):bits .and .i64 x 65535=x%65536:=by
 show IntKind.i64.wrap ((BitVec.ofInt 64 x &&& BitVec.ofInt 64 65535).toNat:Int)=_
 rw [BitVec.toNat_and,BitVec.toNat_ofInt,show (BitVec.ofInt 64 65535).toNat=65535 by decide,Nat.and_two_pow_sub_one_eq_mod _ 16,IntKind.wrap_i64]
 have:((2:Nat) ^ 64:Int)=18446744073709551616:=by decide
 omega
set_option maxRecDepth 20000 in
set_option maxHeartbeats 2000000 in
theorem rsmall_any (x:Int) (h1:-9223372036854775808≤x) (h2:x≤9223372036854775807) (w:World) :
 Calls Tryz.prog 70 #[.int .i64 x] w fun e w'=>e = .returned (refV (carryL (smL x)))∧Below w.heap.size w w':=by
 have hz:=zeroR
 have hcar:=fun W=>carry_any (smL x) (fun j _=>by
  unfold smL
  split
  · omega
  · split
    · have:(65536:Int) ^ 3=281474976710656:=by decide
      rw [this];omega
    · decide) W
 obtain ⟨W,hW⟩:∃ W,W=(w.alloc (.cells zI 66)).alloc (.cells zI 66):=⟨_,rfl⟩
 have HW:=Hid.mk' hW
 have hWs:W.heap.size=w.heap.size+1+1:=by rw [hW];simp
 have hbW:Below w.heap.size w W:=by rw [hW];exact ((Below.refl _ _).alloc (Nat.le_refl _) _).alloc (by simp) _
 have hres:IRow W w.heap.size 16 (fun _=>0):=by rw [hW];exact (IRow.fresh w zI _ (fun j hj=>zI_at j hj)).below ((Below.refl _ _).alloc (Nat.le_refl _) _) (by simp)
 have hrow0:IRow W (w.heap.size+1) 16 (smK x 0):=by
  have:=IRow.fresh (w.alloc (.cells zI 66)) zI 66 (n:=16) (L:=fun _=>0) (fun j hj=>zI_at j hj)
  rw [World.size_alloc] at this
  rw [hW];exact this.congr (fun j _=>by unfold smK;rw [if_neg (by omega)])
 obtain ⟨X,hX⟩:∃ X,X=carryL (smL x):=⟨_,rfl⟩
 rw [←hX] at hcar ⊢
 unfold refV at hcar ⊢
 clear hW hX
 go_enter Tryz.func70,Tryz.ntmps70
 go_wp2
 rw [←HW.out]
 go_loopw [0,4] (fun y i wr=>∃ k:Nat,k≤3∧y = .int .i64 (x / 65536 ^ k)∧i = .int .i64 k∧IRow wr (w.heap.size+1) 16 (smK x k)∧IRow wr w.heap.size 16 (fun _=>0)∧Below w.heap.size w wr∧w.heap.size+1<wr.heap.size) (fun _ i _=>3 - (intOf i).toNat)
 case atStart=>exact ⟨0,Nat.zero_le _,by simp,rfl,hrow0,hres,hbW,by omega⟩
 case round =>
  clear hrow0 hres hbW hz
  obtain ⟨k,hk,rfl,rfl,hrow,hre,hb,hs⟩:=hrel
  by_cases hlt:k<3
  · obtain ⟨rk,fk⟩:=hrow k (by omega)
    obtain ⟨y,hy⟩:∃ y,y=x / 65536 ^ k:=⟨_,rfl⟩
    have hyd:y / 65536=x / 65536 ^ (k+1):=by rw [hy,Int.pow_succ,Int.ediv_ediv_of_nonneg (by exact Int.le_of_lt (Int.pow_pos (by decide)))]
    have hset:=(hrow.set (i:=k) (by omega) (y%65536)).congr (M:=smK x (k+1)) (fun j hj=>by
     unfold updI smK
     by_cases e:j=k
     · rw [if_pos e,if_pos (by omega),e,hy]
     · rw [if_neg e]
       by_cases e2:j<k
       · rw [if_pos e2,if_pos (by omega)]
       · rw [if_neg e2,if_neg (by omega)])
    have hma:=and_mask y
    have hyb:-9223372036854775808≤y∧y≤9223372036854775807:=by
     have h3:k=0∨k=1∨k=2:=by omega
     rcases h3 with rfl | rfl | rfl <;> simp at hy <;> omega
    rw [←hy]
    have HS:=Hid.mk' hset
    have HD:=Hid.mk' hyd
    clear hcar hset hyd hy
    go_wp2
    go_roundw
    case rel=>exact ⟨k+1,by omega,by rw [HD.out],by go_num,HS.out,hre.far (by show w.heap.size+1≠w.heap.size;omega) _,hb.setCell (by show _≤w.heap.size+1;omega) _,by simpa using hs⟩
    case measure=>simp [intOf];omega
  · have hke:k=3:=by omega
    subst hke
    obtain ⟨rk,fk⟩:=hrow 3 (by decide)
    obtain ⟨y,hy⟩:∃ y,y=x / 65536 ^ 3:=⟨_,rfl⟩
    rw [←hy]
    have hst:IRow (wr.setCell ⟨w.heap.size+1,3,none⟩ (.int .i64 y)) (w.heap.size+1) 16 (smL x):=(hrow.set (i:=3) (by decide) y).congr (fun j hj=>by
     unfold updI smK smL
     by_cases e:j=3
     · rw [if_pos e,if_neg (by omega),if_pos e,hy]
     · rw [if_neg e]
       by_cases e2:j<3
       · rw [if_pos e2,if_pos e2]
       · rw [if_neg e2,if_neg e2,if_neg e])
    have hre2:IRow (wr.setCell ⟨w.heap.size+1,3,none⟩ (.int .i64 y)) w.heap.size 16 (fun _=>0):=hre.far (by show w.heap.size+1≠w.heap.size;omega) _
    have hb2:Below w.heap.size w (wr.setCell ⟨w.heap.size+1,3,none⟩ (.int .i64 y)):=hb.setCell (by show _≤w.heap.size+1;omega) _
    have hs2:w.heap.size+1<(wr.setCell ⟨w.heap.size+1,3,none⟩ (.int .i64 y)).heap.size:=by simpa using hs
    obtain ⟨V,hV⟩:∃ V,V=wr.setCell ⟨w.heap.size+1,3,none⟩ (.int .i64 y):=⟨_,rfl⟩
    have HV:=Hid.mk' hV
    rw [←hV] at hst hre2 hb2 hs2
    have hcr:=hcar V
    have hi1:=infoRL (smL x)
    have hj1:=infoRL X
    have hi2:=infoRA X
    have ho:=oneR X
    have hstr:=hst.range
    clear hV hcar hrow hre hb hy
    go_wp2_with (first
     | (rw [←HV.out];refine wpList_load_mid rfl 66 _ rfl (w.heap.size+1) 0 rfl (intsI 16 (smL x)) _ hstr Tryz.underlying66 rfl hi1 ?_)
     | (go_at_call 107;refine hcr.mono ?_;clear hcr;rintro e w1 ⟨rfl,hb1⟩;(have hC1:=hre2.below hb1 (by omega));(have hth:w1.there w.heap.size 0 (intsI 16 X).toArray.size:=by rw [intsI_size];exact hC1.there);(have hbw1:Below w.heap.size w w1:=hb2.trans (hb1.mono hb2.size)))
     | (refine wpList_store_mid rfl 66 _ _ rfl w.heap.size 0 (intsI 16 X).toArray rfl rfl hth hi2 ho ?_))
    (try simp only [Exit.inBlock,Exit.then])
    refine bodyPost_ret (results_cell_mid Tryz.results70 _ _ w.heap.size 0 (intsI 16 X) _ rfl (World.rangeAt_setCells_same _ _ _ _ (by rw [intsI_len];exact hC1.there)) Tryz.underlying66 rfl hj1) rfl ⟨rfl,?_⟩
    exact below_setCells (Nat.le_refl _) _ _ _ hbw1
end Go.Proofs.YtdgkmloabificaaGreatDoor
