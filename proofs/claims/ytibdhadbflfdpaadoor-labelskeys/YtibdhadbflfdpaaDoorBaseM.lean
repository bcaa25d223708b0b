/- What the proof stands on: Base, Lent, Kit, HMath, HSmall, HSpread, HMix, HEng. -/
import Derived.Test.YtibdhadbflfdpaaDoorRows
import Derived.ArgAppend
import Derived.BigQuiet
import Derived.ChangeOld
import Derived.ChangeSlices
import Derived.Deep.AppendLies
import Derived.Deep.DeepHandedRow
import Derived.Deep.MidRow
import Derived.Deep.QuietTactic
import Derived.Deep.RegionHeld3
import Derived.Deep.RegionLawGrows
import Derived.Deep.Upon
import Derived.Laws.Bits64
import Derived.Laws.Bits64b
import Derived.Laws.BitsAllLaws
import Derived.Laws.Externs
import Derived.Lib.LaidTab
import Derived.OpenShut
import Derived.ProofKit
import Derived.Shelf.Bits.Mul64
import Derived.Shelf.Spec.BitsCarry
import Derived.SizedLaws
import Derived.WalkKit
import Derived.WalkLawsBesides
import Derived.WalkSpells
namespace Go.Proofs.YtibdhadbflfdpaaDoor
open Go.RowKit
theorem Hid.mk' {P:Prop} (h:P):Hid P:=h
theorem retInt {k:IntKind} {a b:Int} (h:a=b):Ending.returned (.int k a) = .returned (.int k b):=by rw [h]
theorem below_drewN {B:Nat} {a w:World} (h:Below B a w) (n:Nat):Below B a (w.drewN n):=⟨h.os,h.tape,h.output,h.size,h.block⟩
def upd (X:Nat→Nat) (i v:Nat):Nat→Nat:=fun j=>if j=i then v else X j
def RowAt (K:IntKind) (w:World) (b o n:Nat) (X:Nat→Nat):Prop:=∀ j,j<n→w.cell? ⟨b,o+j,none⟩=some (.int K (X j))∧w.frozen? ⟨b,o+j,none⟩=false
theorem RowAt.drew {K:IntKind} {w:World} {b o n:Nat} {X:Nat→Nat} (h:RowAt K w b o n X):RowAt K w.drew b o n X:=fun j hj=>h j hj
theorem RowAt.set {K:IntKind} {w:World} {b o n:Nat} {X:Nat→Nat} (h:RowAt K w b o n X) {i:Nat} (hi:i<n) {v:Int} {u:Nat} (hv:v=(u:Int)):RowAt K (w.setCell ⟨b,o+i,none⟩ (.int K v)) b o n (upd X i u):=fun j hj=>by
 refine ⟨?_,by rw [World.frozen?_setCell];exact (h j hj).2⟩
 by_cases e:j=i
 · subst e;rw [World.cell?_setCell_same _ _ _ (h j hj).1];simp [upd,hv]
 · have hne:(⟨b,o+i,none⟩:Addr)≠⟨b,o+j,none⟩:=fun h=>by injection h;omega
   rw [World.cell?_setCell_other _ _ _ _ hne];simp [upd,e,(h j hj).1]
theorem RowAt.far {K:IntKind} {w:World} {b o n:Nat} {X:Nat→Nat} (h:RowAt K w b o n X) {a:Addr} (ha:a.block≠b) (v:Value):RowAt K (w.setCell a v) b o n X:=fun j hj=>by
 refine ⟨?_,by rw [World.frozen?_setCell];exact (h j hj).2⟩
 rw [World.cell?_setCell_other _ _ _ _ (fun e=>ha (by rw [e]))];exact (h j hj).1
theorem RowAt.below {K:IntKind} {B:Nat} {w w':World} {b o n:Nat} {X:Nat→Nat} (h:RowAt K w b o n X) (hb:Below B w w') (hB:b<B):RowAt K w' b o n X:=fun j hj =>
 ⟨(hb.cell (p:=⟨b,o+j,none⟩) hB).trans (h j hj).1,(hb.frozen (p:=⟨b,o+j,none⟩) hB).trans (h j hj).2⟩
theorem RowAt.fresh {K:IntKind} {w:World} {cs:Array Value} {t:TypeId} {n:Nat} {X:Nat→Nat} (h:∀ j,j<n→cs[j]? = some (.int K (X j))):RowAt K (w.alloc (.cells cs t)) w.heap.size 0 n X:=fun j hj=>by
 constructor
 · simp [h j hj]
 · simp
theorem RowAt.alloc {K:IntKind} {w:World} {b o n:Nat} {X:Nat→Nat} (h:RowAt K w b o n X) (hb:b<w.heap.size) (ob:Obj):RowAt K (w.alloc ob) b o n X :=
 h.below ((Below.refl w.heap.size w).alloc (Nat.le_refl _) ob) hb
def ints (K:IntKind) (n:Nat) (X:Nat→Nat):List Value:=(List.range n).map fun j => .int K (X j)
theorem ints_len (K:IntKind) (n:Nat) (X:Nat→Nat):(ints K n X).length=n:=by simp [ints]
theorem ints_at (K:IntKind) (n:Nat) (X:Nat→Nat) (j:Nat) (h:j<n):(ints K n X)[j]? = some (.int K (X j)):=by simp [ints,h]
theorem ints_one (K:IntKind) (n:Nat) (X:Nat→Nat):∀ v∈ints K n X,v.oneCell'=true:=fun v hv=>by
 simp only [ints,List.mem_map] at hv
 obtain ⟨_,_,rfl⟩:=hv
 rfl
theorem RowAt.range {K:IntKind} {w:World} {b o n:Nat} {X:Nat→Nat} (h:RowAt K w b o n X):w.rangeAt b o (ints K n X):=fun j v hv=>by
 have hj:j<n:=by have:=(List.getElem?_eq_some_iff.1 hv).1;rwa [ints_len] at this
 rw [ints_at K n X j hj] at hv
 rw [←hv];exact (h j hj).1
theorem RowAt.there {K:IntKind} {w:World} {b o n:Nat} {X:Nat→Nat} (h:RowAt K w b o n X):w.there b o n:=fun j hj=>by
 rw [(h j hj).1];exact ⟨rfl,(h j hj).2⟩
theorem results_cell_mid {P:Program} {fn:Func} {p:Tmp} {ty:TypeId} (h:fn.results=#[.cell p ty]) (tmps:Array Value) (w:World) (g o:Nat) (cs:List Value) (d:TypeDesc)
 (hp:tmps.getD p undef = .pointer (some ⟨g,o,none⟩)) (hc:w.rangeAt g o cs)
 (hu:P.underlying ty=some d) (hd:d.isRow=true) (hi:(P.info? ty).map (·.size)=some cs.length) :
 (results fn tmps).run P w = .ok (.agg cs.toArray) w:=by
 have hp':tmps[p]?.getD undef = .pointer (some ⟨g,o,none⟩):=by simpa using hp
 simp [results,h,hp',asAddr,run_loadVar_mid w g o ty cs d hc hu hd hi]
theorem below_setCells {B:Nat} {a:World} {b:Nat} (hb:B≤b):∀ (vs:List Value) (o:Nat) (w:World),Below B a w→Below B a (w.setCells b o vs)
 | [],_,_,h=>h
 | v :: r,o,w,h=>by rw [World.setCells];exact below_setCells hb r (o+1) _ (h.setCell hb v)
theorem below_next {W a b:World} (h:Below W.heap.size W a) (hb:Below a.heap.size a b):Below W.heap.size W b:=h.trans (hb.mono h.size)
def Near (b o:Nat) (W w':World):Prop:=∃ w0,Below W.heap.size W w0∧(w'=w0∨∃ u,w'=w0.setCell ⟨b,o,none⟩ u)
theorem Near.of_below {b o:Nat} {W w':World} (h:Below W.heap.size W w'):Near b o W w':=⟨w',h,.inl rfl⟩
theorem Near.set {b o:Nat} {W w':World} (h:Below W.heap.size W w') (u:Value):Near b o W (w'.setCell ⟨b,o,none⟩ u):=⟨w',h,.inr ⟨u,rfl⟩⟩
theorem Near.cell {b o:Nat} {W w':World} (h:Near b o W w') (p q:Nat) (hp:p<W.heap.size) (hne:p=b→q≠o):w'.cell? ⟨p,q,none⟩=W.cell? ⟨p,q,none⟩:=by
 obtain ⟨w0,hb,rfl | ⟨u,rfl⟩⟩:=h
 · exact hb.cell (p:=⟨p,q,none⟩) hp
 · rw [World.cell?_setCell_other _ _ _ _ (fun e=>by injection e with e1 e2;exact hne e1.symm e2.symm)];exact hb.cell (p:=⟨p,q,none⟩) hp
theorem Near.frozen {b o:Nat} {W w':World} (h:Near b o W w') (p q:Nat) (hp:p<W.heap.size):w'.frozen? ⟨p,q,none⟩=W.frozen? ⟨p,q,none⟩:=by
 obtain ⟨w0,hb,rfl | ⟨u,rfl⟩⟩:=h
 · exact hb.frozen (p:=⟨p,q,none⟩) hp
 · rw [World.frozen?_setCell];exact hb.frozen (p:=⟨p,q,none⟩) hp
theorem Near.some {b o:Nat} {W w':World} (h:Near b o W w') {v:Value} (hv:W.cell? ⟨b,o,none⟩ = .some v):∃ u,w'.cell? ⟨b,o,none⟩ = .some u:=by
 obtain ⟨w0,hb,rfl | ⟨u,rfl⟩⟩:=h
 · exact ⟨v,(hb.cell (p:=⟨b,o,none⟩) (block_lt_of_cell hv)).trans hv⟩
 · exact ⟨u,World.cell?_setCell_same _ _ _ ((hb.cell (p:=⟨b,o,none⟩) (block_lt_of_cell hv)).trans hv)⟩
structure Out (b o n:Nat) (w w':World):Prop where
 os:w'.os=w.os
 tape:w'.tape=w.tape
 output:w'.output=w.output
 size:w.heap.size≤w'.heap.size
 block:∀ k,k<w.heap.size→k≠b→w'.heap[k]? = w.heap[k]?
 cell:∀ q,(q<o∨o+n≤q)→w'.cell? ⟨b,q,none⟩=w.cell? ⟨b,q,none⟩
 frozen:∀ q,w'.frozen? ⟨b,q,none⟩=w.frozen? ⟨b,q,none⟩
theorem Out.refl (b o n:Nat) (w:World):Out b o n w w:=⟨rfl,rfl,rfl,Nat.le_refl _,fun _ _ _=>rfl,fun _ _=>rfl,fun _=>rfl⟩
theorem Out.trans {b o n:Nat} {u v w:World} (h:Out b o n u v) (k:Out b o n v w):Out b o n u w :=
 ⟨k.os.trans h.os,k.tape.trans h.tape,k.output.trans h.output,Nat.le_trans h.size k.size,fun i hi hb=>(k.block i (Nat.lt_of_lt_of_le hi h.size) hb).trans (h.block i hi hb),fun q hq=>(k.cell q hq).trans (h.cell q hq),fun q=>(k.frozen q).trans (h.frozen q)⟩
theorem Out.of_below {b o n:Nat} {w w':World} (h:Below w.heap.size w w') (hb:b<w.heap.size):Out b o n w w' :=
 ⟨h.os,h.tape,h.output,h.size,fun k hk _=>h.block k hk,fun q _=>h.cell (p:=⟨b,q,none⟩) hb,fun q=>h.frozen (p:=⟨b,q,none⟩) hb⟩
theorem heap_setCells_other (b:Nat):∀ (vs:List Value) (o:Nat) (w:World) (k:Nat),k≠b→(w.setCells b o vs).heap[k]? = w.heap[k]?
 | [],_,_,_,_=>rfl
 | v :: r,o,w,k,h=>by rw [World.setCells,heap_setCells_other b r (o+1) _ k h];exact Below.heap_setCell w ⟨b,o,none⟩ v k h
theorem setCells_same (b:Nat):∀ (vs:List Value) (o:Nat) (w:World),(w.setCells b o vs).os=w.os∧(w.setCells b o vs).tape=w.tape∧(w.setCells b o vs).output=w.output∧(w.setCells b o vs).heap.size=w.heap.size
 | [],_,_=>⟨rfl,rfl,rfl,rfl⟩
 | v :: r,o,w=>by
  have h:=setCells_same b r (o+1) (w.setCell ⟨b,o,none⟩ v)
  rw [World.setCells]
  exact ⟨h.1,h.2.1,h.2.2.1,by rw [h.2.2.2];simp⟩
theorem Out.setCells {b o n:Nat} (w:World) {p:Nat} (vs:List Value) (h1:o≤p) (h2:p+vs.length≤o+n):Out b o n w (w.setCells b p vs):=by
 have h:=setCells_same b vs p w
 refine ⟨h.1,h.2.1,h.2.2.1,by rw [h.2.2.2];exact Nat.le_refl _,fun k _ hk=>heap_setCells_other b vs p w k hk,fun q hq => ?_,fun q=>World.frozen?_setCells b vs p w _⟩
 exact World.cell?_setCells_out b vs p w _ (fun _ _=>by show q<p∨p+vs.length≤q;omega)
theorem Out.drew {b o n:Nat} (w:World):Out b o n w w.drew:=⟨rfl,rfl,rfl,Nat.le_refl _,fun _ _ _=>rfl,fun _ _=>rfl,fun _=>rfl⟩
theorem Out.setCell {b o n:Nat} (w:World) {p:Nat} (v:Value) (h1:o≤p) (h2:p<o+n):Out b o n w (w.setCell ⟨b,p,none⟩ v) :=
 Out.setCells w [v] h1 (by simp;omega)
theorem Out.below {b o n B:Nat} {w w':World} (h:Out b o n w w') (hb:B≤b) (hB:B≤w.heap.size):Below B w w' :=
 ⟨h.os,h.tape,h.output,h.size,fun k hk=>h.block k (by omega) (by omega)⟩
theorem Out.cell' {b o n:Nat} {w w':World} (h:Out b o n w w') {c q:Nat} (hc:c<w.heap.size) (hb:c≠b):w'.cell? ⟨c,q,none⟩=w.cell? ⟨c,q,none⟩:=World.cell?_of_block (w:=w) (h.block c hc hb)
theorem Out.frozen' {b o n:Nat} {w w':World} (h:Out b o n w w') {c q:Nat} (hc:c<w.heap.size) (hb:c≠b):w'.frozen? ⟨c,q,none⟩=w.frozen? ⟨c,q,none⟩:=World.frozen?_of_block (w:=w) (h.block c hc hb)
theorem Out.row {b o n:Nat} {w w':World} (h:Out b o n w w') {K:IntKind} {c p m:Nat} {X:Nat→Nat} (hr:RowAt K w c p m X) (hc:c≠b):RowAt K w' c p m X:=fun j hj =>
 ⟨(h.cell' (block_lt_of_cell (hr j hj).1) hc).trans (hr j hj).1,(h.frozen' (block_lt_of_cell (hr j hj).1) hc).trans (hr j hj).2⟩
def over (R:Nat→Nat) (i c:Nat) (Y:Nat→Nat):Nat→Nat:=fun j=>if i≤j∧j<i+c then Y (j - i) else R j
theorem over_lt {R Y:Nat→Nat} {i c p:Nat} (hR:∀ j,R j<p) (hY:∀ j,Y j<p):∀ j,over R i c Y j<p:=fun j=>by
 unfold over;split
 · exact hY _
 · exact hR _
theorem RowAt.splice {K:IntKind} {w:World} {b o n:Nat} {X:Nat→Nat} (h:RowAt K w b o n X) (i c:Nat) (Y:Nat→Nat) (hi:i+c≤n):RowAt K (w.setCells b (o+i) (ints K c Y)) b o n (over X i c Y):=fun j hj=>by
 refine ⟨?_,by rw [World.frozen?_setCells];exact (h j hj).2⟩
 by_cases e:i≤j∧j<i+c
 · have hin:=World.cell?_setCells_in b (ints K c Y) (o+i) w (fun q hq=>by rw [ints_len] at hq;have:=(h (i+q) (by omega)).1;rw [←Nat.add_assoc] at this;rw [this];rfl) (j - i) (by rw [ints_len];omega)
   rw [show o+i+(j - i)=o+j by omega] at hin
   rw [hin]
   have:=ints_at K c Y (j - i) (by omega)
   rw [List.getElem?_eq_getElem (by rw [ints_len];omega)] at this
   simp only [over,e,and_self,if_true]
   exact this
 · rw [World.cell?_setCells_out b _ _ w _ (fun _ _=>by rw [ints_len];show o+j<o+i∨o+i+c≤o+j;omega)]
   simp only [over,e,if_false]
   exact (h j hj).1
theorem RowAt.apart {K:IntKind} {w:World} {b o n:Nat} {X:Nat→Nat} (h:RowAt K w b o n X) (p:Nat) (vs:List Value) (hp:o+n≤p∨p+vs.length≤o):RowAt K (w.setCells b p vs) b o n X:=fun j hj =>
 ⟨by rw [World.cell?_setCells_out b vs p w _ (fun _ _=>by show o+j<p∨p+vs.length≤o+j;omega)];exact (h j hj).1,by rw [World.frozen?_setCells];exact (h j hj).2⟩
def Src (w:World) (v:Option Addr) (n:Nat) (bs:Nat→Nat):Prop:=n=0∨∃ bb ob,v=some ⟨bb,ob,none⟩∧∀ j,j<n→w.cell? ⟨bb,ob+j,none⟩=some (.int .u8 (bs j))
theorem run_copy_bytes {P:Program} (w:World) (dT sT ty elem:TypeId) (b o dLen dCap:Nat) (v:Option Addr) (n cap m:Nat) (bs:Nat→Nat)
 (hu:P.underlying dT=some (.slice elem)) (hs:(P.info? elem).map (·.size)=some 1) (hsrc:Src w v n bs) (hm:m=Nat.min n dLen)
 (ht:w.there b o dLen) :
 (Builtin.copy_ #[dT,sT] ty #[.slice (some ⟨b,o,none⟩) dLen dCap,.slice v n cap]).run P w = .ok (goInt m) (w.setCells b o (ints .u8 m bs)):=by
 by_cases h0:m=0
 · subst h0;exact run_copy_none w dT sT ty elem _ _ dLen dCap n cap hu hs hm.symm
 · have hn:m≤n∧m≤dLen:=by subst hm;exact ⟨Nat.min_le_left _ _,Nat.min_le_right _ _⟩
   rcases hsrc with h | ⟨bb,ob,rfl,hc⟩
   · omega
   · have:=run_copy_cells (P:=P) w dT sT ty elem b o dLen dCap ⟨bb,ob,none⟩ n cap (ints .u8 m bs) hu hs (by rw [ints_len,hm]) (fun j u hj=>by
      have hj':j<m:=by have:=(List.getElem?_eq_some_iff.1 hj).1;rwa [ints_len] at this
      rw [ints_at _ _ _ j hj'] at hj
      rw [Addr.add_mid,←hj]
      exact hc j (by omega)) (fun j hj=>(ht j (by rw [ints_len] at hj;omega)).1) (fun j hj=>(ht j (by rw [ints_len] at hj;omega)).2) (ints_one _ _ _)
     rw [ints_len] at this
     exact this
theorem wpList_copy_bytes {P:Program} {w:World} {ops:Array Oper} {rest:List Oper} {op:Oper} {a:Act} {Q:Exit→Act→World→Prop} (hgd:op.guard=none) (d s:Operand) (dT sT:TypeId)
 (ho:op.op = .call { callee := .builtin .copy,args:=#[d,s],argTypes:=#[dT,sT] }) (elem:TypeId) (hu:P.underlying dT=some (.slice elem)) (hsz:(P.info? elem).map (·.size)=some 1)
 (b o dLen dCap:Nat) (v:Option Addr) (n cap:Nat) (hd:a.eval d = .slice (some ⟨b,o,none⟩) dLen dCap) (hs:a.eval s = .slice v n cap)
 (m:Nat) (bs:Nat→Nat) (hsrc:Src w v n bs) (hm:m=Nat.min n dLen) (ht:w.there b o dLen)
 (h:wpList P ops Q rest (a.put op.dst (goInt m)) (w.setCells b o (ints .u8 m bs))):wpList P ops Q (op :: rest) a w:=by
 refine wpList_plain hgd fun K hK => ?_
 have hrun:=run_copy_bytes (P:=P) w dT sT op.type elem b o dLen dCap v n cap m bs hu hsz hsrc hm ht
 unfold Oper.wp
 simp [execOp,ho,resolve,invoke,builtin,hd,hs,hrun,Result.andThen]
 exact hK _ _ h
theorem RowAt.congr {K:IntKind} {w:World} {b o n:Nat} {X Y:Nat→Nat} (h:RowAt K w b o n X) (e:∀ j,j<n→X j=Y j):RowAt K w b o n Y:=fun j hj=>by rw [←e j hj];exact h j hj
def zb (n:Nat):Array Value:=Array.replicate n (.int .u8 0)
theorem zb_at (n j:Nat) (h:j<n):(zb n)[j]? = some (.int .u8 0):=by simp [zb,h]
theorem made_zb (n:Nat):madeCells (Value.int .u8 0).cells (n*1)=zb n:=by
 apply Array.ext_getElem?
 intro j
 by_cases h:j<n
 · rw [zb_at n j h];simp [madeCells,Value.cells,h,Nat.mod_one]
 · simp [madeCells,zb,Value.cells,h]
theorem make_bytes (W:World) (n:Nat) (l:Int) (hl:l=(n:Int)) (hn:n≤1000000):(Instr.makeSlice 22 (.int .i64 l) (.int .i64 l)).run Tryd.prog W = .ok (.slice (some ⟨W.heap.size,0,none⟩) n n) (W.alloc (.cells (zb n) 5)):=by
 subst hl
 obtain ⟨i0,hi,hz0,hz1,hz2⟩:=info_parts (show (Tryd.prog.info? 5).map (fun i=>(i.zero,i.size,i.bytes))=some (some (.int .u8 0),1,1) by kernel_rfl)
 have:=run_makeSlice (P:=Tryd.prog) W 22 5 i0 (.int .u8 0) Tryd.underlying22 hi hz0 .i64 .i64 n n (by omega) (Int.le_refl _) (by rw [hz1];simp;omega) (by rw [hz2];omega) (by omega)
 rw [this,hz1]
 simp only [Int.toNat_natCast,made_zb]
def BytesIn (w:World) (v:Value) (n:Nat) (bs:Nat→Nat):Prop:=(∃ xo,v = .slice xo 0 0∧n=0)∨∃ bb ob cap,v = .slice (some ⟨bb,ob,none⟩) n cap∧bb<w.heap.size∧n≤cap∧∀ j,j<n→w.cell? ⟨bb,ob+j,none⟩=some (.int .u8 (bs j))
def Seen (B g n:Nat) (W w':World):Prop:=(∀ b o,b<B→w'.cell? ⟨b,o,none⟩=W.cell? ⟨b,o,none⟩)∧∀ q,q<n→w'.cell? ⟨g,q,none⟩=W.cell? ⟨g,q,none⟩
theorem Seen.of_below {B g n:Nat} {W w':World} (h:Below W.heap.size W w') (hB:B≤W.heap.size) (hg:g<W.heap.size):Seen B g n W w' :=
 ⟨fun b o hb=>h.cell (p:=⟨b,o,none⟩) (by show b<_;omega),fun q _=>h.cell (p:=⟨g,q,none⟩) hg⟩
theorem ints_snoc (K:IntKind) (n:Nat) (X:Nat→Nat):ints K n X ++ [.int K (X n)]=ints K (n+1) X:=by simp [ints,List.range_succ]
theorem ints_congr (K:IntKind) (n:Nat) (X Y:Nat→Nat) (h:∀ j,j<n→X j=Y j):ints K n X=ints K n Y:=by
 unfold ints
 apply List.map_congr_left
 intro j hj
 rw [h j (List.mem_range.1 hj)]
theorem one_new (w:World) (v:Value) (t:TypeId):∀ j u,[v][j]? = some u→(w.alloc (.cells #[v] t)).cell? ((⟨w.heap.size,0,none⟩:Addr).add j)=some u:=fun j u h=>by
 match j,h with
 | 0,h=>simp at h;subst h;rw [Addr.add_mid];simp
theorem one_cell (K:IntKind) (x:Int):∀ u∈[Value.int K x],u.oneCell'=true:=fun u hu=>by simp at hu;subst hu;rfl
theorem Tryd.info5:(Tryd.prog.info? 5).map (fun i=>(i.zero,i.size,i.bytes))=some (some (.int .u8 0),1,1):=by kernel_rfl
theorem below_grown {B:Nat} {a w w':World} {v:Value} {base:Nat} {e:TypeId} {size n:Nat} {xs:List Value} (h:Below B a w) (hg:w.grownBy w' v.ownBlock) (ho:w.ownsRow base e size v n xs) (hB:B≤base) (hs:B≤w.heap.size):Below B a w' :=
 h.grown hg hs (fun k hk=>Nat.le_trans hB (ho.lt k hk).1)
theorem run_append_keep {P:Program} (w:World) (t ty base e:TypeId) (i:TypeInfo) (z:Value) (bytes:Nat) (ht:P.underlying t=some (.slice e)) (hi:P.info? e=some i) (hz:i.zero=some z) (hsize:i.size=1) (hby:i.bytes=bytes) (hzs:z.cells.size=1)
 (g cap n:Nat) (xs:List Value) (hown:w.ownsRow base e 1 (.slice (some ⟨g,0,none⟩) n cap) n xs) (ad:Addr) (c:Nat) (x:Value) (hx:∀ j u,[x][j]? = some u→w.cell? (ad.add j)=some u) (h1:x.oneCell'=true)
 (h63:n+1≤maxLen) (hbytes:(n+1)*bytes≤140737488355328) (hbase:base≤w.heap.size) :
 ∃ g' cap' w',(Builtin.append_ #[t,t] ty #[.slice (some ⟨g,0,none⟩) n cap,.slice (some ad) 1 c]).run P w = .ok (.slice (some ⟨g',0,none⟩) (n+1) cap') w' ∧
  w'.ownsRow base e 1 (.slice (some ⟨g',0,none⟩) (n+1) cap') (n+1) (xs ++ [x])∧w.grownBy w' (some g)∧(∀ q,q<n→w'.cell? ⟨g,q,none⟩=w.cell? ⟨g,q,none⟩):=by
 have ho:∀ u∈[x],u.oneCell'=true:=fun u hu=>by simp at hu;subst hu;exact h1
 obtain ⟨v',w',hr,h2,h3,_,_⟩:=run_append_own_at (P:=P) w base t ty e i z 1 bytes ht hi hz hsize hby hzs (by decide) _ n xs hown ad 1 c [x] rfl hx ho h63 hbytes hbase
 obtain ⟨g',cap',rfl,_,_⟩:=h2.form (by omega)
 refine ⟨g',cap',w',hr,h2,h3,fun q hq => ?_⟩
 obtain ⟨hl,hf⟩:=hown
 rcases hf with ⟨hv,_⟩ | ⟨g2,cap2,cur,hv,hb,hg,hnc,hcm,hcs,hxs⟩
 · cases hv
 · cases hv
   by_cases hroom:n+1≤cap
   · have hrun:=run_append_room_cells (P:=P) w t ty e i ht hi g 0 n cap ad 1 c [x] (by rw [hsize];rfl) hx ho hroom (fun j hj=>by
      have:j=0:=by simpa using hj
      subst this
      rw [hsize,cell_of_row w g _ cur e (0,0) hg,Array.getElem?_eq_getElem (by omega)];rfl) (fun j hj=>frozen_of_row w g _ cur e hg)
     rw [hr] at hrun
     cases hrun
     exact World.cell?_setCells_out g _ _ w _ (fun _ _ => .inl (by show q<0+n*i.size;rw [hsize];omega))
   · obtain ⟨v2,w2,hrun,_,r2⟩:=run_append_arg_grows (P:=P) w t ty e i z 1 bytes ht hi hz hsize hby hzs (by decide) ⟨g,0,none⟩ n cap xs hl (fun j u hu=>by
      have hjn:j<n*1:=by have:=(List.getElem?_eq_some_iff.1 hu).1;omega
      rw [Addr.add_mid,Nat.zero_add,cell_of_row w g j cur e (0,0) hg,←Array.getElem?_toList]
      rw [←hxs,List.getElem?_take,if_pos hjn] at hu
      exact hu) ad 1 c [x] rfl hx (by omega) h63 hbytes
     rw [hr] at hrun
     cases hrun
     have hlt:g<w.heap.size:=by
      rcases Nat.lt_or_ge g w.heap.size with h | h
      · exact h
      · rw [Array.getElem?_eq_none h] at hg;cases hg
     exact World.cell?_of_block (r2.block g hlt (by simp))
theorem step_append_keep {P:Program} {ops:Array Oper} {o:Oper} {a:Act} {w:World} {K:Act→World→Prop} {Q:Exit→Act→World→Prop} {E:Prop} (hgd:o.guard=none) (s x:Operand) (t:TypeId)
 (hop:o.op = .call { callee := .builtin .append,args:=#[s,x],argTypes:=#[t,t] }) (base e:TypeId) (i:TypeInfo) (z:Value) (bytes:Nat) (ht:P.underlying t=some (.slice e)) (hi:P.info? e=some i) (hz:i.zero=some z) (hsize:i.size=1) (hby:i.bytes=bytes) (hzs:z.cells.size=1)
 (g cap n:Nat) (xs:List Value) (hs:a.eval s = .slice (some ⟨g,0,none⟩) n cap) (hown:w.ownsRow base e 1 (.slice (some ⟨g,0,none⟩) n cap) n xs) (ad:Addr) (c:Nat) (u:Value) (hx:a.eval x = .slice (some ad) 1 c) (hu:∀ j v,[u][j]? = some v→w.cell? (ad.add j)=some v) (h1:u.oneCell'=true)
 (h63:n+1≤maxLen) (hbytes:(n+1)*bytes≤140737488355328) (hbase:base≤w.heap.size)
 (h:∀ g' cap' w',w'.ownsRow base e 1 (.slice (some ⟨g',0,none⟩) (n+1) cap') (n+1) (xs ++ [u])→w.grownBy w' (some g)→(∀ q,q<n→w'.cell? ⟨g,q,none⟩=w.cell? ⟨g,q,none⟩)→K (a.put o.dst (.slice (some ⟨g',0,none⟩) (n+1) cap')) w') :
 if Region.wanted o (yielded ops a.tmps)=true then Oper.wp P o a w K Q else E:=by
 have hw:Region.wanted o (yielded ops a.tmps)=true:=by simp [Region.wanted,hgd]
 rw [if_pos hw]
 obtain ⟨g',cap',w',hrun,r1,r2,r3⟩:=run_append_keep (P:=P) w t o.type base e i z bytes ht hi hz hsize hby hzs g cap n xs hown ad c u hu h1 h63 hbytes hbase
 unfold Oper.wp
 simp [execOp,hop,resolve,invoke,builtin,hs,hx,hrun,Result.andThen]
 exact h g' cap' w' r1 r2 r3
theorem own_below {w w':World} {base:Nat} {e:TypeId} {size:Nat} {v:Value} {n:Nat} {xs:List Value} (h:w.ownsRow base e size v n xs) (hb:Below w.heap.size w w'):w'.ownsRow base e size v n xs :=
 h.kept (row:=none) ⟨hb.os,hb.tape,hb.output,hb.size,fun k hk _=>hb.block k hk⟩ (by cases hv:v.ownBlock with | none=>exact .inl rfl | some b=>exact .inr (by simp))
theorem own_base {w:World} {base base':Nat} {e:TypeId} {size:Nat} {v:Value} {n:Nat} {xs:List Value} (h:w.ownsRow base e size v n xs) (hb:base'≤base):w.ownsRow base' e size v n xs:=by
 obtain ⟨h1,h2⟩:=h
 refine ⟨h1,?_⟩
 rcases h2 with h2 | ⟨g,cap,cur,hv,hg,r⟩
 · exact .inl h2
 · exact .inr ⟨g,cap,cur,hv,by omega,r⟩
theorem seen_append {B g n:Nat} {W W2 w1:World} (hb:Below W.heap.size W W2) (hgrow:W2.grownBy w1 (some g)) (hq:∀ q,q<n→w1.cell? ⟨g,q,none⟩=W2.cell? ⟨g,q,none⟩) (hB:B≤g) (_hs:B≤W.heap.size) (hg:g<W.heap.size):Seen B g n W w1:=by
 have hz:=hb.size
 refine ⟨fun b o h => ?_,fun q h=>(hq q h).trans (hb.cell (p:=⟨g,q,none⟩) hg)⟩
 exact (hgrow.cell_far ⟨b,o,none⟩ (by show b<_;omega) (by show some b≠some g;simp;omega)).trans (hb.cell (p:=⟨b,o,none⟩) (by show b<_;omega))
def cat (n:Nat) (a b:Nat→Nat):Nat→Nat:=fun j=>if j<n then a j else b (j - n)
theorem cat_lt {n p:Nat} {a b:Nat→Nat} (ha:∀ j,a j<p) (hb:∀ j,b j<p):∀ j,cat n a b j<p:=fun j=>by
 unfold cat;split
 · exact ha _
 · exact hb _
theorem cat_left {n:Nat} {a b:Nat→Nat} {j:Nat} (h:j<n):cat n a b j=a j:=by unfold cat;rw [if_pos h]
theorem cat_right {n:Nat} {a b:Nat→Nat} (j:Nat):cat n a b (n+j)=b j:=by unfold cat;rw [if_neg (by omega),Nat.add_sub_cancel_left]
theorem ints_add (K:IntKind) (n m:Nat) (X Y:Nat→Nat):ints K n X ++ ints K m Y=ints K (n+m) (cat n X Y):=by
 apply List.ext_getElem?
 intro j
 by_cases h:j<n
 · rw [List.getElem?_append_left (by rw [ints_len];exact h),ints_at _ _ _ j h,ints_at _ _ _ j (by omega),cat_left h]
 · rw [List.getElem?_append_right (by rw [ints_len];omega),ints_len]
   by_cases h2:j<n+m
   · rw [ints_at _ _ _ (j - n) (by omega),ints_at _ _ _ j h2]
     unfold cat;rw [if_neg h]
   · rw [List.getElem?_eq_none (by rw [ints_len];omega),List.getElem?_eq_none (by rw [ints_len];omega)]
theorem run_append_any {P:Program} (w:World) (t ty base e:TypeId) (i:TypeInfo) (z:Value) (bytes:Nat) (ht:P.underlying t=some (.slice e)) (hi:P.info? e=some i) (hz:i.zero=some z) (hsize:i.size=1) (hby:i.bytes=bytes) (hzs:z.cells.size=1)
 (v:Value) (n:Nat) (xs:List Value) (hown:w.ownsRow base e 1 v n xs) (xo:Option Addr) (m c:Nat) (bs:Nat→Nat) (hsrc:Src w xo m bs) (hxn:xo=none→c=0)
 (h63:n+m≤maxLen) (hbytes:(n+m)*bytes≤140737488355328) (hbase:base≤w.heap.size) :
 ∃ v' w',(Builtin.append_ #[t,t] ty #[v,.slice xo m c]).run P w = .ok v' w'∧w'.ownsRow base e 1 v' (n+m) (xs ++ ints .u8 m bs)∧w.grownBy w' v.ownBlock:=by
 cases xo with
 | none =>
  have hm:m=0:=by
   rcases hsrc with h | ⟨_,_,h,_⟩
   · exact h
   · cases h
  subst hm
  have hc:=hxn rfl
  subst hc
  refine ⟨v,w,?_,by rw [show ints .u8 0 bs=[] from rfl,List.append_nil];exact hown,⟨rfl,rfl,rfl,Nat.le_refl _,fun _ _ _=>rfl⟩⟩
  rcases hown.2 with ⟨rfl,_⟩ | ⟨g,cap,cur,rfl,_,_,hnc,_⟩
  · exact run_append_nothing w t t ty e i ht hi none 0 0 (Nat.le_refl _) _ ⟨.inl ⟨_,ht⟩,fun _=>rfl,rfl,rfl,by simp,fun _ h=>by cases h⟩
  · exact run_append_nothing w t t ty e i ht hi _ n cap hnc _ ⟨.inl ⟨_,ht⟩,fun _=>rfl,rfl,rfl,by simp,fun _ h=>by cases h⟩
 | some ad =>
  have hnews:∀ j u,(ints .u8 m bs)[j]? = some u→w.cell? (ad.add j)=some u:=fun j u hu=>by
   have hj:j<m:=by have:=(List.getElem?_eq_some_iff.1 hu).1;rwa [ints_len] at this
   rw [ints_at _ _ _ j hj] at hu
   rcases hsrc with h | ⟨bb,ob,h,hc⟩
   · omega
   · cases h
     rw [Addr.add_mid,←hu]
     exact hc j hj
  obtain ⟨v',w',h1,h2,h3,_,_⟩:=run_append_own_at (P:=P) w base t ty e i z 1 bytes ht hi hz hsize hby hzs (by decide) v n xs hown ad m c (ints .u8 m bs) (by rw [ints_len,Nat.mul_one]) hnews (ints_one _ _ _) h63 hbytes hbase
  exact ⟨v',w',h1,h2,h3⟩
theorem wpList_append_any {P:Program} {w:World} {ops:Array Oper} {rest:List Oper} {o:Oper} {a:Act} {Q:Exit→Act→World→Prop} (hgd:o.guard=none) (s x:Operand) (t:TypeId)
 (ho:o.op = .call { callee := .builtin .append,args:=#[s,x],argTypes:=#[t,t] }) (base e:TypeId) (i:TypeInfo) (z:Value) (bytes:Nat) (ht:P.underlying t=some (.slice e)) (hi:P.info? e=some i) (hz:i.zero=some z) (hsize:i.size=1) (hby:i.bytes=bytes) (hzs:z.cells.size=1)
 (v:Value) (n:Nat) (xs:List Value) (hs:a.eval s=v) (hown:w.ownsRow base e 1 v n xs) (xo:Option Addr) (m c:Nat) (bs:Nat→Nat) (hx:a.eval x = .slice xo m c) (hsrc:Src w xo m bs) (hxn:xo=none→c=0)
 (h63:n+m≤maxLen) (hbytes:(n+m)*bytes≤140737488355328) (hbase:base≤w.heap.size)
 (h:∀ v' w',w'.ownsRow base e 1 v' (n+m) (xs ++ ints .u8 m bs)→w.grownBy w' v.ownBlock→wpList P ops Q rest (a.put o.dst v') w'):wpList P ops Q (o :: rest) a w:=by
 refine wpList_plain hgd fun K hK => ?_
 obtain ⟨v',w',h1,h2,h3⟩:=run_append_any (P:=P) w t o.type base e i z bytes ht hi hz hsize hby hzs v n xs hown xo m c bs hsrc hxn h63 hbytes hbase
 unfold Oper.wp execOp
 simp only [ho,resolve,invoke,builtin,Sem.run_bind,Sem.run_pure,Result.andThen_ok,List.map_toArray,List.map_cons,List.map_nil,hs,hx,h1]
 exact hK _ _ (h v' w' h2 h3)
def Own (base:Nat) (w:World) (v:Value) (n:Nat) (X:Nat→Nat):Prop:=w.ownsRow base 5 1 v n (ints .u8 n X)
theorem Own.below {base:Nat} {w w':World} {v:Value} {n:Nat} {X:Nat→Nat} (h:Own base w v n X) (hb:Below w.heap.size w w'):Own base w' v n X:=own_below h hb
theorem Own.alloc {base:Nat} {w:World} {v:Value} {n:Nat} {X:Nat→Nat} (h:Own base w v n X) (o:Obj):Own base (w.alloc o) v n X:=h.below ((Below.refl _ _).alloc (Nat.le_refl _) _)
theorem Own.congr {base:Nat} {w:World} {v:Value} {n:Nat} {X Y:Nat→Nat} (h:Own base w v n X) (e:∀ j,j<n→X j=Y j):Own base w v n Y:=by
 unfold Own;rw [←ints_congr _ _ _ _ e];exact h
theorem Own.form {base:Nat} {w:World} {v:Value} {n:Nat} {X:Nat→Nat} (h:Own base w v n X):(v = .slice none 0 0∧n=0)∨∃ g cap,v = .slice (some ⟨g,0,none⟩) n cap∧base≤g∧g<w.heap.size∧n≤cap∧RowAt .u8 w g 0 n X:=by
 rcases h.2 with hv | ⟨g,cap,cur,rfl,hb,hg,hn,_⟩
 · exact .inl hv
 · refine .inr ⟨g,cap,rfl,hb,(h.lt g rfl).2,hn,fun j hj => ?_⟩
   rw [Nat.zero_add]
   exact ⟨by rw [World.ownsRow.cellAt h j (by omega),ints_at _ _ _ j hj],World.ownsRow.frozenAt h j⟩
theorem Own.slice {base:Nat} {w:World} {v:Value} {n:Nat} {X:Nat→Nat} (h:Own base w v n X):∃ x c,v = .slice x n c:=by
 rcases h.form with ⟨hv,e0⟩ | ⟨g,c,hv,_⟩
 · exact ⟨none,0,by rw [hv,e0]⟩
 · exact ⟨_,c,hv⟩
theorem Own.nil (base:Nat) (w:World) (X:Nat→Nat):Own base w (.slice none 0 0) 0 X:=World.ownsRow_nil w base _ _
theorem Own.lit (base:Nat) (w:World) (X:Nat→Nat) (h:base≤w.heap.size):Own base (w.alloc (.cells #[] 5)) (.slice (some ⟨w.heap.size,0,none⟩) 0 0) 0 X:=World.ownsRow_lit w #[] 0 h (by decide) rfl
theorem Own.grown {B base:Nat} {a w w':World} {v:Value} {n:Nat} {X:Nat→Nat} (h:Below B a w) (hg:w.grownBy w' v.ownBlock) (ho:Own base w v n X) (hB:B≤base) (hs:B≤w.heap.size):Below B a w':=below_grown h hg ho hB hs
theorem src_one (w:World) (x:Int) (y:Nat) (h:x=(y:Int)):Src (w.alloc (.cells #[.int .u8 x] 5)) (some ⟨w.heap.size,0,none⟩) 1 (fun _=>y):=by
 subst h
 refine .inr ⟨w.heap.size,0,rfl,fun j hj => ?_⟩
 have:j=0:=by omega
 subst this
 simp
theorem wpList_append_bytes {w:World} {ops:Array Oper} {rest:List Oper} {o:Oper} {a:Act} {Q:Exit→Act→World→Prop} (hgd:o.guard=none) (s x:Operand)
 (ho:o.op = .call { callee := .builtin .append,args:=#[s,x],argTypes:=#[22,22] }) (base:Nat)
 (v:Value) (n:Nat) (X:Nat→Nat) (hs:a.eval s=v) (hown:Own base w v n X) (xo:Option Addr) (m c:Nat) (bs:Nat→Nat) (hx:a.eval x = .slice xo m c) (hsrc:Src w xo m bs) (hxn:xo=none→c=0)
 (hl:n+m≤140737488355328) (hbase:base≤w.heap.size)
 (h:∀ v' w',Own base w' v' (n+m) (cat n X bs)→w.grownBy w' v.ownBlock→wpList Tryd.prog ops Q rest (a.put o.dst v') w'):wpList Tryd.prog ops Q (o :: rest) a w:=by
 obtain ⟨i0,hi,hz0,hz1,hz2⟩:=info_parts Tryd.info5
 exact wpList_append_any hgd s x 22 ho base 5 i0 (.int .u8 0) 1 Tryd.underlying22 hi hz0 hz1 hz2 rfl v n _ hs hown xo m c bs hx hsrc hxn (by unfold maxLen;omega) (by omega) hbase (fun v' w' h1 h2=>h v' w' (by unfold Own;rw [←ints_add];exact h1) h2)
theorem wpList_append_next {w:World} {ops:Array Oper} {rest:List Oper} {o:Oper} {a:Act} {Q:Exit→Act→World→Prop} (hgd:o.guard=none) (s x:Operand)
 (ho:o.op = .call { callee := .builtin .append,args:=#[s,x],argTypes:=#[22,22] }) (base:Nat)
 (v:Value) (n:Nat) (F:Nat→Nat) (y:Int) (hs:a.eval s=v) (hown:Own base w v n F) (hx:a.eval x = .slice (some ⟨w.heap.size,0,none⟩) 1 1) (hF:y=(F n:Int))
 (hl:n+1≤140737488355328) (hbase:base≤w.heap.size)
 (h:∀ v' w',Own base w' v' (n+1) F→Below base w w'→wpList Tryd.prog ops Q rest (a.put o.dst v') w'):wpList Tryd.prog ops Q (o :: rest) a (w.alloc (.cells #[.int .u8 y] 5)):=by
 have hb:Below base w (w.alloc (.cells #[.int .u8 y] 5)):=(Below.refl _ _).alloc hbase _
 have hz:base≤(w.alloc (.cells #[.int .u8 y] 5)).heap.size:=by simp only [World.size_alloc];omega
 refine wpList_append_bytes hgd s x ho base v n F hs (hown.alloc _) _ 1 1 (fun _=>F n) hx (src_one w y (F n) hF) (fun h=>by cases h) hl hz (fun v' w' h1 h2=>h v' w' (h1.congr fun j hj => ?_) (Own.grown hb h2 (hown.alloc _) (Nat.le_refl _) hz))
 by_cases e:j<n
 · rw [cat_left e]
 · obtain rfl:j=n:=by omega
   unfold cat;rw [if_neg e]
theorem wpList_append_empty {w:World} {ops:Array Oper} {rest:List Oper} {o:Oper} {a:Act} {Q:Exit→Act→World→Prop} (hgd:o.guard=none) (s x:Operand)
 (ho:o.op = .call { callee := .builtin .append,args:=#[s,x],argTypes:=#[22,22] }) (base:Nat)
 (F:Nat→Nat) (g:Nat) (hg:w.heap.size=g) (hs:a.eval s = .slice (some ⟨g,0,none⟩) 0 0) (xo:Option Addr) (m c:Nat) (hx:a.eval x = .slice xo m c) (hsrc:Src (w.alloc (.cells #[] 5)) xo m F) (hxn:xo=none→c=0)
 (hl:m≤140737488355328) (hbase:base≤w.heap.size)
 (h:∀ v' w',Own base w' v' m F→Below base w w'→wpList Tryd.prog ops Q rest (a.put o.dst v') w'):wpList Tryd.prog ops Q (o :: rest) a (w.alloc (.cells #[] 5)):=by
 subst hg
 have hb:Below base w (w.alloc (.cells #[] 5)):=(Below.refl _ _).alloc hbase _
 have hz:base≤(w.alloc (.cells #[] 5)).heap.size:=by simp only [World.size_alloc];omega
 refine wpList_append_bytes hgd s x ho base _ 0 F hs (Own.lit base w F hbase) xo m c F hx hsrc hxn (by omega) hz (fun v' w' h1 h2=>h v' w' ?_ (Own.grown hb h2 (Own.lit base w F hbase) (Nat.le_refl _) hz))
 rw [Nat.zero_add] at h1
 exact h1.congr fun j _=>by unfold cat;rw [if_neg (by omega),Nat.sub_zero]
theorem Own.start {base:Nat} {w:World} {v:Value} {n m:Nat} {X:Nat→Nat} (h:Own base w v m X) (e:m=n):Own base w v n X:=by subst e;exact h
theorem BytesIn.src {w:World} {v:Value} {n:Nat} {bs:Nat→Nat} (h:BytesIn w v n bs):∃ xo c,v = .slice xo n c∧(xo=none→c=0)∧n≤c∧∀ w',Below w.heap.size w w'→Src w' xo n bs:=by
 rcases h with ⟨xo,rfl,rfl⟩ | ⟨bb,ob,cap,rfl,h1,h2,h3⟩
 · exact ⟨xo,0,rfl,fun _=>rfl,Nat.le_refl _,fun _ _ => .inl rfl⟩
 · exact ⟨_,cap,rfl,(fun h=>by cases h),h2,fun w' hb => .inr ⟨bb,ob,rfl,fun j hj=>(hb.cell (p:=⟨bb,ob+j,none⟩) h1).trans (h3 j hj)⟩⟩
theorem BytesIn.keep {w w':World} {v:Value} {n:Nat} {bs:Nat→Nat} (h:BytesIn w v n bs) (hb:Below w.heap.size w w'):BytesIn w' v n bs:=by
 rcases h with h | ⟨bb,ob,cap,rfl,h1,h2,h3⟩
 · exact .inl h
 · exact .inr ⟨bb,ob,cap,rfl,Nat.lt_of_lt_of_le h1 hb.size,h2,fun j hj=>(hb.cell (p:=⟨bb,ob+j,none⟩) h1).trans (h3 j hj)⟩
def strB (n:Nat) (bs:Nat→Nat):ByteArray:=⟨((List.range n).map fun j=>UInt8.ofNat (bs j)).toArray⟩
theorem strB_congr {n:Nat} {a b:Nat→Nat} (h:∀ j,j<n→a j=b j):strB n a=strB n b:=by
 unfold strB
 congr 2
 exact List.map_congr_left fun j hj=>by rw [h j (List.mem_range.1 hj)]
theorem conv_bytes (w:World) (bb ob n cap:Nat) (bs:Nat→Nat) (hb:∀ j,bs j<256) (h:∀ j,j<n→w.cell? ⟨bb,ob+j,none⟩=some (.int .u8 (bs j))) :
 (convert 22 9 (.slice (some ⟨bb,ob,none⟩) n cap)).run Tryd.prog w = .ok (.string (strB n bs)) w:=by
 have hl:((List.range n).map fun j=>UInt8.ofNat (bs j)).length=n:=by simp
 have:=run_convert_bytes_back (P:=Tryd.prog) w 22 9 5 ⟨bb,ob,none⟩ cap ((List.range n).map fun j=>UInt8.ofNat (bs j)) Tryd.underlying22 Tryd.underlying5 (by kernel_rfl) (fun j hj=>by
  rw [hl] at hj
  rw [Addr.add_mid,h j hj]
  simp only [List.getElem_map,List.getElem_range]
  rw [UInt8.toNat_ofNat_of_lt' (by have:=hb j;simp [UInt8.size];omega)])
 rw [hl] at this
 exact this
theorem conv_nil (w:World):(convert 22 9 (.slice none 0 0)).run Tryd.prog w = .ok (.string (strB 0 (fun _=>0))) w:=by
 rw [run_convert_bytes_string w 22 9 5 none 0 0 Tryd.underlying22 Tryd.underlying5 (by kernel_rfl)]
 rfl
theorem conv_empty (w:World) (a:Addr):(convert 22 9 (.slice (some a) 0 0)).run Tryd.prog w = .ok (.string (strB 0 (fun _=>0))) w :=
 run_convert_bytes_back (P:=Tryd.prog) w 22 9 5 a 0 [] Tryd.underlying22 Tryd.underlying5 (by kernel_rfl) (fun j hj=>absurd hj (Nat.not_lt_zero j))
theorem BytesIn.conv {w:World} {v:Value} {n:Nat} {bs:Nat→Nat} (h:BytesIn w v n bs) (hb:∀ j,bs j<256) (w':World) (hw:Below w.heap.size w w'):(convert 22 9 v).run Tryd.prog w' = .ok (.string (strB n bs)) w':=by
 rcases h with ⟨xo,rfl,rfl⟩ | ⟨bb,ob,cap,rfl,h1,h2,h3⟩
 · have e:=strB_congr (n:=0) (a:=fun _=>0) (b:=bs) (fun j hj=>by omega)
   cases xo with
   | none=>exact (conv_nil w').trans (by rw [e])
   | some a=>exact (conv_empty w' a).trans (by rw [e])
 · exact conv_bytes w' bb ob n cap bs hb (fun j hj=>(hw.cell (p:=⟨bb,ob+j,none⟩) h1).trans (h3 j hj))
theorem row_fresh (K:IntKind) (w:World) (n:Nat) (X:Nat→Nat) (t:TypeId):RowAt K (w.alloc (.cells (ints K n X).toArray t)) w.heap.size 0 n X:=RowAt.fresh (fun j hj=>by rw [List.getElem?_toArray,ints_at _ _ _ j hj])
theorem BytesIn.still {w w':World} {v:Value} {n:Nat} {bs:Nat→Nat} (h:BytesIn w v n bs) (hb:Below w.heap.size w w'):BytesIn w' v n bs:=by
 rcases h with h | ⟨bb,ob,cap,rfl,h1,h2,h3⟩
 · exact .inl h
 · exact .inr ⟨bb,ob,cap,rfl,Nat.lt_of_lt_of_le h1 hb.size,h2,fun j hj=>(hb.cell (p:=⟨bb,ob+j,none⟩) h1).trans (h3 j hj)⟩
theorem BytesIn.of_own {base:Nat} {w:World} {v:Value} {n:Nat} {X:Nat→Nat} (h:Own base w v n X):BytesIn w v n X:=by
 rcases h.form with ⟨rfl,rfl⟩ | ⟨g,cap,rfl,_,hl,hc,hr⟩
 · exact .inl ⟨none,rfl,rfl⟩
 · exact .inr ⟨g,0,cap,rfl,hl,hc,fun j hj=>(hr j hj).1⟩
theorem sliceTo (W:World) (g n cap m:Nat) (h:m≤cap):(Instr.sliceAt 22 (.slice (some ⟨g,0,none⟩) n cap) none (some (.int .i64 m)) none).run Tryd.prog W = .ok (.slice (some ⟨g,0,none⟩) m cap) W:=by
 have h1:Tryd.prog.underlying 22=some (.slice (Tryd.prog.elem 22)):=by kernel_rfl
 have h2:Tryd.prog.elem 22=5:=by kernel_rfl
 have h3:((sizeOf 5).run Tryd.prog W) = .ok 1 W:=by kernel_rfl
 rw [run_sliceAt_slice W 22 _ _ _ _ h1,run_slice_h W 22 _ n cap h1 .i64 m (by omega) (by omega),h2,h3]
 simp [sliced,Addr.add_mid,Option.map]
theorem zeroCells_u8 (m:Nat):Builtin.zeroCells #[.int .u8 0] m=(ints .u8 m (fun _=>0)).toArray:=by
 apply Array.ext'
 apply List.ext_getElem?
 intro j
 by_cases hj:j<m
 · rw [ints_at _ _ _ j hj]
   simp [Builtin.zeroCells,hj,Nat.mod_one]
 · rw [List.getElem?_eq_none (by rw [Array.length_toList,size_zeroCells];simp;omega),List.getElem?_eq_none (by show (ints .u8 m (fun _=>0)).length≤j;rw [ints_len];omega)]
end Go.Proofs.YtibdhadbflfdpaaDoor
namespace Go.Proofs.YtibdhadbflfdpaaDoor
open Go.RowKit
def room (j:Nat):Nat:=if j=0 then 201 else 202
theorem src_room (w:World):Src (w.alloc (.cells #[.int .u8 201,.int .u8 202] 5)) (some ⟨w.heap.size,0,none⟩) 2 room:=by
 refine .inr ⟨w.heap.size,0,rfl,fun j hj => ?_⟩
 match j,hj with
 | 0,_=>simp [room]
 | 1,_=>simp [room]
set_option maxHeartbeats 1000000 in
theorem lent_any (v:Value) (n:Nat) (bs:Nat→Nat) (w:World) (hv:BytesIn w v n bs) (hn:n<140737488355000) :
 Calls Tryd.prog 5 #[v] w fun e w'=>∃ g cap,e = .returned (.slice (some ⟨g,0,none⟩) n cap)∧n+2≤cap∧w.heap.size≤g∧RowAt .u8 w' g 0 (n+2) (cat n bs room)∧Below w.heap.size w w':=by
 obtain ⟨xo,cx,rfl,hxn,-,hsrc⟩:=hv.src
 clear hv
 have src0:=hsrc _ ((Below.refl _ _).alloc (Nat.le_refl _) (.cells #[] 5))
 clear hsrc
 go_enter Tryd.func5,Tryd.ntmps5
 go_wp2_with (first
  | (at_builtin;refine wpList_append_empty rfl (.tmp 4) (.tmp 5) rfl w.heap.size bs _ rfl rfl xo n cx rfl src0 hxn (by omega) (Nat.le_refl _) ?_;intro v1 w1 own1 hb1;have hs1:=hb1.size;clear src0)
  | (at_builtin;refine wpList_append_bytes rfl (.tmp 7) (.tmp 8) rfl w.heap.size v1 n bs rfl (own1.alloc _) _ 2 2 room rfl (src_room w1) (fun h=>by cases h) (by omega) (by simp only [World.size_alloc];omega) ?_;intro v2 w2 own2 grow2;have hb2:=Own.grown (hb1.alloc hs1 _) grow2 (own1.alloc _) (Nat.le_refl _) (by simp only [World.size_alloc];omega);clear own1 hb1 hs1;(obtain ⟨g,cap,hv2,hg,hgl,hcap,hrow⟩:∃ g cap,v2 = .slice (some ⟨g,0,none⟩) (n+2) cap∧w.heap.size≤g∧g<w2.heap.size∧n+2≤cap∧RowAt .u8 w2 g 0 (n+2) (cat n bs room):=own2.form.resolve_left (fun h=>by omega));subst hv2;have hni:(n:Int)≤cap:=by omega))
 go_ret
 exact ⟨g,cap,rfl,hcap,hg,hrow,hb2⟩
set_option maxRecDepth 20000 in
set_option maxHeartbeats 1000000 in
theorem stays_any (g cap n:Nat) (v:Value) (bs:Nat→Nat) (hbs:∀ j,bs j<256) (w:World) (hn:n<140737488355000) (hcap:n+2≤cap) (hrow:RowAt .u8 w g 0 (n+2) (cat n bs room)) (hv:BytesIn w v n bs) :
 Calls Tryd.prog 13 #[.slice (some ⟨g,0,none⟩) n cap,v] w fun e w'=>e = .returned (.bool true)∧Below w.heap.size w w':=by
 have hc1:∀ W,Below w.heap.size w W→∀ c,(convert 22 9 (.slice (some ⟨g,0,none⟩) n c)).run Tryd.prog W = .ok (.string (strB n bs)) W:=fun W hW c=>conv_bytes W g 0 n c bs hbs (fun j hj=>by
  have:=(hrow j (by omega)).1
  rw [cat_left hj] at this
  exact (hW.cell (p:=⟨g,0+j,none⟩) (block_lt_of_cell this)).trans this)
 have hc2:=hv.conv hbs
 obtain ⟨xo,cx,rfl,-,-,-⟩:=hv.src
 have r1:w.cell? ⟨g,n,none⟩=some (.int .u8 201):=by
  have:=(hrow n (by omega)).1
  rw [Nat.zero_add] at this
  rw [this];unfold cat room;simp
 have r2:w.cell? ⟨g,n+1,none⟩=some (.int .u8 202):=by
  have:=(hrow (n+1) (by omega)).1
  rw [Nat.zero_add,cat_right] at this
  exact this
 clear hrow hv
 have hn2:(n:Int)+2≤cap:=by omega
 have hn3:(n:Int)≤cap:=by omega
 have e1:IntKind.i64.wrap ((n:Int)+1)=(n:Int)+1:=by simp only [IntKind.wrap_i64];omega
 have e3:((n:Int)+1).toNat=n+1:=by omega
 have e4:(0:Int)≤(n:Int)∧(n:Int)<(n:Int)+2:=by omega
 have e5:(0:Int)≤(n:Int)+1∧(n:Int)+1<(n:Int)+2:=by omega
 have e6:n<n+2:=by omega
 have e7:n+1<n+2:=by omega
 go_enter Tryd.func13,Tryd.ntmps13
 go_wp2
 have hS:∀ w':World,Below w.heap.size w w'→∀ b o,b<w.heap.size→w'.cell? ⟨b,o,none⟩=w.cell? ⟨b,o,none⟩:=fun w' h b o hb=>h.cell (p:=⟨b,o,none⟩) hb
 have hb0:Below w.heap.size w w.drew:=(Below.refl _ _).drew
 have hgl:g<w.heap.size:=block_lt_of_cell r1
 go_region_held3 (fun w'=>Below w.heap.size w w') (first | assumption) (fail)
 go_wp2
 go_ret
 exact ⟨rfl,hb0⟩
end Go.Proofs.YtibdhadbflfdpaaDoor
namespace Go.Proofs.YtibdhadbflfdpaaDoor
open Go.ChangeShapes Go.WideShapes Go.ChangeAt Go.RowKit
theorem ownKnobs:ownKnob Tryd.prog.godebug=none:=by kernel_rfl
theorem laidOut:laidOutB Tryd.prog=true:=by kernel_rfl
theorem cellsOfByte:Tryd.prog.cellsOf 5=1:=by kernel_rfl
theorem bytesOfByte:Tryd.prog.bytesOf 5=1:=by kernel_rfl
set_option maxRecDepth 20000 in
theorem open_bytes {H:Type} {enc:TypeId × Value→H} {W:World} {base:Nat} {v:Value} {d:DataW H} {ps:List MemPlace} (hval:Value.okWide Tryd.prog W .any base 22 v) (h:DataW.Trod enc Tryd.prog W 0 (fun _=>true) true 22 v d ps) :
 ∃ n bs,BytesIn W v n bs∧(∀ j,bs j<256)∧(n=0∨∃ elems spare,d = .slice elems spare∧elems.length=n):=by
 obtain ⟨a0,len,cap,rfl⟩:=okWide_slice Tryd.underlying22 hval
 obtain ⟨fuel,hf⟩:=h
 have hc:Cell.ok Tryd.prog W .any base 22 (.slice a0 len cap):=by
  unfold Value.okWide Cell.okWide at hval
  simp only [Tryd.underlying22] at hval
  exact hval
 rcases open_ints Tryd.underlying22 Tryd.underlying5 cellsOfByte hf with ⟨hcs,hx⟩ | ⟨a,len',cap',zs,hcs,_,hl,hm,hz,hx,hcell,hwz⟩
 · simp [Value.cells] at hcs
   obtain ⟨rfl,rfl,rfl⟩:=hcs
   exact ⟨0,fun _=>0,.inl ⟨none,rfl,rfl⟩,fun _=>Nat.zero_lt_succ _,.inl rfl⟩
 · simp [Value.cells] at hcs
   obtain ⟨rfl,rfl,rfl⟩:=hcs
   simp only [Prod.mk.injEq] at hx
   obtain ⟨rfl,rfl⟩:=hx
   simp only [if_true] at hz
   unfold Cell.ok at hc
   simp only [Tryd.underlying22] at hc
   obtain ⟨_,_,_,hs,row,cells,hsh,_⟩:=hc
   obtain ⟨b,off,spot⟩:=a
   subst hs
   have hbl:b<W.heap.size:=by
    rcases Nat.lt_or_ge b W.heap.size with h | h
    · exact h
    · unfold World.shape? at hsh
      rw [Array.getElem?_eq_none h] at hsh
      cases hsh
   have hn:∀ j,0≤zs.getD j 0∧zs.getD j 0<256:=fun j=>by
    rw [List.getD_eq_getElem?_getD]
    cases h:zs[j]? with
    | none=>simp
    | some x =>
     have:=hwz x (List.mem_of_getElem? h)
     have h0:(0:Int)≤x∧x≤255:=by simpa [Lit.wf,IntKind.min,IntKind.max,IntKind.signed,IntKind.bits] using this
     show 0≤x∧x<256
     omega
   refine ⟨len,fun j=>(zs.getD j 0).toNat,.inr ⟨b,off,cap,rfl,hbl,hl,fun j hj => ?_⟩,fun j => ?_,.inr ⟨_,_,rfl,?_⟩⟩
   · have h:=hcell j (by omega)
     rw [Addr.add_mid] at h
     rw [h,Int.toNat_of_nonneg (hn j).1]
   · have:=hn j
     show (zs.getD j 0).toNat<256
     omega
   · simp [lits];omega
theorem bytes_reach {H:Type} {ts:List TypeId} {ds:List (DataW H)} (hR:(DataW.weightsEach Tryd.prog ts ds).all (·≤reachBytes)=true) {j n:Nat} {d:DataW H} (ht:ts[j]? = some 22) (hd:ds[j]? = some d) (h:n=0∨∃ elems spare,d = .slice elems spare∧elems.length=n):n<140737488355000:=by
 rcases h with h | ⟨elems,spare,rfl,rfl⟩
 · omega
 · have:=sized_slice hR ht hd Tryd.underlying22
   rw [bytesOfByte] at this
   unfold reachBytes at this
   omega
end Go.Proofs.YtibdhadbflfdpaaDoor
namespace Go.Proofs.YtibdhadbflfdpaaDoor
open Go
structure Ru where
 m:Nat
 rounds:Nat
 s0:Nat × Nat × Nat
 s1:Nat × Nat × Nat
 l0:Nat × Nat × Nat
 l1:Nat × Nat × Nat
def rn:Ru:=⟨32,64,(7,18,3),(17,19,10),(2,13,22),(6,11,25)⟩
def rw6:Ru:=⟨64,80,(1,8,7),(19,61,6),(28,34,39),(14,18,41)⟩
def rot (m x n:Nat):Nat:=(x / 2 ^ n) ||| (x*2 ^ (m - n)%2 ^ m)
def hi3 (m x:Nat) (n:Nat × Nat × Nat):Nat:=rot m x n.1 ^^^ rot m x n.2.1 ^^^ rot m x n.2.2
def lo3 (m x:Nat) (n:Nat × Nat × Nat):Nat:=rot m x n.1 ^^^ rot m x n.2.1 ^^^ (x / 2 ^ n.2.2)
theorem rot_lt (m x n:Nat) (hx:x<2 ^ m):rot m x n<2 ^ m :=
 Nat.or_lt_two_pow (Nat.lt_of_le_of_lt (Nat.div_le_self _ _) hx) (Nat.mod_lt _ (Nat.two_pow_pos m))
theorem rot32_eq (x n:Nat) (hx:x<4294967296) :
 bits .or .u32 ((x:Int) / 2 ^ n) ((x:Int)*2 ^ (32 - n)%4294967296)=((rot 32 x n:Nat):Int):=by
 have e1:(x:Int) / 2 ^ n=((x / 2 ^ n:Nat):Int):=by simp
 have e2:(x:Int)*2 ^ (32 - n)%4294967296=((x*2 ^ (32 - n)%4294967296:Nat):Int):=by simp
 rw [e1,e2,u32_or_nat _ _ (Nat.lt_of_le_of_lt (Nat.div_le_self _ _) hx) (Nat.mod_lt _ (by decide))]
 rfl
end Go.Proofs.YtibdhadbflfdpaaDoor
namespace Go.Proofs.YtibdhadbflfdpaaDoor
open Go.RowKit
theorem turn32_any (x n:Nat) (hx:x<4294967296) (hn:n≤32) (w:World) :
 Calls Tryd.prog 68 #[.int .u32 x,.int .u64 n,.int .u64 32] w fun e w'=>e = .returned (.int .u32 (rot 32 x n))∧w'=w:=by
 go_enter Tryd.func68,Tryd.ntmps68
 go_wp2
 go_ret
 exact ⟨retInt (rot32_eq x n hx),rfl⟩
theorem turnAll32_any (x a b c:Nat) (hx:x<4294967296) (ha:a≤32) (hb:b≤32) (hc:c≤32) (w:World) :
 Calls Tryd.prog 57 #[.int .u32 x,.agg #[.int .u64 a,.int .u64 b,.int .u64 c],.int .u64 32] w fun e w'=>e = .returned (.int .u32 (hi3 32 x (a,b,c)))∧Below w.heap.size w w':=by
 go_enter Tryd.func57,Tryd.ntmps57
 go_wp2
 go_quiet ((go_at_call 68;exact Calls.quiet_of_same (turn32_any _ _ hx (by assumption) _)))
 go_wp2
 go_ret
 refine ⟨retInt ?_,below_drewN ((Below.refl _ _).alloc (Nat.le_refl _) _) _⟩
 rw [u32_xor_nat _ _ (rot_lt 32 x a hx) (rot_lt 32 x b hx),u32_xor_nat _ _ (Nat.xor_lt_two_pow (rot_lt 32 x a hx) (rot_lt 32 x b hx)) (rot_lt 32 x c hx)]
 rfl
theorem turnShift32_any (x a b c:Nat) (hx:x<4294967296) (ha:a≤32) (hb:b≤32) (hc:c≤32) (w:World) :
 Calls Tryd.prog 67 #[.int .u32 x,.agg #[.int .u64 a,.int .u64 b,.int .u64 c],.int .u64 32] w fun e w'=>e = .returned (.int .u32 (lo3 32 x (a,b,c)))∧Below w.heap.size w w':=by
 go_enter Tryd.func67,Tryd.ntmps67
 go_wp2
 go_quiet ((go_at_call 68;exact Calls.quiet_of_same (turn32_any _ _ hx (by assumption) _)))
 go_wp2
 go_ret
 refine ⟨retInt ?_,below_drewN ((Below.refl _ _).alloc (Nat.le_refl _) _) _⟩
 have e1:(x:Int) / 2 ^ c=((x / 2 ^ c:Nat):Int):=by simp
 rw [e1,u32_xor_nat _ _ (rot_lt 32 x a hx) (rot_lt 32 x b hx),u32_xor_nat _ _ (Nat.xor_lt_two_pow (rot_lt 32 x a hx) (rot_lt 32 x b hx)) (Nat.lt_of_le_of_lt (Nat.div_le_self _ _) hx)]
 rfl
theorem highest32_any (x:Nat) (_hx:x<18446744073709551616) (w:World) :
 Calls Tryd.prog 45 #[.int .u64 x,(.agg #[.int .i64 32,.int .i64 64,.int .u64 7,.int .u64 18,.int .u64 3,.int .u64 17,.int .u64 19,.int .u64 10,.int .u64 2,.int .u64 13,.int .u64 22,.int .u64 6,.int .u64 11,.int .u64 25])] w fun e w'=>e = .returned (.int .u32 ((x / 2 ^ (64 - 32):Nat):Int))∧Below w.heap.size w w':=by
 go_enter Tryd.func45,Tryd.ntmps45
 go_wp2
 go_ret
 refine ⟨retInt ?_,((Below.refl _ _).alloc (Nat.le_refl _) _)⟩
 simp
 try omega
theorem blockSize32_any (w:World) :
 Calls Tryd.prog 46 #[(.agg #[.int .i64 32,.int .i64 64,.int .u64 7,.int .u64 18,.int .u64 3,.int .u64 17,.int .u64 19,.int .u64 10,.int .u64 2,.int .u64 13,.int .u64 22,.int .u64 6,.int .u64 11,.int .u64 25])] w fun e w'=>e = .returned (.int .i64 64)∧Below w.heap.size w w':=by
 go_enter Tryd.func46,Tryd.ntmps46
 go_wp2
 go_ret
 exact ⟨rfl,((Below.refl _ _).alloc (Nat.le_refl _) _)⟩
end Go.Proofs.YtibdhadbflfdpaaDoor
namespace Go.Proofs.YtibdhadbflfdpaaDoor
open Go.RowKit
def fill (m sz:Nat) (bs:Nat→Nat):Nat→Nat→Nat
 | 0=>fun _=>0
 | i+1=>upd (fill m sz bs i) (i / sz) ((fill m sz bs i (i / sz)*256%2 ^ m) ||| bs i)
def nextW (r:Ru) (X:Nat→Nat) (k:Nat):Nat:=(lo3 r.m (X (k+14)) r.s1+X (k+9)+lo3 r.m (X (k+1)) r.s0+X k)%2 ^ r.m
def sch (r:Ru) (X:Nat→Nat):Nat→Nat→Nat
 | 0=>X
 | k+1=>upd (sch r X k) (k+16) (nextW r (sch r X k) k)
theorem fill_lt {m sz:Nat} {bs:Nat→Nat} (hb:∀ j,bs j<2 ^ m):∀ i j,fill m sz bs i j<2 ^ m
 | 0,_=>Nat.two_pow_pos m
 | i+1,j=>by
  unfold fill upd
  split
  · exact Nat.or_lt_two_pow (Nat.mod_lt _ (Nat.two_pow_pos m)) (hb i)
  · exact fill_lt hb i j
theorem sch_lt {r:Ru} {X:Nat→Nat} (hX:∀ j,X j<2 ^ r.m):∀ k j,sch r X k j<2 ^ r.m
 | 0,j=>hX j
 | k+1,j=>by
  unfold sch upd
  split
  · exact Nat.mod_lt _ (Nat.two_pow_pos _)
  · exact sch_lt hX k j
def zs32:Array Value:=Array.replicate 80 (.int .u32 0)
theorem zero89 (w:World):Sem.run Tryd.prog (zeroValue 89) w = .ok (.agg zs32) w:=by kernel_rfl
theorem zs32_at (j:Nat) (h:j<80):zs32[j]? = some (.int .u32 0):=by simp [zs32,h]
theorem rbox32 {W w1:World} (h:Below (W.heap.size+1) (W.alloc (.cells #[.int .i64 32,.int .i64 64,.int .u64 7,.int .u64 18,.int .u64 3,.int .u64 17,.int .u64 19,.int .u64 10,.int .u64 2,.int .u64 13,.int .u64 22,.int .u64 6,.int .u64 11,.int .u64 25] 63)) w1) (B:Nat) (hB:B=W.heap.size):w1.cell? ⟨B,0,none⟩=some (.int .i64 32)∧w1.cell? ⟨B,1,none⟩=some (.int .i64 64)∧w1.cell? ⟨B,2,none⟩=some (.int .u64 7)∧w1.cell? ⟨B,3,none⟩=some (.int .u64 18)∧w1.cell? ⟨B,4,none⟩=some (.int .u64 3)∧w1.cell? ⟨B,5,none⟩=some (.int .u64 17)∧w1.cell? ⟨B,6,none⟩=some (.int .u64 19)∧w1.cell? ⟨B,7,none⟩=some (.int .u64 10)∧w1.cell? ⟨B,8,none⟩=some (.int .u64 2)∧w1.cell? ⟨B,9,none⟩=some (.int .u64 13)∧w1.cell? ⟨B,10,none⟩=some (.int .u64 22)∧w1.cell? ⟨B,11,none⟩=some (.int .u64 6)∧w1.cell? ⟨B,12,none⟩=some (.int .u64 11)∧w1.cell? ⟨B,13,none⟩=some (.int .u64 25):=by
 subst hB
 have hc:∀ j,w1.cell? ⟨W.heap.size,j,none⟩=(W.alloc (.cells #[.int .i64 32,.int .i64 64,.int .u64 7,.int .u64 18,.int .u64 3,.int .u64 17,.int .u64 19,.int .u64 10,.int .u64 2,.int .u64 13,.int .u64 22,.int .u64 6,.int .u64 11,.int .u64 25] 63)).cell? ⟨W.heap.size,j,none⟩:=fun j=>h.cell (p:=⟨W.heap.size,j,none⟩) (Nat.lt_succ_self _)
 simp only [hc]
 simp
theorem rbox64 {W w1:World} (h:Below (W.heap.size+1) (W.alloc (.cells #[.int .i64 64,.int .i64 80,.int .u64 1,.int .u64 8,.int .u64 7,.int .u64 19,.int .u64 61,.int .u64 6,.int .u64 28,.int .u64 34,.int .u64 39,.int .u64 14,.int .u64 18,.int .u64 41] 63)) w1) (B:Nat) (hB:B=W.heap.size):w1.cell? ⟨B,0,none⟩=some (.int .i64 64)∧w1.cell? ⟨B,1,none⟩=some (.int .i64 80)∧w1.cell? ⟨B,2,none⟩=some (.int .u64 1)∧w1.cell? ⟨B,3,none⟩=some (.int .u64 8)∧w1.cell? ⟨B,4,none⟩=some (.int .u64 7)∧w1.cell? ⟨B,5,none⟩=some (.int .u64 19)∧w1.cell? ⟨B,6,none⟩=some (.int .u64 61)∧w1.cell? ⟨B,7,none⟩=some (.int .u64 6)∧w1.cell? ⟨B,8,none⟩=some (.int .u64 28)∧w1.cell? ⟨B,9,none⟩=some (.int .u64 34)∧w1.cell? ⟨B,10,none⟩=some (.int .u64 39)∧w1.cell? ⟨B,11,none⟩=some (.int .u64 14)∧w1.cell? ⟨B,12,none⟩=some (.int .u64 18)∧w1.cell? ⟨B,13,none⟩=some (.int .u64 41):=by
 subst hB
 have hc:∀ j,w1.cell? ⟨W.heap.size,j,none⟩=(W.alloc (.cells #[.int .i64 64,.int .i64 80,.int .u64 1,.int .u64 8,.int .u64 7,.int .u64 19,.int .u64 61,.int .u64 6,.int .u64 28,.int .u64 34,.int .u64 39,.int .u64 14,.int .u64 18,.int .u64 41] 63)).cell? ⟨W.heap.size,j,none⟩:=fun j=>h.cell (p:=⟨W.heap.size,j,none⟩) (Nat.lt_succ_self _)
 simp only [hc]
 simp
theorem sum4_32 (a b c d:Nat):((((a:Int)+b)%4294967296+c)%4294967296+d)%4294967296=(((a+b+c+d)%2 ^ 32:Nat):Int):=by
 have e:(2:Nat) ^ 32=4294967296:=rfl
 rw [e];omega
theorem nextW_32 (X:Nat→Nat) (k:Nat):((((lo3 32 (X (k+14)) (17,19,10):Int)+X (k+9))%4294967296+lo3 32 (X (k+1)) (7,18,3))%4294967296+X k)%4294967296=((nextW rn X k:Nat):Int) :=
 sum4_32 _ _ _ _
theorem sum4_64 (a b c d:Nat):((((a:Int)+b)%18446744073709551616+c)%18446744073709551616+d)%18446744073709551616=(((a+b+c+d)%2 ^ 64:Nat):Int):=by
 have e:(2:Nat) ^ 64=18446744073709551616:=rfl
 rw [e];omega
theorem or8_32 (x b:Nat) (hb:b<256):bits .or .u32 ((x:Int)*256%4294967296) ((b:Int)%4294967296)=((x*256%2 ^ 32 ||| b:Nat):Int):=by
 have e1:(x:Int)*256%4294967296=((x*256%4294967296:Nat):Int):=by simp
 have e2:(b:Int)%4294967296=((b:Nat):Int):=by omega
 rw [e1,e2,u32_or_nat _ _ (Nat.mod_lt _ (by decide)) (by omega)]
set_option maxRecDepth 20000 in
set_option maxHeartbeats 1000000 in
theorem spread32_any (bb ob cap:Nat) (bs:Nat→Nat) (hbs:∀ j,bs j<256) (w:World) (hcell:∀ j,j<64→w.cell? ⟨bb,ob+j,none⟩=some (.int .u8 (bs j))) :
 Calls Tryd.prog 56 #[(.agg #[.int .i64 32,.int .i64 64,.int .u64 7,.int .u64 18,.int .u64 3,.int .u64 17,.int .u64 19,.int .u64 10,.int .u64 2,.int .u64 13,.int .u64 22,.int .u64 6,.int .u64 11,.int .u64 25]),.slice (some ⟨bb,ob,none⟩) 64 cap] w fun e w'=>e = .returned (.agg (ints .u32 80 (sch rn (fill 32 4 bs 64) (64 - 16))).toArray)∧Below w.heap.size w w':=by
 have hz:=zero89
 have hbb:bb<w.heap.size:=block_lt_of_cell (hcell 0 (by decide))
 go_enter Tryd.func56,Tryd.ntmps56
 go_wp2
 clear hz
 go_loopw [19] (fun i wr=>∃ k:Nat,k≤64∧i = .int .i64 k∧RowAt .u32 wr (w.heap.size+1+1) 0 80 (fill 32 4 bs k)∧RowAt .u32 wr (w.heap.size+1) 0 80 (fun _=>0)∧Below (w.heap.size+1) (w.alloc (.cells #[.int .i64 32,.int .i64 64,.int .u64 7,.int .u64 18,.int .u64 3,.int .u64 17,.int .u64 19,.int .u64 10,.int .u64 2,.int .u64 13,.int .u64 22,.int .u64 6,.int .u64 11,.int .u64 25] 63)) wr) (fun i _=>64 - (intOf i).toNat)
 case atStart =>
  refine ⟨0,Nat.zero_le _,rfl,?_,?_,?_⟩
  · have:=RowAt.fresh (K := .u32) (w:=(w.alloc (.cells #[.int .i64 32,.int .i64 64,.int .u64 7,.int .u64 18,.int .u64 3,.int .u64 17,.int .u64 19,.int .u64 10,.int .u64 2,.int .u64 13,.int .u64 22,.int .u64 6,.int .u64 11,.int .u64 25] 63)).alloc (.cells zs32 89)) (t:=89) (X:=fill 32 4 bs 0) (n:=80) (fun j hj=>zs32_at j hj)
    simpa using this
  · have:=(RowAt.fresh (K := .u32) (w:=w.alloc (.cells #[.int .i64 32,.int .i64 64,.int .u64 7,.int .u64 18,.int .u64 3,.int .u64 17,.int .u64 19,.int .u64 10,.int .u64 2,.int .u64 13,.int .u64 22,.int .u64 6,.int .u64 11,.int .u64 25] 63)) (t:=89) (X:=fun _=>0) (n:=80) (fun j hj=>zs32_at j hj)).alloc (by simp) (.cells zs32 89)
    simpa using this
  · exact ((Below.refl _ _).alloc (by simp) _).alloc (by simp) _
 case round =>
  obtain ⟨k,hk,rfl,hrow,hres,hbel⟩:=hrel
  by_cases hlt:k<64
  · have hc:=(hbel.cell (p:=⟨bb,ob+k,none⟩) (Nat.lt_succ_of_lt hbb)).trans ((World.cell?_alloc_lt _ _ _ hbb).trans (hcell k hlt))
    have hr:=hrow (k / 4) (by omega)
    obtain ⟨hr1,hr2⟩:=hr
    rw [Nat.zero_add] at hr1 hr2
    have hq:k / 4<80:=by omega
    clear hcell
    go_wp2
    go_region
    go_wp2
    go_roundw
    case rel =>
     have h1:=hrow.set hq (or8_32 (fill 32 4 bs k (k / 4)) (bs k) (hbs k))
     rw [Nat.zero_add] at h1
     exact ⟨k+1,hlt,by go_num,h1.drew,(hres.far (by simp) _).drew,(hbel.setCell (by simp) _).drew⟩
    case measure=>simp [intOf];omega
  · have hke:k=64:=by omega
    subst hke
    clear hcell hlt hk
    have hu:∀ j,fill 32 4 bs 64 j<2 ^ 32:=fill_lt (fun j=>Nat.lt_of_lt_of_le (hbs j) (by decide)) 64
    obtain ⟨X,hX⟩:∃ X,X=fill 32 4 bs 64:=⟨_,rfl⟩
    have HX:Hid (X=fill 32 4 bs 64):=hX
    rw [←hX] at hrow hu
    clear hX
    have hr1:=(rbox32 hbel _ rfl).2.1
    go_wp2
    clear hr1
    go_loopw [10] (fun t w2=>∃ k:Nat,k≤64 - 16∧t = .int .i64 ((k:Int)+16)∧RowAt .u32 w2 (w.heap.size+1+1) 0 80 (sch rn X k)∧RowAt .u32 w2 (w.heap.size+1) 0 80 (fun _=>0)∧Below (w.heap.size+1) (w.alloc (.cells #[.int .i64 32,.int .i64 64,.int .u64 7,.int .u64 18,.int .u64 3,.int .u64 17,.int .u64 19,.int .u64 10,.int .u64 2,.int .u64 13,.int .u64 22,.int .u64 6,.int .u64 11,.int .u64 25] 63)) w2) (fun t _=>64 - (intOf t).toNat)
    case atStart=>exact ⟨0,Nat.zero_le _,rfl,hrow,hres,hbel⟩
    case round =>
     clear hrow hres hbel
     obtain ⟨k,hk,rfl,hrow,hres,hbel⟩:=hrel
     have hsz:=hbel.size
     rw [World.size_alloc] at hsz
     by_cases hlt:k<64 - 16
     · obtain ⟨c0,c1,c2,c3,c4,c5,c6,c7,-⟩:=rbox32 hbel _ rfl
       have hN:w.heap.size+1+1<wr.heap.size:=block_lt_of_cell (hrow 0 (by decide)).1
       have q0:w.heap.size<wr.heap.size:=by omega
       have hS:∀ w':World,Near (w.heap.size+1+1) (k+16) wr w'→∀ q,q<k+16→w'.cell? ⟨w.heap.size+1+1,q,none⟩=wr.cell? ⟨w.heap.size+1+1,q,none⟩:=fun w' h q hq=>h.cell _ _ hN (fun _=>by omega)
       have hS':∀ w':World,Near (w.heap.size+1+1) (k+16) wr w'→∀ q,w'.cell? ⟨w.heap.size,q,none⟩=wr.cell? ⟨w.heap.size,q,none⟩:=fun w' h q=>h.cell _ _ q0 (fun e=>by omega)
       have hF:∀ w':World,Near (w.heap.size+1+1) (k+16) wr w'→∀ q,w'.frozen? ⟨w.heap.size+1+1,q,none⟩=wr.frozen? ⟨w.heap.size+1+1,q,none⟩:=fun w' h q=>h.frozen _ _ hN
       have hb0:Below wr.heap.size wr wr.drew:=(Below.refl _ _).drew
       have r14:=(hrow (k+14) (by omega)).1
       have r9:=(hrow (k+9) (by omega)).1
       have r1:=(hrow (k+1) (by omega)).1
       have r0:=(hrow k (by omega)).1
       have rf:=(hrow (k+16) (by omega)).2
       have rg:=(hrow (k+16) (by omega)).1
       rw [Nat.zero_add] at r14 r9 r1 r0 rf rg
       have u14:sch rn X k (k+14)<4294967296:=sch_lt (r:=rn) hu k (k+14)
       have u1:sch rn X k (k+1)<4294967296:=sch_lt (r:=rn) hu k (k+1)
       have hki:(k:Int)<64 - 16:=by omega
       have x14:IntKind.i64.wrap ((k:Int)+16 - 2)=(k:Int)+14:=by simp only [IntKind.wrap_i64];omega
       have x9:IntKind.i64.wrap ((k:Int)+16 - 7)=(k:Int)+9:=by simp only [IntKind.wrap_i64];omega
       have x1:IntKind.i64.wrap ((k:Int)+16 - 15)=(k:Int)+1:=by simp only [IntKind.wrap_i64];omega
       have k80:k<80:=by omega
       have x0:IntKind.i64.wrap (k:Int)=(k:Int):=by simp only [IntKind.wrap_i64];omega
       have y14:((k:Int)+14).toNat=k+14:=by omega
       have y9:((k:Int)+9).toNat=k+9:=by omega
       have y1:((k:Int)+1).toNat=k+1:=by omega
       have y16:((k:Int)+16).toNat=k+16:=by omega
       have l14:(0:Int)≤(k:Int)+14∧(k:Int)+14<80:=by omega
       have l9:(0:Int)≤(k:Int)+9∧(k:Int)+9<80:=by omega
       have l1:(0:Int)≤(k:Int)+1∧(k:Int)+1<80:=by omega
       have l0:(0:Int)≤(k:Int)∧(k:Int)<80:=by omega
       have l16:(0:Int)≤(k:Int)+16∧(k:Int)+16<80:=by omega
       go_wp2
       go_region_held3 (fun w'=>Near (w.heap.size+1+1) (k+16) wr w') (first | exact Near.of_below (by assumption) | exact Near.set (by assumption) _) (first
        | (go_at_call 67;refine (turnShift32_any _ _ _ _ (by assumption) (by decide) (by decide) (by decide) _).mono ?_;rintro e w' ⟨rfl,hb⟩;have hbn:=below_next (W:=wr) (by assumption) hb;have rgn:=(hbn.cell (p:=⟨w.heap.size+1+1,k+16,none⟩) hN).trans rg))
       clear hS hS' hF hb0 r14 r9 r1 r0 x14 x9 x1 x0 y14 y9 y1 y16 l14 l9 l1 l0 l16
       go_wp2
       go_roundw
       case rel =>
        repeat apply Exists.intro
        refine ⟨?_,rfl⟩
        have h1:=(hrow.below hbn hN).set (i:=k+16) (by omega) (nextW_32 (sch rn X k) k)
        rw [Nat.zero_add] at h1
        exact ⟨k+1,by omega,by go_num,h1,(hres.below hbn (by omega)).far (by simp) _,(hbel.trans (hbn.mono (by omega))).setCell (by simp) _⟩
       case measure=>simp [intOf];omega
     · have hke:k=64 - 16:=by omega
       subst hke
       have c1:=(rbox32 hbel _ rfl).2.1
       have ht:wr.there (w.heap.size+1) 0 (ints .u32 80 (sch rn X (64 - 16))).toArray.size:=by simp only [List.size_toArray,ints_len];exact hres.there
       have hi:(Tryd.prog.info? 89).map (·.size)=some (ints .u32 80 (sch rn X (64 - 16))).toArray.size:=by simp only [List.size_toArray,ints_len];kernel_rfl
       have hi':(Tryd.prog.info? 89).map (·.size)=some (ints .u32 80 (sch rn X (64 - 16))).length:=by rw [ints_len];kernel_rfl
       have hone:=all_oneCell_toArray (ints_one .u32 80 (sch rn X (64 - 16)))
       go_wp2_with (first
        | (refine wpList_load_mid rfl 89 _ rfl _ 0 rfl _ _ hrow.range Tryd.underlying89 rfl hi' ?_)
        | (refine wpList_store_mid rfl 89 _ _ rfl _ 0 _ rfl rfl ht hi hone ?_))
       refine bodyPost_ret (v := .agg (ints .u32 80 (sch rn X (64 - 16))).toArray) (results_cell_mid Tryd.results56 _ _ (w.heap.size+1) 0 _ _ rfl (World.rangeAt_setCells_same _ _ _ _ (by rw [ints_len];exact hres.there)) Tryd.underlying89 rfl hi') rfl ⟨by rw [HX.out],?_⟩
       exact below_setCells (by omega) _ _ _ (((Below.refl _ _).alloc (Nat.le_refl _) _).trans (hbel.mono (by omega)))
theorem or8_64 (x b:Nat) (hb:b<256):bits .or .u64 ((x:Int)*256%18446744073709551616) ((b:Int)%18446744073709551616)=((x*256%2 ^ 64 ||| b:Nat):Int):=by
 have e1:(x:Int)*256%18446744073709551616=((x*256%18446744073709551616:Nat):Int):=by simp
 have e2:(b:Int)%18446744073709551616=((b:Nat):Int):=by omega
 rw [e1,e2,u64_or_nat _ _ (Nat.mod_lt _ (by decide)) (by omega)]
end Go.Proofs.YtibdhadbflfdpaaDoor
namespace Go.Proofs.YtibdhadbflfdpaaDoor
open Go.RowKit
structure St where
 a:Nat
 b:Nat
 c:Nat
 d:Nat
 e:Nat
 f:Nat
 g:Nat
 h:Nat
def chS (m e f g:Nat):Nat:=(e &&& f) ^^^ ((2 ^ m - 1 - e) &&& g)
def majS (a b c:Nat):Nat:=(a &&& b) ^^^ (a &&& c) ^^^ (b &&& c)
def t1S (r:Ru) (kt wt:Nat) (s:St):Nat:=(s.h+hi3 r.m s.e r.l1+chS r.m s.e s.f s.g+kt+wt)%2 ^ r.m
def t2S (r:Ru) (s:St):Nat:=(hi3 r.m s.a r.l0+majS s.a s.b s.c)%2 ^ r.m
def stepS (r:Ru) (kt wt:Nat) (s:St):St:=⟨(t1S r kt wt s+t2S r s)%2 ^ r.m,s.a,s.b,s.c,(s.d+t1S r kt wt s)%2 ^ r.m,s.e,s.f,s.g⟩
def roundsS (r:Ru) (K W:Nat→Nat) (s:St):Nat→St
 | 0=>s
 | t+1=>stepS r (K t / 2 ^ (64 - r.m)) (W t) (roundsS r K W s t)
def addS (r:Ru) (s x:St):St:=⟨(s.a+x.a)%2 ^ r.m,(s.b+x.b)%2 ^ r.m,(s.c+x.c)%2 ^ r.m,(s.d+x.d)%2 ^ r.m,(s.e+x.e)%2 ^ r.m,(s.f+x.f)%2 ^ r.m,(s.g+x.g)%2 ^ r.m,(s.h+x.h)%2 ^ r.m⟩
def blockS (r:Ru) (K:Nat→Nat) (bs:Nat→Nat) (s:St):St:=addS r s (roundsS r K (sch r (fill r.m (r.m / 8) bs (2*r.m)) (r.rounds - 16)) s r.rounds)
structure St.lt (p:Nat) (s:St):Prop where
 a:s.a<p
 b:s.b<p
 c:s.c<p
 d:s.d<p
 e:s.e<p
 f:s.f<p
 g:s.g<p
 h:s.h<p
theorem stepS_lt {r:Ru} {kt wt:Nat} {s:St} (h:s.lt (2 ^ r.m)):(stepS r kt wt s).lt (2 ^ r.m) :=
 ⟨Nat.mod_lt _ (Nat.two_pow_pos _),h.a,h.b,h.c,Nat.mod_lt _ (Nat.two_pow_pos _),h.e,h.f,h.g⟩
theorem roundsS_lt {r:Ru} {K W:Nat→Nat} {s:St} (h:s.lt (2 ^ r.m)):∀ t,(roundsS r K W s t).lt (2 ^ r.m)
 | 0=>h
 | t+1=>stepS_lt (roundsS_lt h t)
theorem addS_lt {r:Ru} {s x:St}:(addS r s x).lt (2 ^ r.m):=by constructor <;> exact Nat.mod_lt _ (Nat.two_pow_pos _)
def St.at (s:St):Nat→Nat
 | 0=>s.a
 | 1=>s.b
 | 2=>s.c
 | 3=>s.d
 | 4=>s.e
 | 5=>s.f
 | 6=>s.g
 | _=>s.h
def St.vals (K:IntKind) (s:St):Array Value:=#[.int K s.a,.int K s.b,.int K s.c,.int K s.d,.int K s.e,.int K s.f,.int K s.g,.int K s.h]
theorem RowAt.st {K:IntKind} {w:World} {b:Nat} {s:St} (h:RowAt K w b 0 8 s.at):w.cell? ⟨b,0,none⟩=some (.int K s.a)∧w.cell? ⟨b,1,none⟩=some (.int K s.b)∧w.cell? ⟨b,2,none⟩=some (.int K s.c)∧w.cell? ⟨b,3,none⟩=some (.int K s.d)∧w.cell? ⟨b,4,none⟩=some (.int K s.e)∧w.cell? ⟨b,5,none⟩=some (.int K s.f)∧w.cell? ⟨b,6,none⟩=some (.int K s.g)∧w.cell? ⟨b,7,none⟩=some (.int K s.h) :=
 ⟨(h 0 (by decide)).1,(h 1 (by decide)).1,(h 2 (by decide)).1,(h 3 (by decide)).1,(h 4 (by decide)).1,(h 5 (by decide)).1,(h 6 (by decide)).1,(h 7 (by decide)).1⟩
def Rules32 (w1:World) (B:Nat):Prop:=w1.cell? ⟨B,0,none⟩=some (.int .i64 32)∧w1.cell? ⟨B,1,none⟩=some (.int .i64 64)∧w1.cell? ⟨B,2,none⟩=some (.int .u64 7)∧w1.cell? ⟨B,3,none⟩=some (.int .u64 18)∧w1.cell? ⟨B,4,none⟩=some (.int .u64 3)∧w1.cell? ⟨B,5,none⟩=some (.int .u64 17)∧w1.cell? ⟨B,6,none⟩=some (.int .u64 19)∧w1.cell? ⟨B,7,none⟩=some (.int .u64 10)∧w1.cell? ⟨B,8,none⟩=some (.int .u64 2)∧w1.cell? ⟨B,9,none⟩=some (.int .u64 13)∧w1.cell? ⟨B,10,none⟩=some (.int .u64 22)∧w1.cell? ⟨B,11,none⟩=some (.int .u64 6)∧w1.cell? ⟨B,12,none⟩=some (.int .u64 11)∧w1.cell? ⟨B,13,none⟩=some (.int .u64 25)
theorem Rules32.below {w1 w2:World} {B n:Nat} (h:Rules32 w1 B) (hb:Below n w1 w2) (hB:B<n):Rules32 w2 B:=by
 have hc:∀ j,w2.cell? ⟨B,j,none⟩=w1.cell? ⟨B,j,none⟩:=fun j=>hb.cell (p:=⟨B,j,none⟩) hB
 unfold Rules32 at *
 simp only [hc]
 exact h
theorem Rules32.of_box {W w1:World} (h:Below (W.heap.size+1) (W.alloc (.cells #[.int .i64 32,.int .i64 64,.int .u64 7,.int .u64 18,.int .u64 3,.int .u64 17,.int .u64 19,.int .u64 10,.int .u64 2,.int .u64 13,.int .u64 22,.int .u64 6,.int .u64 11,.int .u64 25] 63)) w1):Rules32 w1 W.heap.size:=rbox32 h _ rfl
theorem not_32 (e:Nat) (he:e<4294967296):bits .xor .u32 IntKind.u32.max e=((2 ^ 32 - 1 - e:Nat):Int):=by
 have h1:IntKind.u32.max=((4294967295:Nat):Int):=rfl
 rw [h1,u32_xor_nat _ _ (by decide) he]
 have h2:=congrArg BitVec.toNat (BitVec.not_def (x:=BitVec.ofNat 32 e))
 rw [BitVec.toNat_not,BitVec.toNat_xor,BitVec.toNat_allOnes,BitVec.toNat_ofNat,Nat.mod_eq_of_lt he] at h2
 rw [h2]
theorem ch_32 (e f g:Nat) (he:e<4294967296) (hf:f<4294967296) (hg:g<4294967296):bits .xor .u32 (bits .and .u32 e f) (bits .and .u32 (bits .xor .u32 IntKind.u32.max e) g)=((chS 32 e f g:Nat):Int):=by
 rw [not_32 e he,u32_and_nat _ _ he hf,u32_and_nat _ _ (Nat.lt_of_le_of_lt (Nat.sub_le _ _) (by decide)) hg,u32_xor_nat _ _ (Nat.and_lt_two_pow (n:=32) _ hf) (Nat.and_lt_two_pow (n:=32) _ hg)]
 rfl
theorem maj_32 (a b c:Nat) (ha:a<4294967296) (hb:b<4294967296) (hc:c<4294967296):bits .xor .u32 (bits .xor .u32 (bits .and .u32 a b) (bits .and .u32 a c)) (bits .and .u32 b c)=((majS a b c:Nat):Int):=by
 rw [u32_and_nat _ _ ha hb,u32_and_nat _ _ ha hc,u32_and_nat _ _ hb hc,u32_xor_nat _ _ (Nat.and_lt_two_pow (n:=32) _ hb) (Nat.and_lt_two_pow (n:=32) _ hc),u32_xor_nat _ _ (Nat.xor_lt_two_pow (n:=32) (Nat.and_lt_two_pow (n:=32) _ hb) (Nat.and_lt_two_pow (n:=32) _ hc)) (Nat.and_lt_two_pow (n:=32) _ hc)]
 rfl
theorem t1_32 (x:St) (hx:x.lt 4294967296) (kk wt:Nat) (ki:Int) (hki:ki=(kk:Int)):((((((x.h:Int)+hi3 32 x.e (6,11,25))%4294967296+bits .xor .u32 (bits .and .u32 x.e x.f) (bits .and .u32 (bits .xor .u32 IntKind.u32.max x.e) x.g))%4294967296+ki)%4294967296+wt)%4294967296)=((t1S rn kk wt x:Nat):Int):=by
 rw [ch_32 _ _ _ hx.e hx.f hx.g,hki]
 show _=(((x.h+hi3 32 x.e (6,11,25)+chS 32 x.e x.f x.g+kk+wt)%4294967296:Nat):Int)
 generalize hi3 32 x.e (6,11,25)=A
 generalize chS 32 x.e x.f x.g=B
 omega
theorem t2_32 (x:St) (hx:x.lt 4294967296):((hi3 32 x.a (2,13,22):Int)+bits .xor .u32 (bits .xor .u32 (bits .and .u32 x.a x.b) (bits .and .u32 x.a x.c)) (bits .and .u32 x.b x.c))%4294967296=((t2S rn x:Nat):Int):=by
 rw [maj_32 _ _ _ hx.a hx.b hx.c]
 rfl
structure MixIn32 (w w2:World) (s:St) (W:Nat→Nat) (N:Nat):Prop where
 rules:Rules32 w2 w.heap.size
 state:RowAt .u32 w2 (w.heap.size+1) 0 8 s.at
 res:RowAt .u32 w2 (w.heap.size+1+1) 0 8 (fun _=>0)
 row:RowAt .u32 w2 N 0 80 W
 old:Below w.heap.size w w2
 far:w.heap.size+1+1<N
theorem MixIn32.below {w w2 w3:World} {s:St} {W:Nat→Nat} {N:Nat} (h:MixIn32 w w2 s W N) (hb:Below w2.heap.size w2 w3):MixIn32 w w3 s W N:=by
 have hN:N<w2.heap.size:=block_lt_of_cell (h.row 0 (by decide)).1
 have:=h.far
 exact ⟨h.rules.below hb (by omega),h.state.below hb (by omega),h.res.below hb (by omega),h.row.below hb hN,h.old.trans (hb.mono h.old.size),h.far⟩
theorem mixIn32 {w w1:World} {s:St} {W:Nat→Nat} (h:Below (((w.alloc (.cells #[.int .i64 32,.int .i64 64,.int .u64 7,.int .u64 18,.int .u64 3,.int .u64 17,.int .u64 19,.int .u64 10,.int .u64 2,.int .u64 13,.int .u64 22,.int .u64 6,.int .u64 11,.int .u64 25] 63)).alloc (.cells #[.int .u32 s.a,.int .u32 s.b,.int .u32 s.c,.int .u32 s.d,.int .u32 s.e,.int .u32 s.f,.int .u32 s.g,.int .u32 s.h] 56)).alloc (.cells #[.int .u32 0,.int .u32 0,.int .u32 0,.int .u32 0,.int .u32 0,.int .u32 0,.int .u32 0,.int .u32 0] 56)).heap.size (((w.alloc (.cells #[.int .i64 32,.int .i64 64,.int .u64 7,.int .u64 18,.int .u64 3,.int .u64 17,.int .u64 19,.int .u64 10,.int .u64 2,.int .u64 13,.int .u64 22,.int .u64 6,.int .u64 11,.int .u64 25] 63)).alloc (.cells #[.int .u32 s.a,.int .u32 s.b,.int .u32 s.c,.int .u32 s.d,.int .u32 s.e,.int .u32 s.f,.int .u32 s.g,.int .u32 s.h] 56)).alloc (.cells #[.int .u32 0,.int .u32 0,.int .u32 0,.int .u32 0,.int .u32 0,.int .u32 0,.int .u32 0,.int .u32 0] 56)) w1) :
 MixIn32 w ((w1.alloc (.cells zs32 89)).setCells w1.heap.size 0 (ints .u32 80 W)) s W w1.heap.size:=by
 have hz:=h.size
 simp only [World.size_alloc] at hz h
 have g1:Below (w.heap.size+1) (w.alloc (.cells #[.int .i64 32,.int .i64 64,.int .u64 7,.int .u64 18,.int .u64 3,.int .u64 17,.int .u64 19,.int .u64 10,.int .u64 2,.int .u64 13,.int .u64 22,.int .u64 6,.int .u64 11,.int .u64 25] 63)) w1:=(((Below.refl _ _).alloc (by simp) _).alloc (by simp) _).trans (h.mono (by omega))
 have g2:RowAt .u32 w1 (w.heap.size+1) 0 8 s.at:=by
  have a0:RowAt .u32 ((w.alloc (.cells #[.int .i64 32,.int .i64 64,.int .u64 7,.int .u64 18,.int .u64 3,.int .u64 17,.int .u64 19,.int .u64 10,.int .u64 2,.int .u64 13,.int .u64 22,.int .u64 6,.int .u64 11,.int .u64 25] 63)).alloc (.cells #[.int .u32 s.a,.int .u32 s.b,.int .u32 s.c,.int .u32 s.d,.int .u32 s.e,.int .u32 s.f,.int .u32 s.g,.int .u32 s.h] 56)) (w.heap.size+1) 0 8 s.at:=by
   have:=RowAt.fresh (K := .u32) (w:=w.alloc (.cells #[.int .i64 32,.int .i64 64,.int .u64 7,.int .u64 18,.int .u64 3,.int .u64 17,.int .u64 19,.int .u64 10,.int .u64 2,.int .u64 13,.int .u64 22,.int .u64 6,.int .u64 11,.int .u64 25] 63)) (cs:=#[.int .u32 s.a,.int .u32 s.b,.int .u32 s.c,.int .u32 s.d,.int .u32 s.e,.int .u32 s.f,.int .u32 s.g,.int .u32 s.h]) (t:=56) (n:=8) (X:=s.at) (fun j hj=>by
    match j,hj with
    | 0,_=>rfl
    | 1,_=>rfl
    | 2,_=>rfl
    | 3,_=>rfl
    | 4,_=>rfl
    | 5,_=>rfl
    | 6,_=>rfl
    | 7,_=>rfl)
   simpa using this
  exact (a0.alloc (by simp) _).below h (by omega)
 have g3:RowAt .u32 w1 (w.heap.size+1+1) 0 8 (fun _=>0):=by
  have a0:RowAt .u32 (((w.alloc (.cells #[.int .i64 32,.int .i64 64,.int .u64 7,.int .u64 18,.int .u64 3,.int .u64 17,.int .u64 19,.int .u64 10,.int .u64 2,.int .u64 13,.int .u64 22,.int .u64 6,.int .u64 11,.int .u64 25] 63)).alloc (.cells #[.int .u32 s.a,.int .u32 s.b,.int .u32 s.c,.int .u32 s.d,.int .u32 s.e,.int .u32 s.f,.int .u32 s.g,.int .u32 s.h] 56)).alloc (.cells #[.int .u32 0,.int .u32 0,.int .u32 0,.int .u32 0,.int .u32 0,.int .u32 0,.int .u32 0,.int .u32 0] 56)) (w.heap.size+1+1) 0 8 (fun _=>0):=by
   have:=RowAt.fresh (K := .u32) (w:=(w.alloc (.cells #[.int .i64 32,.int .i64 64,.int .u64 7,.int .u64 18,.int .u64 3,.int .u64 17,.int .u64 19,.int .u64 10,.int .u64 2,.int .u64 13,.int .u64 22,.int .u64 6,.int .u64 11,.int .u64 25] 63)).alloc (.cells #[.int .u32 s.a,.int .u32 s.b,.int .u32 s.c,.int .u32 s.d,.int .u32 s.e,.int .u32 s.f,.int .u32 s.g,.int .u32 s.h] 56)) (cs:=#[.int .u32 0,.int .u32 0,.int .u32 0,.int .u32 0,.int .u32 0,.int .u32 0,.int .u32 0,.int .u32 0]) (t:=56) (n:=8) (X:=fun _=>0) (fun j hj=>by
    match j,hj with
    | 0,_=>rfl
    | 1,_=>rfl
    | 2,_=>rfl
    | 3,_=>rfl
    | 4,_=>rfl
    | 5,_=>rfl
    | 6,_=>rfl
    | 7,_=>rfl)
   simpa using this
  exact a0.below h (by omega)
 have hnew:RowAt .u32 (w1.alloc (.cells zs32 89)) w1.heap.size 0 80 (fun _=>0):=RowAt.fresh (fun j hj=>zs32_at j hj)
 have hb2:Below w1.heap.size w1 ((w1.alloc (.cells zs32 89)).setCells w1.heap.size 0 (ints .u32 80 W)):=below_setCells (Nat.le_refl _) _ _ _ ((Below.refl _ _).alloc (Nat.le_refl _) _)
 have ho:Below w.heap.size w w1:=((((Below.refl _ _).alloc (Nat.le_refl _) _).alloc (by simp) _).alloc (by simp only [World.size_alloc];omega) _).trans (h.mono (by omega))
 refine ⟨(Rules32.of_box g1).below hb2 (by omega),g2.below hb2 (by omega),g3.below hb2 (by omega),fun j hj=>⟨?_,?_⟩,ho.trans (hb2.mono (by omega)),by omega⟩
 · exact World.rangeAt_setCells_same _ _ _ _ (by rw [ints_len];exact hnew.there) j _ (ints_at _ _ _ j hj)
 · rw [World.frozen?_setCells];exact (hnew j hj).2
set_option maxRecDepth 20000 in
set_option maxHeartbeats 1000000 in
theorem mix32_any (K:Nat→Nat) (hK:∀ j,K j<18446744073709551616) (s:St) (hs:s.lt 4294967296) (bb ob cap:Nat) (bs:Nat→Nat) (hbs:∀ j,bs j<256) (w:World)
 (hcub:∀ j,j<80→w.cell? ⟨2,j,none⟩=some (.int .u64 (K j))) (hcell:∀ j,j<64→w.cell? ⟨bb,ob+j,none⟩=some (.int .u8 (bs j))) :
 Calls Tryd.prog 47 #[(.agg #[.int .i64 32,.int .i64 64,.int .u64 7,.int .u64 18,.int .u64 3,.int .u64 17,.int .u64 19,.int .u64 10,.int .u64 2,.int .u64 13,.int .u64 22,.int .u64 6,.int .u64 11,.int .u64 25]),.agg #[.int .u32 s.a,.int .u32 s.b,.int .u32 s.c,.int .u32 s.d,.int .u32 s.e,.int .u32 s.f,.int .u32 s.g,.int .u32 s.h],.slice (some ⟨bb,ob,none⟩) 64 cap] w
  fun e w'=>e = .returned (.agg (St.vals .u32 (blockS rn K bs s)))∧Below w.heap.size w w':=by
 have hz:=zero89
 have hbb:bb<w.heap.size:=block_lt_of_cell (hcell 0 (by decide))
 have h3:2<w.heap.size:=block_lt_of_cell (hcub 0 (by decide))
 have hcell':∀ j,j<64→(((w.alloc (.cells #[.int .i64 32,.int .i64 64,.int .u64 7,.int .u64 18,.int .u64 3,.int .u64 17,.int .u64 19,.int .u64 10,.int .u64 2,.int .u64 13,.int .u64 22,.int .u64 6,.int .u64 11,.int .u64 25] 63)).alloc (.cells #[.int .u32 s.a,.int .u32 s.b,.int .u32 s.c,.int .u32 s.d,.int .u32 s.e,.int .u32 s.f,.int .u32 s.g,.int .u32 s.h] 56)).alloc (.cells #[.int .u32 0,.int .u32 0,.int .u32 0,.int .u32 0,.int .u32 0,.int .u32 0,.int .u32 0,.int .u32 0] 56)).cell? ⟨bb,ob+j,none⟩=some (.int .u8 (bs j)):=fun j hj=>by
  rw [World.cell?_alloc_lt _ _ _ (by simp;omega),World.cell?_alloc_lt _ _ _ (by simp;omega),World.cell?_alloc_lt _ _ _ hbb];exact hcell j hj
 have hW:∀ j,sch rn (fill 32 4 bs 64) (64 - 16) j<4294967296:=sch_lt (r:=rn) (fill_lt (fun j=>Nat.lt_of_lt_of_le (hbs j) (by decide)) 64) _
 obtain ⟨W,hW'⟩:∃ W,W=sch rn (fill 32 4 bs 64) (64 - 16):=⟨_,rfl⟩
 have HW:Hid (W=sch rn (fill 32 4 bs 64) (64 - 16)):=hW'
 have hsp:=spread32_any bb ob cap bs hbs (((w.alloc (.cells #[.int .i64 32,.int .i64 64,.int .u64 7,.int .u64 18,.int .u64 3,.int .u64 17,.int .u64 19,.int .u64 10,.int .u64 2,.int .u64 13,.int .u64 22,.int .u64 6,.int .u64 11,.int .u64 25] 63)).alloc (.cells #[.int .u32 s.a,.int .u32 s.b,.int .u32 s.c,.int .u32 s.d,.int .u32 s.e,.int .u32 s.f,.int .u32 s.g,.int .u32 s.h] 56)).alloc (.cells #[.int .u32 0,.int .u32 0,.int .u32 0,.int .u32 0,.int .u32 0,.int .u32 0,.int .u32 0,.int .u32 0] 56)) hcell'
 rw [←hW'] at hW hsp
 clear hW' hcell hcell'
 have hi:(Tryd.prog.info? 89).map (·.size)=some (ints .u32 80 W).toArray.size:=by simp only [List.size_toArray,ints_len];kernel_rfl
 have hone:=all_oneCell_toArray (ints_one .u32 80 W)
 go_enter Tryd.func47,Tryd.ntmps47
 go_wp2_with (first
  | (go_at_call 56;refine hsp.mono ?_;clear hsp;rintro e w1 ⟨rfl,hb1⟩;have HM:=mixIn32 (W:=W) hb1;have ht:(w1.alloc (.cells zs32 89)).there w1.heap.size 0 (ints .u32 80 W).toArray.size:=(by simp only [List.size_toArray,ints_len];exact (RowAt.fresh (K := .u32) (X:=fun _=>0) (fun j hj=>zs32_at j hj)).there);clear hb1)
  | (refine wpList_store_mid rfl 89 _ _ rfl _ 0 _ rfl rfl ht hi hone ?_;rw [List.toList_toArray];obtain ⟨w2,hw2⟩:∃ w2,w2=(w1.alloc (.cells zs32 89)).setCells w1.heap.size 0 (ints .u32 80 W):=⟨_,rfl⟩;rw [←hw2] at HM ⊢;clear hw2 ht hi hone hz;have p0:=HM.rules.1;have p1:=HM.rules.2.1;obtain ⟨q0,q1,q2,q3,q4,q5,q6,q7⟩:=HM.state.st))
 go_quiet (fail)
 go_wp2
 clear p0 p1 q0 q1 q2 q3 q4 q5 q6 q7
 go_loopw [9,10,11,12,13,14,15,16,44] (fun a b c d e f g h i wr=>∃ k:Nat,k≤64∧i = .int .i64 k∧a = .int .u32 (roundsS rn K W s k).a∧b = .int .u32 (roundsS rn K W s k).b∧c = .int .u32 (roundsS rn K W s k).c∧d = .int .u32 (roundsS rn K W s k).d∧e = .int .u32 (roundsS rn K W s k).e∧f = .int .u32 (roundsS rn K W s k).f∧g = .int .u32 (roundsS rn K W s k).g∧h = .int .u32 (roundsS rn K W s k).h∧MixIn32 w wr s W w1.heap.size) (fun _ _ _ _ _ _ _ _ i _=>64 - (intOf i).toNat)
 case atStart=>exact ⟨0,Nat.zero_le _,rfl,rfl,rfl,rfl,rfl,rfl,rfl,rfl,rfl,HM.below (below_drewN (Below.refl _ _) _)⟩
 case round =>
  clear HM
  obtain ⟨k,hk,rfl,rfl,rfl,rfl,rfl,rfl,rfl,rfl,rfl,HM⟩:=hrel
  by_cases hlt:k<64
  · have hx:(roundsS rn K W s k).lt 4294967296:=roundsS_lt (r:=rn) hs k
    obtain ⟨x,hxe⟩:∃ x,x=roundsS rn K W s k:=⟨_,rfl⟩
    have HX:Hid (x=roundsS rn K W s k):=hxe
    rw [←hxe] at hx ⊢
    clear hxe
    obtain ⟨p0,p1,p2,p3,p4,p5,p6,p7,p8,p9,p10,p11,p12,p13⟩:=HM.rules
    have hN:w1.heap.size<wr.heap.size:=block_lt_of_cell (HM.row 0 (by decide)).1
    have hM:=HM.far
    have g3:2<wr.heap.size:=by omega
    have g0:w.heap.size<wr.heap.size:=by omega
    have ck:wr.cell? ⟨2,k,none⟩=some (.int .u64 (K k)):=(HM.old.cell (p:=⟨2,k,none⟩) h3).trans (hcub k (by omega))
    have wk:wr.cell? ⟨w1.heap.size,k,none⟩=some (.int .u32 (W k)):=by have:=(HM.row k (by omega)).1;rw [Nat.zero_add] at this;exact this
    have hS:∀ w':World,Below wr.heap.size wr w'→∀ b o,b<wr.heap.size→w'.cell? ⟨b,o,none⟩=wr.cell? ⟨b,o,none⟩:=fun w' h b o hb=>h.cell (p:=⟨b,o,none⟩) hb
    have hb0:Below wr.heap.size wr wr.drew:=(Below.refl _ _).drew
    have hxe:=hx.e
    have hxa:=hx.a
    have hKk:=hK k
    have k80:k<80:=by omega
    have ki:(0:Int)≤(k:Int)∧(k:Int)<80:=by omega
    clear hcub
    go_wp2
    go_region_held3 (fun w'=>Below wr.heap.size wr w') (assumption) (first
     | (go_at_call 57;refine (turnAll32_any _ _ _ _ hxe (by decide) (by decide) (by decide) _).mono ?_;rintro e w' ⟨rfl,hb⟩;have hbn:=below_next (W:=wr) (by assumption) hb)
     | (go_at_call 45;refine (highest32_any _ hKk _).mono ?_;rintro e w' ⟨rfl,hb⟩;have hbn:=below_next (W:=wr) (by assumption) hb))
    clear ck wk hS hb0 hKk
    have q8:w'.cell? ⟨w.heap.size,8,none⟩=some (.int .u64 2):=(hbn.cell (p:=⟨w.heap.size,8,none⟩) g0).trans p8
    have q9:w'.cell? ⟨w.heap.size,9,none⟩=some (.int .u64 13):=(hbn.cell (p:=⟨w.heap.size,9,none⟩) g0).trans p9
    have q10:w'.cell? ⟨w.heap.size,10,none⟩=some (.int .u64 22):=(hbn.cell (p:=⟨w.heap.size,10,none⟩) g0).trans p10
    clear p0 p1 p2 p3 p4 p5 p6 p7 p8 p9 p10 p11 p12 p13
    go_wp2_with (go_at_call 57;refine (turnAll32_any _ _ _ _ hxa (by decide) (by decide) (by decide) _).mono ?_;rintro e w5 ⟨rfl,hb5⟩;have hbn5:=below_next (W:=wr) hbn hb5;clear q8 q9 q10)
    go_roundw
    case rel =>
     have hx':roundsS rn K W s (k+1)=stepS rn (K k / 2 ^ (64 - 32)) (W k) x:=by rw [HX.out];rfl
     have e1:=t1_32 x hx (K k / 2 ^ (64 - 32)) (W k) ((K k:Int) / 4294967296) (by simp)
     have e2:=t2_32 x hx
     refine ⟨k+1,hlt,by go_num,?_⟩
     rw [hx']
     try simp only [IntKind.wrap_u32']
     rw [e1,e2]
     exact ⟨rfl,rfl,rfl,rfl,rfl,rfl,rfl,rfl,HM.below hbn5⟩
    case measure=>simp [intOf];omega
  · have hke:k=64:=by omega
    subst hke
    obtain ⟨x,hxe⟩:∃ x,x=roundsS rn K W s 64:=⟨_,rfl⟩
    have HX:Hid (x=roundsS rn K W s 64):=hxe
    rw [←hxe]
    clear hxe
    obtain ⟨q0,q1,q2,q3,q4,q5,q6,q7⟩:=HM.state.st
    have ht:wr.there (w.heap.size+1+1) 0 8:=HM.res.there
    clear hcub
    go_wp2_with (refine wpList_store_mid rfl 56 _ _ rfl _ 0 _ rfl rfl ht (by kernel_rfl) (by simp [Value.oneCell']) ?_)
    have hbl:blockS rn K bs s=addS rn s x:=by rw [HX.out,HW.out];rfl
    refine bodyPost_ret (results_cell_mid Tryd.results47 _ _ (w.heap.size+1+1) 0 _ _ rfl (World.rangeAt_setCells_same _ _ _ _ ht) Tryd.underlying56 rfl (by kernel_rfl)) rfl ⟨?_,below_setCells (by omega) _ _ _ HM.old⟩
    rw [hbl]
    rfl
def Rules64 (w1:World) (B:Nat):Prop:=w1.cell? ⟨B,0,none⟩=some (.int .i64 64)∧w1.cell? ⟨B,1,none⟩=some (.int .i64 80)∧w1.cell? ⟨B,2,none⟩=some (.int .u64 1)∧w1.cell? ⟨B,3,none⟩=some (.int .u64 8)∧w1.cell? ⟨B,4,none⟩=some (.int .u64 7)∧w1.cell? ⟨B,5,none⟩=some (.int .u64 19)∧w1.cell? ⟨B,6,none⟩=some (.int .u64 61)∧w1.cell? ⟨B,7,none⟩=some (.int .u64 6)∧w1.cell? ⟨B,8,none⟩=some (.int .u64 28)∧w1.cell? ⟨B,9,none⟩=some (.int .u64 34)∧w1.cell? ⟨B,10,none⟩=some (.int .u64 39)∧w1.cell? ⟨B,11,none⟩=some (.int .u64 14)∧w1.cell? ⟨B,12,none⟩=some (.int .u64 18)∧w1.cell? ⟨B,13,none⟩=some (.int .u64 41)
theorem Rules64.below {w1 w2:World} {B n:Nat} (h:Rules64 w1 B) (hb:Below n w1 w2) (hB:B<n):Rules64 w2 B:=by
 have hc:∀ j,w2.cell? ⟨B,j,none⟩=w1.cell? ⟨B,j,none⟩:=fun j=>hb.cell (p:=⟨B,j,none⟩) hB
 unfold Rules64 at *
 simp only [hc]
 exact h
theorem Rules64.of_box {W w1:World} (h:Below (W.heap.size+1) (W.alloc (.cells #[.int .i64 64,.int .i64 80,.int .u64 1,.int .u64 8,.int .u64 7,.int .u64 19,.int .u64 61,.int .u64 6,.int .u64 28,.int .u64 34,.int .u64 39,.int .u64 14,.int .u64 18,.int .u64 41] 63)) w1):Rules64 w1 W.heap.size:=rbox64 h _ rfl
theorem not_64 (e:Nat) (he:e<18446744073709551616):bits .xor .u64 IntKind.u64.max e=((2 ^ 64 - 1 - e:Nat):Int):=by
 have h1:IntKind.u64.max=((18446744073709551615:Nat):Int):=rfl
 rw [h1,u64_xor_nat _ _ (by decide) he]
 have h2:=congrArg BitVec.toNat (BitVec.not_def (x:=BitVec.ofNat 64 e))
 rw [BitVec.toNat_not,BitVec.toNat_xor,BitVec.toNat_allOnes,BitVec.toNat_ofNat,Nat.mod_eq_of_lt he] at h2
 rw [h2]
theorem ch_64 (e f g:Nat) (he:e<18446744073709551616) (hf:f<18446744073709551616) (hg:g<18446744073709551616):bits .xor .u64 (bits .and .u64 e f) (bits .and .u64 (bits .xor .u64 IntKind.u64.max e) g)=((chS 64 e f g:Nat):Int):=by
 rw [not_64 e he,u64_and_nat _ _ he hf,u64_and_nat _ _ (Nat.lt_of_le_of_lt (Nat.sub_le _ _) (by decide)) hg,u64_xor_nat _ _ (Nat.and_lt_two_pow (n:=64) _ hf) (Nat.and_lt_two_pow (n:=64) _ hg)]
 rfl
theorem maj_64 (a b c:Nat) (ha:a<18446744073709551616) (hb:b<18446744073709551616) (hc:c<18446744073709551616):bits .xor .u64 (bits .xor .u64 (bits .and .u64 a b) (bits .and .u64 a c)) (bits .and .u64 b c)=((majS a b c:Nat):Int):=by
 rw [u64_and_nat _ _ ha hb,u64_and_nat _ _ ha hc,u64_and_nat _ _ hb hc,u64_xor_nat _ _ (Nat.and_lt_two_pow (n:=64) _ hb) (Nat.and_lt_two_pow (n:=64) _ hc),u64_xor_nat _ _ (Nat.xor_lt_two_pow (n:=64) (Nat.and_lt_two_pow (n:=64) _ hb) (Nat.and_lt_two_pow (n:=64) _ hc)) (Nat.and_lt_two_pow (n:=64) _ hc)]
 rfl
theorem addv_64 (a b:Nat):((a:Int)+b)%18446744073709551616=(((a+b)%2 ^ 64:Nat):Int):=rfl
structure MixIn64 (w w2:World) (s:St) (W:Nat→Nat) (N:Nat):Prop where
 rules:Rules64 w2 w.heap.size
 state:RowAt .u64 w2 (w.heap.size+1) 0 8 s.at
 res:RowAt .u64 w2 (w.heap.size+1+1) 0 8 (fun _=>0)
 row:RowAt .u64 w2 N 0 80 W
 old:Below w.heap.size w w2
 far:w.heap.size+1+1<N
theorem MixIn64.below {w w2 w3:World} {s:St} {W:Nat→Nat} {N:Nat} (h:MixIn64 w w2 s W N) (hb:Below w2.heap.size w2 w3):MixIn64 w w3 s W N:=by
 have hN:N<w2.heap.size:=block_lt_of_cell (h.row 0 (by decide)).1
 have:=h.far
 exact ⟨h.rules.below hb (by omega),h.state.below hb (by omega),h.res.below hb (by omega),h.row.below hb hN,h.old.trans (hb.mono h.old.size),h.far⟩
end Go.Proofs.YtibdhadbflfdpaaDoor
namespace Go.Proofs.YtibdhadbflfdpaaDoor
open Go.RowKit
structure EngAt (K:IntKind) (w:World) (b o:Nat) (s:St) (R:Nat→Nat) (c:Nat):Prop where
 st:RowAt K w b o 8 s.at
 rest:RowAt .u8 w b (o+8) 128 R
 cnt:w.cell? ⟨b,o+136,none⟩=some (.int .i64 c)
 cntf:w.frozen? ⟨b,o+136,none⟩=false
theorem EngAt.below {K:IntKind} {w w':World} {b o:Nat} {s:St} {R:Nat→Nat} {c:Nat} (h:EngAt K w b o s R c) (hb:Below w.heap.size w w'):EngAt K w' b o s R c:=by
 have hl:b<w.heap.size:=block_lt_of_cell h.cnt
 exact ⟨h.st.below hb hl,h.rest.below hb hl,(hb.cell (p:=⟨b,o+136,none⟩) hl).trans h.cnt,(hb.frozen (p:=⟨b,o+136,none⟩) hl).trans h.cntf⟩
theorem EngAt.count {K:IntKind} {w:World} {b o:Nat} {s:St} {R:Nat→Nat} {c:Nat} (h:EngAt K w b o s R c) {v:Int} {c':Nat} (hv:v=(c':Int)):EngAt K (w.setCell ⟨b,o+136,none⟩ (.int .i64 v)) b o s R c':=by
 refine ⟨h.st.apart (o+136) [.int .i64 v] (.inl (by omega)),h.rest.apart (o+136) [.int .i64 v] (.inl (by omega)),?_,by rw [World.frozen?_setCell];exact h.cntf⟩
 rw [World.cell?_setCell_same _ _ _ h.cnt,hv]
theorem EngAt.bytes {K:IntKind} {w:World} {b o:Nat} {s:St} {R:Nat→Nat} {c:Nat} (h:EngAt K w b o s R c) (i n:Nat) (Y:Nat→Nat) (hi:i+n≤128):EngAt K (w.setCells b (o+8+i) (ints .u8 n Y)) b o s (over R i n Y) c:=by
 refine ⟨h.st.apart _ _ (.inl (by omega)),h.rest.splice i n Y hi,?_,by rw [World.frozen?_setCells];exact h.cntf⟩
 rw [World.cell?_setCells_out b _ _ w _ (fun _ _=>by rw [ints_len];show o+136<o+8+i∨o+8+i+n≤o+136;omega)]
 exact h.cnt
theorem vals_ints (K:IntKind) (s:St):(St.vals K s).toList=ints K 8 s.at:=rfl
theorem EngAt.state {K:IntKind} {w:World} {b o:Nat} {s:St} {R:Nat→Nat} {c:Nat} (h:EngAt K w b o s R c) (s':St):EngAt K (w.setCells b o (St.vals K s').toList) b o s' R c:=by
 have e:over s.at 0 8 s'.at=over s.at 0 8 s'.at:=rfl
 have h1:=h.st.splice 0 8 s'.at (by decide)
 rw [Nat.add_zero] at h1
 rw [vals_ints]
 refine ⟨fun j hj => ?_,h.rest.apart _ _ (.inr (by rw [ints_len];omega)),?_,by rw [World.frozen?_setCells];exact h.cntf⟩
 · have:=h1 j hj
   have e2:over s.at 0 8 s'.at j=s'.at j:=by simp [over,hj]
   rw [e2] at this
   exact this
 · rw [World.cell?_setCells_out b _ _ w _ (fun _ _=>by rw [ints_len];show o+136<o∨o+8≤o+136;omega)]
   exact h.cnt
def loopS (r:Ru) (K:Nat→Nat) (s:St) (bs:Nat→Nat):Nat→St
 | 0=>s
 | i+1=>blockS r K (fun j=>bs (i*(2*r.m)+j)) (loopS r K s bs i)
theorem loopS_lt {r:Ru} {K:Nat→Nat} {s:St} {bs:Nat→Nat} (h:s.lt (2 ^ r.m)):∀ i,(loopS r K s bs i).lt (2 ^ r.m)
 | 0=>h
 | _+1=>addS_lt
def tailE (r:Ru) (K:Nat→Nat) (s:St) (R:Nat→Nat) (n:Nat) (bs:Nat→Nat):St × (Nat→Nat) :=
 (loopS r K s bs (n / (2*r.m)),over R 0 (n%(2*r.m)) (fun j=>bs (n / (2*r.m)*(2*r.m)+j)))
def writeE (r:Ru) (K:Nat→Nat) (s:St) (R:Nat→Nat) (c n:Nat) (bs:Nat→Nat):St × (Nat→Nat) :=
 if c%(2*r.m)=0 then tailE r K s R n bs
 else if c%(2*r.m)+n<2*r.m then (s,over R (c%(2*r.m)) n bs)
 else tailE r K (blockS r K (over R (c%(2*r.m)) (2*r.m - c%(2*r.m)) bs) s) (over R (c%(2*r.m)) (2*r.m - c%(2*r.m)) bs) (n - (2*r.m - c%(2*r.m))) (fun j=>bs (2*r.m - c%(2*r.m)+j))
end Go.Proofs.YtibdhadbflfdpaaDoor
