/- What the proof stands on: Base, Narrow, RWk. -/
import Derived.Test.YtddkbmnkbfciaaaGreatDoorRows
import Derived.ArgAppend
import Derived.BigQuiet
import Derived.Deep.AppendLies
import Derived.Deep.Cut
import Derived.Deep.MidRow
import Derived.Deep.QuietTactic
import Derived.Deep.RegionHeld3
import Derived.Deep.RegionLawGrows
import Derived.Deep.Upon
import Derived.Laws.Bits64
import Derived.Laws.Bits64b
import Derived.Laws.BitsAllLaws
import Derived.WalkKit
import Derived.WalkLawsBesides
import Derived.WalkSpells
namespace Go.Proofs.YtddkbmnkbfciaaaGreatDoor
open Go.RowKit
theorem Hid.mk' {P:Prop} (h:P):Hid P:=h
theorem retInt {k:IntKind} {a b:Int} (h:a=b):Ending.returned (.int k a) = .returned (.int k b):=by rw [h]
theorem below_drewN {B:Nat} {a w:World} (h:Below B a w) (n:Nat):Below B a (w.drewN n):=⟨h.os,h.tape,h.output,h.size,h.block⟩
def upd (X:Nat→Nat) (i v:Nat):Nat→Nat:=fun j=>if j=i then v else X j
def RowAt (K:IntKind) (w:World) (b o n:Nat) (X:Nat→Nat):Prop:=∀ j,j<n→w.cell? ⟨b,o+j,none⟩=some (.int K (X j))∧w.frozen? ⟨b,o+j,none⟩=false
theorem RowAt.drew {K:IntKind} {w:World} {b o n:Nat} {X:Nat→Nat} (h:RowAt K w b o n X):RowAt K w.drew b o n X:=fun j hj=>h j hj
theorem RowAt.set {K:IntKind} {w:World} {b o n:Nat} {X:Nat→Nat} (h:RowAt K w b o n X) {i:Nat} (hi:i<n) {v:Int} {u:Nat} (hv:v=(u:Int)):RowAt K (w.setCell ⟨b,o+i,none⟩ (.int K v)) b o n (upd X i u):=fun j hj=>by
 refine ⟨?_,by rw [World.frozen?_setCell];exact (h j hj).2⟩
 by_cases e:j=i
 · subst e;rw [World.cell?_setCell_same _ _ _ (h j hj).1];simp [upd,hv]
 · have hne:(⟨b,o+i,none⟩:Addr)≠⟨b,o+j,none⟩:=fun h=>by injection h;omega
   rw [World.cell?_setCell_other _ _ _ _ hne];simp [upd,e,(h j hj).1]
theorem RowAt.far {K:IntKind} {w:World} {b o n:Nat} {X:Nat→Nat} (h:RowAt K w b o n X) {a:Addr} (ha:a.block≠b) (v:Value):RowAt K (w.setCell a v) b o n X:=fun j hj=>by
 refine ⟨?_,by rw [World.frozen?_setCell];exact (h j hj).2⟩
 rw [World.cell?_setCell_other _ _ _ _ (fun e=>ha (by rw [e]))];exact (h j hj).1
theorem RowAt.below {K:IntKind} {B:Nat} {w w':World} {b o n:Nat} {X:Nat→Nat} (h:RowAt K w b o n X) (hb:Below B w w') (hB:b<B):RowAt K w' b o n X:=fun j hj =>
 ⟨(hb.cell (p:=⟨b,o+j,none⟩) hB).trans (h j hj).1,(hb.frozen (p:=⟨b,o+j,none⟩) hB).trans (h j hj).2⟩
theorem RowAt.fresh {K:IntKind} {w:World} {cs:Array Value} {t:TypeId} {n:Nat} {X:Nat→Nat} (h:∀ j,j<n→cs[j]? = some (.int K (X j))):RowAt K (w.alloc (.cells cs t)) w.heap.size 0 n X:=fun j hj=>by
 constructor
 · simp [h j hj]
 · simp
theorem RowAt.alloc {K:IntKind} {w:World} {b o n:Nat} {X:Nat→Nat} (h:RowAt K w b o n X) (hb:b<w.heap.size) (ob:Obj):RowAt K (w.alloc ob) b o n X :=
 h.below ((Below.refl w.heap.size w).alloc (Nat.le_refl _) ob) hb
def ints (K:IntKind) (n:Nat) (X:Nat→Nat):List Value:=(List.range n).map fun j => .int K (X j)
theorem ints_len (K:IntKind) (n:Nat) (X:Nat→Nat):(ints K n X).length=n:=by simp [ints]
theorem ints_at (K:IntKind) (n:Nat) (X:Nat→Nat) (j:Nat) (h:j<n):(ints K n X)[j]? = some (.int K (X j)):=by simp [ints,h]
theorem ints_one (K:IntKind) (n:Nat) (X:Nat→Nat):∀ v∈ints K n X,v.oneCell'=true:=fun v hv=>by
 simp only [ints,List.mem_map] at hv
 obtain ⟨_,_,rfl⟩:=hv
 rfl
theorem RowAt.range {K:IntKind} {w:World} {b o n:Nat} {X:Nat→Nat} (h:RowAt K w b o n X):w.rangeAt b o (ints K n X):=fun j v hv=>by
 have hj:j<n:=by have:=(List.getElem?_eq_some_iff.1 hv).1;rwa [ints_len] at this
 rw [ints_at K n X j hj] at hv
 rw [←hv];exact (h j hj).1
theorem RowAt.there {K:IntKind} {w:World} {b o n:Nat} {X:Nat→Nat} (h:RowAt K w b o n X):w.there b o n:=fun j hj=>by
 rw [(h j hj).1];exact ⟨rfl,(h j hj).2⟩
theorem results_cell_mid {P:Program} {fn:Func} {p:Tmp} {ty:TypeId} (h:fn.results=#[.cell p ty]) (tmps:Array Value) (w:World) (g o:Nat) (cs:List Value) (d:TypeDesc)
 (hp:tmps.getD p undef = .pointer (some ⟨g,o,none⟩)) (hc:w.rangeAt g o cs)
 (hu:P.underlying ty=some d) (hd:d.isRow=true) (hi:(P.info? ty).map (·.size)=some cs.length) :
 (results fn tmps).run P w = .ok (.agg cs.toArray) w:=by
 have hp':tmps[p]?.getD undef = .pointer (some ⟨g,o,none⟩):=by simpa using hp
 simp [results,h,hp',asAddr,run_loadVar_mid w g o ty cs d hc hu hd hi]
theorem below_setCells {B:Nat} {a:World} {b:Nat} (hb:B≤b):∀ (vs:List Value) (o:Nat) (w:World),Below B a w→Below B a (w.setCells b o vs)
 | [],_,_,h=>h
 | v :: r,o,w,h=>by rw [World.setCells];exact below_setCells hb r (o+1) _ (h.setCell hb v)
theorem below_next {W a b:World} (h:Below W.heap.size W a) (hb:Below a.heap.size a b):Below W.heap.size W b:=h.trans (hb.mono h.size)
def Near (b o:Nat) (W w':World):Prop:=∃ w0,Below W.heap.size W w0∧(w'=w0∨∃ u,w'=w0.setCell ⟨b,o,none⟩ u)
theorem Near.of_below {b o:Nat} {W w':World} (h:Below W.heap.size W w'):Near b o W w':=⟨w',h,.inl rfl⟩
theorem Near.set {b o:Nat} {W w':World} (h:Below W.heap.size W w') (u:Value):Near b o W (w'.setCell ⟨b,o,none⟩ u):=⟨w',h,.inr ⟨u,rfl⟩⟩
theorem Near.cell {b o:Nat} {W w':World} (h:Near b o W w') (p q:Nat) (hp:p<W.heap.size) (hne:p=b→q≠o):w'.cell? ⟨p,q,none⟩=W.cell? ⟨p,q,none⟩:=by
 obtain ⟨w0,hb,rfl | ⟨u,rfl⟩⟩:=h
 · exact hb.cell (p:=⟨p,q,none⟩) hp
 · rw [World.cell?_setCell_other _ _ _ _ (fun e=>by injection e with e1 e2;exact hne e1.symm e2.symm)];exact hb.cell (p:=⟨p,q,none⟩) hp
theorem Near.frozen {b o:Nat} {W w':World} (h:Near b o W w') (p q:Nat) (hp:p<W.heap.size):w'.frozen? ⟨p,q,none⟩=W.frozen? ⟨p,q,none⟩:=by
 obtain ⟨w0,hb,rfl | ⟨u,rfl⟩⟩:=h
 · exact hb.frozen (p:=⟨p,q,none⟩) hp
 · rw [World.frozen?_setCell];exact hb.frozen (p:=⟨p,q,none⟩) hp
theorem Near.some {b o:Nat} {W w':World} (h:Near b o W w') {v:Value} (hv:W.cell? ⟨b,o,none⟩ = .some v):∃ u,w'.cell? ⟨b,o,none⟩ = .some u:=by
 obtain ⟨w0,hb,rfl | ⟨u,rfl⟩⟩:=h
 · exact ⟨v,(hb.cell (p:=⟨b,o,none⟩) (block_lt_of_cell hv)).trans hv⟩
 · exact ⟨u,World.cell?_setCell_same _ _ _ ((hb.cell (p:=⟨b,o,none⟩) (block_lt_of_cell hv)).trans hv)⟩
structure Out (b o n:Nat) (w w':World):Prop where
 os:w'.os=w.os
 tape:w'.tape=w.tape
 output:w'.output=w.output
 size:w.heap.size≤w'.heap.size
 block:∀ k,k<w.heap.size→k≠b→w'.heap[k]? = w.heap[k]?
 cell:∀ q,(q<o∨o+n≤q)→w'.cell? ⟨b,q,none⟩=w.cell? ⟨b,q,none⟩
 frozen:∀ q,w'.frozen? ⟨b,q,none⟩=w.frozen? ⟨b,q,none⟩
theorem Out.refl (b o n:Nat) (w:World):Out b o n w w:=⟨rfl,rfl,rfl,Nat.le_refl _,fun _ _ _=>rfl,fun _ _=>rfl,fun _=>rfl⟩
theorem Out.trans {b o n:Nat} {u v w:World} (h:Out b o n u v) (k:Out b o n v w):Out b o n u w :=
 ⟨k.os.trans h.os,k.tape.trans h.tape,k.output.trans h.output,Nat.le_trans h.size k.size,fun i hi hb=>(k.block i (Nat.lt_of_lt_of_le hi h.size) hb).trans (h.block i hi hb),fun q hq=>(k.cell q hq).trans (h.cell q hq),fun q=>(k.frozen q).trans (h.frozen q)⟩
theorem Out.of_below {b o n:Nat} {w w':World} (h:Below w.heap.size w w') (hb:b<w.heap.size):Out b o n w w' :=
 ⟨h.os,h.tape,h.output,h.size,fun k hk _=>h.block k hk,fun q _=>h.cell (p:=⟨b,q,none⟩) hb,fun q=>h.frozen (p:=⟨b,q,none⟩) hb⟩
theorem heap_setCells_other (b:Nat):∀ (vs:List Value) (o:Nat) (w:World) (k:Nat),k≠b→(w.setCells b o vs).heap[k]? = w.heap[k]?
 | [],_,_,_,_=>rfl
 | v :: r,o,w,k,h=>by rw [World.setCells,heap_setCells_other b r (o+1) _ k h];exact Below.heap_setCell w ⟨b,o,none⟩ v k h
theorem setCells_same (b:Nat):∀ (vs:List Value) (o:Nat) (w:World),(w.setCells b o vs).os=w.os∧(w.setCells b o vs).tape=w.tape∧(w.setCells b o vs).output=w.output∧(w.setCells b o vs).heap.size=w.heap.size
 | [],_,_=>⟨rfl,rfl,rfl,rfl⟩
 | v :: r,o,w=>by
  have h:=setCells_same b r (o+1) (w.setCell ⟨b,o,none⟩ v)
  rw [World.setCells]
  exact ⟨h.1,h.2.1,h.2.2.1,by rw [h.2.2.2];simp⟩
theorem Out.setCells {b o n:Nat} (w:World) {p:Nat} (vs:List Value) (h1:o≤p) (h2:p+vs.length≤o+n):Out b o n w (w.setCells b p vs):=by
 have h:=setCells_same b vs p w
 refine ⟨h.1,h.2.1,h.2.2.1,by rw [h.2.2.2];exact Nat.le_refl _,fun k _ hk=>heap_setCells_other b vs p w k hk,fun q hq => ?_,fun q=>World.frozen?_setCells b vs p w _⟩
 exact World.cell?_setCells_out b vs p w _ (fun _ _=>by show q<p∨p+vs.length≤q;omega)
theorem Out.drew {b o n:Nat} (w:World):Out b o n w w.drew:=⟨rfl,rfl,rfl,Nat.le_refl _,fun _ _ _=>rfl,fun _ _=>rfl,fun _=>rfl⟩
theorem Out.setCell {b o n:Nat} (w:World) {p:Nat} (v:Value) (h1:o≤p) (h2:p<o+n):Out b o n w (w.setCell ⟨b,p,none⟩ v) :=
 Out.setCells w [v] h1 (by simp;omega)
theorem Out.below {b o n B:Nat} {w w':World} (h:Out b o n w w') (hb:B≤b) (hB:B≤w.heap.size):Below B w w' :=
 ⟨h.os,h.tape,h.output,h.size,fun k hk=>h.block k (by omega) (by omega)⟩
theorem Out.cell' {b o n:Nat} {w w':World} (h:Out b o n w w') {c q:Nat} (hc:c<w.heap.size) (hb:c≠b):w'.cell? ⟨c,q,none⟩=w.cell? ⟨c,q,none⟩:=World.cell?_of_block (w:=w) (h.block c hc hb)
theorem Out.frozen' {b o n:Nat} {w w':World} (h:Out b o n w w') {c q:Nat} (hc:c<w.heap.size) (hb:c≠b):w'.frozen? ⟨c,q,none⟩=w.frozen? ⟨c,q,none⟩:=World.frozen?_of_block (w:=w) (h.block c hc hb)
theorem Out.row {b o n:Nat} {w w':World} (h:Out b o n w w') {K:IntKind} {c p m:Nat} {X:Nat→Nat} (hr:RowAt K w c p m X) (hc:c≠b):RowAt K w' c p m X:=fun j hj =>
 ⟨(h.cell' (block_lt_of_cell (hr j hj).1) hc).trans (hr j hj).1,(h.frozen' (block_lt_of_cell (hr j hj).1) hc).trans (hr j hj).2⟩
def over (R:Nat→Nat) (i c:Nat) (Y:Nat→Nat):Nat→Nat:=fun j=>if i≤j∧j<i+c then Y (j - i) else R j
theorem over_lt {R Y:Nat→Nat} {i c p:Nat} (hR:∀ j,R j<p) (hY:∀ j,Y j<p):∀ j,over R i c Y j<p:=fun j=>by
 unfold over;split
 · exact hY _
 · exact hR _
theorem RowAt.splice {K:IntKind} {w:World} {b o n:Nat} {X:Nat→Nat} (h:RowAt K w b o n X) (i c:Nat) (Y:Nat→Nat) (hi:i+c≤n):RowAt K (w.setCells b (o+i) (ints K c Y)) b o n (over X i c Y):=fun j hj=>by
 refine ⟨?_,by rw [World.frozen?_setCells];exact (h j hj).2⟩
 by_cases e:i≤j∧j<i+c
 · have hin:=World.cell?_setCells_in b (ints K c Y) (o+i) w (fun q hq=>by rw [ints_len] at hq;have:=(h (i+q) (by omega)).1;rw [←Nat.add_assoc] at this;rw [this];rfl) (j - i) (by rw [ints_len];omega)
   rw [show o+i+(j - i)=o+j by omega] at hin
   rw [hin]
   have:=ints_at K c Y (j - i) (by omega)
   rw [List.getElem?_eq_getElem (by rw [ints_len];omega)] at this
   simp only [over,e,and_self,if_true]
   exact this
 · rw [World.cell?_setCells_out b _ _ w _ (fun _ _=>by rw [ints_len];show o+j<o+i∨o+i+c≤o+j;omega)]
   simp only [over,e,if_false]
   exact (h j hj).1
theorem RowAt.apart {K:IntKind} {w:World} {b o n:Nat} {X:Nat→Nat} (h:RowAt K w b o n X) (p:Nat) (vs:List Value) (hp:o+n≤p∨p+vs.length≤o):RowAt K (w.setCells b p vs) b o n X:=fun j hj =>
 ⟨by rw [World.cell?_setCells_out b vs p w _ (fun _ _=>by show o+j<p∨p+vs.length≤o+j;omega)];exact (h j hj).1,by rw [World.frozen?_setCells];exact (h j hj).2⟩
def Src (w:World) (v:Option Addr) (n:Nat) (bs:Nat→Nat):Prop:=n=0∨∃ bb ob,v=some ⟨bb,ob,none⟩∧∀ j,j<n→w.cell? ⟨bb,ob+j,none⟩=some (.int .u8 (bs j))
theorem run_copy_bytes {P:Program} (w:World) (dT sT ty elem:TypeId) (b o dLen dCap:Nat) (v:Option Addr) (n cap m:Nat) (bs:Nat→Nat)
 (hu:P.underlying dT=some (.slice elem)) (hs:(P.info? elem).map (·.size)=some 1) (hsrc:Src w v n bs) (hm:m=Nat.min n dLen)
 (ht:w.there b o dLen) :
 (Builtin.copy_ #[dT,sT] ty #[.slice (some ⟨b,o,none⟩) dLen dCap,.slice v n cap]).run P w = .ok (goInt m) (w.setCells b o (ints .u8 m bs)):=by
 by_cases h0:m=0
 · subst h0;exact run_copy_none w dT sT ty elem _ _ dLen dCap n cap hu hs hm.symm
 · have hn:m≤n∧m≤dLen:=by subst hm;exact ⟨Nat.min_le_left _ _,Nat.min_le_right _ _⟩
   rcases hsrc with h | ⟨bb,ob,rfl,hc⟩
   · omega
   · have:=run_copy_cells (P:=P) w dT sT ty elem b o dLen dCap ⟨bb,ob,none⟩ n cap (ints .u8 m bs) hu hs (by rw [ints_len,hm]) (fun j u hj=>by
      have hj':j<m:=by have:=(List.getElem?_eq_some_iff.1 hj).1;rwa [ints_len] at this
      rw [ints_at _ _ _ j hj'] at hj
      rw [Addr.add_mid,←hj]
      exact hc j (by omega)) (fun j hj=>(ht j (by rw [ints_len] at hj;omega)).1) (fun j hj=>(ht j (by rw [ints_len] at hj;omega)).2) (ints_one _ _ _)
     rw [ints_len] at this
     exact this
theorem wpList_copy_bytes {P:Program} {w:World} {ops:Array Oper} {rest:List Oper} {op:Oper} {a:Act} {Q:Exit→Act→World→Prop} (hgd:op.guard=none) (d s:Operand) (dT sT:TypeId)
 (ho:op.op = .call { callee := .builtin .copy,args:=#[d,s],argTypes:=#[dT,sT] }) (elem:TypeId) (hu:P.underlying dT=some (.slice elem)) (hsz:(P.info? elem).map (·.size)=some 1)
 (b o dLen dCap:Nat) (v:Option Addr) (n cap:Nat) (hd:a.eval d = .slice (some ⟨b,o,none⟩) dLen dCap) (hs:a.eval s = .slice v n cap)
 (m:Nat) (bs:Nat→Nat) (hsrc:Src w v n bs) (hm:m=Nat.min n dLen) (ht:w.there b o dLen)
 (h:wpList P ops Q rest (a.put op.dst (goInt m)) (w.setCells b o (ints .u8 m bs))):wpList P ops Q (op :: rest) a w:=by
 refine wpList_plain hgd fun K hK => ?_
 have hrun:=run_copy_bytes (P:=P) w dT sT op.type elem b o dLen dCap v n cap m bs hu hsz hsrc hm ht
 unfold Oper.wp
 simp [execOp,ho,resolve,invoke,builtin,hd,hs,hrun,Result.andThen]
 exact hK _ _ h
theorem RowAt.congr {K:IntKind} {w:World} {b o n:Nat} {X Y:Nat→Nat} (h:RowAt K w b o n X) (e:∀ j,j<n→X j=Y j):RowAt K w b o n Y:=fun j hj=>by rw [←e j hj];exact h j hj
def zb (n:Nat):Array Value:=Array.replicate n (.int .u8 0)
theorem zb_at (n j:Nat) (h:j<n):(zb n)[j]? = some (.int .u8 0):=by simp [zb,h]
theorem made_zb (n:Nat):madeCells (Value.int .u8 0).cells (n*1)=zb n:=by
 apply Array.ext_getElem?
 intro j
 by_cases h:j<n
 · rw [zb_at n j h];simp [madeCells,Value.cells,h,Nat.mod_one]
 · simp [madeCells,zb,Value.cells,h]
theorem make_bytes (W:World) (n:Nat) (l:Int) (hl:l=(n:Int)) (hn:n≤1000000):(Instr.makeSlice 29 (.int .i64 l) (.int .i64 l)).run Tryz.prog W = .ok (.slice (some ⟨W.heap.size,0,none⟩) n n) (W.alloc (.cells (zb n) 5)):=by
 subst hl
 obtain ⟨i0,hi,hz0,hz1,hz2⟩:=info_parts (show (Tryz.prog.info? 5).map (fun i=>(i.zero,i.size,i.bytes))=some (some (.int .u8 0),1,1) by kernel_rfl)
 have:=run_makeSlice (P:=Tryz.prog) W 29 5 i0 (.int .u8 0) Tryz.underlying29 hi hz0 .i64 .i64 n n (by omega) (Int.le_refl _) (by rw [hz1];simp;omega) (by rw [hz2];omega) (by omega)
 rw [this,hz1]
 simp only [Int.toNat_natCast,made_zb]
def BytesIn (w:World) (v:Value) (n:Nat) (bs:Nat→Nat):Prop:=(∃ xo,v = .slice xo 0 0∧n=0)∨∃ bb ob cap,v = .slice (some ⟨bb,ob,none⟩) n cap∧bb<w.heap.size∧n≤cap∧∀ j,j<n→w.cell? ⟨bb,ob+j,none⟩=some (.int .u8 (bs j))
def Seen (B g n:Nat) (W w':World):Prop:=(∀ b o,b<B→w'.cell? ⟨b,o,none⟩=W.cell? ⟨b,o,none⟩)∧∀ q,q<n→w'.cell? ⟨g,q,none⟩=W.cell? ⟨g,q,none⟩
theorem Seen.of_below {B g n:Nat} {W w':World} (h:Below W.heap.size W w') (hB:B≤W.heap.size) (hg:g<W.heap.size):Seen B g n W w' :=
 ⟨fun b o hb=>h.cell (p:=⟨b,o,none⟩) (by show b<_;omega),fun q _=>h.cell (p:=⟨g,q,none⟩) hg⟩
theorem ints_snoc (K:IntKind) (n:Nat) (X:Nat→Nat):ints K n X ++ [.int K (X n)]=ints K (n+1) X:=by simp [ints,List.range_succ]
theorem ints_congr (K:IntKind) (n:Nat) (X Y:Nat→Nat) (h:∀ j,j<n→X j=Y j):ints K n X=ints K n Y:=by
 unfold ints
 apply List.map_congr_left
 intro j hj
 rw [h j (List.mem_range.1 hj)]
theorem one_new (w:World) (v:Value) (t:TypeId):∀ j u,[v][j]? = some u→(w.alloc (.cells #[v] t)).cell? ((⟨w.heap.size,0,none⟩:Addr).add j)=some u:=fun j u h=>by
 match j,h with
 | 0,h=>simp at h;subst h;rw [Addr.add_mid];simp
theorem one_cell (K:IntKind) (x:Int):∀ u∈[Value.int K x],u.oneCell'=true:=fun u hu=>by simp at hu;subst hu;rfl
theorem Tryz.info5:(Tryz.prog.info? 5).map (fun i=>(i.zero,i.size,i.bytes))=some (some (.int .u8 0),1,1):=by kernel_rfl
theorem below_grown {B:Nat} {a w w':World} {v:Value} {base:Nat} {e:TypeId} {size n:Nat} {xs:List Value} (h:Below B a w) (hg:w.grownBy w' v.ownBlock) (ho:w.ownsRow base e size v n xs) (hB:B≤base) (hs:B≤w.heap.size):Below B a w' :=
 h.grown hg hs (fun k hk=>Nat.le_trans hB (ho.lt k hk).1)
theorem run_append_keep {P:Program} (w:World) (t ty base e:TypeId) (i:TypeInfo) (z:Value) (bytes:Nat) (ht:P.underlying t=some (.slice e)) (hi:P.info? e=some i) (hz:i.zero=some z) (hsize:i.size=1) (hby:i.bytes=bytes) (hzs:z.cells.size=1)
 (g cap n:Nat) (xs:List Value) (hown:w.ownsRow base e 1 (.slice (some ⟨g,0,none⟩) n cap) n xs) (ad:Addr) (c:Nat) (x:Value) (hx:∀ j u,[x][j]? = some u→w.cell? (ad.add j)=some u) (h1:x.oneCell'=true)
 (h63:n+1≤maxLen) (hbytes:(n+1)*bytes≤140737488355328) (hbase:base≤w.heap.size) :
 ∃ g' cap' w',(Builtin.append_ #[t,t] ty #[.slice (some ⟨g,0,none⟩) n cap,.slice (some ad) 1 c]).run P w = .ok (.slice (some ⟨g',0,none⟩) (n+1) cap') w' ∧
  w'.ownsRow base e 1 (.slice (some ⟨g',0,none⟩) (n+1) cap') (n+1) (xs ++ [x])∧w.grownBy w' (some g)∧(∀ q,q<n→w'.cell? ⟨g,q,none⟩=w.cell? ⟨g,q,none⟩):=by
 have ho:∀ u∈[x],u.oneCell'=true:=fun u hu=>by simp at hu;subst hu;exact h1
 obtain ⟨v',w',hr,h2,h3,_,_⟩:=run_append_own_at (P:=P) w base t ty e i z 1 bytes ht hi hz hsize hby hzs (by decide) _ n xs hown ad 1 c [x] rfl hx ho h63 hbytes hbase
 obtain ⟨g',cap',rfl,_,_⟩:=h2.form (by omega)
 refine ⟨g',cap',w',hr,h2,h3,fun q hq => ?_⟩
 obtain ⟨hl,hf⟩:=hown
 rcases hf with ⟨hv,_⟩ | ⟨g2,cap2,cur,hv,hb,hg,hnc,hcm,hcs,hxs⟩
 · cases hv
 · cases hv
   by_cases hroom:n+1≤cap
   · have hrun:=run_append_room_cells (P:=P) w t ty e i ht hi g 0 n cap ad 1 c [x] (by rw [hsize];rfl) hx ho hroom (fun j hj=>by
      have:j=0:=by simpa using hj
      subst this
      rw [hsize,cell_of_row w g _ cur e (0,0) hg,Array.getElem?_eq_getElem (by omega)];rfl) (fun j hj=>frozen_of_row w g _ cur e hg)
     rw [hr] at hrun
     cases hrun
     exact World.cell?_setCells_out g _ _ w _ (fun _ _ => .inl (by show q<0+n*i.size;rw [hsize];omega))
   · obtain ⟨v2,w2,hrun,_,r2⟩:=run_append_arg_grows (P:=P) w t ty e i z 1 bytes ht hi hz hsize hby hzs (by decide) ⟨g,0,none⟩ n cap xs hl (fun j u hu=>by
      have hjn:j<n*1:=by have:=(List.getElem?_eq_some_iff.1 hu).1;omega
      rw [Addr.add_mid,Nat.zero_add,cell_of_row w g j cur e (0,0) hg,←Array.getElem?_toList]
      rw [←hxs,List.getElem?_take,if_pos hjn] at hu
      exact hu) ad 1 c [x] rfl hx (by omega) h63 hbytes
     rw [hr] at hrun
     cases hrun
     have hlt:g<w.heap.size:=by
      rcases Nat.lt_or_ge g w.heap.size with h | h
      · exact h
      · rw [Array.getElem?_eq_none h] at hg;cases hg
     exact World.cell?_of_block (r2.block g hlt (by simp))
theorem step_append_keep {P:Program} {ops:Array Oper} {o:Oper} {a:Act} {w:World} {K:Act→World→Prop} {Q:Exit→Act→World→Prop} {E:Prop} (hgd:o.guard=none) (s x:Operand) (t:TypeId)
 (hop:o.op = .call { callee := .builtin .append,args:=#[s,x],argTypes:=#[t,t] }) (base e:TypeId) (i:TypeInfo) (z:Value) (bytes:Nat) (ht:P.underlying t=some (.slice e)) (hi:P.info? e=some i) (hz:i.zero=some z) (hsize:i.size=1) (hby:i.bytes=bytes) (hzs:z.cells.size=1)
 (g cap n:Nat) (xs:List Value) (hs:a.eval s = .slice (some ⟨g,0,none⟩) n cap) (hown:w.ownsRow base e 1 (.slice (some ⟨g,0,none⟩) n cap) n xs) (ad:Addr) (c:Nat) (u:Value) (hx:a.eval x = .slice (some ad) 1 c) (hu:∀ j v,[u][j]? = some v→w.cell? (ad.add j)=some v) (h1:u.oneCell'=true)
 (h63:n+1≤maxLen) (hbytes:(n+1)*bytes≤140737488355328) (hbase:base≤w.heap.size)
 (h:∀ g' cap' w',w'.ownsRow base e 1 (.slice (some ⟨g',0,none⟩) (n+1) cap') (n+1) (xs ++ [u])→w.grownBy w' (some g)→(∀ q,q<n→w'.cell? ⟨g,q,none⟩=w.cell? ⟨g,q,none⟩)→K (a.put o.dst (.slice (some ⟨g',0,none⟩) (n+1) cap')) w') :
 if Region.wanted o (yielded ops a.tmps)=true then Oper.wp P o a w K Q else E:=by
 have hw:Region.wanted o (yielded ops a.tmps)=true:=by simp [Region.wanted,hgd]
 rw [if_pos hw]
 obtain ⟨g',cap',w',hrun,r1,r2,r3⟩:=run_append_keep (P:=P) w t o.type base e i z bytes ht hi hz hsize hby hzs g cap n xs hown ad c u hu h1 h63 hbytes hbase
 unfold Oper.wp
 simp [execOp,hop,resolve,invoke,builtin,hs,hx,hrun,Result.andThen]
 exact h g' cap' w' r1 r2 r3
theorem own_below {w w':World} {base:Nat} {e:TypeId} {size:Nat} {v:Value} {n:Nat} {xs:List Value} (h:w.ownsRow base e size v n xs) (hb:Below w.heap.size w w'):w'.ownsRow base e size v n xs :=
 h.kept (row:=none) ⟨hb.os,hb.tape,hb.output,hb.size,fun k hk _=>hb.block k hk⟩ (by cases hv:v.ownBlock with | none=>exact .inl rfl | some b=>exact .inr (by simp))
theorem own_base {w:World} {base base':Nat} {e:TypeId} {size:Nat} {v:Value} {n:Nat} {xs:List Value} (h:w.ownsRow base e size v n xs) (hb:base'≤base):w.ownsRow base' e size v n xs:=by
 obtain ⟨h1,h2⟩:=h
 refine ⟨h1,?_⟩
 rcases h2 with h2 | ⟨g,cap,cur,hv,hg,r⟩
 · exact .inl h2
 · exact .inr ⟨g,cap,cur,hv,by omega,r⟩
theorem seen_append {B g n:Nat} {W W2 w1:World} (hb:Below W.heap.size W W2) (hgrow:W2.grownBy w1 (some g)) (hq:∀ q,q<n→w1.cell? ⟨g,q,none⟩=W2.cell? ⟨g,q,none⟩) (hB:B≤g) (_hs:B≤W.heap.size) (hg:g<W.heap.size):Seen B g n W w1:=by
 have hz:=hb.size
 refine ⟨fun b o h => ?_,fun q h=>(hq q h).trans (hb.cell (p:=⟨g,q,none⟩) hg)⟩
 exact (hgrow.cell_far ⟨b,o,none⟩ (by show b<_;omega) (by show some b≠some g;simp;omega)).trans (hb.cell (p:=⟨b,o,none⟩) (by show b<_;omega))
def cat (n:Nat) (a b:Nat→Nat):Nat→Nat:=fun j=>if j<n then a j else b (j - n)
theorem cat_lt {n p:Nat} {a b:Nat→Nat} (ha:∀ j,a j<p) (hb:∀ j,b j<p):∀ j,cat n a b j<p:=fun j=>by
 unfold cat;split
 · exact ha _
 · exact hb _
theorem cat_left {n:Nat} {a b:Nat→Nat} {j:Nat} (h:j<n):cat n a b j=a j:=by unfold cat;rw [if_pos h]
theorem cat_right {n:Nat} {a b:Nat→Nat} (j:Nat):cat n a b (n+j)=b j:=by unfold cat;rw [if_neg (by omega),Nat.add_sub_cancel_left]
theorem ints_add (K:IntKind) (n m:Nat) (X Y:Nat→Nat):ints K n X ++ ints K m Y=ints K (n+m) (cat n X Y):=by
 apply List.ext_getElem?
 intro j
 by_cases h:j<n
 · rw [List.getElem?_append_left (by rw [ints_len];exact h),ints_at _ _ _ j h,ints_at _ _ _ j (by omega),cat_left h]
 · rw [List.getElem?_append_right (by rw [ints_len];omega),ints_len]
   by_cases h2:j<n+m
   · rw [ints_at _ _ _ (j - n) (by omega),ints_at _ _ _ j h2]
     unfold cat;rw [if_neg h]
   · rw [List.getElem?_eq_none (by rw [ints_len];omega),List.getElem?_eq_none (by rw [ints_len];omega)]
theorem run_append_any {P:Program} (w:World) (t ty base e:TypeId) (i:TypeInfo) (z:Value) (bytes:Nat) (ht:P.underlying t=some (.slice e)) (hi:P.info? e=some i) (hz:i.zero=some z) (hsize:i.size=1) (hby:i.bytes=bytes) (hzs:z.cells.size=1)
 (v:Value) (n:Nat) (xs:List Value) (hown:w.ownsRow base e 1 v n xs) (xo:Option Addr) (m c:Nat) (bs:Nat→Nat) (hsrc:Src w xo m bs) (hxn:xo=none→c=0)
 (h63:n+m≤maxLen) (hbytes:(n+m)*bytes≤140737488355328) (hbase:base≤w.heap.size) :
 ∃ v' w',(Builtin.append_ #[t,t] ty #[v,.slice xo m c]).run P w = .ok v' w'∧w'.ownsRow base e 1 v' (n+m) (xs ++ ints .u8 m bs)∧w.grownBy w' v.ownBlock:=by
 cases xo with
 | none =>
  have hm:m=0:=by
   rcases hsrc with h | ⟨_,_,h,_⟩
   · exact h
   · cases h
  subst hm
  have hc:=hxn rfl
  subst hc
  refine ⟨v,w,?_,by rw [show ints .u8 0 bs=[] from rfl,List.append_nil];exact hown,⟨rfl,rfl,rfl,Nat.le_refl _,fun _ _ _=>rfl⟩⟩
  rcases hown.2 with ⟨rfl,_⟩ | ⟨g,cap,cur,rfl,_,_,hnc,_⟩
  · exact run_append_nothing w t t ty e i ht hi none 0 0 (Nat.le_refl _) _ ⟨.inl ⟨_,ht⟩,fun _=>rfl,rfl,rfl,by simp,fun _ h=>by cases h⟩
  · exact run_append_nothing w t t ty e i ht hi _ n cap hnc _ ⟨.inl ⟨_,ht⟩,fun _=>rfl,rfl,rfl,by simp,fun _ h=>by cases h⟩
 | some ad =>
  have hnews:∀ j u,(ints .u8 m bs)[j]? = some u→w.cell? (ad.add j)=some u:=fun j u hu=>by
   have hj:j<m:=by have:=(List.getElem?_eq_some_iff.1 hu).1;rwa [ints_len] at this
   rw [ints_at _ _ _ j hj] at hu
   rcases hsrc with h | ⟨bb,ob,h,hc⟩
   · omega
   · cases h
     rw [Addr.add_mid,←hu]
     exact hc j hj
  obtain ⟨v',w',h1,h2,h3,_,_⟩:=run_append_own_at (P:=P) w base t ty e i z 1 bytes ht hi hz hsize hby hzs (by decide) v n xs hown ad m c (ints .u8 m bs) (by rw [ints_len,Nat.mul_one]) hnews (ints_one _ _ _) h63 hbytes hbase
  exact ⟨v',w',h1,h2,h3⟩
theorem wpList_append_any {P:Program} {w:World} {ops:Array Oper} {rest:List Oper} {o:Oper} {a:Act} {Q:Exit→Act→World→Prop} (hgd:o.guard=none) (s x:Operand) (t:TypeId)
 (ho:o.op = .call { callee := .builtin .append,args:=#[s,x],argTypes:=#[t,t] }) (base e:TypeId) (i:TypeInfo) (z:Value) (bytes:Nat) (ht:P.underlying t=some (.slice e)) (hi:P.info? e=some i) (hz:i.zero=some z) (hsize:i.size=1) (hby:i.bytes=bytes) (hzs:z.cells.size=1)
 (v:Value) (n:Nat) (xs:List Value) (hs:a.eval s=v) (hown:w.ownsRow base e 1 v n xs) (xo:Option Addr) (m c:Nat) (bs:Nat→Nat) (hx:a.eval x = .slice xo m c) (hsrc:Src w xo m bs) (hxn:xo=none→c=0)
 (h63:n+m≤maxLen) (hbytes:(n+m)*bytes≤140737488355328) (hbase:base≤w.heap.size)
 (h:∀ v' w',w'.ownsRow base e 1 v' (n+m) (xs ++ ints .u8 m bs)→w.grownBy w' v.ownBlock→wpList P ops Q rest (a.put o.dst v') w'):wpList P ops Q (o :: rest) a w:=by
 refine wpList_plain hgd fun K hK => ?_
 obtain ⟨v',w',h1,h2,h3⟩:=run_append_any (P:=P) w t o.type base e i z bytes ht hi hz hsize hby hzs v n xs hown xo m c bs hsrc hxn h63 hbytes hbase
 unfold Oper.wp execOp
 simp only [ho,resolve,invoke,builtin,Sem.run_bind,Sem.run_pure,Result.andThen_ok,List.map_toArray,List.map_cons,List.map_nil,hs,hx,h1]
 exact hK _ _ (h v' w' h2 h3)
def Own (base:Nat) (w:World) (v:Value) (n:Nat) (X:Nat→Nat):Prop:=w.ownsRow base 5 1 v n (ints .u8 n X)
theorem Own.below {base:Nat} {w w':World} {v:Value} {n:Nat} {X:Nat→Nat} (h:Own base w v n X) (hb:Below w.heap.size w w'):Own base w' v n X:=own_below h hb
theorem Own.alloc {base:Nat} {w:World} {v:Value} {n:Nat} {X:Nat→Nat} (h:Own base w v n X) (o:Obj):Own base (w.alloc o) v n X:=h.below ((Below.refl _ _).alloc (Nat.le_refl _) _)
theorem Own.congr {base:Nat} {w:World} {v:Value} {n:Nat} {X Y:Nat→Nat} (h:Own base w v n X) (e:∀ j,j<n→X j=Y j):Own base w v n Y:=by
 unfold Own;rw [←ints_congr _ _ _ _ e];exact h
theorem Own.form {base:Nat} {w:World} {v:Value} {n:Nat} {X:Nat→Nat} (h:Own base w v n X):(v = .slice none 0 0∧n=0)∨∃ g cap,v = .slice (some ⟨g,0,none⟩) n cap∧base≤g∧g<w.heap.size∧n≤cap∧RowAt .u8 w g 0 n X:=by
 rcases h.2 with hv | ⟨g,cap,cur,rfl,hb,hg,hn,_⟩
 · exact .inl hv
 · refine .inr ⟨g,cap,rfl,hb,(h.lt g rfl).2,hn,fun j hj => ?_⟩
   rw [Nat.zero_add]
   exact ⟨by rw [World.ownsRow.cellAt h j (by omega),ints_at _ _ _ j hj],World.ownsRow.frozenAt h j⟩
theorem Own.slice {base:Nat} {w:World} {v:Value} {n:Nat} {X:Nat→Nat} (h:Own base w v n X):∃ x c,v = .slice x n c:=by
 rcases h.form with ⟨hv,e0⟩ | ⟨g,c,hv,_⟩
 · exact ⟨none,0,by rw [hv,e0]⟩
 · exact ⟨_,c,hv⟩
theorem Own.nil (base:Nat) (w:World) (X:Nat→Nat):Own base w (.slice none 0 0) 0 X:=World.ownsRow_nil w base _ _
theorem Own.lit (base:Nat) (w:World) (X:Nat→Nat) (h:base≤w.heap.size):Own base (w.alloc (.cells #[] 5)) (.slice (some ⟨w.heap.size,0,none⟩) 0 0) 0 X:=World.ownsRow_lit w #[] 0 h (by decide) rfl
theorem Own.grown {B base:Nat} {a w w':World} {v:Value} {n:Nat} {X:Nat→Nat} (h:Below B a w) (hg:w.grownBy w' v.ownBlock) (ho:Own base w v n X) (hB:B≤base) (hs:B≤w.heap.size):Below B a w':=below_grown h hg ho hB hs
theorem src_one (w:World) (x:Int) (y:Nat) (h:x=(y:Int)):Src (w.alloc (.cells #[.int .u8 x] 5)) (some ⟨w.heap.size,0,none⟩) 1 (fun _=>y):=by
 subst h
 refine .inr ⟨w.heap.size,0,rfl,fun j hj => ?_⟩
 have:j=0:=by omega
 subst this
 simp
theorem wpList_append_bytes {w:World} {ops:Array Oper} {rest:List Oper} {o:Oper} {a:Act} {Q:Exit→Act→World→Prop} (hgd:o.guard=none) (s x:Operand)
 (ho:o.op = .call { callee := .builtin .append,args:=#[s,x],argTypes:=#[29,29] }) (base:Nat)
 (v:Value) (n:Nat) (X:Nat→Nat) (hs:a.eval s=v) (hown:Own base w v n X) (xo:Option Addr) (m c:Nat) (bs:Nat→Nat) (hx:a.eval x = .slice xo m c) (hsrc:Src w xo m bs) (hxn:xo=none→c=0)
 (hl:n+m≤140737488355328) (hbase:base≤w.heap.size)
 (h:∀ v' w',Own base w' v' (n+m) (cat n X bs)→w.grownBy w' v.ownBlock→wpList Tryz.prog ops Q rest (a.put o.dst v') w'):wpList Tryz.prog ops Q (o :: rest) a w:=by
 obtain ⟨i0,hi,hz0,hz1,hz2⟩:=info_parts Tryz.info5
 exact wpList_append_any hgd s x 29 ho base 5 i0 (.int .u8 0) 1 Tryz.underlying29 hi hz0 hz1 hz2 rfl v n _ hs hown xo m c bs hx hsrc hxn (by unfold maxLen;omega) (by omega) hbase (fun v' w' h1 h2=>h v' w' (by unfold Own;rw [←ints_add];exact h1) h2)
theorem wpList_append_next {w:World} {ops:Array Oper} {rest:List Oper} {o:Oper} {a:Act} {Q:Exit→Act→World→Prop} (hgd:o.guard=none) (s x:Operand)
 (ho:o.op = .call { callee := .builtin .append,args:=#[s,x],argTypes:=#[29,29] }) (base:Nat)
 (v:Value) (n:Nat) (F:Nat→Nat) (y:Int) (hs:a.eval s=v) (hown:Own base w v n F) (hx:a.eval x = .slice (some ⟨w.heap.size,0,none⟩) 1 1) (hF:y=(F n:Int))
 (hl:n+1≤140737488355328) (hbase:base≤w.heap.size)
 (h:∀ v' w',Own base w' v' (n+1) F→Below base w w'→wpList Tryz.prog ops Q rest (a.put o.dst v') w'):wpList Tryz.prog ops Q (o :: rest) a (w.alloc (.cells #[.int .u8 y] 5)):=by
 have hb:Below base w (w.alloc (.cells #[.int .u8 y] 5)):=(Below.refl _ _).alloc hbase _
 have hz:base≤(w.alloc (.cells #[.int .u8 y] 5)).heap.size:=by simp only [World.size_alloc];omega
 refine wpList_append_bytes hgd s x ho base v n F hs (hown.alloc _) _ 1 1 (fun _=>F n) hx (src_one w y (F n) hF) (fun h=>by cases h) hl hz (fun v' w' h1 h2=>h v' w' (h1.congr fun j hj => ?_) (Own.grown hb h2 (hown.alloc _) (Nat.le_refl _) hz))
 by_cases e:j<n
 · rw [cat_left e]
 · obtain rfl:j=n:=by omega
   unfold cat;rw [if_neg e]
theorem run_append_bytes (w:World) (base:Nat) (v:Value) (n:Nat) (X:Nat→Nat) (hown:Own base w v n X) (xo:Option Addr) (m c:Nat) (bs:Nat→Nat) (hsrc:Src w xo m bs) (hxn:xo=none→c=0)
 (hl:n+m≤140737488355328) (hbase:base≤w.heap.size) :
 ∃ v' w',(Builtin.append_ #[29,29] 29 #[v,.slice xo m c]).run Tryz.prog w = .ok v' w'∧Own base w' v' (n+m) (cat n X bs)∧Below base w w':=by
 obtain ⟨i0,hi,hz0,hz1,hz2⟩:=info_parts Tryz.info5
 obtain ⟨v',w',h1,h2,h3⟩:=run_append_any (P:=Tryz.prog) w 29 29 base 5 i0 (.int .u8 0) 1 Tryz.underlying29 hi hz0 hz1 hz2 rfl v n _ hown xo m c bs hsrc hxn (by unfold maxLen;omega) (by omega) hbase
 exact ⟨v',w',h1,by unfold Own;rw [←ints_add];exact h2,Own.grown (Below.refl _ _) h3 hown (Nat.le_refl _) hbase⟩
theorem wpList_append_empty {w:World} {ops:Array Oper} {rest:List Oper} {o:Oper} {a:Act} {Q:Exit→Act→World→Prop} (hgd:o.guard=none) (s x:Operand)
 (ho:o.op = .call { callee := .builtin .append,args:=#[s,x],argTypes:=#[29,29] }) (base:Nat)
 (F:Nat→Nat) (g:Nat) (hg:w.heap.size=g) (hs:a.eval s = .slice (some ⟨g,0,none⟩) 0 0) (xo:Option Addr) (m c:Nat) (hx:a.eval x = .slice xo m c) (hsrc:Src (w.alloc (.cells #[] 5)) xo m F) (hxn:xo=none→c=0)
 (hl:m≤140737488355328) (hbase:base≤w.heap.size)
 (h:∀ v' w',Own base w' v' m F→Below base w w'→wpList Tryz.prog ops Q rest (a.put o.dst v') w'):wpList Tryz.prog ops Q (o :: rest) a (w.alloc (.cells #[] 5)):=by
 subst hg
 have hb:Below base w (w.alloc (.cells #[] 5)):=(Below.refl _ _).alloc hbase _
 have hz:base≤(w.alloc (.cells #[] 5)).heap.size:=by simp only [World.size_alloc];omega
 refine wpList_append_bytes hgd s x ho base _ 0 F hs (Own.lit base w F hbase) xo m c F hx hsrc hxn (by omega) hz (fun v' w' h1 h2=>h v' w' ?_ (Own.grown hb h2 (Own.lit base w F hbase) (Nat.le_refl _) hz))
 rw [Nat.zero_add] at h1
 exact h1.congr fun j _=>by unfold cat;rw [if_neg (by omega),Nat.sub_zero]
theorem Own.start {base:Nat} {w:World} {v:Value} {n m:Nat} {X:Nat→Nat} (h:Own base w v m X) (e:m=n):Own base w v n X:=by subst e;exact h
theorem BytesIn.src {w:World} {v:Value} {n:Nat} {bs:Nat→Nat} (h:BytesIn w v n bs):∃ xo c,v = .slice xo n c∧(xo=none→c=0)∧n≤c∧∀ w',Below w.heap.size w w'→Src w' xo n bs:=by
 rcases h with ⟨xo,rfl,rfl⟩ | ⟨bb,ob,cap,rfl,h1,h2,h3⟩
 · exact ⟨xo,0,rfl,fun _=>rfl,Nat.le_refl _,fun _ _ => .inl rfl⟩
 · exact ⟨_,cap,rfl,(fun h=>by cases h),h2,fun w' hb => .inr ⟨bb,ob,rfl,fun j hj=>(hb.cell (p:=⟨bb,ob+j,none⟩) h1).trans (h3 j hj)⟩⟩
theorem BytesIn.keep {w w':World} {v:Value} {n:Nat} {bs:Nat→Nat} (h:BytesIn w v n bs) (hb:Below w.heap.size w w'):BytesIn w' v n bs:=by
 rcases h with h | ⟨bb,ob,cap,rfl,h1,h2,h3⟩
 · exact .inl h
 · exact .inr ⟨bb,ob,cap,rfl,Nat.lt_of_lt_of_le h1 hb.size,h2,fun j hj=>(hb.cell (p:=⟨bb,ob+j,none⟩) h1).trans (h3 j hj)⟩
theorem BytesIn.still {w w':World} {v:Value} {n:Nat} {bs:Nat→Nat} (h:BytesIn w v n bs) (hb:Below w.heap.size w w'):BytesIn w' v n bs:=by
 rcases h with h | ⟨bb,ob,cap,rfl,h1,h2,h3⟩
 · exact .inl h
 · exact .inr ⟨bb,ob,cap,rfl,Nat.lt_of_lt_of_le h1 hb.size,h2,fun j hj=>(hb.cell (p:=⟨bb,ob+j,none⟩) h1).trans (h3 j hj)⟩
theorem BytesIn.of_own {base:Nat} {w:World} {v:Value} {n:Nat} {X:Nat→Nat} (h:Own base w v n X):BytesIn w v n X:=by
 rcases h.form with ⟨rfl,rfl⟩ | ⟨g,cap,rfl,_,hl,hc,hr⟩
 · exact .inl ⟨none,rfl,rfl⟩
 · exact .inr ⟨g,0,cap,rfl,hl,hc,fun j hj=>(hr j hj).1⟩
theorem zeroCells_u8 (m:Nat):Builtin.zeroCells #[.int .u8 0] m=(ints .u8 m (fun _=>0)).toArray:=by
 apply Array.ext'
 apply List.ext_getElem?
 intro j
 by_cases hj:j<m
 · rw [ints_at _ _ _ j hj]
   simp [Builtin.zeroCells,hj,Nat.mod_one]
 · rw [List.getElem?_eq_none (by rw [Array.length_toList,size_zeroCells];simp;omega),List.getElem?_eq_none (by show (ints .u8 m (fun _=>0)).length≤j;rw [ints_len];omega)]
end Go.Proofs.YtddkbmnkbfciaaaGreatDoor
namespace Go.Proofs.YtddkbmnkbfciaaaGreatDoor
open Go.RowKit
theorem wpAnyH_narrow {P:Program} {md:Region.Mode} {ops:Array Oper} {Q:Exit→Act→World→Prop} {S S':World→Prop} (h:∀ w,S' w→S w):∀ (fuel:Nat) (listed:Array Bool) (a:Act) (w:World),wpAnyH P md ops Q S' fuel listed a w→wpAnyH P md ops Q S fuel listed a w
 | 0,_,_,_,H=>H
 | fuel+1,_,_,_,H=>⟨H.1,fun i hi=>wpOp_mono (fun a' w' h'=>⟨h w' h'.1,wpAnyH_narrow h fuel _ a' w' h'.2⟩) (H.2 i hi)⟩
end Go.Proofs.YtddkbmnkbfciaaaGreatDoor
namespace Go.Proofs.YtddkbmnkbfciaaaGreatDoor
open Go.RowKit
structure RW (w:World) (g o:Nat) (cs:List Value):Prop where
 range:w.rangeAt g o cs
 there:w.there g o cs.length
 lt:g<w.heap.size
theorem RW.still {w w':World} {g o:Nat} {cs:List Value} (h:RW w g o cs) (hb:Below w.heap.size w w'):RW w' g o cs :=
 ⟨fun j v hv=>(hb.cell (p:=⟨g,o+j,none⟩) h.lt).trans (h.range j v hv),fun j hj=>by
   rw [hb.cell (p:=⟨g,o+j,none⟩) h.lt,hb.frozen (p:=⟨g,o+j,none⟩) h.lt];exact h.there j hj,Nat.lt_of_lt_of_le h.lt hb.size⟩
theorem RW.below {w w':World} {g o B:Nat} {cs:List Value} (h:RW w g o cs) (hb:Below B w w') (hB:g<B):RW w' g o cs :=
 ⟨fun j v hv=>(hb.cell (p:=⟨g,o+j,none⟩) hB).trans (h.range j v hv),fun j hj=>by
   rw [hb.cell (p:=⟨g,o+j,none⟩) hB,hb.frozen (p:=⟨g,o+j,none⟩) hB];exact h.there j hj,Nat.lt_of_lt_of_le h.lt hb.size⟩
theorem RW.out {w w':World} {g o b p n:Nat} {cs:List Value} (h:RW w g o cs) (hb:Out b p n w w') (hne:g≠b):RW w' g o cs :=
 ⟨fun j v hv=>(hb.cell' h.lt hne).trans (h.range j v hv),fun j hj=>by
   rw [hb.cell' h.lt hne,hb.frozen' h.lt hne];exact h.there j hj,Nat.lt_of_lt_of_le h.lt hb.size⟩
theorem RW.stored {w:World} {g o:Nat} {cs:List Value} (h:RW w g o cs) (ds:List Value) (hl:ds.length=cs.length):RW (w.setCells g o ds) g o ds :=
 ⟨World.rangeAt_setCells_same _ _ _ _ (by rw [hl];exact h.there),World.there_setCells (by rw [hl];exact h.there) _ _ _,by rw [(setCells_same g ds o w).2.2.2];exact h.lt⟩
theorem RW.far {w:World} {g o:Nat} {cs:List Value} (h:RW w g o cs) (b p:Nat) (ds:List Value) (hap:g≠b∨o+cs.length≤p∨p+ds.length≤o):RW (w.setCells b p ds) g o cs :=
 ⟨World.rangeAt_setCells_apart h.range _ _ _ hap,World.there_setCells h.there _ _ _,by rw [(setCells_same b ds p w).2.2.2];exact h.lt⟩
theorem RW.left {w:World} {g o:Nat} {cs ds:List Value} (h:RW w g o (cs ++ ds)):RW w g o cs :=
 ⟨fun j v hv=>h.range j v (by rw [List.getElem?_append_left (List.getElem?_eq_some_iff.1 hv).1];exact hv),fun j hj=>h.there j (by rw [List.length_append];omega),h.lt⟩
theorem RW.right {w:World} {g o:Nat} {cs ds:List Value} (h:RW w g o (cs ++ ds)):RW w g (o+cs.length) ds :=
 ⟨fun j v hv=>by
   have:=h.range (cs.length+j) v (by rw [List.getElem?_append_right (Nat.le_add_right _ _),Nat.add_sub_cancel_left];exact hv)
   rw [←Nat.add_assoc] at this;exact this,fun j hj=>by
   have:=h.there (cs.length+j) (by rw [List.length_append];omega)
   rw [←Nat.add_assoc] at this;exact this,h.lt⟩
theorem RW.join {w:World} {g o:Nat} {cs ds:List Value} (h:RW w g o cs) (k:RW w g (o+cs.length) ds):RW w g o (cs ++ ds) :=
 ⟨fun j v hv=>by
   by_cases hj:j<cs.length
   · exact h.range j v (by rw [List.getElem?_append_left hj] at hv;exact hv)
   · rw [List.getElem?_append_right (by omega)] at hv
     have:=k.range (j - cs.length) v hv
     rw [show o+cs.length+(j - cs.length)=o+j by omega] at this;exact this,fun j hj=>by
   rw [List.length_append] at hj
   by_cases hj':j<cs.length
   · exact h.there j hj'
   · have:=k.there (j - cs.length) (by omega)
     rw [show o+cs.length+(j - cs.length)=o+j by omega] at this;exact this,h.lt⟩
theorem RW.fresh (w:World) (cs:List Value) (t:TypeId):RW (w.alloc (.cells cs.toArray t)) w.heap.size 0 cs :=
 ⟨fun j v hv=>by rw [Nat.zero_add];simp [hv],fun j hj=>by
   rw [Nat.zero_add];simp [hj],by simp⟩
theorem RW.drew {w:World} {g o:Nat} {cs:List Value} (h:RW w g o cs):RW w.drew g o cs:=h.still ((Below.refl _ _).drew)
end Go.Proofs.YtddkbmnkbfciaaaGreatDoor
