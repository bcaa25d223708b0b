/- What the proof stands on: Base, G9Math, A8Math, A8Blk, G9Byt, G9Pad, G9W, A8Tab, A8Mix, Lent, A8Sq. -/
import Derived.Test.YtalgabgofpmebaaRows
import Derived.ArgAppend
import Derived.BigQuiet
import Derived.Deep.AppendLies
import Derived.Deep.Cut
import Derived.Deep.MidRow
import Derived.Deep.QuietTactic
import Derived.Deep.RegionHeld3
import Derived.Deep.RegionLawGrows
import Derived.Deep.Upon
import Derived.Laws.Bits64
import Derived.Laws.Bits64b
import Derived.Laws.BitsAllLaws
import Derived.WalkKit
import Derived.WalkLawsBesides
import Derived.WalkSpells
namespace Go.Proofs.Ytalgabgofpmebaa
open Go.RowKit
theorem Hid.mk' {P:Prop} (h:P):Hid P:=h
def upd (X:Nat→Nat) (i v:Nat):Nat→Nat:=fun j=>if j=i then v else X j
def RowAt (K:IntKind) (w:World) (b o n:Nat) (X:Nat→Nat):Prop:=∀ j,j<n→w.cell? ⟨b,o+j,none⟩=some (.int K (X j))∧w.frozen? ⟨b,o+j,none⟩=false
theorem RowAt.drew {K:IntKind} {w:World} {b o n:Nat} {X:Nat→Nat} (h:RowAt K w b o n X):RowAt K w.drew b o n X:=fun j hj=>h j hj
theorem RowAt.set {K:IntKind} {w:World} {b o n:Nat} {X:Nat→Nat} (h:RowAt K w b o n X) {i:Nat} (hi:i<n) {v:Int} {u:Nat} (hv:v=(u:Int)):RowAt K (w.setCell ⟨b,o+i,none⟩ (.int K v)) b o n (upd X i u):=fun j hj=>by
 refine ⟨?_,by rw [World.frozen?_setCell];exact (h j hj).2⟩
 by_cases e:j=i
 · subst e;rw [World.cell?_setCell_same _ _ _ (h j hj).1];simp [upd,hv]
 · have hne:(⟨b,o+i,none⟩:Addr)≠⟨b,o+j,none⟩:=fun h=>by injection h;omega
   rw [World.cell?_setCell_other _ _ _ _ hne];simp [upd,e,(h j hj).1]
theorem RowAt.far {K:IntKind} {w:World} {b o n:Nat} {X:Nat→Nat} (h:RowAt K w b o n X) {a:Addr} (ha:a.block≠b) (v:Value):RowAt K (w.setCell a v) b o n X:=fun j hj=>by
 refine ⟨?_,by rw [World.frozen?_setCell];exact (h j hj).2⟩
 rw [World.cell?_setCell_other _ _ _ _ (fun e=>ha (by rw [e]))];exact (h j hj).1
theorem RowAt.below {K:IntKind} {B:Nat} {w w':World} {b o n:Nat} {X:Nat→Nat} (h:RowAt K w b o n X) (hb:Below B w w') (hB:b<B):RowAt K w' b o n X:=fun j hj =>
 ⟨(hb.cell (p:=⟨b,o+j,none⟩) hB).trans (h j hj).1,(hb.frozen (p:=⟨b,o+j,none⟩) hB).trans (h j hj).2⟩
theorem RowAt.fresh {K:IntKind} {w:World} {cs:Array Value} {t:TypeId} {n:Nat} {X:Nat→Nat} (h:∀ j,j<n→cs[j]? = some (.int K (X j))):RowAt K (w.alloc (.cells cs t)) w.heap.size 0 n X:=fun j hj=>by
 constructor
 · simp [h j hj]
 · simp
theorem RowAt.alloc {K:IntKind} {w:World} {b o n:Nat} {X:Nat→Nat} (h:RowAt K w b o n X) (hb:b<w.heap.size) (ob:Obj):RowAt K (w.alloc ob) b o n X :=
 h.below ((Below.refl w.heap.size w).alloc (Nat.le_refl _) ob) hb
def ints (K:IntKind) (n:Nat) (X:Nat→Nat):List Value:=(List.range n).map fun j => .int K (X j)
theorem ints_len (K:IntKind) (n:Nat) (X:Nat→Nat):(ints K n X).length=n:=by simp [ints]
theorem ints_at (K:IntKind) (n:Nat) (X:Nat→Nat) (j:Nat) (h:j<n):(ints K n X)[j]? = some (.int K (X j)):=by simp [ints,h]
theorem ints_one (K:IntKind) (n:Nat) (X:Nat→Nat):∀ v∈ints K n X,v.oneCell'=true:=fun v hv=>by
 simp only [ints,List.mem_map] at hv
 obtain ⟨_,_,rfl⟩:=hv
 rfl
theorem RowAt.range {K:IntKind} {w:World} {b o n:Nat} {X:Nat→Nat} (h:RowAt K w b o n X):w.rangeAt b o (ints K n X):=fun j v hv=>by
 have hj:j<n:=by have:=(List.getElem?_eq_some_iff.1 hv).1;rwa [ints_len] at this
 rw [ints_at K n X j hj] at hv
 rw [←hv];exact (h j hj).1
theorem RowAt.there {K:IntKind} {w:World} {b o n:Nat} {X:Nat→Nat} (h:RowAt K w b o n X):w.there b o n:=fun j hj=>by
 rw [(h j hj).1];exact ⟨rfl,(h j hj).2⟩
theorem results_cell_mid {P:Program} {fn:Func} {p:Tmp} {ty:TypeId} (h:fn.results=#[.cell p ty]) (tmps:Array Value) (w:World) (g o:Nat) (cs:List Value) (d:TypeDesc)
 (hp:tmps.getD p undef = .pointer (some ⟨g,o,none⟩)) (hc:w.rangeAt g o cs)
 (hu:P.underlying ty=some d) (hd:d.isRow=true) (hi:(P.info? ty).map (·.size)=some cs.length) :
 (results fn tmps).run P w = .ok (.agg cs.toArray) w:=by
 have hp':tmps[p]?.getD undef = .pointer (some ⟨g,o,none⟩):=by simpa using hp
 simp [results,h,hp',asAddr,run_loadVar_mid w g o ty cs d hc hu hd hi]
theorem below_setCells {B:Nat} {a:World} {b:Nat} (hb:B≤b):∀ (vs:List Value) (o:Nat) (w:World),Below B a w→Below B a (w.setCells b o vs)
 | [],_,_,h=>h
 | v :: r,o,w,h=>by rw [World.setCells];exact below_setCells hb r (o+1) _ (h.setCell hb v)
theorem below_next {W a b:World} (h:Below W.heap.size W a) (hb:Below a.heap.size a b):Below W.heap.size W b:=h.trans (hb.mono h.size)
def Near (b o:Nat) (W w':World):Prop:=∃ w0,Below W.heap.size W w0∧(w'=w0∨∃ u,w'=w0.setCell ⟨b,o,none⟩ u)
theorem Near.of_below {b o:Nat} {W w':World} (h:Below W.heap.size W w'):Near b o W w':=⟨w',h,.inl rfl⟩
theorem Near.set {b o:Nat} {W w':World} (h:Below W.heap.size W w') (u:Value):Near b o W (w'.setCell ⟨b,o,none⟩ u):=⟨w',h,.inr ⟨u,rfl⟩⟩
theorem Near.cell {b o:Nat} {W w':World} (h:Near b o W w') (p q:Nat) (hp:p<W.heap.size) (hne:p=b→q≠o):w'.cell? ⟨p,q,none⟩=W.cell? ⟨p,q,none⟩:=by
 obtain ⟨w0,hb,rfl | ⟨u,rfl⟩⟩:=h
 · exact hb.cell (p:=⟨p,q,none⟩) hp
 · rw [World.cell?_setCell_other _ _ _ _ (fun e=>by injection e with e1 e2;exact hne e1.symm e2.symm)];exact hb.cell (p:=⟨p,q,none⟩) hp
theorem Near.frozen {b o:Nat} {W w':World} (h:Near b o W w') (p q:Nat) (hp:p<W.heap.size):w'.frozen? ⟨p,q,none⟩=W.frozen? ⟨p,q,none⟩:=by
 obtain ⟨w0,hb,rfl | ⟨u,rfl⟩⟩:=h
 · exact hb.frozen (p:=⟨p,q,none⟩) hp
 · rw [World.frozen?_setCell];exact hb.frozen (p:=⟨p,q,none⟩) hp
structure Out (b o n:Nat) (w w':World):Prop where
 os:w'.os=w.os
 tape:w'.tape=w.tape
 output:w'.output=w.output
 size:w.heap.size≤w'.heap.size
 block:∀ k,k<w.heap.size→k≠b→w'.heap[k]? = w.heap[k]?
 cell:∀ q,(q<o∨o+n≤q)→w'.cell? ⟨b,q,none⟩=w.cell? ⟨b,q,none⟩
 frozen:∀ q,w'.frozen? ⟨b,q,none⟩=w.frozen? ⟨b,q,none⟩
theorem Out.refl (b o n:Nat) (w:World):Out b o n w w:=⟨rfl,rfl,rfl,Nat.le_refl _,fun _ _ _=>rfl,fun _ _=>rfl,fun _=>rfl⟩
theorem Out.trans {b o n:Nat} {u v w:World} (h:Out b o n u v) (k:Out b o n v w):Out b o n u w :=
 ⟨k.os.trans h.os,k.tape.trans h.tape,k.output.trans h.output,Nat.le_trans h.size k.size,fun i hi hb=>(k.block i (Nat.lt_of_lt_of_le hi h.size) hb).trans (h.block i hi hb),fun q hq=>(k.cell q hq).trans (h.cell q hq),fun q=>(k.frozen q).trans (h.frozen q)⟩
theorem Out.of_below {b o n:Nat} {w w':World} (h:Below w.heap.size w w') (hb:b<w.heap.size):Out b o n w w' :=
 ⟨h.os,h.tape,h.output,h.size,fun k hk _=>h.block k hk,fun q _=>h.cell (p:=⟨b,q,none⟩) hb,fun q=>h.frozen (p:=⟨b,q,none⟩) hb⟩
theorem heap_setCells_other (b:Nat):∀ (vs:List Value) (o:Nat) (w:World) (k:Nat),k≠b→(w.setCells b o vs).heap[k]? = w.heap[k]?
 | [],_,_,_,_=>rfl
 | v :: r,o,w,k,h=>by rw [World.setCells,heap_setCells_other b r (o+1) _ k h];exact Below.heap_setCell w ⟨b,o,none⟩ v k h
theorem setCells_same (b:Nat):∀ (vs:List Value) (o:Nat) (w:World),(w.setCells b o vs).os=w.os∧(w.setCells b o vs).tape=w.tape∧(w.setCells b o vs).output=w.output∧(w.setCells b o vs).heap.size=w.heap.size
 | [],_,_=>⟨rfl,rfl,rfl,rfl⟩
 | v :: r,o,w=>by
  have h:=setCells_same b r (o+1) (w.setCell ⟨b,o,none⟩ v)
  rw [World.setCells]
  exact ⟨h.1,h.2.1,h.2.2.1,by rw [h.2.2.2];simp⟩
theorem Out.setCells {b o n:Nat} (w:World) {p:Nat} (vs:List Value) (h1:o≤p) (h2:p+vs.length≤o+n):Out b o n w (w.setCells b p vs):=by
 have h:=setCells_same b vs p w
 refine ⟨h.1,h.2.1,h.2.2.1,by rw [h.2.2.2];exact Nat.le_refl _,fun k _ hk=>heap_setCells_other b vs p w k hk,fun q hq => ?_,fun q=>World.frozen?_setCells b vs p w _⟩
 exact World.cell?_setCells_out b vs p w _ (fun _ _=>by show q<p∨p+vs.length≤q;omega)
theorem Out.drew {b o n:Nat} (w:World):Out b o n w w.drew:=⟨rfl,rfl,rfl,Nat.le_refl _,fun _ _ _=>rfl,fun _ _=>rfl,fun _=>rfl⟩
theorem Out.setCell {b o n:Nat} (w:World) {p:Nat} (v:Value) (h1:o≤p) (h2:p<o+n):Out b o n w (w.setCell ⟨b,p,none⟩ v) :=
 Out.setCells w [v] h1 (by simp;omega)
theorem Out.below {b o n B:Nat} {w w':World} (h:Out b o n w w') (hb:B≤b) (hB:B≤w.heap.size):Below B w w' :=
 ⟨h.os,h.tape,h.output,h.size,fun k hk=>h.block k (by omega) (by omega)⟩
theorem Out.cell' {b o n:Nat} {w w':World} (h:Out b o n w w') {c q:Nat} (hc:c<w.heap.size) (hb:c≠b):w'.cell? ⟨c,q,none⟩=w.cell? ⟨c,q,none⟩:=World.cell?_of_block (w:=w) (h.block c hc hb)
theorem Out.frozen' {b o n:Nat} {w w':World} (h:Out b o n w w') {c q:Nat} (hc:c<w.heap.size) (hb:c≠b):w'.frozen? ⟨c,q,none⟩=w.frozen? ⟨c,q,none⟩:=World.frozen?_of_block (w:=w) (h.block c hc hb)
theorem Out.row {b o n:Nat} {w w':World} (h:Out b o n w w') {K:IntKind} {c p m:Nat} {X:Nat→Nat} (hr:RowAt K w c p m X) (hc:c≠b):RowAt K w' c p m X:=fun j hj =>
 ⟨(h.cell' (block_lt_of_cell (hr j hj).1) hc).trans (hr j hj).1,(h.frozen' (block_lt_of_cell (hr j hj).1) hc).trans (hr j hj).2⟩
def over (R:Nat→Nat) (i c:Nat) (Y:Nat→Nat):Nat→Nat:=fun j=>if i≤j∧j<i+c then Y (j - i) else R j
theorem over_lt {R Y:Nat→Nat} {i c p:Nat} (hR:∀ j,R j<p) (hY:∀ j,Y j<p):∀ j,over R i c Y j<p:=fun j=>by
 unfold over;split
 · exact hY _
 · exact hR _
theorem RowAt.splice {K:IntKind} {w:World} {b o n:Nat} {X:Nat→Nat} (h:RowAt K w b o n X) (i c:Nat) (Y:Nat→Nat) (hi:i+c≤n):RowAt K (w.setCells b (o+i) (ints K c Y)) b o n (over X i c Y):=fun j hj=>by
 refine ⟨?_,by rw [World.frozen?_setCells];exact (h j hj).2⟩
 by_cases e:i≤j∧j<i+c
 · have hin:=World.cell?_setCells_in b (ints K c Y) (o+i) w (fun q hq=>by rw [ints_len] at hq;have:=(h (i+q) (by omega)).1;rw [←Nat.add_assoc] at this;rw [this];rfl) (j - i) (by rw [ints_len];omega)
   rw [show o+i+(j - i)=o+j by omega] at hin
   rw [hin]
   have:=ints_at K c Y (j - i) (by omega)
   rw [List.getElem?_eq_getElem (by rw [ints_len];omega)] at this
   simp only [over,e,and_self,if_true]
   exact this
 · rw [World.cell?_setCells_out b _ _ w _ (fun _ _=>by rw [ints_len];show o+j<o+i∨o+i+c≤o+j;omega)]
   simp only [over,e,if_false]
   exact (h j hj).1
def Src (w:World) (v:Option Addr) (n:Nat) (bs:Nat→Nat):Prop:=n=0∨∃ bb ob,v=some ⟨bb,ob,none⟩∧∀ j,j<n→w.cell? ⟨bb,ob+j,none⟩=some (.int .u8 (bs j))
theorem run_copy_bytes {P:Program} (w:World) (dT sT ty elem:TypeId) (b o dLen dCap:Nat) (v:Option Addr) (n cap m:Nat) (bs:Nat→Nat)
 (hu:P.underlying dT=some (.slice elem)) (hs:(P.info? elem).map (·.size)=some 1) (hsrc:Src w v n bs) (hm:m=Nat.min n dLen)
 (ht:w.there b o dLen) :
 (Builtin.copy_ #[dT,sT] ty #[.slice (some ⟨b,o,none⟩) dLen dCap,.slice v n cap]).run P w = .ok (goInt m) (w.setCells b o (ints .u8 m bs)):=by
 by_cases h0:m=0
 · subst h0;exact run_copy_none w dT sT ty elem _ _ dLen dCap n cap hu hs hm.symm
 · have hn:m≤n∧m≤dLen:=by subst hm;exact ⟨Nat.min_le_left _ _,Nat.min_le_right _ _⟩
   rcases hsrc with h | ⟨bb,ob,rfl,hc⟩
   · omega
   · have:=run_copy_cells (P:=P) w dT sT ty elem b o dLen dCap ⟨bb,ob,none⟩ n cap (ints .u8 m bs) hu hs (by rw [ints_len,hm]) (fun j u hj=>by
      have hj':j<m:=by have:=(List.getElem?_eq_some_iff.1 hj).1;rwa [ints_len] at this
      rw [ints_at _ _ _ j hj'] at hj
      rw [Addr.add_mid,←hj]
      exact hc j (by omega)) (fun j hj=>(ht j (by rw [ints_len] at hj;omega)).1) (fun j hj=>(ht j (by rw [ints_len] at hj;omega)).2) (ints_one _ _ _)
     rw [ints_len] at this
     exact this
theorem wpList_copy_bytes {P:Program} {w:World} {ops:Array Oper} {rest:List Oper} {op:Oper} {a:Act} {Q:Exit→Act→World→Prop} (hgd:op.guard=none) (d s:Operand) (dT sT:TypeId)
 (ho:op.op = .call { callee := .builtin .copy,args:=#[d,s],argTypes:=#[dT,sT] }) (elem:TypeId) (hu:P.underlying dT=some (.slice elem)) (hsz:(P.info? elem).map (·.size)=some 1)
 (b o dLen dCap:Nat) (v:Option Addr) (n cap:Nat) (hd:a.eval d = .slice (some ⟨b,o,none⟩) dLen dCap) (hs:a.eval s = .slice v n cap)
 (m:Nat) (bs:Nat→Nat) (hsrc:Src w v n bs) (hm:m=Nat.min n dLen) (ht:w.there b o dLen)
 (h:wpList P ops Q rest (a.put op.dst (goInt m)) (w.setCells b o (ints .u8 m bs))):wpList P ops Q (op :: rest) a w:=by
 refine wpList_plain hgd fun K hK => ?_
 have hrun:=run_copy_bytes (P:=P) w dT sT op.type elem b o dLen dCap v n cap m bs hu hsz hsrc hm ht
 unfold Oper.wp
 simp [execOp,ho,resolve,invoke,builtin,hd,hs,hrun,Result.andThen]
 exact hK _ _ h
theorem RowAt.congr {K:IntKind} {w:World} {b o n:Nat} {X Y:Nat→Nat} (h:RowAt K w b o n X) (e:∀ j,j<n→X j=Y j):RowAt K w b o n Y:=fun j hj=>by rw [←e j hj];exact h j hj
def zb (n:Nat):Array Value:=Array.replicate n (.int .u8 0)
theorem zb_at (n j:Nat) (h:j<n):(zb n)[j]? = some (.int .u8 0):=by simp [zb,h]
theorem made_zb (n:Nat):madeCells (Value.int .u8 0).cells (n*1)=zb n:=by
 apply Array.ext_getElem?
 intro j
 by_cases h:j<n
 · rw [zb_at n j h];simp [madeCells,Value.cells,h,Nat.mod_one]
 · simp [madeCells,zb,Value.cells,h]
theorem make_bytes (W:World) (n:Nat) (l:Int) (hl:l=(n:Int)) (hn:n≤1000000):(Instr.makeSlice 22 (.int .i64 l) (.int .i64 l)).run Try.prog W = .ok (.slice (some ⟨W.heap.size,0,none⟩) n n) (W.alloc (.cells (zb n) 5)):=by
 subst hl
 obtain ⟨i0,hi,hz0,hz1,hz2⟩:=info_parts (show (Try.prog.info? 5).map (fun i=>(i.zero,i.size,i.bytes))=some (some (.int .u8 0),1,1) by kernel_rfl)
 have:=run_makeSlice (P:=Try.prog) W 22 5 i0 (.int .u8 0) Try.underlying22 hi hz0 .i64 .i64 n n (by omega) (Int.le_refl _) (by rw [hz1];simp;omega) (by rw [hz2];omega) (by omega)
 rw [this,hz1]
 simp only [Int.toNat_natCast,made_zb]
def BytesIn (w:World) (v:Value) (n:Nat) (bs:Nat→Nat):Prop:=(∃ xo,v = .slice xo 0 0∧n=0)∨∃ bb ob cap,v = .slice (some ⟨bb,ob,none⟩) n cap∧bb<w.heap.size∧n≤cap∧∀ j,j<n→w.cell? ⟨bb,ob+j,none⟩=some (.int .u8 (bs j))
def Seen (B g n:Nat) (W w':World):Prop:=(∀ b o,b<B→w'.cell? ⟨b,o,none⟩=W.cell? ⟨b,o,none⟩)∧∀ q,q<n→w'.cell? ⟨g,q,none⟩=W.cell? ⟨g,q,none⟩
theorem Seen.of_below {B g n:Nat} {W w':World} (h:Below W.heap.size W w') (hB:B≤W.heap.size) (hg:g<W.heap.size):Seen B g n W w' :=
 ⟨fun b o hb=>h.cell (p:=⟨b,o,none⟩) (by show b<_;omega),fun q _=>h.cell (p:=⟨g,q,none⟩) hg⟩
theorem ints_snoc (K:IntKind) (n:Nat) (X:Nat→Nat):ints K n X ++ [.int K (X n)]=ints K (n+1) X:=by simp [ints,List.range_succ]
theorem ints_congr (K:IntKind) (n:Nat) (X Y:Nat→Nat) (h:∀ j,j<n→X j=Y j):ints K n X=ints K n Y:=by
 unfold ints
 apply List.map_congr_left
 intro j hj
 rw [h j (List.mem_range.1 hj)]
theorem one_new (w:World) (v:Value) (t:TypeId):∀ j u,[v][j]? = some u→(w.alloc (.cells #[v] t)).cell? ((⟨w.heap.size,0,none⟩:Addr).add j)=some u:=fun j u h=>by
 match j,h with
 | 0,h=>simp at h;subst h;rw [Addr.add_mid];simp
theorem one_cell (K:IntKind) (x:Int):∀ u∈[Value.int K x],u.oneCell'=true:=fun u hu=>by simp at hu;subst hu;rfl
theorem Try.info5:(Try.prog.info? 5).map (fun i=>(i.zero,i.size,i.bytes))=some (some (.int .u8 0),1,1):=by kernel_rfl
theorem below_grown {B:Nat} {a w w':World} {v:Value} {base:Nat} {e:TypeId} {size n:Nat} {xs:List Value} (h:Below B a w) (hg:w.grownBy w' v.ownBlock) (ho:w.ownsRow base e size v n xs) (hB:B≤base) (hs:B≤w.heap.size):Below B a w' :=
 h.grown hg hs (fun k hk=>Nat.le_trans hB (ho.lt k hk).1)
theorem run_append_keep {P:Program} (w:World) (t ty base e:TypeId) (i:TypeInfo) (z:Value) (bytes:Nat) (ht:P.underlying t=some (.slice e)) (hi:P.info? e=some i) (hz:i.zero=some z) (hsize:i.size=1) (hby:i.bytes=bytes) (hzs:z.cells.size=1)
 (g cap n:Nat) (xs:List Value) (hown:w.ownsRow base e 1 (.slice (some ⟨g,0,none⟩) n cap) n xs) (ad:Addr) (c:Nat) (x:Value) (hx:∀ j u,[x][j]? = some u→w.cell? (ad.add j)=some u) (h1:x.oneCell'=true)
 (h63:n+1≤maxLen) (hbytes:(n+1)*bytes≤140737488355328) (hbase:base≤w.heap.size) :
 ∃ g' cap' w',(Builtin.append_ #[t,t] ty #[.slice (some ⟨g,0,none⟩) n cap,.slice (some ad) 1 c]).run P w = .ok (.slice (some ⟨g',0,none⟩) (n+1) cap') w' ∧
  w'.ownsRow base e 1 (.slice (some ⟨g',0,none⟩) (n+1) cap') (n+1) (xs ++ [x])∧w.grownBy w' (some g)∧(∀ q,q<n→w'.cell? ⟨g,q,none⟩=w.cell? ⟨g,q,none⟩):=by
 have ho:∀ u∈[x],u.oneCell'=true:=fun u hu=>by simp at hu;subst hu;exact h1
 obtain ⟨v',w',hr,h2,h3,_,_⟩:=run_append_own_at (P:=P) w base t ty e i z 1 bytes ht hi hz hsize hby hzs (by decide) _ n xs hown ad 1 c [x] rfl hx ho h63 hbytes hbase
 obtain ⟨g',cap',rfl,_,_⟩:=h2.form (by omega)
 refine ⟨g',cap',w',hr,h2,h3,fun q hq => ?_⟩
 obtain ⟨hl,hf⟩:=hown
 rcases hf with ⟨hv,_⟩ | ⟨g2,cap2,cur,hv,hb,hg,hnc,hcm,hcs,hxs⟩
 · cases hv
 · cases hv
   by_cases hroom:n+1≤cap
   · have hrun:=run_append_room_cells (P:=P) w t ty e i ht hi g 0 n cap ad 1 c [x] (by rw [hsize];rfl) hx ho hroom (fun j hj=>by
      have:j=0:=by simpa using hj
      subst this
      rw [hsize,cell_of_row w g _ cur e (0,0) hg,Array.getElem?_eq_getElem (by omega)];rfl) (fun j hj=>frozen_of_row w g _ cur e hg)
     rw [hr] at hrun
     cases hrun
     exact World.cell?_setCells_out g _ _ w _ (fun _ _ => .inl (by show q<0+n*i.size;rw [hsize];omega))
   · obtain ⟨v2,w2,hrun,_,r2⟩:=run_append_arg_grows (P:=P) w t ty e i z 1 bytes ht hi hz hsize hby hzs (by decide) ⟨g,0,none⟩ n cap xs hl (fun j u hu=>by
      have hjn:j<n*1:=by have:=(List.getElem?_eq_some_iff.1 hu).1;omega
      rw [Addr.add_mid,Nat.zero_add,cell_of_row w g j cur e (0,0) hg,←Array.getElem?_toList]
      rw [←hxs,List.getElem?_take,if_pos hjn] at hu
      exact hu) ad 1 c [x] rfl hx (by omega) h63 hbytes
     rw [hr] at hrun
     cases hrun
     have hlt:g<w.heap.size:=by
      rcases Nat.lt_or_ge g w.heap.size with h | h
      · exact h
      · rw [Array.getElem?_eq_none h] at hg;cases hg
     exact World.cell?_of_block (r2.block g hlt (by simp))
theorem own_below {w w':World} {base:Nat} {e:TypeId} {size:Nat} {v:Value} {n:Nat} {xs:List Value} (h:w.ownsRow base e size v n xs) (hb:Below w.heap.size w w'):w'.ownsRow base e size v n xs :=
 h.kept (row:=none) ⟨hb.os,hb.tape,hb.output,hb.size,fun k hk _=>hb.block k hk⟩ (by cases hv:v.ownBlock with | none=>exact .inl rfl | some b=>exact .inr (by simp))
def cat (n:Nat) (a b:Nat→Nat):Nat→Nat:=fun j=>if j<n then a j else b (j - n)
theorem cat_lt {n p:Nat} {a b:Nat→Nat} (ha:∀ j,a j<p) (hb:∀ j,b j<p):∀ j,cat n a b j<p:=fun j=>by
 unfold cat;split
 · exact ha _
 · exact hb _
theorem cat_left {n:Nat} {a b:Nat→Nat} {j:Nat} (h:j<n):cat n a b j=a j:=by unfold cat;rw [if_pos h]
theorem cat_right {n:Nat} {a b:Nat→Nat} (j:Nat):cat n a b (n+j)=b j:=by unfold cat;rw [if_neg (by omega),Nat.add_sub_cancel_left]
theorem ints_add (K:IntKind) (n m:Nat) (X Y:Nat→Nat):ints K n X ++ ints K m Y=ints K (n+m) (cat n X Y):=by
 apply List.ext_getElem?
 intro j
 by_cases h:j<n
 · rw [List.getElem?_append_left (by rw [ints_len];exact h),ints_at _ _ _ j h,ints_at _ _ _ j (by omega),cat_left h]
 · rw [List.getElem?_append_right (by rw [ints_len];omega),ints_len]
   by_cases h2:j<n+m
   · rw [ints_at _ _ _ (j - n) (by omega),ints_at _ _ _ j h2]
     unfold cat;rw [if_neg h]
   · rw [List.getElem?_eq_none (by rw [ints_len];omega),List.getElem?_eq_none (by rw [ints_len];omega)]
theorem run_append_any {P:Program} (w:World) (t ty base e:TypeId) (i:TypeInfo) (z:Value) (bytes:Nat) (ht:P.underlying t=some (.slice e)) (hi:P.info? e=some i) (hz:i.zero=some z) (hsize:i.size=1) (hby:i.bytes=bytes) (hzs:z.cells.size=1)
 (v:Value) (n:Nat) (xs:List Value) (hown:w.ownsRow base e 1 v n xs) (xo:Option Addr) (m c:Nat) (bs:Nat→Nat) (hsrc:Src w xo m bs) (hxn:xo=none→c=0)
 (h63:n+m≤maxLen) (hbytes:(n+m)*bytes≤140737488355328) (hbase:base≤w.heap.size) :
 ∃ v' w',(Builtin.append_ #[t,t] ty #[v,.slice xo m c]).run P w = .ok v' w'∧w'.ownsRow base e 1 v' (n+m) (xs ++ ints .u8 m bs)∧w.grownBy w' v.ownBlock:=by
 cases xo with
 | none =>
  have hm:m=0:=by
   rcases hsrc with h | ⟨_,_,h,_⟩
   · exact h
   · cases h
  subst hm
  have hc:=hxn rfl
  subst hc
  refine ⟨v,w,?_,by rw [show ints .u8 0 bs=[] from rfl,List.append_nil];exact hown,⟨rfl,rfl,rfl,Nat.le_refl _,fun _ _ _=>rfl⟩⟩
  rcases hown.2 with ⟨rfl,_⟩ | ⟨g,cap,cur,rfl,_,_,hnc,_⟩
  · exact run_append_nothing w t t ty e i ht hi none 0 0 (Nat.le_refl _) _ ⟨.inl ⟨_,ht⟩,fun _=>rfl,rfl,rfl,by simp,fun _ h=>by cases h⟩
  · exact run_append_nothing w t t ty e i ht hi _ n cap hnc _ ⟨.inl ⟨_,ht⟩,fun _=>rfl,rfl,rfl,by simp,fun _ h=>by cases h⟩
 | some ad =>
  have hnews:∀ j u,(ints .u8 m bs)[j]? = some u→w.cell? (ad.add j)=some u:=fun j u hu=>by
   have hj:j<m:=by have:=(List.getElem?_eq_some_iff.1 hu).1;rwa [ints_len] at this
   rw [ints_at _ _ _ j hj] at hu
   rcases hsrc with h | ⟨bb,ob,h,hc⟩
   · omega
   · cases h
     rw [Addr.add_mid,←hu]
     exact hc j hj
  obtain ⟨v',w',h1,h2,h3,_,_⟩:=run_append_own_at (P:=P) w base t ty e i z 1 bytes ht hi hz hsize hby hzs (by decide) v n xs hown ad m c (ints .u8 m bs) (by rw [ints_len,Nat.mul_one]) hnews (ints_one _ _ _) h63 hbytes hbase
  exact ⟨v',w',h1,h2,h3⟩
theorem wpList_append_any {P:Program} {w:World} {ops:Array Oper} {rest:List Oper} {o:Oper} {a:Act} {Q:Exit→Act→World→Prop} (hgd:o.guard=none) (s x:Operand) (t:TypeId)
 (ho:o.op = .call { callee := .builtin .append,args:=#[s,x],argTypes:=#[t,t] }) (base e:TypeId) (i:TypeInfo) (z:Value) (bytes:Nat) (ht:P.underlying t=some (.slice e)) (hi:P.info? e=some i) (hz:i.zero=some z) (hsize:i.size=1) (hby:i.bytes=bytes) (hzs:z.cells.size=1)
 (v:Value) (n:Nat) (xs:List Value) (hs:a.eval s=v) (hown:w.ownsRow base e 1 v n xs) (xo:Option Addr) (m c:Nat) (bs:Nat→Nat) (hx:a.eval x = .slice xo m c) (hsrc:Src w xo m bs) (hxn:xo=none→c=0)
 (h63:n+m≤maxLen) (hbytes:(n+m)*bytes≤140737488355328) (hbase:base≤w.heap.size)
 (h:∀ v' w',w'.ownsRow base e 1 v' (n+m) (xs ++ ints .u8 m bs)→w.grownBy w' v.ownBlock→wpList P ops Q rest (a.put o.dst v') w'):wpList P ops Q (o :: rest) a w:=by
 refine wpList_plain hgd fun K hK => ?_
 obtain ⟨v',w',h1,h2,h3⟩:=run_append_any (P:=P) w t o.type base e i z bytes ht hi hz hsize hby hzs v n xs hown xo m c bs hsrc hxn h63 hbytes hbase
 unfold Oper.wp execOp
 simp only [ho,resolve,invoke,builtin,Sem.run_bind,Sem.run_pure,Result.andThen_ok,List.map_toArray,List.map_cons,List.map_nil,hs,hx,h1]
 exact hK _ _ (h v' w' h2 h3)
def Own (base:Nat) (w:World) (v:Value) (n:Nat) (X:Nat→Nat):Prop:=w.ownsRow base 5 1 v n (ints .u8 n X)
theorem Own.below {base:Nat} {w w':World} {v:Value} {n:Nat} {X:Nat→Nat} (h:Own base w v n X) (hb:Below w.heap.size w w'):Own base w' v n X:=own_below h hb
theorem Own.alloc {base:Nat} {w:World} {v:Value} {n:Nat} {X:Nat→Nat} (h:Own base w v n X) (o:Obj):Own base (w.alloc o) v n X:=h.below ((Below.refl _ _).alloc (Nat.le_refl _) _)
theorem Own.congr {base:Nat} {w:World} {v:Value} {n:Nat} {X Y:Nat→Nat} (h:Own base w v n X) (e:∀ j,j<n→X j=Y j):Own base w v n Y:=by
 unfold Own;rw [←ints_congr _ _ _ _ e];exact h
theorem Own.form {base:Nat} {w:World} {v:Value} {n:Nat} {X:Nat→Nat} (h:Own base w v n X):(v = .slice none 0 0∧n=0)∨∃ g cap,v = .slice (some ⟨g,0,none⟩) n cap∧base≤g∧g<w.heap.size∧n≤cap∧RowAt .u8 w g 0 n X:=by
 rcases h.2 with hv | ⟨g,cap,cur,rfl,hb,hg,hn,_⟩
 · exact .inl hv
 · refine .inr ⟨g,cap,rfl,hb,(h.lt g rfl).2,hn,fun j hj => ?_⟩
   rw [Nat.zero_add]
   exact ⟨by rw [World.ownsRow.cellAt h j (by omega),ints_at _ _ _ j hj],World.ownsRow.frozenAt h j⟩
theorem Own.nil (base:Nat) (w:World) (X:Nat→Nat):Own base w (.slice none 0 0) 0 X:=World.ownsRow_nil w base _ _
theorem Own.lit (base:Nat) (w:World) (X:Nat→Nat) (h:base≤w.heap.size):Own base (w.alloc (.cells #[] 5)) (.slice (some ⟨w.heap.size,0,none⟩) 0 0) 0 X:=World.ownsRow_lit w #[] 0 h (by decide) rfl
theorem Own.grown {B base:Nat} {a w w':World} {v:Value} {n:Nat} {X:Nat→Nat} (h:Below B a w) (hg:w.grownBy w' v.ownBlock) (ho:Own base w v n X) (hB:B≤base) (hs:B≤w.heap.size):Below B a w':=below_grown h hg ho hB hs
theorem src_one (w:World) (x:Int) (y:Nat) (h:x=(y:Int)):Src (w.alloc (.cells #[.int .u8 x] 5)) (some ⟨w.heap.size,0,none⟩) 1 (fun _=>y):=by
 subst h
 refine .inr ⟨w.heap.size,0,rfl,fun j hj => ?_⟩
 have:j=0:=by omega
 subst this
 simp
theorem wpList_append_bytes {w:World} {ops:Array Oper} {rest:List Oper} {o:Oper} {a:Act} {Q:Exit→Act→World→Prop} (hgd:o.guard=none) (s x:Operand)
 (ho:o.op = .call { callee := .builtin .append,args:=#[s,x],argTypes:=#[22,22] }) (base:Nat)
 (v:Value) (n:Nat) (X:Nat→Nat) (hs:a.eval s=v) (hown:Own base w v n X) (xo:Option Addr) (m c:Nat) (bs:Nat→Nat) (hx:a.eval x = .slice xo m c) (hsrc:Src w xo m bs) (hxn:xo=none→c=0)
 (hl:n+m≤140737488355328) (hbase:base≤w.heap.size)
 (h:∀ v' w',Own base w' v' (n+m) (cat n X bs)→w.grownBy w' v.ownBlock→wpList Try.prog ops Q rest (a.put o.dst v') w'):wpList Try.prog ops Q (o :: rest) a w:=by
 obtain ⟨i0,hi,hz0,hz1,hz2⟩:=info_parts Try.info5
 exact wpList_append_any hgd s x 22 ho base 5 i0 (.int .u8 0) 1 Try.underlying22 hi hz0 hz1 hz2 rfl v n _ hs hown xo m c bs hx hsrc hxn (by unfold maxLen;omega) (by omega) hbase (fun v' w' h1 h2=>h v' w' (by unfold Own;rw [←ints_add];exact h1) h2)
theorem wpList_append_next {w:World} {ops:Array Oper} {rest:List Oper} {o:Oper} {a:Act} {Q:Exit→Act→World→Prop} (hgd:o.guard=none) (s x:Operand)
 (ho:o.op = .call { callee := .builtin .append,args:=#[s,x],argTypes:=#[22,22] }) (base:Nat)
 (v:Value) (n:Nat) (F:Nat→Nat) (y:Int) (hs:a.eval s=v) (hown:Own base w v n F) (hx:a.eval x = .slice (some ⟨w.heap.size,0,none⟩) 1 1) (hF:y=(F n:Int))
 (hl:n+1≤140737488355328) (hbase:base≤w.heap.size)
 (h:∀ v' w',Own base w' v' (n+1) F→Below base w w'→wpList Try.prog ops Q rest (a.put o.dst v') w'):wpList Try.prog ops Q (o :: rest) a (w.alloc (.cells #[.int .u8 y] 5)):=by
 have hb:Below base w (w.alloc (.cells #[.int .u8 y] 5)):=(Below.refl _ _).alloc hbase _
 have hz:base≤(w.alloc (.cells #[.int .u8 y] 5)).heap.size:=by simp only [World.size_alloc];omega
 refine wpList_append_bytes hgd s x ho base v n F hs (hown.alloc _) _ 1 1 (fun _=>F n) hx (src_one w y (F n) hF) (fun h=>by cases h) hl hz (fun v' w' h1 h2=>h v' w' (h1.congr fun j hj => ?_) (Own.grown hb h2 (hown.alloc _) (Nat.le_refl _) hz))
 by_cases e:j<n
 · rw [cat_left e]
 · obtain rfl:j=n:=by omega
   unfold cat;rw [if_neg e]
theorem run_append_bytes (w:World) (base:Nat) (v:Value) (n:Nat) (X:Nat→Nat) (hown:Own base w v n X) (xo:Option Addr) (m c:Nat) (bs:Nat→Nat) (hsrc:Src w xo m bs) (hxn:xo=none→c=0)
 (hl:n+m≤140737488355328) (hbase:base≤w.heap.size) :
 ∃ v' w',(Builtin.append_ #[22,22] 22 #[v,.slice xo m c]).run Try.prog w = .ok v' w'∧Own base w' v' (n+m) (cat n X bs)∧Below base w w':=by
 obtain ⟨i0,hi,hz0,hz1,hz2⟩:=info_parts Try.info5
 obtain ⟨v',w',h1,h2,h3⟩:=run_append_any (P:=Try.prog) w 22 22 base 5 i0 (.int .u8 0) 1 Try.underlying22 hi hz0 hz1 hz2 rfl v n _ hown xo m c bs hsrc hxn (by unfold maxLen;omega) (by omega) hbase
 exact ⟨v',w',h1,by unfold Own;rw [←ints_add];exact h2,Own.grown (Below.refl _ _) h3 hown (Nat.le_refl _) hbase⟩
theorem wpList_append_empty {w:World} {ops:Array Oper} {rest:List Oper} {o:Oper} {a:Act} {Q:Exit→Act→World→Prop} (hgd:o.guard=none) (s x:Operand)
 (ho:o.op = .call { callee := .builtin .append,args:=#[s,x],argTypes:=#[22,22] }) (base:Nat)
 (F:Nat→Nat) (g:Nat) (hg:w.heap.size=g) (hs:a.eval s = .slice (some ⟨g,0,none⟩) 0 0) (xo:Option Addr) (m c:Nat) (hx:a.eval x = .slice xo m c) (hsrc:Src (w.alloc (.cells #[] 5)) xo m F) (hxn:xo=none→c=0)
 (hl:m≤140737488355328) (hbase:base≤w.heap.size)
 (h:∀ v' w',Own base w' v' m F→Below base w w'→wpList Try.prog ops Q rest (a.put o.dst v') w'):wpList Try.prog ops Q (o :: rest) a (w.alloc (.cells #[] 5)):=by
 subst hg
 have hb:Below base w (w.alloc (.cells #[] 5)):=(Below.refl _ _).alloc hbase _
 have hz:base≤(w.alloc (.cells #[] 5)).heap.size:=by simp only [World.size_alloc];omega
 refine wpList_append_bytes hgd s x ho base _ 0 F hs (Own.lit base w F hbase) xo m c F hx hsrc hxn (by omega) hz (fun v' w' h1 h2=>h v' w' ?_ (Own.grown hb h2 (Own.lit base w F hbase) (Nat.le_refl _) hz))
 rw [Nat.zero_add] at h1
 exact h1.congr fun j _=>by unfold cat;rw [if_neg (by omega),Nat.sub_zero]
theorem Own.start {base:Nat} {w:World} {v:Value} {n m:Nat} {X:Nat→Nat} (h:Own base w v m X) (e:m=n):Own base w v n X:=by subst e;exact h
theorem BytesIn.src {w:World} {v:Value} {n:Nat} {bs:Nat→Nat} (h:BytesIn w v n bs):∃ xo c,v = .slice xo n c∧(xo=none→c=0)∧n≤c∧∀ w',Below w.heap.size w w'→Src w' xo n bs:=by
 rcases h with ⟨xo,rfl,rfl⟩ | ⟨bb,ob,cap,rfl,h1,h2,h3⟩
 · exact ⟨xo,0,rfl,fun _=>rfl,Nat.le_refl _,fun _ _ => .inl rfl⟩
 · exact ⟨_,cap,rfl,(fun h=>by cases h),h2,fun w' hb => .inr ⟨bb,ob,rfl,fun j hj=>(hb.cell (p:=⟨bb,ob+j,none⟩) h1).trans (h3 j hj)⟩⟩
theorem BytesIn.keep {w w':World} {v:Value} {n:Nat} {bs:Nat→Nat} (h:BytesIn w v n bs) (hb:Below w.heap.size w w'):BytesIn w' v n bs:=by
 rcases h with h | ⟨bb,ob,cap,rfl,h1,h2,h3⟩
 · exact .inl h
 · exact .inr ⟨bb,ob,cap,rfl,Nat.lt_of_lt_of_le h1 hb.size,h2,fun j hj=>(hb.cell (p:=⟨bb,ob+j,none⟩) h1).trans (h3 j hj)⟩
def strB (n:Nat) (bs:Nat→Nat):ByteArray:=⟨((List.range n).map fun j=>UInt8.ofNat (bs j)).toArray⟩
theorem strB_congr {n:Nat} {a b:Nat→Nat} (h:∀ j,j<n→a j=b j):strB n a=strB n b:=by
 unfold strB
 congr 2
 exact List.map_congr_left fun j hj=>by rw [h j (List.mem_range.1 hj)]
theorem conv_bytes (w:World) (bb ob n cap:Nat) (bs:Nat→Nat) (hb:∀ j,bs j<256) (h:∀ j,j<n→w.cell? ⟨bb,ob+j,none⟩=some (.int .u8 (bs j))) :
 (convert 22 9 (.slice (some ⟨bb,ob,none⟩) n cap)).run Try.prog w = .ok (.string (strB n bs)) w:=by
 have hl:((List.range n).map fun j=>UInt8.ofNat (bs j)).length=n:=by simp
 have:=run_convert_bytes_back (P:=Try.prog) w 22 9 5 ⟨bb,ob,none⟩ cap ((List.range n).map fun j=>UInt8.ofNat (bs j)) Try.underlying22 Try.underlying5 (by kernel_rfl) (fun j hj=>by
  rw [hl] at hj
  rw [Addr.add_mid,h j hj]
  simp only [List.getElem_map,List.getElem_range]
  rw [UInt8.toNat_ofNat_of_lt' (by have:=hb j;simp [UInt8.size];omega)])
 rw [hl] at this
 exact this
theorem conv_nil (w:World):(convert 22 9 (.slice none 0 0)).run Try.prog w = .ok (.string (strB 0 (fun _=>0))) w:=by
 rw [run_convert_bytes_string w 22 9 5 none 0 0 Try.underlying22 Try.underlying5 (by kernel_rfl)]
 rfl
theorem conv_empty (w:World) (a:Addr):(convert 22 9 (.slice (some a) 0 0)).run Try.prog w = .ok (.string (strB 0 (fun _=>0))) w :=
 run_convert_bytes_back (P:=Try.prog) w 22 9 5 a 0 [] Try.underlying22 Try.underlying5 (by kernel_rfl) (fun j hj=>absurd hj (Nat.not_lt_zero j))
theorem BytesIn.conv {w:World} {v:Value} {n:Nat} {bs:Nat→Nat} (h:BytesIn w v n bs) (hb:∀ j,bs j<256) (w':World) (hw:Below w.heap.size w w'):(convert 22 9 v).run Try.prog w' = .ok (.string (strB n bs)) w':=by
 rcases h with ⟨xo,rfl,rfl⟩ | ⟨bb,ob,cap,rfl,h1,h2,h3⟩
 · have e:=strB_congr (n:=0) (a:=fun _=>0) (b:=bs) (fun j hj=>by omega)
   cases xo with
   | none=>exact (conv_nil w').trans (by rw [e])
   | some a=>exact (conv_empty w' a).trans (by rw [e])
 · exact conv_bytes w' bb ob n cap bs hb (fun j hj=>(hw.cell (p:=⟨bb,ob+j,none⟩) h1).trans (h3 j hj))
theorem BytesIn.still {w w':World} {v:Value} {n:Nat} {bs:Nat→Nat} (h:BytesIn w v n bs) (hb:Below w.heap.size w w'):BytesIn w' v n bs:=by
 rcases h with h | ⟨bb,ob,cap,rfl,h1,h2,h3⟩
 · exact .inl h
 · exact .inr ⟨bb,ob,cap,rfl,Nat.lt_of_lt_of_le h1 hb.size,h2,fun j hj=>(hb.cell (p:=⟨bb,ob+j,none⟩) h1).trans (h3 j hj)⟩
theorem strB_eq {n m:Nat} {a b:Nat→Nat} (ha:∀ j,a j<256) (hb:∀ j,b j<256):strB n a=strB m b↔n=m∧∀ j,j<n→a j=b j:=by
 constructor
 · intro h
   have h1:((List.range n).map fun j=>UInt8.ofNat (a j))=((List.range m).map fun j=>UInt8.ofNat (b j)):=by
    have:=congrArg (fun x:ByteArray=>x.data.toList) h
    simpa [strB] using this
   have hl:=congrArg List.length h1
   simp at hl
   subst hl
   refine ⟨rfl,fun j hj => ?_⟩
   have h2:=congrArg (fun l:List UInt8=>l[j]?) h1
   simp [hj] at h2
   have h3:=congrArg UInt8.toNat h2
   rw [UInt8.toNat_ofNat_of_lt' (by have:=ha j;simp [UInt8.size];omega),UInt8.toNat_ofNat_of_lt' (by have:=hb j;simp [UInt8.size];omega)] at h3
   exact h3
 · rintro ⟨rfl,h⟩
   exact strB_congr h
end Go.Proofs.Ytalgabgofpmebaa
namespace Go.Proofs.Ytalgabgofpmebaa
abbrev V8:=BitVec 128
abbrev vZ:V8:=BitVec.ofNat 128 0
abbrev v1:V8:=BitVec.ofNat 128 1
abbrev vC:V8:=BitVec.ofNat 128 135
def gX (v:V8):V8:=(v <<< 1) ^^^ (if v.msb then vC else vZ)
def gXp:Nat→V8→V8
 | 0,a=>a
 | i+1,a=>gX (gXp i a)
def gT (b:V8):Nat→V8→V8
 | 0,_=>vZ
 | i+1,a=>gT b i a ^^^ (if b.getLsbD i then gXp i a else vZ)
def gTm (a b:V8):V8:=gT b 128 a
theorem v_swap (a b c d:V8):(a ^^^ b) ^^^ (c ^^^ d)=(a ^^^ c) ^^^ (b ^^^ d):=by
 rw [BitVec.xor_assoc,←BitVec.xor_assoc b c d,BitVec.xor_comm b c,BitVec.xor_assoc c b d,←BitVec.xor_assoc]
theorem gX_xor (u v:V8):gX (u ^^^ v)=gX u ^^^ gX v:=by
 unfold gX
 rw [BitVec.shiftLeft_xor_distrib,BitVec.msb_xor,v_swap]
 congr 1
 cases u.msb <;> cases v.msb <;> decide
theorem gX_zero:gX vZ=vZ:=by decide
theorem gXp_xor (u v:V8):∀ i,gXp i (u ^^^ v)=gXp i u ^^^ gXp i v
 | 0=>rfl
 | i+1=>by show gX (gXp i (u ^^^ v))=gX (gXp i u) ^^^ gX (gXp i v);rw [gXp_xor u v i,gX_xor]
theorem gXp_zero:∀ i,gXp i vZ=vZ
 | 0=>rfl
 | i+1=>by show gX (gXp i vZ)=vZ;rw [gXp_zero i,gX_zero]
theorem gXp_X (a:V8):∀ i,gXp i (gX a)=gX (gXp i a)
 | 0=>rfl
 | i+1=>by show gX (gXp i (gX a))=gX (gX (gXp i a));rw [gXp_X a i]
theorem gXp_comm (a:V8) (i:Nat):∀ k,gXp i (gXp k a)=gXp k (gXp i a)
 | 0=>rfl
 | k+1=>by show gXp i (gX (gXp k a))=gX (gXp k (gXp i a));rw [gXp_X,gXp_comm a i k]
theorem gT_xor (b u v:V8):∀ i,gT b i (u ^^^ v)=gT b i u ^^^ gT b i v
 | 0=>by show (vZ:V8)=vZ ^^^ vZ;decide
 | i+1=>by
  show gT b i (u ^^^ v) ^^^ (if b.getLsbD i then gXp i (u ^^^ v) else vZ)=(gT b i u ^^^ (if b.getLsbD i then gXp i u else vZ)) ^^^ (gT b i v ^^^ (if b.getLsbD i then gXp i v else vZ))
  rw [gT_xor b u v i,v_swap]
  congr 1
  split
  · exact gXp_xor u v i
  · decide
theorem gT_zero (b:V8):∀ i,gT b i vZ=vZ
 | 0=>rfl
 | i+1=>by
  show gT b i vZ ^^^ (if b.getLsbD i then gXp i vZ else vZ)=vZ
  rw [gT_zero b i,gXp_zero]
  split <;> decide
theorem gT_X (b a:V8) (k:Nat):∀ i,gT b i (gXp k a)=gXp k (gT b i a)
 | 0=>(gXp_zero k).symm
 | i+1=>by
  show gT b i (gXp k a) ^^^ (if b.getLsbD i then gXp i (gXp k a) else vZ)=gXp k (gT b i a ^^^ (if b.getLsbD i then gXp i a else vZ))
  rw [gT_X b a k i,gXp_xor,gXp_comm a i k]
  congr 1
  split
  · rfl
  · exact (gXp_zero k).symm
theorem gT_comm (b c a:V8) (k:Nat):∀ i,gT c i (gT b k a)=gT b k (gT c i a)
 | 0=>(gT_zero b k).symm
 | i+1=>by
  show gT c i (gT b k a) ^^^ (if c.getLsbD i then gXp i (gT b k a) else vZ)=gT b k (gT c i a ^^^ (if c.getLsbD i then gXp i a else vZ))
  rw [gT_comm b c a k i,gT_xor]
  congr 1
  split
  · exact (gT_X b a i k).symm
  · exact (gT_zero b k).symm
theorem gXp_one:∀ i,i<128→gXp i v1=BitVec.twoPow 128 i:=by decide +kernel
theorem gT_bit (b:V8) (j:Nat):∀ i,i≤128→(gT b i v1).getLsbD j=(decide (j<i) && b.getLsbD j)
 | 0,_=>by
  show (vZ:V8).getLsbD j=_
  simp
 | i+1,hi=>by
  show (gT b i v1 ^^^ (if b.getLsbD i then gXp i v1 else vZ)).getLsbD j=_
  rw [BitVec.getLsbD_xor,gT_bit b j i (by omega),gXp_one i (by omega)]
  by_cases h:b.getLsbD i
  · rw [if_pos h,BitVec.getLsbD_twoPow]
    by_cases e:i=j
    · subst e
      simp [h]
      omega
    · have:decide (i=j)=false:=decide_eq_false e
      simp only [this,Bool.and_false,Bool.xor_false]
      congr 1
      exact decide_eq_decide.2 ⟨fun h=>by omega,fun h=>by omega⟩
  · rw [if_neg h]
    by_cases e:i=j
    · subst e
      simp [h]
    · simp only [BitVec.getLsbD_zero,Bool.xor_false]
      congr 1
      exact decide_eq_decide.2 ⟨fun h=>by omega,fun h=>by omega⟩
theorem gT_one (b:V8):gT b 128 v1=b:=by
 apply BitVec.eq_of_getLsbD_eq
 intro j hj
 rw [gT_bit b j 128 (Nat.le_refl _),decide_eq_true hj,Bool.true_and]
theorem gTm_comm (a b:V8):gTm a b=gTm b a:=by
 unfold gTm
 have h:=gT_comm a b v1 128 128
 rw [gT_one,gT_one] at h
 exact h
theorem gTm_assoc (a b c:V8):gTm (gTm a b) c=gTm a (gTm b c):=by
 rw [gTm_comm a (gTm b c),gTm_comm a b]
 unfold gTm
 exact gT_comm a c b 128 128
theorem gTm_xor (a b c:V8):gTm a (b ^^^ c)=gTm a b ^^^ gTm a c:=by
 rw [gTm_comm a (b ^^^ c),gTm_comm a b,gTm_comm a c]
 exact gT_xor a b c 128
end Go.Proofs.Ytalgabgofpmebaa
namespace Go.Proofs.Ytalgabgofpmebaa
def xt (x:Nat):Nat:=if 255<x*2 then (x*2) ^^^ 283 else x*2
def gmP (b:Nat):Nat→Nat→Nat × Nat
 | 0,a=>(0,a)
 | i+1,a=>(if b / 2 ^ i%2=1 then (gmP b i a).1 ^^^ (gmP b i a).2 else (gmP b i a).1,xt (gmP b i a).2)
def gm (a b:Nat):Nat:=(gmP b 8 a).1
theorem gmP_snd (b c:Nat):∀ i a,(gmP b i a).2=(gmP c i a).2
 | 0,_=>rfl
 | i+1,a=>by show xt (gmP b i a).2=xt (gmP c i a).2;rw [gmP_snd b c i a]
theorem bit_xor (x y i:Nat):(x ^^^ y) / 2 ^ i%2=(x / 2 ^ i%2+y / 2 ^ i%2)%2:=by
 have h:=Nat.testBit_xor x y i
 simp only [Nat.testBit_eq_decide_div_mod_eq] at h
 have a:=Nat.mod_two_eq_zero_or_one ((x ^^^ y) / 2 ^ i)
 have b:=Nat.mod_two_eq_zero_or_one (x / 2 ^ i)
 have c:=Nat.mod_two_eq_zero_or_one (y / 2 ^ i)
 rcases a with a | a <;> rcases b with b | b <;> rcases c with c | c <;> rw [a,b,c] at h ⊢ <;> first | rfl | (exact absurd h (by decide))
theorem xor_swap (a b c d:Nat):(a ^^^ b) ^^^ (c ^^^ d)=(a ^^^ c) ^^^ (b ^^^ d):=by
 rw [Nat.xor_assoc,←Nat.xor_assoc b c d,Nat.xor_comm b c,Nat.xor_assoc c b d,←Nat.xor_assoc]
theorem gmP_xor (x y a:Nat):∀ i,(gmP (x ^^^ y) i a).1=(gmP x i a).1 ^^^ (gmP y i a).1
 | 0=>(Nat.xor_self 0).symm
 | i+1=>by
  have ih:=gmP_xor x y a i
  have e1:=gmP_snd (x ^^^ y) x i a
  have e2:=gmP_snd y x i a
  have hb:=bit_xor x y i
  simp only [gmP]
  rw [ih,e1,e2,hb]
  have b:=Nat.mod_two_eq_zero_or_one (x / 2 ^ i)
  have c:=Nat.mod_two_eq_zero_or_one (y / 2 ^ i)
  generalize (gmP x i a).1=X
  generalize (gmP y i a).1=Y
  generalize (gmP x i a).2=D
  rcases b with b | b <;> rcases c with c | c <;> rw [b,c]
  · rfl
  · show (X ^^^ Y) ^^^ D=X ^^^ (Y ^^^ D)
    rw [Nat.xor_assoc]
  · show (X ^^^ Y) ^^^ D=(X ^^^ D) ^^^ Y
    rw [Nat.xor_assoc,Nat.xor_comm Y D,←Nat.xor_assoc]
  · show X ^^^ Y=(X ^^^ D) ^^^ (Y ^^^ D)
    rw [xor_swap,Nat.xor_self,Nat.xor_zero]
theorem gm_xor (a x y:Nat):gm a (x ^^^ y)=gm a x ^^^ gm a y:=gmP_xor x y a 8
def boxL:List Nat:=[99,124,119,123,242,107,111,197,48,1,103,43,254,215,171,118,202,130,201,125,250,89,71,240,173,212,162,175,156,164,114,192,183,253,147,38,54,63,247,204,52,165,229,241,113,216,49,21,4,199,35,195,24,150,5,154,7,18,128,226,235,39,178,117,9,131,44,26,27,110,90,160,82,59,214,179,41,227,47,132,83,209,0,237,32,252,177,91,106,203,190,57,74,76,88,207,208,239,170,251,67,77,51,133,69,249,2,127,80,60,159,168,81,163,64,143,146,157,56,245,188,182,218,33,16,255,243,210,205,12,19,236,95,151,68,23,196,167,126,61,100,93,25,115,96,129,79,220,34,42,144,136,70,238,184,20,222,94,11,219,224,50,58,10,73,6,36,92,194,211,172,98,145,149,228,121,231,200,55,109,141,213,78,169,108,86,244,234,101,122,174,8,186,120,37,46,28,166,180,198,232,221,116,31,75,189,139,138,112,62,181,102,72,3,246,14,97,53,87,185,134,193,29,158,225,248,152,17,105,217,142,148,155,30,135,233,206,85,40,223,140,161,137,13,191,230,66,104,65,153,45,15,176,84,187,22]
def unL:List Nat:=[82,9,106,213,48,54,165,56,191,64,163,158,129,243,215,251,124,227,57,130,155,47,255,135,52,142,67,68,196,222,233,203,84,123,148,50,166,194,35,61,238,76,149,11,66,250,195,78,8,46,161,102,40,217,36,178,118,91,162,73,109,139,209,37,114,248,246,100,134,104,152,22,212,164,92,204,93,101,182,146,108,112,72,80,253,237,185,218,94,21,70,87,167,141,157,132,144,216,171,0,140,188,211,10,247,228,88,5,184,179,69,6,208,44,30,143,202,63,15,2,193,175,189,3,1,19,138,107,58,145,17,65,79,103,220,234,151,242,207,206,240,180,230,115,150,172,116,34,231,173,53,133,226,249,55,232,28,117,223,110,71,241,26,113,29,41,197,137,111,183,98,14,170,24,190,27,252,86,62,75,198,210,121,32,154,219,192,254,120,205,90,244,31,221,168,51,136,7,199,49,177,18,16,89,39,128,236,95,96,81,127,169,25,181,74,13,45,229,122,159,147,201,156,239,160,224,59,77,174,42,245,176,200,235,187,60,131,83,153,97,23,43,4,126,186,119,214,38,225,105,20,99,85,33,12,125]
def boxN (x:Nat):Nat:=boxL.getD x 0
def unN (x:Nat):Nat:=unL.getD x 0
theorem all256 {p:Nat→Bool} (h:(List.range 256).all p=true) (x:Nat) (hx:x<256):p x=true:=List.all_eq_true.1 h x (List.mem_range.2 hx)
set_option maxRecDepth 100000 in
theorem box_ok:((List.range 256).all fun x=>unN (boxN x) == x && boxN (unN x) == x && decide (boxN x<256) && decide (unN x<256) && !(boxN x == x))=true:=by kernel_rfl
theorem box_all (x:Nat) (hx:x<256):unN (boxN x)=x∧boxN (unN x)=x∧boxN x<256∧unN x<256∧boxN x≠x:=by
 have h:=all256 box_ok x hx
 simp only [Bool.and_eq_true,beq_iff_eq,decide_eq_true_eq,Bool.not_eq_true',beq_eq_false_iff_ne] at h
 exact ⟨h.1.1.1.1,h.1.1.1.2,h.1.1.2,h.1.2,h.2⟩
def mT (k:Nat):Nat:=[2,3,1,1].getD k 0
def mB (k:Nat):Nat:=[14,11,13,9].getD k 0
def col1 (m:Nat→Nat) (b0 b1 b2 b3:Nat) (r:Nat):Nat:=gm (m ((0+4 - r)%4)) b0 ^^^ gm (m ((1+4 - r)%4)) b1 ^^^ gm (m ((2+4 - r)%4)) b2 ^^^ gm (m ((3+4 - r)%4)) b3
def colN (m:Nat→Nat) (b:Nat→Nat) (j:Nat):Nat:=col1 m (b (j / 4*4)) (b (j / 4*4+1)) (b (j / 4*4+2)) (b (j / 4*4+3)) (j%4)
def way (m n:Nat→Nat) (i k x:Nat):Nat:=gm (n ((0+4 - k)%4)) (gm (m ((i+4 - 0)%4)) x) ^^^ gm (n ((1+4 - k)%4)) (gm (m ((i+4 - 1)%4)) x) ^^^ gm (n ((2+4 - k)%4)) (gm (m ((i+4 - 2)%4)) x) ^^^ gm (n ((3+4 - k)%4)) (gm (m ((i+4 - 3)%4)) x)
end Go.Proofs.Ytalgabgofpmebaa
namespace Go.Proofs.Ytalgabgofpmebaa
def S16 (a b:Nat→Nat):Prop:=∀ j,j<16→a j=b j
def B16 (a:Nat→Nat):Prop:=∀ j,j<16→a j<256
theorem S16.symm {a b:Nat→Nat} (h:S16 a b):S16 b a:=fun j hj=>(h j hj).symm
theorem S16.trans {a b c:Nat→Nat} (h:S16 a b) (k:S16 b c):S16 a c:=fun j hj=>(h j hj).trans (k j hj)
theorem B16.of {a b:Nat→Nat} (h:B16 a) (e:S16 a b):B16 b:=fun j hj=>by rw [←e j hj];exact h j hj
def addN (w:Nat→Nat) (r:Nat) (b:Nat→Nat) (j:Nat):Nat:=b j ^^^ w (16*r+j)
def rowN (by_:Nat) (b:Nat→Nat) (j:Nat):Nat:=b (4*((j / 4+j%4*by_)%4)+j%4)
def thrN (s:Nat→Nat) (b:Nat→Nat) (j:Nat):Nat:=s (b j)
theorem addN_S {a b:Nat→Nat} (h:S16 a b) (w:Nat→Nat) (r:Nat):S16 (addN w r a) (addN w r b):=fun j hj=>by unfold addN;rw [h j hj]
theorem rowN_S {a b:Nat→Nat} (h:S16 a b) (y:Nat):S16 (rowN y a) (rowN y b):=fun j hj=>h _ (by omega)
theorem thrN_S {a b:Nat→Nat} (h:S16 a b) (s:Nat→Nat):S16 (thrN s a) (thrN s b):=fun j hj=>by unfold thrN;rw [h j hj]
theorem colN_S {a b:Nat→Nat} (h:S16 a b) (m:Nat→Nat):S16 (colN m a) (colN m b):=fun j hj=>by
 unfold colN
 rw [h (j / 4*4) (by omega),h (j / 4*4+1) (by omega),h (j / 4*4+2) (by omega),h (j / 4*4+3) (by omega)]
theorem xor_byte {a b:Nat} (ha:a<256) (hb:b<256):a ^^^ b<256:=Nat.xor_lt_two_pow (n:=8) ha hb
set_option maxRecDepth 100000 in
theorem gm_ok:((List.range 256).all fun x=>(List.range 4).all fun k=>decide (gm (mT k) x<256) && decide (gm (mB k) x<256))=true:=by kernel_rfl
theorem gm_byte (x k:Nat) (hx:x<256) (hk:k<4):gm (mT k) x<256∧gm (mB k) x<256:=by
 have h:=List.all_eq_true.1 (all256 gm_ok x hx) k (List.mem_range.2 hk)
 simp only [Bool.and_eq_true,decide_eq_true_eq] at h
 exact h
theorem addN_B {a w:Nat→Nat} (h:B16 a) (hw:∀ j,w j<256) (r:Nat):B16 (addN w r a):=fun j hj=>xor_byte (h j hj) (hw _)
theorem rowN_B {a:Nat→Nat} (h:B16 a) (y:Nat):B16 (rowN y a):=fun j hj=>h _ (by omega)
theorem box_B {a:Nat→Nat} (h:B16 a):B16 (thrN boxN a):=fun j hj=>(box_all _ (h j hj)).2.2.1
theorem colT_B {a:Nat→Nat} (h:B16 a):B16 (colN mT a):=fun j hj=>by
 unfold colN col1
 exact xor_byte (xor_byte (xor_byte (gm_byte _ _ (h _ (by omega)) (by omega)).1 (gm_byte _ _ (h _ (by omega)) (by omega)).1) (gm_byte _ _ (h _ (by omega)) (by omega)).1) (gm_byte _ _ (h _ (by omega)) (by omega)).1
theorem row_row (b:Nat→Nat):S16 (rowN 3 (rowN 1 b)) b∧S16 (rowN 1 (rowN 3 b)) b:=by
 constructor
 · intro j hj
   unfold rowN
   congr 1
   omega
 · intro j hj
   unfold rowN
   congr 1
   omega
theorem un_box {b:Nat→Nat} (h:B16 b):S16 (thrN unN (thrN boxN b)) b∧S16 (thrN boxN (thrN unN b)) b:=⟨fun j hj=>(box_all _ (h j hj)).1,fun j hj=>(box_all _ (h j hj)).2.1⟩
def blkS (w:Nat→Nat) (b:Nat→Nat):Nat→Nat→Nat
 | 0=>addN w 0 b
 | r+1=>addN w (r+1) (colN mT (rowN 1 (thrN boxN (blkS w b r))))
def blkN (w b:Nat→Nat):Nat→Nat:=addN w 10 (rowN 1 (thrN boxN (blkS w b 9)))
theorem blkS_B {w b:Nat→Nat} (hb:B16 b) (hw:∀ j,w j<256):∀ r,B16 (blkS w b r)
 | 0=>addN_B hb hw 0
 | r+1=>addN_B (colT_B (rowN_B (box_B (blkS_B hb hw r)) 1)) hw _
theorem blkN_B {w b:Nat→Nat} (hb:B16 b) (hw:∀ j,w j<256):B16 (blkN w b):=addN_B (rowN_B (box_B (blkS_B hb hw 9)) 1) hw 10
theorem undo {x:Nat→Nat} (h:B16 x):S16 (thrN unN (rowN 3 (rowN 1 (thrN boxN x)))) x:=(thrN_S (row_row _).1 unN).trans (un_box h).1
end Go.Proofs.Ytalgabgofpmebaa
namespace Go.Proofs.Ytalgabgofpmebaa
def bitN (X:Nat→Nat) (i:Nat):Bool:=(X (i / 8)).testBit (7 - i%8)
def tvN (X:Nat→Nat):Nat→V8
 | 0=>vZ
 | i+1=>tvN X i ^^^ (if bitN X i then BitVec.twoPow 128 i else vZ)
def toV (X:Nat→Nat):V8:=tvN X 128
theorem tvN_bit (X:Nat→Nat) (j:Nat):∀ i,i≤128→(tvN X i).getLsbD j=(decide (j<i) && bitN X j)
 | 0,_=>by
  show (vZ:V8).getLsbD j=_
  simp
 | i+1,hi=>by
  show (tvN X i ^^^ (if bitN X i then BitVec.twoPow 128 i else vZ)).getLsbD j=_
  rw [BitVec.getLsbD_xor,tvN_bit X j i (by omega)]
  by_cases h:bitN X i
  · rw [if_pos h,BitVec.getLsbD_twoPow]
    by_cases e:i=j
    · subst e
      simp [h]
      omega
    · have:decide (i=j)=false:=decide_eq_false e
      simp only [this,Bool.and_false,Bool.xor_false]
      congr 1
      exact decide_eq_decide.2 ⟨fun h=>by omega,fun h=>by omega⟩
  · rw [if_neg h]
    by_cases e:i=j
    · subst e
      simp [h]
    · simp only [BitVec.getLsbD_zero,Bool.xor_false]
      congr 1
      exact decide_eq_decide.2 ⟨fun h=>by omega,fun h=>by omega⟩
theorem toV_bit (X:Nat→Nat) (j:Nat) (hj:j<128):(toV X).getLsbD j=bitN X j:=by
 unfold toV
 rw [tvN_bit X j 128 (Nat.le_refl _),decide_eq_true hj,Bool.true_and]
theorem toV_S {X Y:Nat→Nat} (h:S16 X Y):toV X=toV Y:=by
 apply BitVec.eq_of_getLsbD_eq
 intro j hj
 rw [toV_bit X j hj,toV_bit Y j hj]
 unfold bitN
 rw [h (j / 8) (by omega)]
theorem toV_xor (X Y:Nat→Nat):toV (fun j=>X j ^^^ Y j)=toV X ^^^ toV Y:=by
 apply BitVec.eq_of_getLsbD_eq
 intro j hj
 rw [BitVec.getLsbD_xor,toV_bit _ j hj,toV_bit X j hj,toV_bit Y j hj]
 unfold bitN
 rw [Nat.testBit_xor]
def byB (v:V8) (j:Nat):Nat→Nat
 | 0=>0
 | t+1=>byB v j t ||| (if v.getLsbD (8*j+(7 - t)) then 2 ^ t else 0)
def byV (v:V8) (j:Nat):Nat:=byB v j 8
theorem byB_bit (v:V8) (j t:Nat):∀ n,(byB v j n).testBit t=(decide (t<n) && v.getLsbD (8*j+(7 - t)))
 | 0=>by simp [byB]
 | n+1=>by
  show (byB v j n ||| (if v.getLsbD (8*j+(7 - n)) then 2 ^ n else 0)).testBit t=_
  rw [Nat.testBit_or,byB_bit v j t n]
  by_cases e:t=n
  · subst e
    by_cases h:v.getLsbD (8*j+(7 - t))
    · rw [if_pos h,Nat.testBit_two_pow_self];simp [h]
    · rw [if_neg h];simp [h]
  · have e1:(if v.getLsbD (8*j+(7 - n))=true then 2 ^ n else 0).testBit t=false:=by
     split
     · rw [Nat.testBit_two_pow];simp;omega
     · simp
    rw [e1,Bool.or_false]
    congr 1
    exact decide_eq_decide.2 ⟨fun h=>by omega,fun h=>by omega⟩
theorem byB_lt (v:V8) (j:Nat):∀ n,byB v j n<2 ^ n
 | 0=>(by decide:0<1)
 | n+1=>by
  show (byB v j n ||| (if v.getLsbD (8*j+(7 - n)) then 2 ^ n else 0))<2 ^ (n+1)
  refine Nat.or_lt_two_pow (Nat.lt_trans (byB_lt v j n) (Nat.pow_lt_pow_right (by decide) (by omega))) ?_
  split
  · exact Nat.pow_lt_pow_right (by decide) (by omega)
  · exact Nat.two_pow_pos _
theorem byV_lt (v:V8) (j:Nat):byV v j<256:=byB_lt v j 8
theorem byV_toV {X:Nat→Nat} (hX:B16 X):S16 (byV (toV X)) X:=fun j hj=>by
 apply Nat.eq_of_testBit_eq
 intro t
 unfold byV
 rw [byB_bit]
 by_cases h:t<8
 · rw [decide_eq_true h,Bool.true_and,toV_bit X _ (by omega)]
   unfold bitN
   rw [show (8*j+(7 - t)) / 8=j by omega,show 7 - (8*j+(7 - t))%8=t by omega]
 · rw [decide_eq_false h,Bool.false_and]
   exact (Nat.testBit_lt_two_pow (Nat.lt_of_lt_of_le (hX j hj) (Nat.pow_le_pow_right (n:=2) (by decide) (show 8≤t by omega)))).symm
theorem toV_byV (v:V8):toV (byV v)=v:=by
 apply BitVec.eq_of_getLsbD_eq
 intro i hi
 rw [toV_bit _ i hi]
 unfold bitN byV
 rw [byB_bit,decide_eq_true (by omega),Bool.true_and]
 congr 1
 omega
theorem toV_inj {X Y:Nat→Nat} (hX:B16 X) (hY:B16 Y) (h:toV X=toV Y):S16 X Y:=((byV_toV hX).symm.trans (by rw [h];exact fun _ _=>rfl)).trans (byV_toV hY)
def shN (X:Nat→Nat) (j:Nat):Nat:=if j=0 then (if bitN X 127 then X 0 / 2 ^^^ 225 else X 0 / 2) else (X j / 2 ||| X (j - 1)*128%256)
theorem shN_B {X:Nat→Nat} (hX:B16 X):B16 (shN X):=fun j hj=>by
 unfold shN
 have h:=hX j hj
 split
 · subst_vars
   split
   · exact xor_byte (by omega) (by decide)
   · omega
 · exact Nat.or_lt_two_pow (n:=8) (show X j / 2<2 ^ 8 by omega) (Nat.mod_lt _ (by decide))
theorem c135:∀ i,i<8→(vC:V8).getLsbD i=(225:Nat).testBit (7 - i):=by decide
theorem c135':∀ i,i<128→8≤i→(vC:V8).getLsbD i=false:=by decide +kernel
theorem gX_bit (v:V8) (i:Nat) (hi:i<128):(gX v).getLsbD i=((decide (0<i) && v.getLsbD (i - 1)) ^^ (v.getLsbD 127 && (vC:V8).getLsbD i)):=by
 unfold gX
 rw [BitVec.getLsbD_xor,BitVec.getLsbD_shiftLeft]
 have hm:v.msb=v.getLsbD 127:=rfl
 rw [hm]
 have e1:(decide (i<128) && !decide (i<1) && v.getLsbD (i - 1))=(decide (0<i) && v.getLsbD (i - 1)):=by
  rw [decide_eq_true hi,Bool.true_and]
  congr 1
  by_cases h:i<1
  · rw [decide_eq_true h,decide_eq_false (by omega)];rfl
  · rw [decide_eq_false h,decide_eq_true (by omega)];rfl
 rw [e1]
 congr 1
 by_cases h:v.getLsbD 127
 · rw [if_pos h,h,Bool.true_and]
 · rw [if_neg h,eq_false_of_ne_true h,Bool.false_and]
   exact BitVec.getLsbD_zero
theorem sh_gX {X:Nat→Nat} (hX:B16 X):toV (shN X)=gX (toV X):=by
 apply BitVec.eq_of_getLsbD_eq
 intro i hi
 rw [toV_bit _ i hi,gX_bit _ i hi,toV_bit X 127 (by decide)]
 unfold bitN
 by_cases hj:i / 8=0
 · have hi8:i<8:=by omega
   rw [hj,show i%8=i by omega]
   have e:(shN X 0).testBit (7 - i)=((X 0 / 2).testBit (7 - i) ^^ (bitN X 127 && (225:Nat).testBit (7 - i))):=by
    unfold shN
    rw [if_pos rfl]
    by_cases h:bitN X 127
    · rw [if_pos h,Nat.testBit_xor,h,Bool.true_and]
    · rw [if_neg h];simp [h]
   rw [e,←c135 i hi8]
   congr 1
   rw [Nat.testBit_div_two]
   by_cases h0:i=0
   · subst h0
     simp only [Nat.lt_irrefl,decide_false,Bool.false_and]
     exact Nat.testBit_lt_two_pow (hX 0 (by decide))
   · rw [decide_eq_true (by omega),Bool.true_and,toV_bit X _ (by omega)]
     unfold bitN
     rw [show (i - 1) / 8=0 by omega,show 7 - (i - 1)%8=7 - i+1 by omega]
 · rw [c135' i hi (by omega),Bool.and_false,Bool.xor_false,decide_eq_true (by omega),Bool.true_and,toV_bit X _ (by omega)]
   unfold bitN shN
   rw [if_neg hj,Nat.testBit_or,Nat.testBit_div_two]
   by_cases h0:i%8=0
   · rw [h0,show (i - 1) / 8=i / 8 - 1 by omega,show 7 - (i - 1)%8=0 by omega]
     rw [Nat.testBit_lt_two_pow (show X (i / 8)<2 ^ (7 - 0+1) from hX _ (by omega)),Bool.false_or]
     show (X (i / 8 - 1)*2 ^ 7%2 ^ 8).testBit 7=_
     rw [Nat.testBit_mod_two_pow,Nat.testBit_mul_two_pow]
     simp
   · rw [show (i - 1) / 8=i / 8 by omega,show 7 - (i - 1)%8=7 - i%8+1 by omega]
     have e:(X (i / 8 - 1)*128%256).testBit (7 - i%8)=false:=by
      show (X (i / 8 - 1)*2 ^ 7%2 ^ 8).testBit (7 - i%8)=false
      rw [Nat.testBit_mod_two_pow,Nat.testBit_mul_two_pow,decide_eq_false (show ¬7 - i%8≥7 by omega)]
      simp
     rw [e,Bool.or_false]
def tmN (a b:Nat→Nat) (j:Nat):Nat:=byV (gTm (toV a) (toV b)) j
theorem tmN_lt (a b:Nat→Nat) (j:Nat):tmN a b j<256:=byV_lt _ j
def tmX (a:Nat→Nat):Nat→Nat→Nat
 | 0=>a
 | i+1=>shN (tmX a i)
def tmP (a b:Nat→Nat):Nat→Nat→Nat
 | 0=>fun _=>0
 | i+1=>if bitN b i then fun j=>tmP a b i j ^^^ tmX a i j else tmP a b i
theorem tmX_B {a:Nat→Nat} (ha:B16 a):∀ i,B16 (tmX a i)
 | 0=>ha
 | i+1=>shN_B (tmX_B ha i)
theorem tmP_B {a b:Nat→Nat} (ha:B16 a):∀ i,B16 (tmP a b i)
 | 0=>fun _ _=>(by decide:0<256)
 | i+1=>by
  unfold tmP
  split
  · exact fun j hj=>xor_byte (tmP_B ha i j hj) (tmX_B ha i j hj)
  · exact tmP_B ha i
theorem tmX_V {a:Nat→Nat} (ha:B16 a):∀ i,toV (tmX a i)=gXp i (toV a)
 | 0=>rfl
 | i+1=>by show toV (shN (tmX a i))=gX (gXp i (toV a));rw [sh_gX (tmX_B ha i),tmX_V ha i]
theorem toV_zero:toV (fun _=>0)=vZ:=by
 apply BitVec.eq_of_getLsbD_eq
 intro j hj
 rw [toV_bit _ j hj]
 simp [bitN]
theorem tmP_V {a:Nat→Nat} (b:Nat→Nat) (ha:B16 a):∀ i,i≤128→toV (tmP a b i)=gT (toV b) i (toV a)
 | 0,_=>toV_zero
 | i+1,hi=>by
  show toV (if bitN b i then fun j=>tmP a b i j ^^^ tmX a i j else tmP a b i)=gT (toV b) i (toV a) ^^^ (if (toV b).getLsbD i then gXp i (toV a) else vZ)
  rw [toV_bit b i (by omega)]
  by_cases h:bitN b i
  · rw [if_pos h,if_pos h,toV_xor,tmP_V b ha i (by omega),tmX_V ha i]
  · rw [if_neg h,if_neg h,tmP_V b ha i (by omega),BitVec.xor_zero]
theorem tmP_tm {a:Nat→Nat} (b:Nat→Nat) (ha:B16 a):S16 (tmP a b 128) (tmN a b):=by
 have h:=byV_toV (tmP_B (b:=b) ha 128)
 rw [tmP_V b ha 128 (Nat.le_refl _)] at h
 exact h.symm
theorem tmN_S {a b c d:Nat→Nat} (h:S16 a c) (k:S16 b d):tmN a b=tmN c d:=by
 unfold tmN
 rw [toV_S h,toV_S k]
theorem tmN_comm (a b:Nat→Nat):tmN a b=tmN b a:=by
 unfold tmN
 rw [gTm_comm]
theorem tmN_assoc (a b c:Nat→Nat):tmN (tmN a b) c=tmN a (tmN b c):=by
 have e:∀ x y,toV (tmN x y)=gTm (toV x) (toV y):=fun x y=>toV_byV _
 funext j
 show byV (gTm (toV (tmN a b)) (toV c)) j=byV (gTm (toV a) (toV (tmN b c))) j
 rw [e,e,gTm_assoc]
theorem tmN_xor (a b c:Nat→Nat):S16 (tmN a (fun j=>b j ^^^ c j)) (fun j=>tmN a b j ^^^ tmN a c j):=by
 refine toV_inj (fun _ _=>byV_lt _ _) (fun _ _=>xor_byte (byV_lt _ _) (byV_lt _ _)) ?_
 have e:∀ x y,toV (tmN x y)=gTm (toV x) (toV y):=fun x y=>toV_byV _
 rw [toV_xor,e,e,e,toV_xor,gTm_xor]
end Go.Proofs.Ytalgabgofpmebaa
namespace Go.Proofs.Ytalgabgofpmebaa
def pad (n:Nat):Nat:=(n+15) / 16*16
def padN (n:Nat) (X:Nat→Nat) (j:Nat):Nat:=if j<n then X j else 0
theorem padN_lt {n:Nat} {X:Nat→Nat} (h:∀ j,X j<256) (j:Nat):padN n X j<256:=by
 unfold padN
 split
 · exact h j
 · decide
def be4 (n j:Nat):Nat:=n / 2 ^ (8*(3 - j))%256
def lnN (n j:Nat):Nat:=if j<4 then 0 else be4 (8*n) (j - 4)
theorem be4_lt (n j:Nat):be4 n j<256:=Nat.mod_lt _ (by decide)
end Go.Proofs.Ytalgabgofpmebaa
namespace Go.Proofs.Ytalgabgofpmebaa
open Go.RowKit
def wdB (v:V8) (o:Nat):Nat→Nat
 | 0=>0
 | t+1=>wdB v o t ||| (if v.getLsbD (o+(63 - t)) then 2 ^ t else 0)
def wd (v:V8) (o:Nat):Nat:=wdB v o 64
theorem wdB_bit (v:V8) (o t:Nat):∀ n,(wdB v o n).testBit t=(decide (t<n) && v.getLsbD (o+(63 - t)))
 | 0=>by simp [wdB]
 | n+1=>by
  show (wdB v o n ||| (if v.getLsbD (o+(63 - n)) then 2 ^ n else 0)).testBit t=_
  rw [Nat.testBit_or,wdB_bit v o t n]
  by_cases e:t=n
  · subst e
    by_cases h:v.getLsbD (o+(63 - t))
    · rw [if_pos h,Nat.testBit_two_pow_self];simp [h]
    · rw [if_neg h];simp [h]
  · have e1:(if v.getLsbD (o+(63 - n))=true then 2 ^ n else 0).testBit t=false:=by
     split
     · rw [Nat.testBit_two_pow];simp;omega
     · simp
    rw [e1,Bool.or_false]
    congr 1
    exact decide_eq_decide.2 ⟨fun h=>by omega,fun h=>by omega⟩
theorem wdB_lt (v:V8) (o:Nat):∀ n,wdB v o n<2 ^ n
 | 0=>(by decide:0<1)
 | n+1=>by
  show (wdB v o n ||| (if v.getLsbD (o+(63 - n)) then 2 ^ n else 0))<2 ^ (n+1)
  refine Nat.or_lt_two_pow (Nat.lt_trans (wdB_lt v o n) (Nat.pow_lt_pow_right (by decide) (by omega))) ?_
  split
  · exact Nat.pow_lt_pow_right (by decide) (by omega)
  · exact Nat.two_pow_pos _
theorem wd_bit (v:V8) (o t:Nat):(wd v o).testBit t=(decide (t<64) && v.getLsbD (o+(63 - t))):=wdB_bit v o t 64
theorem wd_lt (v:V8) (o:Nat):wd v o<18446744073709551616:=wdB_lt v o 64
theorem word_eq {a b:Nat} (ha:a<18446744073709551616) (hb:b<18446744073709551616) (h:∀ t,t<64→a.testBit t=b.testBit t):a=b:=by
 apply Nat.eq_of_testBit_eq
 intro t
 by_cases ht:t<64
 · exact h t ht
 · have hp:18446744073709551616≤2 ^ t:=Nat.pow_le_pow_right (n:=2) (by decide) (show 64≤t by omega)
   rw [Nat.testBit_lt_two_pow (Nat.lt_of_lt_of_le ha hp),Nat.testBit_lt_two_pow (Nat.lt_of_lt_of_le hb hp)]
theorem wd_xor (u v:V8) (o:Nat):wd (u ^^^ v) o=wd u o ^^^ wd v o:=by
 refine word_eq (wd_lt _ _) (Nat.xor_lt_two_pow (n:=64) (wd_lt _ _) (wd_lt _ _)) fun t ht => ?_
 rw [Nat.testBit_xor,wd_bit,wd_bit,wd_bit,decide_eq_true ht,BitVec.getLsbD_xor]
 simp
theorem wd_zero (o:Nat):wd vZ o=0:=by
 refine word_eq (wd_lt _ _) (by decide) fun t ht => ?_
 rw [wd_bit]
 simp
theorem wd_inj {u v:V8} (h0:wd u 0=wd v 0) (h1:wd u 64=wd v 64):u=v:=by
 apply BitVec.eq_of_getLsbD_eq
 intro j hj
 by_cases h:j<64
 · have e:=congrArg (fun x=>Nat.testBit x (63 - j)) h0
   simp only [wd_bit] at e
   rw [decide_eq_true (show 63 - j<64 by omega),Bool.true_and,Bool.true_and,show 0+(63 - (63 - j))=j by omega] at e
   exact e
 · have e:=congrArg (fun x=>Nat.testBit x (127 - j)) h1
   simp only [wd_bit] at e
   rw [decide_eq_true (show 127 - j<64 by omega),Bool.true_and,Bool.true_and,show 64+(63 - (127 - j))=j by omega] at e
   exact e
theorem red_hi:∀ t,t<64→(vC:V8).getLsbD (63 - t)=(16212958658533785600:Nat).testBit t:=by decide +kernel
theorem gX_hi (v:V8):wd (gX v) 0=wd v 0 / 2 ^^^ (if v.getLsbD 127 then 16212958658533785600 else 0):=by
 refine word_eq (wd_lt _ _) (Nat.xor_lt_two_pow (n:=64) (Nat.lt_of_le_of_lt (Nat.div_le_self _ _) (wd_lt _ _)) (by split <;> decide)) fun t ht => ?_
 rw [wd_bit,decide_eq_true ht,Bool.true_and,gX_bit _ _ (by omega),Nat.testBit_xor,Nat.testBit_div_two,wd_bit,show 0+(63 - t)=63 - t by omega,red_hi t ht]
 have e1:(decide (0<63 - t) && v.getLsbD (63 - t - 1))=(decide (t+1<64) && v.getLsbD (0+(63 - (t+1)))):=by
  rw [show 63 - t - 1=0+(63 - (t+1)) by omega]
  congr 1
  exact decide_eq_decide.2 ⟨fun h=>by omega,fun h=>by omega⟩
 rw [e1]
 congr 1
 by_cases h:v.getLsbD 127
 · rw [if_pos h,h,Bool.true_and]
 · rw [if_neg h,eq_false_of_ne_true h,Bool.false_and,Nat.zero_testBit]
theorem gX_lo (v:V8):wd (gX v) 64=wd v 64 / 2 ||| wd v 0*9223372036854775808%18446744073709551616:=by
 refine word_eq (wd_lt _ _) (Nat.or_lt_two_pow (n:=64) (Nat.lt_of_le_of_lt (Nat.div_le_self _ _) (wd_lt _ _)) (Nat.mod_lt _ (by decide))) fun t ht => ?_
 show _=(wd v 64 / 2 ||| wd v 0*2 ^ 63%2 ^ 64).testBit t
 rw [wd_bit,decide_eq_true ht,Bool.true_and,gX_bit _ _ (by omega),Nat.testBit_or,Nat.testBit_div_two,wd_bit,c135' _ (by omega) (by omega),Bool.and_false,Bool.xor_false,decide_eq_true (show 0<64+(63 - t) by omega),Bool.true_and,Nat.testBit_mod_two_pow,Nat.testBit_mul_two_pow,decide_eq_true ht,Bool.true_and]
 by_cases h:t=63
 · subst h
   rw [wd_bit]
   simp
 · rw [decide_eq_true (show t+1<64 by omega),decide_eq_false (show ¬t≥63 by omega),Bool.true_and,Bool.false_and,Bool.or_false,show 64+(63 - t) - 1=64+(63 - (t+1)) by omega]
theorem wd_top (v:V8) (o t:Nat) (ht:t<64):wd v o*2 ^ t%18446744073709551616 / 9223372036854775808=if v.getLsbD (o+t) then 1 else 0:=by
 have h1:(wd v o*2 ^ t%2 ^ 64 / 2 ^ 63).testBit 0=v.getLsbD (o+t):=by
  rw [Nat.testBit_div_two_pow,Nat.testBit_mod_two_pow,Nat.testBit_mul_two_pow,wd_bit,decide_eq_true (show 0+63<64 by decide),decide_eq_true (show 0+63≥t by omega),decide_eq_true (show 0+63 - t<64 by omega),show 63 - (0+63 - t)=t by omega]
  simp
 have h2:wd v o*2 ^ t%2 ^ 64 / 2 ^ 63<2:=by
  have:wd v o*2 ^ t%2 ^ 64<2 ^ 64:=Nat.mod_lt _ (by decide)
  omega
 show wd v o*2 ^ t%2 ^ 64 / 2 ^ 63=_
 generalize wd v o*2 ^ t%2 ^ 64 / 2 ^ 63=x at *
 rw [←h1]
 rcases (show x=0∨x=1 by omega) with rfl | rfl <;> decide
theorem wd_low (v:V8):wd v 64 &&& 1=if v.getLsbD 127 then 1 else 0:=by
 have h:=wd_bit v 64 0
 rw [decide_eq_true (by decide),Bool.true_and,show 64+(63 - 0)=127 by decide] at h
 rw [←h,Nat.and_one_is_mod,Nat.testBit_zero]
 rcases Nat.mod_two_eq_zero_or_one (wd v 64) with e | e <;> simp [e]
theorem wd_next (x t:Nat):x*2 ^ t%18446744073709551616*2%18446744073709551616=x*2 ^ (t+1)%18446744073709551616:=by
 rw [Nat.pow_succ,←Nat.mul_assoc,Nat.mod_mul_mod]
abbrev blV (v:V8):Value := .agg #[.int .u64 (wd v 0),.int .u64 (wd v 64)]
theorem wd_byte (v:V8) (j:Nat):wd v (64*(j / 8)) / 2 ^ (56 - 8*(j%8))%256=byV v j:=by
 apply Nat.eq_of_testBit_eq
 intro t
 show (wd v (64*(j / 8)) / 2 ^ (56 - 8*(j%8))%2 ^ 8).testBit t=_
 unfold byV
 rw [byB_bit,Nat.testBit_mod_two_pow,Nat.testBit_div_two_pow,wd_bit]
 by_cases h:t<8
 · rw [decide_eq_true h,decide_eq_true (show t+(56 - 8*(j%8))<64 by omega),Bool.true_and,Bool.true_and,Bool.true_and]
   congr 1
   omega
 · rw [decide_eq_false h,Bool.false_and,Bool.false_and]
theorem pad_bit (X:Nat→Nat) (k i:Nat) (hi:i<128):(toV (padN (k+1) X)).getLsbD i=((toV (padN k X)).getLsbD i || (decide (i / 8=k) && (X k).testBit (7 - i%8))):=by
 rw [toV_bit _ i hi,toV_bit _ i hi]
 unfold bitN padN
 by_cases h:i / 8=k
 · rw [if_pos (by omega),if_neg (by omega),decide_eq_true h,h]
   simp
 · by_cases h2:i / 8<k
   · rw [if_pos (by omega),if_pos h2,decide_eq_false h]
     simp
   · rw [if_neg (by omega),if_neg h2,decide_eq_false h]
     simp
theorem pad_word (X:Nat→Nat) (hX:∀ j,X j<256) (k:Nat) (hk:k<16):wd (toV (padN (k+1) X)) (64*(k / 8))=wd (toV (padN k X)) (64*(k / 8)) ||| X k*2 ^ (56 - 8*(k%8))%18446744073709551616:=by
 refine word_eq (wd_lt _ _) (Nat.or_lt_two_pow (n:=64) (wd_lt _ _) (Nat.mod_lt _ (by decide))) fun t ht => ?_
 show _=(_ ||| X k*2 ^ (56 - 8*(k%8))%2 ^ 64).testBit t
 rw [Nat.testBit_or,wd_bit,wd_bit,decide_eq_true ht,Bool.true_and,Bool.true_and,pad_bit _ _ _ (by omega),Nat.testBit_mod_two_pow,Nat.testBit_mul_two_pow,decide_eq_true ht,Bool.true_and]
 congr 1
 by_cases h:(64*(k / 8)+(63 - t)) / 8=k
 · rw [decide_eq_true h,decide_eq_true (show t≥56 - 8*(k%8) by omega),Bool.true_and,Bool.true_and]
   congr 1
   omega
 · rw [decide_eq_false h,Bool.false_and]
   by_cases h2:t≥56 - 8*(k%8)
   · rw [decide_eq_true h2,Bool.true_and]
     exact (Nat.testBit_lt_two_pow (Nat.lt_of_lt_of_le (hX k) (Nat.pow_le_pow_right (n:=2) (by decide) (show 8≤t - (56 - 8*(k%8)) by omega)))).symm
   · rw [decide_eq_false h2,Bool.false_and]
theorem pad_other (X:Nat→Nat) (k o:Nat) (hk:k<16) (ho:o=0∧8≤k∨o=64∧k<8):wd (toV (padN (k+1) X)) o=wd (toV (padN k X)) o:=by
 refine word_eq (wd_lt _ _) (wd_lt _ _) fun t ht => ?_
 rw [wd_bit,wd_bit,pad_bit _ _ _ (by omega),decide_eq_false (show ¬(o+(63 - t)) / 8=k by omega)]
 simp
theorem pad_none (X:Nat→Nat):toV (padN 0 X)=vZ:=by
 rw [←toV_zero]
 exact toV_S fun j _=>by unfold padN;rw [if_neg (by omega)]
def lnV (m d:Nat):V8:=toV (cat 8 (lnN m) (lnN d))
theorem ln_bit (n i:Nat) (hn:n<200000) (hi:i<64):(lnN n (i / 8)).testBit (7 - i%8)=(8*n).testBit (63 - i):=by
 have h8:(8*n)<2 ^ 32:=by omega
 unfold lnN
 by_cases h:i / 8<4
 · rw [if_pos h,Nat.zero_testBit]
   exact (Nat.testBit_lt_two_pow (Nat.lt_of_lt_of_le h8 (Nat.pow_le_pow_right (n:=2) (by decide) (show 32≤63 - i by omega)))).symm
 · rw [if_neg h]
   unfold be4
   show (8*n / 2 ^ (8*(3 - (i / 8 - 4)))%2 ^ 8).testBit (7 - i%8)=_
   rw [Nat.testBit_mod_two_pow,Nat.testBit_div_two_pow,decide_eq_true (show 7 - i%8<8 by omega),Bool.true_and]
   congr 1
   omega
theorem ln_words (m d:Nat) (hm:m<200000) (hd:d<200000):wd (lnV m d) 0=8*m∧wd (lnV m d) 64=8*d:=by
 refine ⟨word_eq (wd_lt _ _) (by omega) fun t ht => ?_,word_eq (wd_lt _ _) (by omega) fun t ht => ?_⟩
 · unfold lnV
   rw [wd_bit,decide_eq_true ht,Bool.true_and,toV_bit _ _ (by omega)]
   unfold bitN cat
   rw [if_pos (by omega),ln_bit m _ hm (by omega)]
   congr 1
   omega
 · unfold lnV
   rw [wd_bit,decide_eq_true ht,Bool.true_and,toV_bit _ _ (by omega)]
   unfold bitN cat
   rw [if_neg (by omega),show (64+(63 - t)) / 8 - 8=(63 - t) / 8 by omega,show (64+(63 - t))%8=(63 - t)%8 by omega,ln_bit d _ hd (by omega)]
   congr 1
   omega
end Go.Proofs.Ytalgabgofpmebaa
namespace Go.Proofs.Ytalgabgofpmebaa
def pwL:List Nat:=[1,3,5,15,17,51,85,255,26,46,114,150,161,248,19,53,95,225,56,72,216,115,149,164,247,2,6,10,30,34,102,170,229,52,92,228,55,89,235,38,106,190,217,112,144,171,230,49,83,245,4,12,20,60,68,204,79,209,104,184,211,110,178,205,76,212,103,169,224,59,77,215,98,166,241,8,24,40,120,136,131,158,185,208,107,189,220,127,129,152,179,206,73,219,118,154,181,196,87,249,16,48,80,240,11,29,39,105,187,214,97,163,254,25,43,125,135,146,173,236,47,113,147,174,233,32,96,160,251,22,58,78,210,109,183,194,93,231,50,86,250,21,63,65,195,94,226,61,71,201,64,192,91,237,44,116,156,191,218,117,159,186,213,100,172,239,42,126,130,157,188,223,122,142,137,128,155,182,193,88,232,35,101,175,234,37,111,177,200,67,197,84,252,31,33,99,165,244,7,9,27,45,119,153,176,203,70,202,69,207,74,222,121,139,134,145,168,227,62,66,198,81,243,14,18,54,90,238,41,123,141,140,143,138,133,148,167,242,13,23,57,75,221,124,132,151,162,253,28,36,108,180,199,82,246]
def invL:List Nat:=[0,1,141,246,203,82,123,209,232,79,41,192,176,225,229,199,116,180,170,75,153,43,96,95,88,63,253,204,255,64,238,178,58,110,90,241,85,77,168,201,193,10,152,21,48,68,162,194,44,69,146,108,243,57,102,66,242,53,32,111,119,187,89,25,29,254,55,103,45,49,245,105,167,100,171,19,84,37,233,9,237,92,5,202,76,36,135,191,24,62,34,240,81,236,97,23,22,94,175,211,73,166,54,67,244,71,145,223,51,147,33,59,121,183,151,133,16,181,186,60,182,112,208,6,161,250,129,130,131,126,127,128,150,115,190,86,155,158,149,217,247,2,185,164,222,106,50,109,216,138,132,114,42,20,159,136,249,220,137,154,251,124,46,195,143,184,101,72,38,200,18,74,206,231,210,98,12,224,31,239,17,117,120,113,165,142,118,61,189,188,134,87,11,40,47,163,218,212,228,15,169,39,83,4,27,252,172,230,122,7,174,99,197,219,226,234,148,139,196,213,157,248,144,107,177,13,214,235,198,14,207,173,8,78,215,227,93,80,30,179,91,35,56,52,104,70,3,140,221,156,125,160,205,26,65,28]
def pwN (i:Nat):Nat:=pwL.getD i 0
def invN (x:Nat):Nat:=invL.getD x 0
theorem all_below {p:Nat→Bool} {n:Nat} (h:(List.range n).all p=true) (x:Nat) (hx:x<n):p x=true:=List.all_eq_true.1 h x (List.mem_range.2 hx)
theorem pw_ok:((List.range 255).all fun i=>decide (pwN i<256) && (gm (pwN i) 3 == pwN ((i+1)%255)))=true:=by kernel_rfl
theorem pw_all (i:Nat) (hi:i<255):pwN i<256∧gm (pwN i) 3=pwN ((i+1)%255):=by
 have h:=all_below pw_ok i hi
 simp only [Bool.and_eq_true,beq_iff_eq,decide_eq_true_eq] at h
 exact h
def invF:Nat→Nat→Nat
 | 0=>fun _=>0
 | i+1=>upd (invF i) (pwN i) (pwN ((255 - i)%255))
set_option maxRecDepth 100000 in
theorem inv_ok:((List.range 256).all fun x=>invF 255 x == invN x && decide (invN x<256))=true:=by kernel_rfl
theorem inv_all (x:Nat) (hx:x<256):invF 255 x=invN x∧invN x<256:=by
 have h:=all_below inv_ok x hx
 simp only [Bool.and_eq_true,beq_iff_eq,decide_eq_true_eq] at h
 exact h
def boxF (y:Nat):Nat→Nat
 | 0=>y ^^^ 99
 | n+1=>boxF y n ^^^ (y*2 ^ (n+1)%256 ||| y / 2 ^ (8 - (n+1)))
theorem boxF_ok:((List.range 256).all fun x=>boxF (invN x) 4 == boxN x)=true:=by kernel_rfl
theorem boxF_all (x:Nat) (hx:x<256):boxF (invN x) 4=boxN x:=by
 have h:=all_below boxF_ok x hx
 simp only [beq_iff_eq] at h
 exact h
def rcN:Nat→Nat
 | 0=>1
 | n+1=>gm (rcN n) 2
def kyT (w:Nat→Nat) (n k:Nat):Nat:=w (4*n - 16+k) ^^^ (if n%4=0 then (if k=0 then boxN (w (4*n - 4+1)) ^^^ rcN (n / 4 - 1) else boxN (w (4*n - 4+(k+1)%4))) else w (4*n - 4+k))
def kyS (key:Nat→Nat):Nat→Nat→Nat
 | 0=>key
 | n+1=>cat (4*(n+4)) (kyS key n) (kyT (kyS key n) (n+4))
def kyN (key:Nat→Nat):Nat→Nat:=kyS key 40
theorem rc_ok:((List.range 10).all fun n=>decide (rcN n<256))=true:=by kernel_rfl
theorem rc_lt (n:Nat) (hn:n<10):rcN n<256:=by
 have h:=all_below rc_ok n hn
 simpa using h
theorem kyS_lt {key:Nat→Nat} (hk:∀ j,key j<256):∀ n,n≤40→∀ j,kyS key n j<256
 | 0,_,j=>hk j
 | n+1,hn,j=>by
  have ih:=kyS_lt hk n (by omega)
  show cat (4*(n+4)) (kyS key n) (kyT (kyS key n) (n+4)) j<256
  refine cat_lt ih (fun k => ?_) j
  unfold kyT
  refine xor_byte (ih _) ?_
  split
  · split
    · exact xor_byte (box_all _ (ih _)).2.2.1 (rc_lt _ (by omega))
    · exact (box_all _ (ih _)).2.2.1
  · exact ih _
theorem kyN_lt {key:Nat→Nat} (hk:∀ j,key j<256):∀ j,kyN key j<256:=kyS_lt hk 40 (Nat.le_refl _)
end Go.Proofs.Ytalgabgofpmebaa
namespace Go.Proofs.Ytalgabgofpmebaa
def dbN (x:Nat):Nat:=(x*2%256) ^^^ (x / 128*27)
theorem db_ok:((List.range 256).all fun x=>dbN x == gm 2 x && dbN x == gm x 2 && (dbN x ^^^ x) == gm 3 x && gm 1 x == x && decide (dbN x<256) && gm 0 x == 0)=true:=by kernel_rfl
theorem db_all (x:Nat) (hx:x<256):dbN x=gm 2 x∧dbN x=gm x 2∧dbN x ^^^ x=gm 3 x∧gm 1 x=x∧dbN x<256∧gm 0 x=0:=by
 have h:=all256 db_ok x hx
 simp only [Bool.and_eq_true,beq_iff_eq,decide_eq_true_eq] at h
 exact ⟨h.1.1.1.1.1,h.1.1.1.1.2,h.1.1.1.2,h.1.1.2,h.1.2,h.2⟩
theorem db_xor (x y:Nat) (hx:x<256) (hy:y<256):dbN (x ^^^ y)=dbN x ^^^ dbN y:=by
 rw [(db_all _ (xor_byte hx hy)).1,(db_all _ hx).1,(db_all _ hy).1,gm_xor]
def mx1 (x0 x1 x2 x3 x y:Nat):Nat:=x ^^^ (x0 ^^^ x1 ^^^ x2 ^^^ x3) ^^^ dbN (x ^^^ y)
def mxN (b:Nat→Nat) (j:Nat):Nat:=mx1 (b (j - j%4)) (b (j - j%4+1)) (b (j - j%4+2)) (b (j - j%4+3)) (b j) (b (j - j%4+(j+1)%4))
theorem xor_can (a b:Nat):a ^^^ (a ^^^ b)=b:=by rw [←Nat.xor_assoc,Nat.xor_self,Nat.zero_xor]
theorem mx_col (b:Nat→Nat) (hb:B16 b):S16 (mxN b) (colN mT b):=fun j hj=>by
 unfold mxN colN
 rw [show j - j%4=j / 4*4 by omega]
 obtain ⟨q,r,hq,hr,rfl⟩:∃ q r,q<4∧r<4∧j=q*4+r:=⟨j / 4,j%4,by omega,by omega,by omega⟩
 rw [show (q*4+r) / 4=q by omega,show (q*4+r)%4=r by omega]
 have h0:b (q*4)<256:=hb _ (by omega)
 have h1:b (q*4+1)<256:=hb _ (by omega)
 have h2:b (q*4+2)<256:=hb _ (by omega)
 have h3:b (q*4+3)<256:=hb _ (by omega)
 have e:∀ a c:Nat,a<256→c<256→∀ d e,mx1 a c d e a c=gm 2 a ^^^ gm 3 c ^^^ d ^^^ e:=fun a c ha hc d e=>by
  unfold mx1
  rw [db_xor a c ha hc,←(db_all a ha).1,←(db_all c hc).2.2.1,Nat.xor_assoc a c d,Nat.xor_assoc a (c ^^^ d) e,xor_can]
  ac_rfl
 rcases (show r=0∨r=1∨r=2∨r=3 by omega) with rfl | rfl | rfl | rfl
 · rw [show (q*4+0+1)%4=1 by omega,Nat.add_zero]
   show _=gm 2 _ ^^^ gm 3 _ ^^^ gm 1 _ ^^^ gm 1 _
   rw [(db_all _ h2).2.2.2.1,(db_all _ h3).2.2.2.1]
   exact e _ _ h0 h1 _ _
 · rw [show (q*4+1+1)%4=2 by omega]
   show _=gm 1 _ ^^^ gm 2 _ ^^^ gm 3 _ ^^^ gm 1 _
   rw [(db_all _ h0).2.2.2.1,(db_all _ h3).2.2.2.1]
   have:=e _ _ h1 h2 (b (q*4)) (b (q*4+3))
   unfold mx1 at this ⊢
   refine Eq.trans ?_ (this.trans ?_) <;> ac_rfl
 · rw [show (q*4+2+1)%4=3 by omega]
   show _=gm 1 _ ^^^ gm 1 _ ^^^ gm 2 _ ^^^ gm 3 _
   rw [(db_all _ h0).2.2.2.1,(db_all _ h1).2.2.2.1]
   have:=e _ _ h2 h3 (b (q*4)) (b (q*4+1))
   unfold mx1 at this ⊢
   refine Eq.trans ?_ (this.trans ?_) <;> ac_rfl
 · rw [show (q*4+3+1)%4=0 by omega,Nat.add_zero]
   show _=gm 3 _ ^^^ gm 1 _ ^^^ gm 1 _ ^^^ gm 2 _
   rw [(db_all _ h1).2.2.2.1,(db_all _ h2).2.2.2.1]
   have:=e _ _ h3 h0 (b (q*4+1)) (b (q*4+2))
   unfold mx1 at this ⊢
   refine Eq.trans ?_ (this.trans ?_) <;> ac_rfl
theorem mxN_B {b:Nat→Nat} (h:B16 b):B16 (mxN b):=(colT_B h).of (mx_col b h).symm
theorem mxN_S {a b:Nat→Nat} (h:S16 a b):S16 (mxN a) (mxN b):=fun j hj=>by
 unfold mxN
 rw [h (j - j%4) (by omega),h (j - j%4+1) (by omega),h (j - j%4+2) (by omega),h (j - j%4+3) (by omega),h j hj,h (j - j%4+(j+1)%4) (by omega)]
def tuN (b:Nat→Nat) (j:Nat):Nat:=b ((j+4*(j%4))%16)
theorem tu_row (b:Nat→Nat):S16 (tuN b) (rowN 1 b):=fun j hj=>by
 unfold tuN rowN
 congr 1
 omega
theorem tuN_B {b:Nat→Nat} (h:B16 b):B16 (tuN b):=fun j hj=>h _ (by omega)
def wd0 (X:Nat→Nat) (p k:Nat):Nat:=if k=0 then boxN (X 13) ^^^ p else if k=3 then boxN (X 12) else boxN (X (13+k))
def nxN (X:Nat→Nat) (p:Nat) (j:Nat):Nat:=if j<4 then wd0 X p j ^^^ X j else nxN X p (j - 4) ^^^ X j
termination_by j
theorem nxN_lo (X:Nat→Nat) (p j:Nat) (h:j<4):nxN X p j=wd0 X p j ^^^ X j:=by rw [nxN,if_pos h]
theorem nxN_hi (X:Nat→Nat) (p j:Nat) (h:4≤j):nxN X p j=nxN X p (j - 4) ^^^ X j:=by rw [nxN,if_neg (by omega)]
theorem kyS_keep (key:Nat→Nat) (n:Nat):∀ d j,j<4*(n+4)→kyS key (n+d) j=kyS key n j
 | 0,_,_=>rfl
 | d+1,j,h=>by
  rw [show n+(d+1)=(n+d)+1 by omega]
  show cat (4*(n+d+4)) (kyS key (n+d)) _ j=_
  rw [cat_left (by omega)]
  exact kyS_keep key n d j h
theorem kyN_at (key:Nat→Nat) (n j:Nat) (hn:n≤40) (h:j<4*(n+4)):kyN key j=kyS key n j:=by
 have:=kyS_keep key n (40 - n) j h
 rwa [show n+(40 - n)=40 by omega] at this
theorem kyN_lo (key:Nat→Nat) (j:Nat) (h:j<16):kyN key j=key j:=kyN_at key 0 j (by decide) (by omega)
theorem kyN_word (key:Nat→Nat) (i k:Nat) (h4:4≤i) (h44:i<44) (hk:k<4):kyN key (4*i+k)=kyT (kyN key) i k:=by
 obtain ⟨n,rfl⟩:∃ n,i=n+4:=⟨i - 4,by omega⟩
 rw [kyN_at key (n+1) _ (by omega) (by omega)]
 show cat (4*(n+4)) (kyS key n) (kyT (kyS key n) (n+4)) (4*(n+4)+k)=_
 rw [cat_right]
 unfold kyT
 have e:∀ j,j<4*(n+4)→kyS key n j=kyN key j:=fun j h=>(kyN_at key n j (by omega) h).symm
 rw [e _ (by omega),e (4*(n+4) - 4+1) (by omega),e (4*(n+4) - 4+(k+1)%4) (by omega),e (4*(n+4) - 4+k) (by omega)]
theorem ky_next (key:Nat→Nat) (r:Nat) (hr:r<10):∀ j,j<16→nxN (fun i=>kyN key (16*r+i)) (rcN r) j=kyN key (16*(r+1)+j):=by
 intro j
 induction j using Nat.strongRecOn with
 | ind j ih =>
  intro hj
  have hw:=kyN_word key (4*(r+1)+j / 4) (j%4) (by omega) (by omega) (by omega)
  rw [show 4*(4*(r+1)+j / 4)+j%4=16*(r+1)+j by omega] at hw
  rw [hw]
  unfold kyT
  rw [show 4*(4*(r+1)+j / 4) - 16+j%4=16*r+j by omega]
  by_cases h4:j<4
  · rw [nxN_lo _ _ _ h4,if_pos (by omega),Nat.xor_comm]
    congr 1
    unfold wd0
    rw [show j%4=j by omega,show (4*(r+1)+j / 4) / 4 - 1=r by omega]
    by_cases h0:j=0
    · rw [if_pos h0,if_pos h0,show 4*(4*(r+1)+j / 4) - 4+1=16*r+13 by omega]
    · rw [if_neg h0,if_neg h0]
      by_cases h3:j=3
      · rw [if_pos h3,show 4*(4*(r+1)+j / 4) - 4+(j+1)%4=16*r+12 by omega]
      · rw [if_neg h3,show 4*(4*(r+1)+j / 4) - 4+(j+1)%4=16*r+(13+j) by omega]
  · rw [nxN_hi _ _ _ (by omega),ih (j - 4) (by omega) (by omega),if_neg (by omega),Nat.xor_comm]
    rw [show 4*(4*(r+1)+j / 4) - 4+j%4=16*(r+1)+(j - 4) by omega]
end Go.Proofs.Ytalgabgofpmebaa
namespace Go.Proofs.Ytalgabgofpmebaa
open Go.RowKit
def room (j:Nat):Nat:=if j=0 then 201 else 202
theorem src_room (w:World):Src (w.alloc (.cells #[.int .u8 201,.int .u8 202] 5)) (some ⟨w.heap.size,0,none⟩) 2 room:=by
 refine .inr ⟨w.heap.size,0,rfl,fun j hj => ?_⟩
 match j,hj with
 | 0,_=>simp [room]
 | 1,_=>simp [room]
set_option maxHeartbeats 1000000 in
theorem lent_any (v:Value) (n:Nat) (bs:Nat→Nat) (w:World) (hv:BytesIn w v n bs) (hn:n<140737488355000) :
 Calls Try.prog 10 #[v] w fun e w'=>∃ g cap,e = .returned (.slice (some ⟨g,0,none⟩) n cap)∧n+2≤cap∧w.heap.size≤g∧RowAt .u8 w' g 0 (n+2) (cat n bs room)∧Below w.heap.size w w':=by
 obtain ⟨xo,cx,rfl,hxn,-,hsrc⟩:=hv.src
 clear hv
 have src0:=hsrc _ ((Below.refl _ _).alloc (Nat.le_refl _) (.cells #[] 5))
 clear hsrc
 go_enter Try.func10,Try.ntmps10
 go_wp2_with (first
  | (at_builtin;refine wpList_append_empty rfl (.tmp 4) (.tmp 5) rfl w.heap.size bs _ rfl rfl xo n cx rfl src0 hxn (by omega) (Nat.le_refl _) ?_;intro v1 w1 own1 hb1;have hs1:=hb1.size;clear src0)
  | (at_builtin;refine wpList_append_bytes rfl (.tmp 7) (.tmp 8) rfl w.heap.size v1 n bs rfl (own1.alloc _) _ 2 2 room rfl (src_room w1) (fun h=>by cases h) (by omega) (by simp only [World.size_alloc];omega) ?_;intro v2 w2 own2 grow2;have hb2:=Own.grown (hb1.alloc hs1 _) grow2 (own1.alloc _) (Nat.le_refl _) (by simp only [World.size_alloc];omega);clear own1 hb1 hs1;(obtain ⟨g,cap,hv2,hg,hgl,hcap,hrow⟩:∃ g cap,v2 = .slice (some ⟨g,0,none⟩) (n+2) cap∧w.heap.size≤g∧g<w2.heap.size∧n+2≤cap∧RowAt .u8 w2 g 0 (n+2) (cat n bs room):=own2.form.resolve_left (fun h=>by omega));subst hv2;have hni:(n:Int)≤cap:=by omega))
 go_ret
 exact ⟨g,cap,rfl,hcap,hg,hrow,hb2⟩
set_option maxRecDepth 20000 in
set_option maxHeartbeats 1000000 in
theorem stays_any (g cap n:Nat) (v:Value) (bs:Nat→Nat) (hbs:∀ j,bs j<256) (w:World) (hn:n<140737488355000) (hcap:n+2≤cap) (hrow:RowAt .u8 w g 0 (n+2) (cat n bs room)) (hv:BytesIn w v n bs) :
 Calls Try.prog 14 #[.slice (some ⟨g,0,none⟩) n cap,v] w fun e w'=>e = .returned (.bool true)∧Below w.heap.size w w':=by
 have hc1:∀ W,Below w.heap.size w W→∀ c,(convert 22 9 (.slice (some ⟨g,0,none⟩) n c)).run Try.prog W = .ok (.string (strB n bs)) W:=fun W hW c=>conv_bytes W g 0 n c bs hbs (fun j hj=>by
  have:=(hrow j (by omega)).1
  rw [cat_left hj] at this
  exact (hW.cell (p:=⟨g,0+j,none⟩) (block_lt_of_cell this)).trans this)
 have hc2:=hv.conv hbs
 obtain ⟨xo,cx,rfl,-,-,-⟩:=hv.src
 have r1:w.cell? ⟨g,n,none⟩=some (.int .u8 201):=by
  have:=(hrow n (by omega)).1
  rw [Nat.zero_add] at this
  rw [this];unfold cat room;simp
 have r2:w.cell? ⟨g,n+1,none⟩=some (.int .u8 202):=by
  have:=(hrow (n+1) (by omega)).1
  rw [Nat.zero_add,cat_right] at this
  exact this
 clear hrow hv
 have hn2:(n:Int)+2≤cap:=by omega
 have hn3:(n:Int)≤cap:=by omega
 have e1:IntKind.i64.wrap ((n:Int)+1)=(n:Int)+1:=by simp only [IntKind.wrap_i64];omega
 have e3:((n:Int)+1).toNat=n+1:=by omega
 have e4:(0:Int)≤(n:Int)∧(n:Int)<(n:Int)+2:=by omega
 have e5:(0:Int)≤(n:Int)+1∧(n:Int)+1<(n:Int)+2:=by omega
 have e6:n<n+2:=by omega
 have e7:n+1<n+2:=by omega
 go_enter Try.func14,Try.ntmps14
 go_wp2
 have hS:∀ w':World,Below w.heap.size w w'→∀ b o,b<w.heap.size→w'.cell? ⟨b,o,none⟩=w.cell? ⟨b,o,none⟩:=fun w' h b o hb=>h.cell (p:=⟨b,o,none⟩) hb
 have hb0:Below w.heap.size w w.drew:=(Below.refl _ _).drew
 have hgl:g<w.heap.size:=block_lt_of_cell r1
 go_region_held3 (fun w'=>Below w.heap.size w w') (first | assumption) (fail)
 go_wp2
 go_ret
 exact ⟨rfl,hb0⟩
end Go.Proofs.Ytalgabgofpmebaa
namespace Go.Proofs.Ytalgabgofpmebaa
open Go.RowKit
def sqV (X:Nat→Nat):Value := .agg (ints .u8 16 X).toArray
theorem zeroS (w:World):Sem.run Try.prog (zeroValue 71) w = .ok (.agg (zb 16)) w:=by kernel_rfl
theorem zeroB (w:World):Sem.run Try.prog (zeroValue 83) w = .ok (.agg (zb 256)) w:=by kernel_rfl
theorem ints_size (K:IntKind) (n:Nat) (X:Nat→Nat):(ints K n X).toArray.size=n:=by rw [List.size_toArray,ints_len]
theorem infoS (X:Nat→Nat):(Try.prog.info? 71).map (·.size)=some (ints .u8 16 X).length:=by rw [ints_len];kernel_rfl
theorem infoSA (X:Nat→Nat):(Try.prog.info? 71).map (·.size)=some (ints .u8 16 X).toArray.size:=by rw [ints_size];kernel_rfl
theorem infoB (X:Nat→Nat):(Try.prog.info? 83).map (·.size)=some (ints .u8 256 X).length:=by rw [ints_len];kernel_rfl
theorem infoBA (X:Nat→Nat):(Try.prog.info? 83).map (·.size)=some (ints .u8 256 X).toArray.size:=by rw [ints_size];kernel_rfl
theorem oneU (n:Nat) (X:Nat→Nat):(ints .u8 n X).toArray.all (·.oneCell')=true:=all_oneCell_toArray (ints_one .u8 n X)
theorem RowAt.box (K:IntKind) (w:World) (n:Nat) (X:Nat→Nat) (t:TypeId):RowAt K (w.alloc (.cells (ints K n X).toArray t)) w.heap.size 0 n X:=RowAt.fresh (fun j hj=>by rw [List.getElem?_toArray];exact ints_at K n X j hj)
theorem RowAt.stored {K:IntKind} {w:World} {g n:Nat} {M L:Nat→Nat} (h:RowAt K w g 0 n M):RowAt K (w.setCells g 0 (ints K n L)) g 0 n L:=fun j hj=>by
 have hr:=World.rangeAt_setCells_same w g 0 (ints K n L) (by rw [ints_len];exact h.there)
 exact ⟨hr j _ (ints_at K n L j hj),(World.frozen?_setCells g (ints K n L) 0 w _).trans (h j hj).2⟩
theorem RowAt.farCells {K:IntKind} {w:World} {g o n:Nat} {L:Nat→Nat} (h:RowAt K w g o n L) {k:Nat} (hk:g≠k) (p:Nat) (vs:List Value):RowAt K (w.setCells k p vs) g o n L:=fun j hj=>by
 have hb:(w.setCells k p vs).heap[g]? = w.heap[g]?:=heap_setCells_other k vs p w g hk
 exact ⟨(World.cell?_of_block (w:=w) hb).trans (h j hj).1,(World.frozen?_of_block (w:=w) hb).trans (h j hj).2⟩
theorem RowAt.zero (w:World) (n:Nat) (t:TypeId):RowAt .u8 (w.alloc (.cells (zb n) t)) w.heap.size 0 n (fun _=>0):=RowAt.fresh (fun j hj=>zb_at n j hj)
theorem wpList_val {P:Program} {w:World} {ops:Array Oper} {rest:List Oper} {o:Oper} {a:Act} {Q:Exit→Act→World→Prop} (d:Option Nat) (v:Value) (hgd:o.guard=none) (hd:o.dst=d) (hrun:(execOp a.eval o).run P w = .ok (.value v) w)
 (h:wpList P ops Q rest (a.put d v) w):wpList P ops Q (o :: rest) a w:=by
 subst hd
 refine wpList_plain hgd fun K hK => ?_
 unfold Oper.wp
 rw [hrun,Oper.upon_value]
 exact hK _ _ h
theorem index_u8 {t n:Nat} (hu:Try.prog.underlying t=some (.array n 5)) (X:Nat→Nat) (k:Nat) (hk:k<n) (kk:IntKind) (W:World):(Instr.index t (.agg (ints .u8 n X).toArray) (.int kk k)).run Try.prog W = .ok (.int .u8 (X k)) W:=by
 have hs:∀ W,(sizeOf 5).run Try.prog W = .ok 1 W:=fun W=>by kernel_rfl
 have hx:(ints .u8 n X)[k]? = some (.int .u8 (X k)):=ints_at .u8 n X k hk
 simp [Instr.index,run_underlying hu,asIntOf,hk,hs,part,isAgg,run_underlying Try.underlying5,hx,Result.andThen]
set_option maxRecDepth 20000 in
set_option maxHeartbeats 2000000 in
theorem boxes_any (w:World) :
 Calls Try.prog 64 #[] w fun e w'=>e = .returned (.agg (ints .u8 256 boxN).toArray)∧Below w.heap.size w w':=by
 have hz:=zeroB
 have hb:Below w.heap.size w (w.alloc (.cells (zb 256) 83)):=(Below.refl _ _).alloc (Nat.le_refl _) _
 have hT:(w.alloc (.cells (zb 256) 83)).there w.heap.size 0 256:=(RowAt.zero w 256 _).there
 have hi1:=infoB boxN
 have hi2:=infoBA boxN
 have ho:=oneU 256 boxN
 have hth:(w.alloc (.cells (zb 256) 83)).there w.heap.size 0 (ints .u8 256 boxN).toArray.size:=by rw [ints_size];exact hT
 have hth2:(w.alloc (.cells (zb 256) 83)).there w.heap.size 0 (ints .u8 256 boxN).length:=by rw [ints_len];exact hT
 obtain ⟨L,hL⟩:∃ L,L=ints .u8 256 boxN:=⟨_,rfl⟩
 rw [←hL] at hi1 hi2 ho hth hth2 ⊢
 have HL:=Hid.mk' hL
 clear hL hT
 go_enter Try.func64,Try.ntmps64
 go_upto_region 1 with (fail)
 refine wp_region_list ?_
 refine wpList_val (some 1) (.agg L.toArray) rfl rfl (by rw [HL.out];kernel_rfl) ?_
 refine wpList_store_mid rfl 83 _ _ rfl w.heap.size 0 L.toArray rfl rfl hth hi2 ho ?_
 refine wpList_nil ?_
 simp only [Act.put,List.setIfInBounds_toArray,List.set_cons_zero,List.set_cons_succ]
 go_wp2
 (try simp only [Exit.inBlock,Exit.then])
 refine bodyPost_ret (results_cell_mid Try.results64 _ _ w.heap.size 0 L _ rfl (World.rangeAt_setCells_same _ _ _ _ hth2) Try.underlying83 rfl hi1) rfl ⟨rfl,?_⟩
 exact below_setCells (Nat.le_refl _) _ _ _ hb
end Go.Proofs.Ytalgabgofpmebaa
