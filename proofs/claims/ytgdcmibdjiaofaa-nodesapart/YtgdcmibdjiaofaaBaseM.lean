/- What the proof stands on: Base, D1Math, Lent, D1CA, D1RB, Narrow, RWk, ZAb2, D1RR, D1RN, D1RQ, D1RT, D1CC, EqN, D1CG, D1CB. -/
import Derived.Test.YtgdcmibdjiaofaaRows
import Derived.ArgAppend
import Derived.BigQuiet
import Derived.Deep.AppendLies
import Derived.Deep.Cut
import Derived.Deep.MidRow
import Derived.Deep.QuietTactic
import Derived.Deep.RegionHeld3
import Derived.Deep.RegionLawGrows
import Derived.Deep.Upon
import Derived.Laws.Bits64
import Derived.Laws.Bits64b
import Derived.Laws.BitsAllLaws
import Derived.Laws.Cover3
import Derived.WalkKit
import Derived.WalkLawsBesides
import Derived.WalkSpells
namespace Go.Proofs.Ytgdcmibdjiaofaa
open Go.RowKit
theorem Hid.mk' {P:Prop} (h:P):Hid P:=h
def upd (X:Nat→Nat) (i v:Nat):Nat→Nat:=fun j=>if j=i then v else X j
def RowAt (K:IntKind) (w:World) (b o n:Nat) (X:Nat→Nat):Prop:=∀ j,j<n→w.cell? ⟨b,o+j,none⟩=some (.int K (X j))∧w.frozen? ⟨b,o+j,none⟩=false
theorem RowAt.drew {K:IntKind} {w:World} {b o n:Nat} {X:Nat→Nat} (h:RowAt K w b o n X):RowAt K w.drew b o n X:=fun j hj=>h j hj
theorem RowAt.set {K:IntKind} {w:World} {b o n:Nat} {X:Nat→Nat} (h:RowAt K w b o n X) {i:Nat} (hi:i<n) {v:Int} {u:Nat} (hv:v=(u:Int)):RowAt K (w.setCell ⟨b,o+i,none⟩ (.int K v)) b o n (upd X i u):=fun j hj=>by
 refine ⟨?_,by rw [World.frozen?_setCell];exact (h j hj).2⟩
 by_cases e:j=i
 · subst e;rw [World.cell?_setCell_same _ _ _ (h j hj).1];simp [upd,hv]
 · have hne:(⟨b,o+i,none⟩:Addr)≠⟨b,o+j,none⟩:=fun h=>by injection h;omega
   rw [World.cell?_setCell_other _ _ _ _ hne];simp [upd,e,(h j hj).1]
theorem RowAt.far {K:IntKind} {w:World} {b o n:Nat} {X:Nat→Nat} (h:RowAt K w b o n X) {a:Addr} (ha:a.block≠b) (v:Value):RowAt K (w.setCell a v) b o n X:=fun j hj=>by
 refine ⟨?_,by rw [World.frozen?_setCell];exact (h j hj).2⟩
 rw [World.cell?_setCell_other _ _ _ _ (fun e=>ha (by rw [e]))];exact (h j hj).1
theorem RowAt.below {K:IntKind} {B:Nat} {w w':World} {b o n:Nat} {X:Nat→Nat} (h:RowAt K w b o n X) (hb:Below B w w') (hB:b<B):RowAt K w' b o n X:=fun j hj =>
 ⟨(hb.cell (p:=⟨b,o+j,none⟩) hB).trans (h j hj).1,(hb.frozen (p:=⟨b,o+j,none⟩) hB).trans (h j hj).2⟩
theorem RowAt.fresh {K:IntKind} {w:World} {cs:Array Value} {t:TypeId} {n:Nat} {X:Nat→Nat} (h:∀ j,j<n→cs[j]? = some (.int K (X j))):RowAt K (w.alloc (.cells cs t)) w.heap.size 0 n X:=fun j hj=>by
 constructor
 · simp [h j hj]
 · simp
theorem RowAt.alloc {K:IntKind} {w:World} {b o n:Nat} {X:Nat→Nat} (h:RowAt K w b o n X) (hb:b<w.heap.size) (ob:Obj):RowAt K (w.alloc ob) b o n X :=
 h.below ((Below.refl w.heap.size w).alloc (Nat.le_refl _) ob) hb
def ints (K:IntKind) (n:Nat) (X:Nat→Nat):List Value:=(List.range n).map fun j => .int K (X j)
theorem ints_len (K:IntKind) (n:Nat) (X:Nat→Nat):(ints K n X).length=n:=by simp [ints]
theorem ints_at (K:IntKind) (n:Nat) (X:Nat→Nat) (j:Nat) (h:j<n):(ints K n X)[j]? = some (.int K (X j)):=by simp [ints,h]
theorem ints_one (K:IntKind) (n:Nat) (X:Nat→Nat):∀ v∈ints K n X,v.oneCell'=true:=fun v hv=>by
 simp only [ints,List.mem_map] at hv
 obtain ⟨_,_,rfl⟩:=hv
 rfl
theorem RowAt.range {K:IntKind} {w:World} {b o n:Nat} {X:Nat→Nat} (h:RowAt K w b o n X):w.rangeAt b o (ints K n X):=fun j v hv=>by
 have hj:j<n:=by have:=(List.getElem?_eq_some_iff.1 hv).1;rwa [ints_len] at this
 rw [ints_at K n X j hj] at hv
 rw [←hv];exact (h j hj).1
theorem RowAt.there {K:IntKind} {w:World} {b o n:Nat} {X:Nat→Nat} (h:RowAt K w b o n X):w.there b o n:=fun j hj=>by
 rw [(h j hj).1];exact ⟨rfl,(h j hj).2⟩
theorem results_cell_mid {P:Program} {fn:Func} {p:Tmp} {ty:TypeId} (h:fn.results=#[.cell p ty]) (tmps:Array Value) (w:World) (g o:Nat) (cs:List Value) (d:TypeDesc)
 (hp:tmps.getD p undef = .pointer (some ⟨g,o,none⟩)) (hc:w.rangeAt g o cs)
 (hu:P.underlying ty=some d) (hd:d.isRow=true) (hi:(P.info? ty).map (·.size)=some cs.length) :
 (results fn tmps).run P w = .ok (.agg cs.toArray) w:=by
 have hp':tmps[p]?.getD undef = .pointer (some ⟨g,o,none⟩):=by simpa using hp
 simp [results,h,hp',asAddr,run_loadVar_mid w g o ty cs d hc hu hd hi]
theorem below_setCells {B:Nat} {a:World} {b:Nat} (hb:B≤b):∀ (vs:List Value) (o:Nat) (w:World),Below B a w→Below B a (w.setCells b o vs)
 | [],_,_,h=>h
 | v :: r,o,w,h=>by rw [World.setCells];exact below_setCells hb r (o+1) _ (h.setCell hb v)
theorem below_next {W a b:World} (h:Below W.heap.size W a) (hb:Below a.heap.size a b):Below W.heap.size W b:=h.trans (hb.mono h.size)
def Near (b o:Nat) (W w':World):Prop:=∃ w0,Below W.heap.size W w0∧(w'=w0∨∃ u,w'=w0.setCell ⟨b,o,none⟩ u)
theorem Near.of_below {b o:Nat} {W w':World} (h:Below W.heap.size W w'):Near b o W w':=⟨w',h,.inl rfl⟩
theorem Near.set {b o:Nat} {W w':World} (h:Below W.heap.size W w') (u:Value):Near b o W (w'.setCell ⟨b,o,none⟩ u):=⟨w',h,.inr ⟨u,rfl⟩⟩
theorem Near.cell {b o:Nat} {W w':World} (h:Near b o W w') (p q:Nat) (hp:p<W.heap.size) (hne:p=b→q≠o):w'.cell? ⟨p,q,none⟩=W.cell? ⟨p,q,none⟩:=by
 obtain ⟨w0,hb,rfl | ⟨u,rfl⟩⟩:=h
 · exact hb.cell (p:=⟨p,q,none⟩) hp
 · rw [World.cell?_setCell_other _ _ _ _ (fun e=>by injection e with e1 e2;exact hne e1.symm e2.symm)];exact hb.cell (p:=⟨p,q,none⟩) hp
theorem Near.frozen {b o:Nat} {W w':World} (h:Near b o W w') (p q:Nat) (hp:p<W.heap.size):w'.frozen? ⟨p,q,none⟩=W.frozen? ⟨p,q,none⟩:=by
 obtain ⟨w0,hb,rfl | ⟨u,rfl⟩⟩:=h
 · exact hb.frozen (p:=⟨p,q,none⟩) hp
 · rw [World.frozen?_setCell];exact hb.frozen (p:=⟨p,q,none⟩) hp
theorem Near.some {b o:Nat} {W w':World} (h:Near b o W w') {v:Value} (hv:W.cell? ⟨b,o,none⟩ = .some v):∃ u,w'.cell? ⟨b,o,none⟩ = .some u:=by
 obtain ⟨w0,hb,rfl | ⟨u,rfl⟩⟩:=h
 · exact ⟨v,(hb.cell (p:=⟨b,o,none⟩) (block_lt_of_cell hv)).trans hv⟩
 · exact ⟨u,World.cell?_setCell_same _ _ _ ((hb.cell (p:=⟨b,o,none⟩) (block_lt_of_cell hv)).trans hv)⟩
structure Out (b o n:Nat) (w w':World):Prop where
 os:w'.os=w.os
 tape:w'.tape=w.tape
 output:w'.output=w.output
 size:w.heap.size≤w'.heap.size
 block:∀ k,k<w.heap.size→k≠b→w'.heap[k]? = w.heap[k]?
 cell:∀ q,(q<o∨o+n≤q)→w'.cell? ⟨b,q,none⟩=w.cell? ⟨b,q,none⟩
 frozen:∀ q,w'.frozen? ⟨b,q,none⟩=w.frozen? ⟨b,q,none⟩
theorem Out.refl (b o n:Nat) (w:World):Out b o n w w:=⟨rfl,rfl,rfl,Nat.le_refl _,fun _ _ _=>rfl,fun _ _=>rfl,fun _=>rfl⟩
theorem Out.trans {b o n:Nat} {u v w:World} (h:Out b o n u v) (k:Out b o n v w):Out b o n u w :=
 ⟨k.os.trans h.os,k.tape.trans h.tape,k.output.trans h.output,Nat.le_trans h.size k.size,fun i hi hb=>(k.block i (Nat.lt_of_lt_of_le hi h.size) hb).trans (h.block i hi hb),fun q hq=>(k.cell q hq).trans (h.cell q hq),fun q=>(k.frozen q).trans (h.frozen q)⟩
theorem Out.of_below {b o n:Nat} {w w':World} (h:Below w.heap.size w w') (hb:b<w.heap.size):Out b o n w w' :=
 ⟨h.os,h.tape,h.output,h.size,fun k hk _=>h.block k hk,fun q _=>h.cell (p:=⟨b,q,none⟩) hb,fun q=>h.frozen (p:=⟨b,q,none⟩) hb⟩
theorem heap_setCells_other (b:Nat):∀ (vs:List Value) (o:Nat) (w:World) (k:Nat),k≠b→(w.setCells b o vs).heap[k]? = w.heap[k]?
 | [],_,_,_,_=>rfl
 | v :: r,o,w,k,h=>by rw [World.setCells,heap_setCells_other b r (o+1) _ k h];exact Below.heap_setCell w ⟨b,o,none⟩ v k h
theorem setCells_same (b:Nat):∀ (vs:List Value) (o:Nat) (w:World),(w.setCells b o vs).os=w.os∧(w.setCells b o vs).tape=w.tape∧(w.setCells b o vs).output=w.output∧(w.setCells b o vs).heap.size=w.heap.size
 | [],_,_=>⟨rfl,rfl,rfl,rfl⟩
 | v :: r,o,w=>by
  have h:=setCells_same b r (o+1) (w.setCell ⟨b,o,none⟩ v)
  rw [World.setCells]
  exact ⟨h.1,h.2.1,h.2.2.1,by rw [h.2.2.2];simp⟩
theorem Out.setCells {b o n:Nat} (w:World) {p:Nat} (vs:List Value) (h1:o≤p) (h2:p+vs.length≤o+n):Out b o n w (w.setCells b p vs):=by
 have h:=setCells_same b vs p w
 refine ⟨h.1,h.2.1,h.2.2.1,by rw [h.2.2.2];exact Nat.le_refl _,fun k _ hk=>heap_setCells_other b vs p w k hk,fun q hq => ?_,fun q=>World.frozen?_setCells b vs p w _⟩
 exact World.cell?_setCells_out b vs p w _ (fun _ _=>by show q<p∨p+vs.length≤q;omega)
theorem Out.drew {b o n:Nat} (w:World):Out b o n w w.drew:=⟨rfl,rfl,rfl,Nat.le_refl _,fun _ _ _=>rfl,fun _ _=>rfl,fun _=>rfl⟩
theorem Out.setCell {b o n:Nat} (w:World) {p:Nat} (v:Value) (h1:o≤p) (h2:p<o+n):Out b o n w (w.setCell ⟨b,p,none⟩ v) :=
 Out.setCells w [v] h1 (by simp;omega)
theorem Out.below {b o n B:Nat} {w w':World} (h:Out b o n w w') (hb:B≤b) (hB:B≤w.heap.size):Below B w w' :=
 ⟨h.os,h.tape,h.output,h.size,fun k hk=>h.block k (by omega) (by omega)⟩
theorem Out.cell' {b o n:Nat} {w w':World} (h:Out b o n w w') {c q:Nat} (hc:c<w.heap.size) (hb:c≠b):w'.cell? ⟨c,q,none⟩=w.cell? ⟨c,q,none⟩:=World.cell?_of_block (w:=w) (h.block c hc hb)
theorem Out.frozen' {b o n:Nat} {w w':World} (h:Out b o n w w') {c q:Nat} (hc:c<w.heap.size) (hb:c≠b):w'.frozen? ⟨c,q,none⟩=w.frozen? ⟨c,q,none⟩:=World.frozen?_of_block (w:=w) (h.block c hc hb)
theorem Out.row {b o n:Nat} {w w':World} (h:Out b o n w w') {K:IntKind} {c p m:Nat} {X:Nat→Nat} (hr:RowAt K w c p m X) (hc:c≠b):RowAt K w' c p m X:=fun j hj =>
 ⟨(h.cell' (block_lt_of_cell (hr j hj).1) hc).trans (hr j hj).1,(h.frozen' (block_lt_of_cell (hr j hj).1) hc).trans (hr j hj).2⟩
def Src (w:World) (v:Option Addr) (n:Nat) (bs:Nat→Nat):Prop:=n=0∨∃ bb ob,v=some ⟨bb,ob,none⟩∧∀ j,j<n→w.cell? ⟨bb,ob+j,none⟩=some (.int .u8 (bs j))
theorem RowAt.congr {K:IntKind} {w:World} {b o n:Nat} {X Y:Nat→Nat} (h:RowAt K w b o n X) (e:∀ j,j<n→X j=Y j):RowAt K w b o n Y:=fun j hj=>by rw [←e j hj];exact h j hj
def zb (n:Nat):Array Value:=Array.replicate n (.int .u8 0)
theorem zb_at (n j:Nat) (h:j<n):(zb n)[j]? = some (.int .u8 0):=by simp [zb,h]
theorem made_zb (n:Nat):madeCells (Value.int .u8 0).cells (n*1)=zb n:=by
 apply Array.ext_getElem?
 intro j
 by_cases h:j<n
 · rw [zb_at n j h];simp [madeCells,Value.cells,h,Nat.mod_one]
 · simp [madeCells,zb,Value.cells,h]
theorem make_bytes (W:World) (n:Nat) (l:Int) (hl:l=(n:Int)) (hn:n≤1000000):(Instr.makeSlice 22 (.int .i64 l) (.int .i64 l)).run Try.prog W = .ok (.slice (some ⟨W.heap.size,0,none⟩) n n) (W.alloc (.cells (zb n) 5)):=by
 subst hl
 obtain ⟨i0,hi,hz0,hz1,hz2⟩:=info_parts (show (Try.prog.info? 5).map (fun i=>(i.zero,i.size,i.bytes))=some (some (.int .u8 0),1,1) by kernel_rfl)
 have:=run_makeSlice (P:=Try.prog) W 22 5 i0 (.int .u8 0) Try.underlying22 hi hz0 .i64 .i64 n n (by omega) (Int.le_refl _) (by rw [hz1];simp;omega) (by rw [hz2];omega) (by omega)
 rw [this,hz1]
 simp only [Int.toNat_natCast,made_zb]
def BytesIn (w:World) (v:Value) (n:Nat) (bs:Nat→Nat):Prop:=(∃ xo,v = .slice xo 0 0∧n=0)∨∃ bb ob cap,v = .slice (some ⟨bb,ob,none⟩) n cap∧bb<w.heap.size∧n≤cap∧∀ j,j<n→w.cell? ⟨bb,ob+j,none⟩=some (.int .u8 (bs j))
def Seen (B g n:Nat) (W w':World):Prop:=(∀ b o,b<B→w'.cell? ⟨b,o,none⟩=W.cell? ⟨b,o,none⟩)∧∀ q,q<n→w'.cell? ⟨g,q,none⟩=W.cell? ⟨g,q,none⟩
theorem Seen.of_below {B g n:Nat} {W w':World} (h:Below W.heap.size W w') (hB:B≤W.heap.size) (hg:g<W.heap.size):Seen B g n W w' :=
 ⟨fun b o hb=>h.cell (p:=⟨b,o,none⟩) (by show b<_;omega),fun q _=>h.cell (p:=⟨g,q,none⟩) hg⟩
theorem ints_congr (K:IntKind) (n:Nat) (X Y:Nat→Nat) (h:∀ j,j<n→X j=Y j):ints K n X=ints K n Y:=by
 unfold ints
 apply List.map_congr_left
 intro j hj
 rw [h j (List.mem_range.1 hj)]
theorem one_new (w:World) (v:Value) (t:TypeId):∀ j u,[v][j]? = some u→(w.alloc (.cells #[v] t)).cell? ((⟨w.heap.size,0,none⟩:Addr).add j)=some u:=fun j u h=>by
 match j,h with
 | 0,h=>simp at h;subst h;rw [Addr.add_mid];simp
theorem one_cell (K:IntKind) (x:Int):∀ u∈[Value.int K x],u.oneCell'=true:=fun u hu=>by simp at hu;subst hu;rfl
theorem Try.info5:(Try.prog.info? 5).map (fun i=>(i.zero,i.size,i.bytes))=some (some (.int .u8 0),1,1):=by kernel_rfl
theorem below_grown {B:Nat} {a w w':World} {v:Value} {base:Nat} {e:TypeId} {size n:Nat} {xs:List Value} (h:Below B a w) (hg:w.grownBy w' v.ownBlock) (ho:w.ownsRow base e size v n xs) (hB:B≤base) (hs:B≤w.heap.size):Below B a w' :=
 h.grown hg hs (fun k hk=>Nat.le_trans hB (ho.lt k hk).1)
theorem own_below {w w':World} {base:Nat} {e:TypeId} {size:Nat} {v:Value} {n:Nat} {xs:List Value} (h:w.ownsRow base e size v n xs) (hb:Below w.heap.size w w'):w'.ownsRow base e size v n xs :=
 h.kept (row:=none) ⟨hb.os,hb.tape,hb.output,hb.size,fun k hk _=>hb.block k hk⟩ (by cases hv:v.ownBlock with | none=>exact .inl rfl | some b=>exact .inr (by simp))
theorem own_base {w:World} {base base':Nat} {e:TypeId} {size:Nat} {v:Value} {n:Nat} {xs:List Value} (h:w.ownsRow base e size v n xs) (hb:base'≤base):w.ownsRow base' e size v n xs:=by
 obtain ⟨h1,h2⟩:=h
 refine ⟨h1,?_⟩
 rcases h2 with h2 | ⟨g,cap,cur,hv,hg,r⟩
 · exact .inl h2
 · exact .inr ⟨g,cap,cur,hv,by omega,r⟩
def cat (n:Nat) (a b:Nat→Nat):Nat→Nat:=fun j=>if j<n then a j else b (j - n)
theorem cat_lt {n p:Nat} {a b:Nat→Nat} (ha:∀ j,a j<p) (hb:∀ j,b j<p):∀ j,cat n a b j<p:=fun j=>by
 unfold cat;split
 · exact ha _
 · exact hb _
theorem cat_left {n:Nat} {a b:Nat→Nat} {j:Nat} (h:j<n):cat n a b j=a j:=by unfold cat;rw [if_pos h]
theorem cat_right {n:Nat} {a b:Nat→Nat} (j:Nat):cat n a b (n+j)=b j:=by unfold cat;rw [if_neg (by omega),Nat.add_sub_cancel_left]
theorem ints_add (K:IntKind) (n m:Nat) (X Y:Nat→Nat):ints K n X ++ ints K m Y=ints K (n+m) (cat n X Y):=by
 apply List.ext_getElem?
 intro j
 by_cases h:j<n
 · rw [List.getElem?_append_left (by rw [ints_len];exact h),ints_at _ _ _ j h,ints_at _ _ _ j (by omega),cat_left h]
 · rw [List.getElem?_append_right (by rw [ints_len];omega),ints_len]
   by_cases h2:j<n+m
   · rw [ints_at _ _ _ (j - n) (by omega),ints_at _ _ _ j h2]
     unfold cat;rw [if_neg h]
   · rw [List.getElem?_eq_none (by rw [ints_len];omega),List.getElem?_eq_none (by rw [ints_len];omega)]
theorem run_append_any {P:Program} (w:World) (t ty base e:TypeId) (i:TypeInfo) (z:Value) (bytes:Nat) (ht:P.underlying t=some (.slice e)) (hi:P.info? e=some i) (hz:i.zero=some z) (hsize:i.size=1) (hby:i.bytes=bytes) (hzs:z.cells.size=1)
 (v:Value) (n:Nat) (xs:List Value) (hown:w.ownsRow base e 1 v n xs) (xo:Option Addr) (m c:Nat) (bs:Nat→Nat) (hsrc:Src w xo m bs) (hxn:xo=none→c=0)
 (h63:n+m≤maxLen) (hbytes:(n+m)*bytes≤140737488355328) (hbase:base≤w.heap.size) :
 ∃ v' w',(Builtin.append_ #[t,t] ty #[v,.slice xo m c]).run P w = .ok v' w'∧w'.ownsRow base e 1 v' (n+m) (xs ++ ints .u8 m bs)∧w.grownBy w' v.ownBlock:=by
 cases xo with
 | none =>
  have hm:m=0:=by
   rcases hsrc with h | ⟨_,_,h,_⟩
   · exact h
   · cases h
  subst hm
  have hc:=hxn rfl
  subst hc
  refine ⟨v,w,?_,by rw [show ints .u8 0 bs=[] from rfl,List.append_nil];exact hown,⟨rfl,rfl,rfl,Nat.le_refl _,fun _ _ _=>rfl⟩⟩
  rcases hown.2 with ⟨rfl,_⟩ | ⟨g,cap,cur,rfl,_,_,hnc,_⟩
  · exact run_append_nothing w t t ty e i ht hi none 0 0 (Nat.le_refl _) _ ⟨.inl ⟨_,ht⟩,fun _=>rfl,rfl,rfl,by simp,fun _ h=>by cases h⟩
  · exact run_append_nothing w t t ty e i ht hi _ n cap hnc _ ⟨.inl ⟨_,ht⟩,fun _=>rfl,rfl,rfl,by simp,fun _ h=>by cases h⟩
 | some ad =>
  have hnews:∀ j u,(ints .u8 m bs)[j]? = some u→w.cell? (ad.add j)=some u:=fun j u hu=>by
   have hj:j<m:=by have:=(List.getElem?_eq_some_iff.1 hu).1;rwa [ints_len] at this
   rw [ints_at _ _ _ j hj] at hu
   rcases hsrc with h | ⟨bb,ob,h,hc⟩
   · omega
   · cases h
     rw [Addr.add_mid,←hu]
     exact hc j hj
  obtain ⟨v',w',h1,h2,h3,_,_⟩:=run_append_own_at (P:=P) w base t ty e i z 1 bytes ht hi hz hsize hby hzs (by decide) v n xs hown ad m c (ints .u8 m bs) (by rw [ints_len,Nat.mul_one]) hnews (ints_one _ _ _) h63 hbytes hbase
  exact ⟨v',w',h1,h2,h3⟩
theorem wpList_append_any {P:Program} {w:World} {ops:Array Oper} {rest:List Oper} {o:Oper} {a:Act} {Q:Exit→Act→World→Prop} (hgd:o.guard=none) (s x:Operand) (t:TypeId)
 (ho:o.op = .call { callee := .builtin .append,args:=#[s,x],argTypes:=#[t,t] }) (base e:TypeId) (i:TypeInfo) (z:Value) (bytes:Nat) (ht:P.underlying t=some (.slice e)) (hi:P.info? e=some i) (hz:i.zero=some z) (hsize:i.size=1) (hby:i.bytes=bytes) (hzs:z.cells.size=1)
 (v:Value) (n:Nat) (xs:List Value) (hs:a.eval s=v) (hown:w.ownsRow base e 1 v n xs) (xo:Option Addr) (m c:Nat) (bs:Nat→Nat) (hx:a.eval x = .slice xo m c) (hsrc:Src w xo m bs) (hxn:xo=none→c=0)
 (h63:n+m≤maxLen) (hbytes:(n+m)*bytes≤140737488355328) (hbase:base≤w.heap.size)
 (h:∀ v' w',w'.ownsRow base e 1 v' (n+m) (xs ++ ints .u8 m bs)→w.grownBy w' v.ownBlock→wpList P ops Q rest (a.put o.dst v') w'):wpList P ops Q (o :: rest) a w:=by
 refine wpList_plain hgd fun K hK => ?_
 obtain ⟨v',w',h1,h2,h3⟩:=run_append_any (P:=P) w t o.type base e i z bytes ht hi hz hsize hby hzs v n xs hown xo m c bs hsrc hxn h63 hbytes hbase
 unfold Oper.wp execOp
 simp only [ho,resolve,invoke,builtin,Sem.run_bind,Sem.run_pure,Result.andThen_ok,List.map_toArray,List.map_cons,List.map_nil,hs,hx,h1]
 exact hK _ _ (h v' w' h2 h3)
def Own (base:Nat) (w:World) (v:Value) (n:Nat) (X:Nat→Nat):Prop:=w.ownsRow base 5 1 v n (ints .u8 n X)
theorem Own.below {base:Nat} {w w':World} {v:Value} {n:Nat} {X:Nat→Nat} (h:Own base w v n X) (hb:Below w.heap.size w w'):Own base w' v n X:=own_below h hb
theorem Own.alloc {base:Nat} {w:World} {v:Value} {n:Nat} {X:Nat→Nat} (h:Own base w v n X) (o:Obj):Own base (w.alloc o) v n X:=h.below ((Below.refl _ _).alloc (Nat.le_refl _) _)
theorem Own.congr {base:Nat} {w:World} {v:Value} {n:Nat} {X Y:Nat→Nat} (h:Own base w v n X) (e:∀ j,j<n→X j=Y j):Own base w v n Y:=by
 unfold Own;rw [←ints_congr _ _ _ _ e];exact h
theorem Own.form {base:Nat} {w:World} {v:Value} {n:Nat} {X:Nat→Nat} (h:Own base w v n X):(v = .slice none 0 0∧n=0)∨∃ g cap,v = .slice (some ⟨g,0,none⟩) n cap∧base≤g∧g<w.heap.size∧n≤cap∧RowAt .u8 w g 0 n X:=by
 rcases h.2 with hv | ⟨g,cap,cur,rfl,hb,hg,hn,_⟩
 · exact .inl hv
 · refine .inr ⟨g,cap,rfl,hb,(h.lt g rfl).2,hn,fun j hj => ?_⟩
   rw [Nat.zero_add]
   exact ⟨by rw [World.ownsRow.cellAt h j (by omega),ints_at _ _ _ j hj],World.ownsRow.frozenAt h j⟩
theorem Own.slice {base:Nat} {w:World} {v:Value} {n:Nat} {X:Nat→Nat} (h:Own base w v n X):∃ x c,v = .slice x n c:=by
 rcases h.form with ⟨hv,e0⟩ | ⟨g,c,hv,_⟩
 · exact ⟨none,0,by rw [hv,e0]⟩
 · exact ⟨_,c,hv⟩
theorem Own.nil (base:Nat) (w:World) (X:Nat→Nat):Own base w (.slice none 0 0) 0 X:=World.ownsRow_nil w base _ _
theorem Own.lit (base:Nat) (w:World) (X:Nat→Nat) (h:base≤w.heap.size):Own base (w.alloc (.cells #[] 5)) (.slice (some ⟨w.heap.size,0,none⟩) 0 0) 0 X:=World.ownsRow_lit w #[] 0 h (by decide) rfl
theorem Own.grown {B base:Nat} {a w w':World} {v:Value} {n:Nat} {X:Nat→Nat} (h:Below B a w) (hg:w.grownBy w' v.ownBlock) (ho:Own base w v n X) (hB:B≤base) (hs:B≤w.heap.size):Below B a w':=below_grown h hg ho hB hs
theorem src_one (w:World) (x:Int) (y:Nat) (h:x=(y:Int)):Src (w.alloc (.cells #[.int .u8 x] 5)) (some ⟨w.heap.size,0,none⟩) 1 (fun _=>y):=by
 subst h
 refine .inr ⟨w.heap.size,0,rfl,fun j hj => ?_⟩
 have:j=0:=by omega
 subst this
 simp
theorem wpList_append_bytes {w:World} {ops:Array Oper} {rest:List Oper} {o:Oper} {a:Act} {Q:Exit→Act→World→Prop} (hgd:o.guard=none) (s x:Operand)
 (ho:o.op = .call { callee := .builtin .append,args:=#[s,x],argTypes:=#[22,22] }) (base:Nat)
 (v:Value) (n:Nat) (X:Nat→Nat) (hs:a.eval s=v) (hown:Own base w v n X) (xo:Option Addr) (m c:Nat) (bs:Nat→Nat) (hx:a.eval x = .slice xo m c) (hsrc:Src w xo m bs) (hxn:xo=none→c=0)
 (hl:n+m≤140737488355328) (hbase:base≤w.heap.size)
 (h:∀ v' w',Own base w' v' (n+m) (cat n X bs)→w.grownBy w' v.ownBlock→wpList Try.prog ops Q rest (a.put o.dst v') w'):wpList Try.prog ops Q (o :: rest) a w:=by
 obtain ⟨i0,hi,hz0,hz1,hz2⟩:=info_parts Try.info5
 exact wpList_append_any hgd s x 22 ho base 5 i0 (.int .u8 0) 1 Try.underlying22 hi hz0 hz1 hz2 rfl v n _ hs hown xo m c bs hx hsrc hxn (by unfold maxLen;omega) (by omega) hbase (fun v' w' h1 h2=>h v' w' (by unfold Own;rw [←ints_add];exact h1) h2)
theorem wpList_append_next {w:World} {ops:Array Oper} {rest:List Oper} {o:Oper} {a:Act} {Q:Exit→Act→World→Prop} (hgd:o.guard=none) (s x:Operand)
 (ho:o.op = .call { callee := .builtin .append,args:=#[s,x],argTypes:=#[22,22] }) (base:Nat)
 (v:Value) (n:Nat) (F:Nat→Nat) (y:Int) (hs:a.eval s=v) (hown:Own base w v n F) (hx:a.eval x = .slice (some ⟨w.heap.size,0,none⟩) 1 1) (hF:y=(F n:Int))
 (hl:n+1≤140737488355328) (hbase:base≤w.heap.size)
 (h:∀ v' w',Own base w' v' (n+1) F→Below base w w'→wpList Try.prog ops Q rest (a.put o.dst v') w'):wpList Try.prog ops Q (o :: rest) a (w.alloc (.cells #[.int .u8 y] 5)):=by
 have hb:Below base w (w.alloc (.cells #[.int .u8 y] 5)):=(Below.refl _ _).alloc hbase _
 have hz:base≤(w.alloc (.cells #[.int .u8 y] 5)).heap.size:=by simp only [World.size_alloc];omega
 refine wpList_append_bytes hgd s x ho base v n F hs (hown.alloc _) _ 1 1 (fun _=>F n) hx (src_one w y (F n) hF) (fun h=>by cases h) hl hz (fun v' w' h1 h2=>h v' w' (h1.congr fun j hj => ?_) (Own.grown hb h2 (hown.alloc _) (Nat.le_refl _) hz))
 by_cases e:j<n
 · rw [cat_left e]
 · obtain rfl:j=n:=by omega
   unfold cat;rw [if_neg e]
theorem run_append_bytes (w:World) (base:Nat) (v:Value) (n:Nat) (X:Nat→Nat) (hown:Own base w v n X) (xo:Option Addr) (m c:Nat) (bs:Nat→Nat) (hsrc:Src w xo m bs) (hxn:xo=none→c=0)
 (hl:n+m≤140737488355328) (hbase:base≤w.heap.size) :
 ∃ v' w',(Builtin.append_ #[22,22] 22 #[v,.slice xo m c]).run Try.prog w = .ok v' w'∧Own base w' v' (n+m) (cat n X bs)∧Below base w w':=by
 obtain ⟨i0,hi,hz0,hz1,hz2⟩:=info_parts Try.info5
 obtain ⟨v',w',h1,h2,h3⟩:=run_append_any (P:=Try.prog) w 22 22 base 5 i0 (.int .u8 0) 1 Try.underlying22 hi hz0 hz1 hz2 rfl v n _ hown xo m c bs hsrc hxn (by unfold maxLen;omega) (by omega) hbase
 exact ⟨v',w',h1,by unfold Own;rw [←ints_add];exact h2,Own.grown (Below.refl _ _) h3 hown (Nat.le_refl _) hbase⟩
theorem wpList_append_empty {w:World} {ops:Array Oper} {rest:List Oper} {o:Oper} {a:Act} {Q:Exit→Act→World→Prop} (hgd:o.guard=none) (s x:Operand)
 (ho:o.op = .call { callee := .builtin .append,args:=#[s,x],argTypes:=#[22,22] }) (base:Nat)
 (F:Nat→Nat) (g:Nat) (hg:w.heap.size=g) (hs:a.eval s = .slice (some ⟨g,0,none⟩) 0 0) (xo:Option Addr) (m c:Nat) (hx:a.eval x = .slice xo m c) (hsrc:Src (w.alloc (.cells #[] 5)) xo m F) (hxn:xo=none→c=0)
 (hl:m≤140737488355328) (hbase:base≤w.heap.size)
 (h:∀ v' w',Own base w' v' m F→Below base w w'→wpList Try.prog ops Q rest (a.put o.dst v') w'):wpList Try.prog ops Q (o :: rest) a (w.alloc (.cells #[] 5)):=by
 subst hg
 have hb:Below base w (w.alloc (.cells #[] 5)):=(Below.refl _ _).alloc hbase _
 have hz:base≤(w.alloc (.cells #[] 5)).heap.size:=by simp only [World.size_alloc];omega
 refine wpList_append_bytes hgd s x ho base _ 0 F hs (Own.lit base w F hbase) xo m c F hx hsrc hxn (by omega) hz (fun v' w' h1 h2=>h v' w' ?_ (Own.grown hb h2 (Own.lit base w F hbase) (Nat.le_refl _) hz))
 rw [Nat.zero_add] at h1
 exact h1.congr fun j _=>by unfold cat;rw [if_neg (by omega),Nat.sub_zero]
theorem BytesIn.src {w:World} {v:Value} {n:Nat} {bs:Nat→Nat} (h:BytesIn w v n bs):∃ xo c,v = .slice xo n c∧(xo=none→c=0)∧n≤c∧∀ w',Below w.heap.size w w'→Src w' xo n bs:=by
 rcases h with ⟨xo,rfl,rfl⟩ | ⟨bb,ob,cap,rfl,h1,h2,h3⟩
 · exact ⟨xo,0,rfl,fun _=>rfl,Nat.le_refl _,fun _ _ => .inl rfl⟩
 · exact ⟨_,cap,rfl,(fun h=>by cases h),h2,fun w' hb => .inr ⟨bb,ob,rfl,fun j hj=>(hb.cell (p:=⟨bb,ob+j,none⟩) h1).trans (h3 j hj)⟩⟩
theorem BytesIn.keep {w w':World} {v:Value} {n:Nat} {bs:Nat→Nat} (h:BytesIn w v n bs) (hb:Below w.heap.size w w'):BytesIn w' v n bs:=by
 rcases h with h | ⟨bb,ob,cap,rfl,h1,h2,h3⟩
 · exact .inl h
 · exact .inr ⟨bb,ob,cap,rfl,Nat.lt_of_lt_of_le h1 hb.size,h2,fun j hj=>(hb.cell (p:=⟨bb,ob+j,none⟩) h1).trans (h3 j hj)⟩
def strB (n:Nat) (bs:Nat→Nat):ByteArray:=⟨((List.range n).map fun j=>UInt8.ofNat (bs j)).toArray⟩
theorem strB_congr {n:Nat} {a b:Nat→Nat} (h:∀ j,j<n→a j=b j):strB n a=strB n b:=by
 unfold strB
 congr 2
 exact List.map_congr_left fun j hj=>by rw [h j (List.mem_range.1 hj)]
theorem conv_bytes (w:World) (bb ob n cap:Nat) (bs:Nat→Nat) (hb:∀ j,bs j<256) (h:∀ j,j<n→w.cell? ⟨bb,ob+j,none⟩=some (.int .u8 (bs j))) :
 (convert 22 9 (.slice (some ⟨bb,ob,none⟩) n cap)).run Try.prog w = .ok (.string (strB n bs)) w:=by
 have hl:((List.range n).map fun j=>UInt8.ofNat (bs j)).length=n:=by simp
 have:=run_convert_bytes_back (P:=Try.prog) w 22 9 5 ⟨bb,ob,none⟩ cap ((List.range n).map fun j=>UInt8.ofNat (bs j)) Try.underlying22 Try.underlying5 (by kernel_rfl) (fun j hj=>by
  rw [hl] at hj
  rw [Addr.add_mid,h j hj]
  simp only [List.getElem_map,List.getElem_range]
  rw [UInt8.toNat_ofNat_of_lt' (by have:=hb j;simp [UInt8.size];omega)])
 rw [hl] at this
 exact this
theorem conv_nil (w:World):(convert 22 9 (.slice none 0 0)).run Try.prog w = .ok (.string (strB 0 (fun _=>0))) w:=by
 rw [run_convert_bytes_string w 22 9 5 none 0 0 Try.underlying22 Try.underlying5 (by kernel_rfl)]
 rfl
theorem conv_empty (w:World) (a:Addr):(convert 22 9 (.slice (some a) 0 0)).run Try.prog w = .ok (.string (strB 0 (fun _=>0))) w :=
 run_convert_bytes_back (P:=Try.prog) w 22 9 5 a 0 [] Try.underlying22 Try.underlying5 (by kernel_rfl) (fun j hj=>absurd hj (Nat.not_lt_zero j))
theorem BytesIn.conv {w:World} {v:Value} {n:Nat} {bs:Nat→Nat} (h:BytesIn w v n bs) (hb:∀ j,bs j<256) (w':World) (hw:Below w.heap.size w w'):(convert 22 9 v).run Try.prog w' = .ok (.string (strB n bs)) w':=by
 rcases h with ⟨xo,rfl,rfl⟩ | ⟨bb,ob,cap,rfl,h1,h2,h3⟩
 · have e:=strB_congr (n:=0) (a:=fun _=>0) (b:=bs) (fun j hj=>by omega)
   cases xo with
   | none=>exact (conv_nil w').trans (by rw [e])
   | some a=>exact (conv_empty w' a).trans (by rw [e])
 · exact conv_bytes w' bb ob n cap bs hb (fun j hj=>(hw.cell (p:=⟨bb,ob+j,none⟩) h1).trans (h3 j hj))
theorem BytesIn.still {w w':World} {v:Value} {n:Nat} {bs:Nat→Nat} (h:BytesIn w v n bs) (hb:Below w.heap.size w w'):BytesIn w' v n bs:=by
 rcases h with h | ⟨bb,ob,cap,rfl,h1,h2,h3⟩
 · exact .inl h
 · exact .inr ⟨bb,ob,cap,rfl,Nat.lt_of_lt_of_le h1 hb.size,h2,fun j hj=>(hb.cell (p:=⟨bb,ob+j,none⟩) h1).trans (h3 j hj)⟩
theorem BytesIn.of_own {base:Nat} {w:World} {v:Value} {n:Nat} {X:Nat→Nat} (h:Own base w v n X):BytesIn w v n X:=by
 rcases h.form with ⟨rfl,rfl⟩ | ⟨g,cap,rfl,_,hl,hc,hr⟩
 · exact .inl ⟨none,rfl,rfl⟩
 · exact .inr ⟨g,0,cap,rfl,hl,hc,fun j hj=>(hr j hj).1⟩
theorem strB_eq {n m:Nat} {a b:Nat→Nat} (ha:∀ j,a j<256) (hb:∀ j,b j<256):strB n a=strB m b↔n=m∧∀ j,j<n→a j=b j:=by
 constructor
 · intro h
   have h1:((List.range n).map fun j=>UInt8.ofNat (a j))=((List.range m).map fun j=>UInt8.ofNat (b j)):=by
    have:=congrArg (fun x:ByteArray=>x.data.toList) h
    simpa [strB] using this
   have hl:=congrArg List.length h1
   simp at hl
   subst hl
   refine ⟨rfl,fun j hj => ?_⟩
   have h2:=congrArg (fun l:List UInt8=>l[j]?) h1
   simp [hj] at h2
   have h3:=congrArg UInt8.toNat h2
   rw [UInt8.toNat_ofNat_of_lt' (by have:=ha j;simp [UInt8.size];omega),UInt8.toNat_ofNat_of_lt' (by have:=hb j;simp [UInt8.size];omega)] at h3
   exact h3
 · rintro ⟨rfl,h⟩
   exact strB_congr h
theorem zeroCells_u8 (m:Nat):Builtin.zeroCells #[.int .u8 0] m=(ints .u8 m (fun _=>0)).toArray:=by
 apply Array.ext'
 apply List.ext_getElem?
 intro j
 by_cases hj:j<m
 · rw [ints_at _ _ _ j hj]
   simp [Builtin.zeroCells,hj,Nat.mod_one]
 · rw [List.getElem?_eq_none (by rw [Array.length_toList,size_zeroCells];simp;omega),List.getElem?_eq_none (by show (ints .u8 m (fun _=>0)).length≤j;rw [ints_len];omega)]
end Go.Proofs.Ytgdcmibdjiaofaa
namespace Go.Proofs.Ytgdcmibdjiaofaa
open Go.RowKit
def beN (n s j:Nat):Nat:=n / 2 ^ (8*(s - 1 - j))%256
theorem beN_lt (n s j:Nat):beN n s j<256:=Nat.mod_lt _ (by decide)
def lnS (n:Nat):Nat:=if n<64 then 1 else if n<16384 then 2 else 4
def lnW (n:Nat):Nat:=if n<64 then n else if n<16384 then n+16384 else n+2147483648
def lnB (n:Nat):Nat→Nat:=beN (lnW n) (lnS n)
def vcB (n:Nat) (b:Nat→Nat):Nat→Nat:=cat (lnS n) (lnB n) b
def vcL (n:Nat):Nat:=lnS n+n
theorem lnS_pos (n:Nat):0<lnS n∧lnS n≤4:=by unfold lnS;split <;> (try split) <;> omega
def szB (s:Int):Bool:=s == 1 || s == 2 || s == 4 || s == 8
def mstN (s:Nat):Nat:=if s=8 then 4611686018427387904 else 2 ^ (8*s)
def nbN (B:Nat→Nat) (at_:Nat):Nat→Nat
 | 0=>0
 | s+1=>nbN B at_ s*256+B (at_+s)
theorem nbN_lt {B:Nat→Nat} (h:∀ j,B j<256) (a:Nat):∀ s,nbN B a s<256 ^ s
 | 0=>Nat.zero_lt_one
 | s+1=>by
  have:=nbN_lt h a s
  have:=h (a+s)
  show nbN B a s*256+B (a+s)<256 ^ s*256
  omega
structure Rd where
 at_:Nat
 e:Int
def numD (L:Nat) (B:Nat→Nat) (size:Int) (r:Rd):Nat × Rd :=
 if r.e≠0 then (0,r) else if szB size=false then (0,⟨r.at_,1⟩) else if (L:Int) - r.at_<size then (0,⟨r.at_,20⟩) else if size=8∧64≤B r.at_ then (0,⟨r.at_,11⟩) else (nbN B r.at_ size.toNat,⟨r.at_+size.toNat,0⟩)
def lenD (L:Nat) (B:Nat→Nat) (r:Rd):Nat × Rd :=
 if r.e≠0 then (0,r) else if L=r.at_ then (0,⟨r.at_,20⟩) else if B r.at_ / 64=3 then (0,⟨r.at_,21⟩) else if L - r.at_<2 ^ (B r.at_ / 64) then (0,⟨r.at_,20⟩)
 else if (2 ^ (B r.at_ / 64)=2∧nbN B r.at_ (2 ^ (B r.at_ / 64))%2 ^ (8*2 ^ (B r.at_ / 64) - 2)<64)∨(2 ^ (B r.at_ / 64)=4∧nbN B r.at_ (2 ^ (B r.at_ / 64))%2 ^ (8*2 ^ (B r.at_ / 64) - 2)<16384) then (0,⟨r.at_,21⟩)
 else (nbN B r.at_ (2 ^ (B r.at_ / 64))%2 ^ (8*2 ^ (B r.at_ / 64) - 2),⟨r.at_+2 ^ (B r.at_ / 64),0⟩)
def takD (L:Nat) (n:Int) (r:Rd):Nat × Rd :=
 if r.e≠0 then (0,r) else if n<0 then (0,⟨r.at_,1⟩) else if (L:Int) - r.at_<n then (0,⟨r.at_,20⟩) else (n.toNat,⟨r.at_+n.toNat,0⟩)
def vecD (L:Nat) (B:Nat→Nat) (r:Rd):Nat × Rd :=
 let p:=lenD L B r
 let q:Rd:=if p.2.e=0∧65536<p.1 then ⟨p.2.at_,21⟩ else p.2
 let t:=takD L p.1 q
 if t.2.e≠0 then (0,⟨r.at_,t.2.e⟩) else t
def endD (L:Nat) (r:Rd):Int:=if r.e=0∧r.at_<L then 21 else r.e
end Go.Proofs.Ytgdcmibdjiaofaa
namespace Go.Proofs.Ytgdcmibdjiaofaa
open Go.RowKit
def room (j:Nat):Nat:=if j=0 then 201 else 202
theorem src_room (w:World):Src (w.alloc (.cells #[.int .u8 201,.int .u8 202] 5)) (some ⟨w.heap.size,0,none⟩) 2 room:=by
 refine .inr ⟨w.heap.size,0,rfl,fun j hj => ?_⟩
 match j,hj with
 | 0,_=>simp [room]
 | 1,_=>simp [room]
set_option maxHeartbeats 1000000 in
theorem lent_any (v:Value) (n:Nat) (bs:Nat→Nat) (w:World) (hv:BytesIn w v n bs) (hn:n<140737488355000) :
 Calls Try.prog 9 #[v] w fun e w'=>∃ g cap,e = .returned (.slice (some ⟨g,0,none⟩) n cap)∧n+2≤cap∧w.heap.size≤g∧RowAt .u8 w' g 0 (n+2) (cat n bs room)∧Below w.heap.size w w':=by
 obtain ⟨xo,cx,rfl,hxn,-,hsrc⟩:=hv.src
 clear hv
 have src0:=hsrc _ ((Below.refl _ _).alloc (Nat.le_refl _) (.cells #[] 5))
 clear hsrc
 go_enter Try.func9,Try.ntmps9
 go_wp2_with (first
  | (at_builtin;refine wpList_append_empty rfl (.tmp 4) (.tmp 5) rfl w.heap.size bs _ rfl rfl xo n cx rfl src0 hxn (by omega) (Nat.le_refl _) ?_;intro v1 w1 own1 hb1;have hs1:=hb1.size;clear src0)
  | (at_builtin;refine wpList_append_bytes rfl (.tmp 7) (.tmp 8) rfl w.heap.size v1 n bs rfl (own1.alloc _) _ 2 2 room rfl (src_room w1) (fun h=>by cases h) (by omega) (by simp only [World.size_alloc];omega) ?_;intro v2 w2 own2 grow2;have hb2:=Own.grown (hb1.alloc hs1 _) grow2 (own1.alloc _) (Nat.le_refl _) (by simp only [World.size_alloc];omega);clear own1 hb1 hs1;(obtain ⟨g,cap,hv2,hg,hgl,hcap,hrow⟩:∃ g cap,v2 = .slice (some ⟨g,0,none⟩) (n+2) cap∧w.heap.size≤g∧g<w2.heap.size∧n+2≤cap∧RowAt .u8 w2 g 0 (n+2) (cat n bs room):=own2.form.resolve_left (fun h=>by omega));subst hv2;have hni:(n:Int)≤cap:=by omega))
 go_ret
 exact ⟨g,cap,rfl,hcap,hg,hrow,hb2⟩
set_option maxRecDepth 20000 in
set_option maxHeartbeats 1000000 in
theorem stays_any (g cap n:Nat) (v:Value) (bs:Nat→Nat) (hbs:∀ j,bs j<256) (w:World) (hn:n<140737488355000) (hcap:n+2≤cap) (hrow:RowAt .u8 w g 0 (n+2) (cat n bs room)) (hv:BytesIn w v n bs) :
 Calls Try.prog 17 #[.slice (some ⟨g,0,none⟩) n cap,v] w fun e w'=>e = .returned (.bool true)∧Below w.heap.size w w':=by
 have hc1:∀ W,Below w.heap.size w W→∀ c,(convert 22 9 (.slice (some ⟨g,0,none⟩) n c)).run Try.prog W = .ok (.string (strB n bs)) W:=fun W hW c=>conv_bytes W g 0 n c bs hbs (fun j hj=>by
  have:=(hrow j (by omega)).1
  rw [cat_left hj] at this
  exact (hW.cell (p:=⟨g,0+j,none⟩) (block_lt_of_cell this)).trans this)
 have hc2:=hv.conv hbs
 obtain ⟨xo,cx,rfl,-,-,-⟩:=hv.src
 have r1:w.cell? ⟨g,n,none⟩=some (.int .u8 201):=by
  have:=(hrow n (by omega)).1
  rw [Nat.zero_add] at this
  rw [this];unfold cat room;simp
 have r2:w.cell? ⟨g,n+1,none⟩=some (.int .u8 202):=by
  have:=(hrow (n+1) (by omega)).1
  rw [Nat.zero_add,cat_right] at this
  exact this
 clear hrow hv
 have hn2:(n:Int)+2≤cap:=by omega
 have hn3:(n:Int)≤cap:=by omega
 have e1:IntKind.i64.wrap ((n:Int)+1)=(n:Int)+1:=by simp only [IntKind.wrap_i64];omega
 have e3:((n:Int)+1).toNat=n+1:=by omega
 have e4:(0:Int)≤(n:Int)∧(n:Int)<(n:Int)+2:=by omega
 have e5:(0:Int)≤(n:Int)+1∧(n:Int)+1<(n:Int)+2:=by omega
 have e6:n<n+2:=by omega
 have e7:n+1<n+2:=by omega
 go_enter Try.func17,Try.ntmps17
 go_wp2
 have hS:∀ w':World,Below w.heap.size w w'→∀ b o,b<w.heap.size→w'.cell? ⟨b,o,none⟩=w.cell? ⟨b,o,none⟩:=fun w' h b o hb=>h.cell (p:=⟨b,o,none⟩) hb
 have hb0:Below w.heap.size w w.drew:=(Below.refl _ _).drew
 have hgl:g<w.heap.size:=block_lt_of_cell r1
 go_region_held3 (fun w'=>Below w.heap.size w w') (first | assumption) (fail)
 go_wp2
 go_ret
 exact ⟨rfl,hb0⟩
end Go.Proofs.Ytgdcmibdjiaofaa
namespace Go.Proofs.Ytgdcmibdjiaofaa
open Go.RowKit
def beK (n s k:Nat):Nat→Nat:=fun j=>if s≤j+k then beN n s j else 0
theorem beK_next (n s k:Nat) (hk:k<s) (j:Nat) (_hj:j<s):upd (beK n s k) (s - 1 - k) (n / 2 ^ (8*k)%256) j=beK n s (k+1) j:=by
 unfold upd beK
 by_cases h:j=s - 1 - k
 · rw [if_pos h,if_pos (by omega)]
   unfold beN
   rw [show s - 1 - j=k by omega]
 · rw [if_neg h]
   by_cases h2:s≤j+k
   · rw [if_pos h2,if_pos (by omega)]
   · rw [if_neg h2,if_neg (by omega)]
set_option maxRecDepth 20000 in
set_option maxHeartbeats 4000000 in
theorem cSplit_any (n s:Nat) (hs:s≤8) (w:World) :
 Calls Try.prog 111 #[.int .i64 n,.int .i64 s] w fun e w'=>∃ v,e = .returned v∧BytesIn w' v s (beN n s)∧Below w.heap.size w w':=by
 have hmk:=make_bytes w s (s:Int) rfl (by omega)
 have b0:Below w.heap.size w (w.alloc (.cells (zb s) 5)):=(Below.refl _ _).alloc (Nat.le_refl _) _
 have r0:RowAt .u8 (w.alloc (.cells (zb s) 5)) w.heap.size 0 s (beK n s 0):=(RowAt.fresh (X:=fun _=>0) (fun j hj=>zb_at s j hj)).congr fun j hj=>by
  unfold beK
  rw [if_neg (by omega)]
 obtain ⟨W,hW⟩:∃ W,W=w.alloc (.cells (zb s) 5):=⟨_,rfl⟩
 have gW:w.heap.size<W.heap.size:=by rw [hW];simp
 obtain ⟨g,hg⟩:∃ g,g=w.heap.size:=⟨_,rfl⟩
 rw [←hW] at hmk b0 r0
 rw [←hg] at hmk r0
 have hgl:w.heap.size≤g:=by omega
 have gW':g<W.heap.size:=by omega
 clear hW gW hg
 go_enter Try.func111,Try.ntmps111
 go_wp2
 go_loopw [10] (fun i wr=>∃ k:Nat,k≤s∧i = .int .i64 k∧RowAt .u8 wr g 0 s (beK n s k)∧Below w.heap.size w wr∧g<wr.heap.size) (fun i _=>s - (intOf i).toNat)
 case atStart=>exact ⟨0,Nat.zero_le _,rfl,r0,b0,gW'⟩
 case round =>
  clear r0 b0 hmk
  obtain ⟨k,hk,rfl,hr,hb,gl⟩:=hrel
  by_cases hlt:k<s
  · obtain ⟨q1,z1⟩:=hr (s - 1 - k) (by omega)
    have hst:=hr.set (i:=s - 1 - k) (by omega) (v:=((n / 2 ^ (8*k)%256:Nat):Int)) rfl
    rw [Nat.zero_add] at q1 z1 hst
    replace hst:=hst.congr fun j hj=>beK_next n s k hlt j hj
    have e1:IntKind.u8.wrap ((n:Int) / 2 ^ (8*k))=((n / 2 ^ (8*k)%256:Nat):Int):=by
     show (n:Int) / 2 ^ (8*k)%256=_
     simp
    obtain ⟨y,hy⟩:∃ y,y=n / 2 ^ (8*k)%256:=⟨_,rfl⟩
    rw [←hy] at hst e1
    obtain ⟨q,hq⟩:∃ q,q=s - 1 - k:=⟨_,rfl⟩
    rw [←hq] at q1 z1 hst
    obtain ⟨u,hu⟩:∃ u,u=beK n s k q:=⟨_,rfl⟩
    rw [←hu] at q1
    obtain ⟨sh,hsh⟩:∃ sh,sh=8*k:=⟨_,rfl⟩
    rw [←hsh] at e1
    have e2:(s:Int) - 1 - (k:Int)=(q:Int):=by omega
    have e2':IntKind.i64.wrap ((s:Int) - 1 - (k:Int))=(q:Int):=by simp only [IntKind.wrap_i64];omega
    have e2'':IntKind.i64.wrap ((s:Int) - 1)=(s:Int) - 1:=by simp only [IntKind.wrap_i64];omega
    have e3:8*(k:Int)=(sh:Int):=by omega
    have e3':IntKind.i64.wrap (8*(k:Int))=(sh:Int):=by simp only [IntKind.wrap_i64];omega
    have e4:IntKind.u64.wrap (sh:Int)=(sh:Int):=by show (sh:Int)%18446744073709551616=_;omega
    have t1:(0:Int)≤(q:Int)∧(q:Int)<(s:Int):=by omega
    have t2:(0:Int)≤(sh:Int)∧(sh:Int)<64:=by omega
    have hlt':(k:Int)<(s:Int):=by omega
    clear hy hq hu hsh hr
    go_wp2
    go_roundw
    case rel=>exact ⟨k+1,hlt,by go_num,hst,hb.setCell hgl _,by simp;exact gl⟩
    case measure=>simp [intOf];omega
  · obtain rfl:k=s:=by omega
    have hlt':¬(k:Int)<(k:Int):=by omega
    go_wp2
    go_ret
    exact ⟨_,rfl,.inr ⟨g,0,k,rfl,gl,Nat.le_refl _,fun j hj=>by rw [(hr j hj).1];unfold beK;rw [if_pos (by omega)]⟩,hb⟩
theorem cSize_any (s:Int) (w:World):Calls Try.prog 109 #[.int .i64 s] w fun e w'=>e = .returned (.bool (szB s))∧w'=w:=by
 by_cases h1:s=1
 · subst h1
   go_enter Try.func109,Try.ntmps109
   go_wp2
   go_ret
   exact ⟨rfl,rfl⟩
 · by_cases h2:s=2
   · subst h2
     go_enter Try.func109,Try.ntmps109
     go_wp2
     go_ret
     exact ⟨rfl,rfl⟩
   · by_cases h4:s=4
     · subst h4
       go_enter Try.func109,Try.ntmps109
       go_wp2
       go_ret
       exact ⟨rfl,rfl⟩
     · by_cases h8:s=8
       · subst h8
         go_enter Try.func109,Try.ntmps109
         go_wp2
         go_ret
         exact ⟨rfl,rfl⟩
       · go_enter Try.func109,Try.ntmps109
         go_wp2
         go_ret
         exact ⟨by simp [szB],rfl⟩
theorem cMost_any (s:Nat) (h:s=1∨s=2∨s=4∨s=8) (w:World):Calls Try.prog 110 #[.int .i64 (s:Int)] w fun e w'=>e = .returned (.int .i64 ((mstN s - 1:Nat):Int))∧w'=w:=by
 rcases h with rfl | rfl | rfl | rfl <;>
 · go_enter Try.func110,Try.ntmps110
   go_wp2
   go_ret
   exact ⟨rfl,rfl⟩
def lbN (k:Nat):Nat:=8*2 ^ k - 2
theorem cBits_any (k:Nat) (h:k<3) (w:World):Calls Try.prog 119 #[.int .i64 (k:Int)] w fun e w'=>e = .returned (.int .i64 ((lbN k:Nat):Int))∧w'=w:=by
 rcases (show k=0∨k=1∨k=2 by omega) with rfl | rfl | rfl <;>
 · go_enter Try.func119,Try.ntmps119
   go_wp2
   go_ret
   exact ⟨rfl,rfl⟩
end Go.Proofs.Ytgdcmibdjiaofaa
namespace Go.Proofs.Ytgdcmibdjiaofaa
open Go.RowKit
set_option maxRecDepth 20000 in
set_option maxHeartbeats 4000000 in
theorem rbytes_any (n s:Nat) (hs:s≤8) (w:World) :
 Calls Try.prog 62 #[.int .i64 n,.int .i64 s] w fun e w'=>∃ v,e = .returned v∧Own w.heap.size w' v s (beN n s)∧Below w.heap.size w w':=by
 have e0:IntKind.i64.wrap ((s:Int) - 1)=(s:Int) - 1:=by simp only [IntKind.wrap_i64];omega
 go_enter Try.func62,Try.ntmps62
 go_wp2
 go_loopw [5,6] (fun o i wr=>∃ k:Nat,k≤s∧i = .int .i64 ((s:Int) - 1 - (k:Int))∧(∃ xo co,o = .slice xo k co∧Own w.heap.size wr (.slice xo k co) k (beN n s))∧Below w.heap.size w wr) (fun _ i _=>(intOf i+1).toNat)
 case atStart=>exact ⟨0,Nat.zero_le _,by go_num,⟨none,0,rfl,Own.nil _ _ _⟩,Below.refl _ _⟩
 case round =>
  obtain ⟨k,hk,rfl,⟨xo,co,rfl,own⟩,hb⟩:=hrel
  by_cases hlt:k<s
  · obtain ⟨q,hq⟩:∃ q:Nat,(s:Int) - 1 - (k:Int)=(q:Int):=⟨s - 1 - k,by omega⟩
    rw [hq]
    obtain ⟨sh,hsh⟩:∃ sh,sh=8*q:=⟨_,rfl⟩
    have e1:IntKind.u8.wrap ((n:Int) / 2 ^ sh)=((beN n s k:Nat):Int):=by
     unfold beN
     rw [show s - 1 - k=q by omega,←hsh]
     show (n:Int) / 2 ^ sh%256=_
     simp
    have e3:8*(q:Int)=(sh:Int):=by omega
    have e3':IntKind.i64.wrap (8*(q:Int))=(sh:Int):=by simp only [IntKind.wrap_i64];omega
    have e4:IntKind.u64.wrap (sh:Int)=(sh:Int):=by show (sh:Int)%18446744073709551616=_;omega
    have t2:(0:Int)≤(sh:Int)∧(sh:Int)<64:=by omega
    have t3:(0:Int)≤(q:Int):=by omega
    have Hq:=Hid.mk' hq
    have F:=fun j=>beN n s j
    obtain ⟨y,hy⟩:∃ y:Int,y=((beN n s k:Nat):Int):=⟨_,rfl⟩
    rw [←hy] at e1
    have Hy:=Hid.mk' hy
    clear hq hsh hy F
    go_wp2_with (at_builtin;refine wpList_append_next rfl (.tmp 13) (.tmp 20) rfl w.heap.size _ k (beN n s) y rfl own rfl Hy.out (by omega) hb.size ?_;intro v7 w7 own7 hb7;(obtain ⟨x7,c7,hv7⟩:=own7.slice);subst hv7)
    go_roundw
    case rel=>exact ⟨k+1,hlt,congrArg (Value.int .i64) (by have:=Hq.out;omega),⟨x7,c7,rfl,own7⟩,hb.trans hb7⟩
    case measure=>simp [intOf]
  · obtain rfl:k=s:=by omega
    have t3:¬((0:Int)≤(k:Int) - 1 - (k:Int)):=by omega
    go_wp2
    go_ret
    exact ⟨_,rfl,own,hb⟩
theorem szB_cases {s:Int} (h:szB s=true):s=1∨s=2∨s=4∨s=8:=by
 unfold szB at h
 simpa [or_assoc] using h
theorem mstN_lt (s:Nat) (h:s=1∨s=2∨s=4∨s=8):mstN s<9223372036854775808:=by
 rcases h with rfl | rfl | rfl | rfl <;> decide
theorem rLen11_good (n:Nat) (hn:n<1073741824) (w:World):Calls Try.prog 113 #[.int .i64 n] w fun e w'=>∃ v,e = .returned (.tuple #[v,.int .i64 0])∧Own w.heap.size w' v (lnS n) (lnB n)∧Below w.heap.size w w':=by
 have c:=rbytes_any (lnW n) (lnS n) (by have:=lnS_pos n;omega) w
 have h0:¬((n:Int)<0):=by omega
 have h1:¬((1073741824:Int)≤(n:Int)):=by omega
 unfold lnB
 by_cases h2:n<64
 · have e1:lnW n=n:=by unfold lnW;rw [if_pos h2]
   have e2:lnS n=1:=by unfold lnS;rw [if_pos h2]
   have h2':(n:Int)<64:=by omega
   rw [e1,e2] at c ⊢
   go_enter Try.func113,Try.ntmps113
   go_wp2_with (go_at_call 62;refine c.mono ?_;clear c;rintro e w1 ⟨v1,rfl,own1,b1⟩)
   go_ret2
   exact ⟨_,rfl,own1,b1⟩
 · have h2':¬((n:Int)<64):=by omega
   by_cases h3:n<16384
   · have e1:lnW n=n+16384:=by unfold lnW;rw [if_neg h2,if_pos h3]
     have e2:lnS n=2:=by unfold lnS;rw [if_neg h2,if_pos h3]
     have h3':(n:Int)<16384:=by omega
     have e3:((n+16384:Nat):Int)=(n:Int)+16384:=by omega
     have e4:IntKind.i64.wrap ((n:Int)+16384)=(n:Int)+16384:=by simp only [IntKind.wrap_i64];omega
     rw [e1,e2] at c ⊢
     rw [e3] at c
     generalize n+16384=q at *
     go_enter Try.func113,Try.ntmps113
     go_wp2_with (go_at_call 62;refine c.mono ?_;clear c;rintro e w1 ⟨v1,rfl,own1,b1⟩)
     go_ret2
     exact ⟨_,rfl,own1,b1⟩
   · have e1:lnW n=n+2147483648:=by unfold lnW;rw [if_neg h2,if_neg h3]
     have e2:lnS n=4:=by unfold lnS;rw [if_neg h2,if_neg h3]
     have h3':¬((n:Int)<16384):=by omega
     have e3:((n+2147483648:Nat):Int)=(n:Int)+2147483648:=by omega
     have e4:IntKind.i64.wrap ((n:Int)+2147483648)=(n:Int)+2147483648:=by simp only [IntKind.wrap_i64];omega
     rw [e1,e2] at c ⊢
     rw [e3] at c
     generalize n+2147483648=q at *
     go_enter Try.func113,Try.ntmps113
     go_wp2_with (go_at_call 62;refine c.mono ?_;clear c;rintro e w1 ⟨v1,rfl,own1,b1⟩)
     go_ret2
     exact ⟨_,rfl,own1,b1⟩
theorem rVec11_good (v:Value) (n:Nat) (b:Nat→Nat) (hn:n≤65536) (w:World) (hv:BytesIn w v n b):Calls Try.prog 93 #[v] w fun e w'=>∃ s,e = .returned (.tuple #[s,.int .i64 0])∧Own w.heap.size w' s (vcL n) (vcB n b)∧Below w.heap.size w w':=by
 obtain ⟨x1,c1,rfl,hxn,-,hsrc⟩:=hv.src
 have h1:¬((65536:Int)<(n:Int)):=by omega
 have c:=rLen11_good n (by omega) w
 have hp:=lnS_pos n
 unfold vcL vcB
 generalize lnS n=s at *
 generalize lnB n=B at *
 clear hv
 go_enter Try.func93,Try.ntmps93
 go_wp2_with (first
  | (go_at_call 113;refine c.mono ?_;clear c;rintro e w1 ⟨v1,rfl,own1,b1⟩;(have hs:=hsrc w1 b1);(obtain ⟨y1,d1,e1⟩:=own1.slice);subst e1)
  | (at_builtin;refine wpList_append_bytes rfl (.tmp 15) (.tmp 16) rfl w.heap.size _ s B rfl own1 x1 n c1 b rfl hs hxn (by omega) b1.size ?_;intro v2 w2 own2 g2;(have b2:=Own.grown b1 g2 own1 (Nat.le_refl _) b1.size)))
 go_ret2
 exact ⟨_,rfl,own2,b2⟩
end Go.Proofs.Ytgdcmibdjiaofaa
namespace Go.Proofs.Ytgdcmibdjiaofaa
open Go.RowKit
theorem wpAnyH_narrow {P:Program} {md:Region.Mode} {ops:Array Oper} {Q:Exit→Act→World→Prop} {S S':World→Prop} (h:∀ w,S' w→S w):∀ (fuel:Nat) (listed:Array Bool) (a:Act) (w:World),wpAnyH P md ops Q S' fuel listed a w→wpAnyH P md ops Q S fuel listed a w
 | 0,_,_,_,H=>H
 | fuel+1,_,_,_,H=>⟨H.1,fun i hi=>wpOp_mono (fun a' w' h'=>⟨h w' h'.1,wpAnyH_narrow h fuel _ a' w' h'.2⟩) (H.2 i hi)⟩
end Go.Proofs.Ytgdcmibdjiaofaa
namespace Go.Proofs.Ytgdcmibdjiaofaa
open Go.RowKit
structure RW (w:World) (g o:Nat) (cs:List Value):Prop where
 range:w.rangeAt g o cs
 there:w.there g o cs.length
 lt:g<w.heap.size
theorem RW.still {w w':World} {g o:Nat} {cs:List Value} (h:RW w g o cs) (hb:Below w.heap.size w w'):RW w' g o cs :=
 ⟨fun j v hv=>(hb.cell (p:=⟨g,o+j,none⟩) h.lt).trans (h.range j v hv),fun j hj=>by
   rw [hb.cell (p:=⟨g,o+j,none⟩) h.lt,hb.frozen (p:=⟨g,o+j,none⟩) h.lt];exact h.there j hj,Nat.lt_of_lt_of_le h.lt hb.size⟩
theorem RW.below {w w':World} {g o B:Nat} {cs:List Value} (h:RW w g o cs) (hb:Below B w w') (hB:g<B):RW w' g o cs :=
 ⟨fun j v hv=>(hb.cell (p:=⟨g,o+j,none⟩) hB).trans (h.range j v hv),fun j hj=>by
   rw [hb.cell (p:=⟨g,o+j,none⟩) hB,hb.frozen (p:=⟨g,o+j,none⟩) hB];exact h.there j hj,Nat.lt_of_lt_of_le h.lt hb.size⟩
theorem RW.out {w w':World} {g o b p n:Nat} {cs:List Value} (h:RW w g o cs) (hb:Out b p n w w') (hne:g≠b):RW w' g o cs :=
 ⟨fun j v hv=>(hb.cell' h.lt hne).trans (h.range j v hv),fun j hj=>by
   rw [hb.cell' h.lt hne,hb.frozen' h.lt hne];exact h.there j hj,Nat.lt_of_lt_of_le h.lt hb.size⟩
theorem RW.stored {w:World} {g o:Nat} {cs:List Value} (h:RW w g o cs) (ds:List Value) (hl:ds.length=cs.length):RW (w.setCells g o ds) g o ds :=
 ⟨World.rangeAt_setCells_same _ _ _ _ (by rw [hl];exact h.there),World.there_setCells (by rw [hl];exact h.there) _ _ _,by rw [(setCells_same g ds o w).2.2.2];exact h.lt⟩
theorem RW.far {w:World} {g o:Nat} {cs:List Value} (h:RW w g o cs) (b p:Nat) (ds:List Value) (hap:g≠b∨o+cs.length≤p∨p+ds.length≤o):RW (w.setCells b p ds) g o cs :=
 ⟨World.rangeAt_setCells_apart h.range _ _ _ hap,World.there_setCells h.there _ _ _,by rw [(setCells_same b ds p w).2.2.2];exact h.lt⟩
theorem RW.left {w:World} {g o:Nat} {cs ds:List Value} (h:RW w g o (cs ++ ds)):RW w g o cs :=
 ⟨fun j v hv=>h.range j v (by rw [List.getElem?_append_left (List.getElem?_eq_some_iff.1 hv).1];exact hv),fun j hj=>h.there j (by rw [List.length_append];omega),h.lt⟩
theorem RW.right {w:World} {g o:Nat} {cs ds:List Value} (h:RW w g o (cs ++ ds)):RW w g (o+cs.length) ds :=
 ⟨fun j v hv=>by
   have:=h.range (cs.length+j) v (by rw [List.getElem?_append_right (Nat.le_add_right _ _),Nat.add_sub_cancel_left];exact hv)
   rw [←Nat.add_assoc] at this;exact this,fun j hj=>by
   have:=h.there (cs.length+j) (by rw [List.length_append];omega)
   rw [←Nat.add_assoc] at this;exact this,h.lt⟩
theorem RW.join {w:World} {g o:Nat} {cs ds:List Value} (h:RW w g o cs) (k:RW w g (o+cs.length) ds):RW w g o (cs ++ ds) :=
 ⟨fun j v hv=>by
   by_cases hj:j<cs.length
   · exact h.range j v (by rw [List.getElem?_append_left hj] at hv;exact hv)
   · rw [List.getElem?_append_right (by omega)] at hv
     have:=k.range (j - cs.length) v hv
     rw [show o+cs.length+(j - cs.length)=o+j by omega] at this;exact this,fun j hj=>by
   rw [List.length_append] at hj
   by_cases hj':j<cs.length
   · exact h.there j hj'
   · have:=k.there (j - cs.length) (by omega)
     rw [show o+cs.length+(j - cs.length)=o+j by omega] at this;exact this,h.lt⟩
theorem RW.fresh (w:World) (cs:List Value) (t:TypeId):RW (w.alloc (.cells cs.toArray t)) w.heap.size 0 cs :=
 ⟨fun j v hv=>by rw [Nat.zero_add];simp [hv],fun j hj=>by
   rw [Nat.zero_add];simp [hj],by simp⟩
theorem RW.drew {w:World} {g o:Nat} {cs:List Value} (h:RW w g o cs):RW w.drew g o cs:=h.still ((Below.refl _ _).drew)
end Go.Proofs.Ytgdcmibdjiaofaa
namespace Go.Proofs.Ytgdcmibdjiaofaa
open Go.RowKit
abbrev pA (g o:Nat):Value := .pointer (some ⟨g,o,none⟩)
theorem pS:(∀ (a:Act) (d:Nat) (v:Value),a.put (some d) v={ a with tmps:=a.tmps.setIfInBounds d v })∧(∀ (l:List Value) (i:Nat) (v:Value),l.toArray.setIfInBounds i v=(l.set i v).toArray)∧(∀ (x:Value) (l:List Value) (v:Value),(x :: l).set 0 v=v :: l)∧(∀ (x:Value) (l:List Value) (n:Nat) (v:Value),(x :: l).set (n+1) v=x :: l.set n v) :=
 ⟨fun _ _ _=>rfl,fun _ _ _=>List.setIfInBounds_toArray ..,fun _ _ _=>rfl,fun _ _ _ _=>rfl⟩
section
variable {P:Program} {md:Region.Mode} {ops:Array Oper} {Q:Exit→Act→World→Prop} {S:World→Prop} {fuel:Nat} {listed:Array Bool} {a:Act} {w:World}
theorem tkH (i:Nat) (oi:Oper) (v:Value) (hS:S w) (hy:YieldsIf P ops S oi v a)
 (h:wpAnyH P md ops Q S fuel (listed.setIfInBounds i true) (a.put oi.dst v) w) (hQ:∀ c a w,Q (.panic c) (a.put oi.dst v) w→Q (.panic c) a w:=by exact fun _ _ _ h=>h) (hi:ops[i]? = some oi:=by rfl) (hs:Region.noSelect ops=true:=by kernel_rfl) (hf:Region.free md ops listed i=true:=by kernel_rfl) (hr:(Region.ready md ops listed).contains i=true:=by kernel_rfl):wpAnyH P md ops Q S (fuel+1) listed a w :=
 wpAnyH_take hi hs hf hr hQ hy hS h
theorem bR {w:World}:Below w.heap.size w w:=Below.refl _ _
theorem arC {i:Nat} {rs:List Nat} (oi:Oper) {f:FuncId} {args:Array Value} {R:Ending→World→Prop} (c:Calls P f args w R) (h:∀ e w',R e w'→∃ r,e = .returned r∧S w'∧wpAnyH P md ops Q S fuel (listed.setIfInBounds i true) (a.put oi.dst r) w') (hs:AllReadyH P md ops Q S fuel listed a w rs)
 (hi:ops[i]? = some oi:=by rfl) (hw:Region.wanted oi (yielded ops a.tmps)=true:=by rfl) (hrun:(execOp a.eval oi).run P w = .ok (.enter f args) w:=by kernel_rfl):AllReadyH P md ops Q S fuel listed a w (i :: rs):=by
 refine AllReadyH.cons hi (fun K hK => ?_) hs
 rw [if_pos hw]
 unfold Oper.wp
 rw [hrun,Oper.upon_enter]
 refine c.mono fun e w' hR => ?_
 obtain ⟨r,rfl,hS,hk⟩:=h e w' hR
 exact hK.out _ _ hS (fun _=>hk)
theorem callH (i:Nat) (oi:Oper) {f:FuncId} {args:Array Value} {R:Ending→World→Prop} (c:Calls P f args w R) (h:∀ e w',R e w'→∃ r,e = .returned r∧S w'∧wpAnyH P md ops Q S fuel (listed.setIfInBounds i true) (a.put oi.dst r) w')
 (hr:Region.ready md ops listed=[i]:=by kernel_rfl) (hi:ops[i]? = some oi:=by rfl) (hw:Region.wanted oi (yielded ops a.tmps)=true:=by rfl) (hrun:(execOp a.eval oi).run P w = .ok (.enter f args) w:=by kernel_rfl):wpAnyH P md ops Q S (fuel+1) listed a w :=
 wpAnyH_ready hr (by simp) (arC oi c h AllReadyH.nil hi hw hrun)
theorem callN (i:Nat) (oi:Oper) {f:FuncId} {args:Array Value} {R:Ending→World→Prop} (c:Calls P f args w R) (h:∀ e w',R e w'→∃ r,e = .returned r∧Below w.heap.size w w'∧wpAnyH P md ops Q (fun u=>Below w'.heap.size w' u) fuel (listed.setIfInBounds i true) (a.put oi.dst r) w')
 (hr:Region.ready md ops listed=[i]:=by kernel_rfl) (hi:ops[i]? = some oi:=by rfl) (hw:Region.wanted oi (yielded ops a.tmps)=true:=by rfl) (hrun:(execOp a.eval oi).run P w = .ok (.enter f args) w:=by kernel_rfl):wpAnyH P md ops Q (fun u=>Below w.heap.size w u) (fuel+1) listed a w :=
 callH i oi c (fun e w' hR=>by
  obtain ⟨r,he,hb,hk⟩:=h e w' hR
  exact ⟨r,he,hb,wpAnyH_narrow (fun _ hu=>below_next hb hu) _ _ _ _ hk⟩) hr hi hw hrun
theorem dag_root (h:∀ G:Nat→Array Bool→Act→World→Prop,G=wpAnyH P md ops Q S→G fuel listed a w):wpAnyH P md ops Q S fuel listed a w:=h _ rfl
theorem dagW {G:Nat→Array Bool→Act→World→Prop} (hG:Hid (G=wpAnyH P md ops Q S)) {f:Nat} {l:Array Bool} {b:Act} (h:G f l b w) (hb:b=a) (hf:f=fuel:=by kernel_rfl) (hl:l=listed:=by kernel_rfl):wpAnyH P md ops Q S fuel listed a w:=by
 subst hf;subst hl;subst hb;rw [←hG.out];exact h
theorem at_list {i:Nat} {oi:Oper} (hi:ops.toList[i]? = some oi):ops[i]? = some oi:=by rw [←Array.getElem?_toList];exact hi
theorem tg (i:Nat) (hS:S w) {oi:Oper} {v:Value} (h:wpAnyH P md ops Q S fuel (listed.setIfInBounds i true) (a.put oi.dst v) w) (hi:ops.toList[i]? = some oi:=by rfl)
 (hy:∀ w,S w→(execOp a.eval oi).run P w = .ok (.value v) w:=by intro w hSw;go_simp;try with_reducible rfl) (hw:Region.wanted oi (yielded ops a.tmps)=true:=by rfl)
 (hQ:∀ c b w,Q (.panic c) (b.put oi.dst v) w→Q (.panic c) b w:=by exact fun _ _ _ h=>h) (hs:Region.noSelect ops=true:=by kernel_rfl) (hf:Region.free md ops listed i=true:=by kernel_rfl) (hr:(Region.ready md ops listed).contains i=true:=by kernel_rfl):wpAnyH P md ops Q S (fuel+1) listed a w :=
 tkH i oi v hS (.inl ⟨hw,hy⟩) h hQ (at_list hi) hs hf hr
theorem tc (i:Nat) (hS:S w) {oi:Oper} {g o:Nat} {v:Value} (hc:∀ u,S u→u.cell? ⟨g,o,none⟩=some v) (h:wpAnyH P md ops Q S fuel (listed.setIfInBounds i true) (a.put oi.dst v) w) (hi:ops.toList[i]? = some oi:=by rfl)
 (hy:∀ w,w.cell? ⟨g,o,none⟩=some v→(execOp a.eval oi).run P w = .ok (.value v) w:=by intro w hc;go_simp;try with_reducible rfl) (hw:Region.wanted oi (yielded ops a.tmps)=true:=by rfl)
 (hQ:∀ c b w,Q (.panic c) (b.put oi.dst v) w→Q (.panic c) b w:=by exact fun _ _ _ h=>h) (hs:Region.noSelect ops=true:=by kernel_rfl) (hf:Region.free md ops listed i=true:=by kernel_rfl) (hr:(Region.ready md ops listed).contains i=true:=by kernel_rfl):wpAnyH P md ops Q S (fuel+1) listed a w :=
 tkH i oi v hS (.inl ⟨hw,fun u hu=>hy u (hc u hu)⟩) h hQ (at_list hi) hs hf hr
theorem cl (i:Nat) {oi:Oper} {f:FuncId} {args:Array Value} {R:Ending→World→Prop} (c:Calls P f args w R) (h:∀ e w',R e w'→∃ r,e = .returned r∧S w'∧wpAnyH P md ops Q S fuel (listed.setIfInBounds i true) (a.put oi.dst r) w')
 (hi:ops.toList[i]? = some oi:=by rfl) (hr:Region.ready md ops listed=[i]:=by kernel_rfl) (hw:Region.wanted oi (yielded ops a.tmps)=true:=by rfl) (hrun:(execOp a.eval oi).run P w = .ok (.enter f args) w:=by kernel_rfl):wpAnyH P md ops Q S (fuel+1) listed a w :=
 callH i oi c h hr (at_list hi) hw hrun
theorem cn (i:Nat) {oi:Oper} {f:FuncId} {args:Array Value} {R:Ending→World→Prop} (c:Calls P f args w R) (h:∀ e w',R e w'→∃ r,e = .returned r∧Below w.heap.size w w'∧wpAnyH P md ops Q (fun u=>Below w'.heap.size w' u) fuel (listed.setIfInBounds i true) (a.put oi.dst r) w')
 (hi:ops.toList[i]? = some oi:=by rfl) (hr:Region.ready md ops listed=[i]:=by kernel_rfl) (hw:Region.wanted oi (yielded ops a.tmps)=true:=by rfl) (hrun:(execOp a.eval oi).run P w = .ok (.enter f args) w:=by kernel_rfl):wpAnyH P md ops Q (fun u=>Below w.heap.size w u) (fuel+1) listed a w :=
 callN i oi c h hr (at_list hi) hw hrun
end
end Go.Proofs.Ytgdcmibdjiaofaa
namespace Go.Proofs.Ytgdcmibdjiaofaa
open Go.RowKit
def RdR (w:World) (g L:Nat) (B:Nat→Nat) (r:Rd):Prop:=∃ v,RW w g 0 [v,.int .i64 (r.at_:Int),.int .i64 r.e]∧BytesIn w v L B∧r.at_≤L
theorem RdR.keep {w w':World} {g L:Nat} {B:Nat→Nat} {r:Rd} (h:RdR w g L B r) (hb:Below w.heap.size w w'):RdR w' g L B r:=by
 obtain ⟨v,rw_,hv,ha⟩:=h
 exact ⟨v,rw_.still hb,hv.keep hb,ha⟩
theorem RdR.lt {w:World} {g L:Nat} {B:Nat→Nat} {r:Rd} (h:RdR w g L B r):g<w.heap.size:=by
 obtain ⟨_,r,_⟩:=h
 exact r.lt
end Go.Proofs.Ytgdcmibdjiaofaa
namespace Go.Proofs.Ytgdcmibdjiaofaa
open Go.RowKit
theorem i64_or_nat (a b:Nat) (ha:a<9223372036854775808) (hb:b<9223372036854775808):bits .or .i64 (a:Int) (b:Int)=((a ||| b:Nat):Int):=by
 have hx:a ||| b<2 ^ 63:=Nat.or_lt_two_pow (by omega) (by omega)
 show IntKind.i64.wrap ((BitVec.ofInt 64 (a:Int) ||| BitVec.ofInt 64 (b:Int)).toNat:Int)=_
 rw [BitVec.toNat_or,show (BitVec.ofInt 64 (a:Int)).toNat=a by simp;omega,show (BitVec.ofInt 64 (b:Int)).toNat=b by simp;omega]
 simp only [IntKind.wrap_i64]
 omega
end Go.Proofs.Ytgdcmibdjiaofaa
namespace Go.Proofs.Ytgdcmibdjiaofaa
open Go.RowKit
theorem BytesIn.put_i64 {w:World} {v:Value} {n g o:Nat} {X:Nat→Nat} {z:Int} (h:BytesIn w v n X) (hc:w.cell? ⟨g,o,none⟩=some (.int .i64 z)) (u:Value):BytesIn (w.setCell ⟨g,o,none⟩ u) v n X:=by
 rcases h with h | ⟨bb,ob,cap,rfl,h1,h2,h3⟩
 · exact .inl h
 · refine .inr ⟨bb,ob,cap,rfl,by rw [World.size_setCell];exact h1,h2,fun j hj => ?_⟩
   have hne:(⟨g,o,none⟩:Addr)≠⟨bb,ob+j,none⟩:=fun e=>by
    rw [e,h3 j hj] at hc
    cases hc
   rw [World.cell?_setCell_other _ _ _ _ hne]
   exact h3 j hj
theorem RW.put {w:World} {g:Nat} {vs:List Value} (r:RW w g 0 vs) (i:Nat) (hi:i<vs.length) (y:Value):RW (w.setCell ⟨g,i,none⟩ y) g 0 (vs.set i y):=by
 have c:w.cell? ⟨g,i,none⟩=some vs[i]:=by
  have:=r.range i vs[i] (List.getElem?_eq_getElem hi)
  rwa [Nat.zero_add] at this
 refine ⟨fun j v hv => ?_,fun j hj => ?_,by rw [World.size_setCell];exact r.lt⟩
 · by_cases e:j=i
   · subst e
     rw [List.getElem?_set_self hi] at hv
     cases hv
     rw [Nat.zero_add]
     exact World.cell?_setCell_same _ _ _ c
   · have hne:(⟨g,i,none⟩:Addr)≠⟨g,0+j,none⟩:=fun e'=>by injection e';omega
     rw [World.cell?_setCell_other _ _ _ _ hne]
     refine r.range j v ?_
     rw [List.getElem?_set_ne (fun e'=>e e'.symm)] at hv
     exact hv
 · rw [List.length_set] at hj
   rw [World.frozen?_setCell]
   refine ⟨?_,(r.there j hj).2⟩
   by_cases e:j=i
   · subst e
     rw [Nat.zero_add,World.cell?_setCell_same _ _ _ c];rfl
   · have hne:(⟨g,i,none⟩:Addr)≠⟨g,0+j,none⟩:=fun e'=>by injection e';omega
     rw [World.cell?_setCell_other _ _ _ _ hne]
     exact (r.there j hj).1
theorem RdR.setE {w:World} {g L:Nat} {B:Nat→Nat} {r:Rd} (h:RdR w g L B r) (e:Int):RdR (w.setCell ⟨g,2,none⟩ (.int .i64 e)) g L B ⟨r.at_,e⟩:=by
 obtain ⟨v,rr,hv,ha⟩:=h
 exact ⟨v,rr.put 2 (by show 2<3;decide) _,hv.put_i64 (rr.range 2 _ rfl) _,ha⟩
theorem RdR.le {w:World} {g L:Nat} {B:Nat→Nat} {r:Rd} (h:RdR w g L B r):r.at_≤L:=by
 obtain ⟨v,rr,hv,ha⟩:=h
 exact ha
end Go.Proofs.Ytgdcmibdjiaofaa
namespace Go.Proofs.Ytgdcmibdjiaofaa
open Go.RowKit
theorem onlyV {P:Program} {md:Region.Mode} {ops:Array Oper} {Q:Exit→Act→World→Prop} {S:World→Prop} {fuel:Nat} {listed:Array Bool} {a:Act} {w:World} (i:Nat) {oi:Oper} {v:Value} {w':World} (hrun:(execOp a.eval oi).run P w = .ok (.value v) w') (hS:S w') (h:wpAnyH P md ops Q S fuel (listed.setIfInBounds i true) (a.put oi.dst v) w')
 (hi:ops.toList[i]? = some oi:=by rfl) (hr:Region.ready md ops listed=[i]:=by kernel_rfl) (hw:Region.wanted oi (yielded ops a.tmps)=true:=by rfl):wpAnyH P md ops Q S (fuel+1) listed a w:=by
 refine wpAnyH_ready hr (by simp) (AllReadyH.cons (at_list hi) (fun K hK => ?_) AllReadyH.nil)
 rw [if_pos hw]
 unfold Oper.wp
 rw [hrun,Oper.upon_value]
 exact hK.out _ _ hS (fun _=>h)
theorem exec_append {o:Oper} {a:Act} {w w':World} {v':Value} (s x:Operand) (ho:o.op = .call { callee := .builtin .append,args:=#[s,x],argTypes:=#[22,22] }) (hty:o.type=22) {sv xv:Value} (hs:a.eval s=sv) (hx:a.eval x=xv) (hrun:(Builtin.append_ #[22,22] 22 #[sv,xv]).run Try.prog w = .ok v' w'):(execOp a.eval o).run Try.prog w = .ok (.value v') w':=by
 simp [execOp,ho,hty,resolve,invoke,builtin,hs,hx,hrun,Result.andThen]
end Go.Proofs.Ytgdcmibdjiaofaa
namespace Go.Proofs.Ytgdcmibdjiaofaa
open Go.RowKit
def BI (lo hi:Nat) (w:World) (v:Value) (n:Nat) (B:Nat→Nat):Prop:=(∃ xo,v = .slice xo 0 0∧n=0)∨∃ bb ob cap,v = .slice (some ⟨bb,ob,none⟩) n cap∧(lo≤bb∧bb<hi)∧n≤cap∧∀ j,j<n→w.cell? ⟨bb,ob+j,none⟩=some (.int .u8 (B j))
theorem BI.of {lo hi:Nat} {w:World} {v:Value} {n:Nat} {B:Nat→Nat} (h:BI lo hi w v n B) (hh:hi≤w.heap.size):BytesIn w v n B:=by
 rcases h with h | ⟨bb,ob,cap,e,hb,hc,hl⟩
 · exact .inl h
 · exact .inr ⟨bb,ob,cap,e,Nat.lt_of_lt_of_le hb.2 hh,hc,hl⟩
theorem BI.all {w:World} {v:Value} {n:Nat} {B:Nat→Nat} (h:BytesIn w v n B):BI 0 w.heap.size w v n B:=by
 rcases h with h | ⟨bb,ob,cap,e,hb,hc,hl⟩
 · exact .inl h
 · exact .inr ⟨bb,ob,cap,e,⟨Nat.zero_le _,hb⟩,hc,hl⟩
theorem BI.own {base:Nat} {w:World} {v:Value} {n:Nat} {X:Nat→Nat} (h:Own base w v n X):BI base w.heap.size w v n X:=by
 rcases h.form with ⟨rfl,rfl⟩ | ⟨g,cap,rfl,h1,h2,h3,h4⟩
 · exact .inl ⟨none,rfl,rfl⟩
 · exact .inr ⟨g,0,cap,rfl,⟨h1,h2⟩,h3,fun j hj=>(h4 j hj).1⟩
theorem BI.wide {lo hi lo' hi':Nat} {w:World} {v:Value} {n:Nat} {B:Nat→Nat} (h:BI lo hi w v n B) (h1:lo'≤lo) (h2:hi≤hi'):BI lo' hi' w v n B:=by
 rcases h with h | ⟨bb,ob,cap,e,hb,hc,hl⟩
 · exact .inl h
 · exact .inr ⟨bb,ob,cap,e,⟨by omega,by omega⟩,hc,hl⟩
theorem BI.cong {lo hi:Nat} {w:World} {v:Value} {n:Nat} {B C:Nat→Nat} (h:BI lo hi w v n B) (e:∀ j,j<n→B j=C j):BI lo hi w v n C:=by
 rcases h with h | ⟨bb,ob,cap,e',hb,hc,hl⟩
 · exact .inl h
 · exact .inr ⟨bb,ob,cap,e',hb,hc,fun j hj=>by rw [hl j hj,e j hj]⟩
theorem BI.same {lo hi:Nat} {w w':World} {v:Value} {n:Nat} {B:Nat→Nat} (h:BI lo hi w v n B) (e:∀ b o z,lo≤b→b<hi→w.cell? ⟨b,o,none⟩=some (.int .u8 z)→w'.cell? ⟨b,o,none⟩=some (.int .u8 z)):BI lo hi w' v n B:=by
 rcases h with h | ⟨bb,ob,cap,e',hb,hc,hl⟩
 · exact .inl h
 · exact .inr ⟨bb,ob,cap,e',hb,hc,fun j hj=>e _ _ _ hb.1 hb.2 (hl j hj)⟩
theorem BI.below {lo hi M:Nat} {w w':World} {v:Value} {n:Nat} {B:Nat→Nat} (h:BI lo hi w v n B) (hb:Below M w w') (hM:hi≤M):BI lo hi w' v n B :=
 h.same fun b o _ _ h2 hc=>(hb.cell (p:=⟨b,o,none⟩) (Nat.lt_of_lt_of_le h2 hM)).trans hc
theorem BI.put {lo hi:Nat} {w:World} {v:Value} {n:Nat} {B:Nat→Nat} (h:BI lo hi w v n B) {g o:Nat} {u:Value} (hc:w.cell? ⟨g,o,none⟩=some u) (hu:∀ z,u ≠ .int .u8 z) (y:Value):BI lo hi (w.setCell ⟨g,o,none⟩ y) v n B:=by
 refine h.same fun b p z _ _ hz => ?_
 by_cases e:(⟨b,p,none⟩:Addr)=⟨g,o,none⟩
 · rw [e,hc] at hz
   exact absurd (Option.some.inj hz) (hu z)
 · exact (World.cell?_setCell_other _ _ _ _ (fun h=>e h.symm)).trans hz
theorem BI.cut {lo hi:Nat} {w:World} {v:Value} {L:Nat} {B:Nat→Nat} (hv:BI lo hi w v L B) (m:Nat) (hm:m≤L):∃ xo cx x1 c1 x2 c2,v = .slice xo L cx∧(xo=none→cx=0)
 ∧ (∀ W:World,(Instr.sliceAt 22 (.slice xo L cx) none (some (.int .i64 m)) none).run Try.prog W = .ok (.slice x1 m c1) W)∧BI lo hi w (.slice x1 m c1) m B
 ∧ (∀ W:World,(Instr.sliceAt 22 (.slice xo L cx) (some (.int .i64 m)) none none).run Try.prog W = .ok (.slice x2 (L - m) c2) W)∧BI lo hi w (.slice x2 (L - m) c2) (L - m) (fun j=>B (m+j)):=by
 have u1:Try.prog.underlying 22=some (.slice (Try.prog.elem 22)):=by kernel_rfl
 have u2:Try.prog.elem 22=5:=by kernel_rfl
 have u3:∀ W,((sizeOf 5).run Try.prog W) = .ok 1 W:=fun W=>by kernel_rfl
 rcases hv with ⟨xo,rfl,rfl⟩ | ⟨bb,ob,cap,rfl,hb,hc,hcell⟩
 · obtain rfl:m=0:=by omega
   refine ⟨xo,0,xo,0,xo,0,rfl,fun _=>rfl,fun W => ?_,.inl ⟨xo,rfl,rfl⟩,fun W => ?_,.inl ⟨xo,rfl,rfl⟩⟩
   · rw [run_sliceAt_slice W 22 _ _ _ _ u1,run_slice_h W 22 _ 0 0 u1 .i64 _ (by omega) (by omega),u2,u3]
     cases xo <;> simp [sliced]
   · rw [run_sliceAt_slice W 22 _ _ _ _ u1,run_slice_l W 22 _ 0 0 u1 .i64 _ (by omega) (by omega),u2,u3]
     cases xo <;> simp [sliced]
 · have h1:∀ W:World,(Instr.sliceAt 22 (.slice (some ⟨bb,ob,none⟩) L cap) none (some (.int .i64 m)) none).run Try.prog W = .ok (.slice (some ⟨bb,ob,none⟩) m cap) W:=fun W=>by
    rw [run_sliceAt_slice W 22 _ _ _ _ u1,run_slice_h W 22 _ L cap u1 .i64 _ (by omega) (by omega),u2,u3]
    simp [sliced,Addr.add_mid]
   by_cases ha:cap=m
   · refine ⟨some ⟨bb,ob,none⟩,cap,some ⟨bb,ob,none⟩,cap,some ⟨bb,ob,none⟩,cap - m,rfl,(fun e=>by cases e),h1,.inr ⟨bb,ob,cap,rfl,hb,by omega,fun j hj=>hcell j (by omega)⟩,fun W => ?_,.inr ⟨bb,ob,cap - m,rfl,hb,by omega,fun j hj=>absurd hj (by omega)⟩⟩
     rw [run_sliceAt_slice W 22 _ _ _ _ u1,run_slice_l W 22 _ L cap u1 .i64 _ (by omega) (by omega),u2,u3]
     simp [sliced,ha]
   · refine ⟨some ⟨bb,ob,none⟩,cap,some ⟨bb,ob,none⟩,cap,some ⟨bb,ob+m,none⟩,cap - m,rfl,(fun e=>by cases e),h1,.inr ⟨bb,ob,cap,rfl,hb,by omega,fun j hj=>hcell j (by omega)⟩,fun W => ?_,.inr ⟨bb,ob+m,cap - m,rfl,hb,by omega,fun j hj=>by rw [Nat.add_assoc];exact hcell (m+j) (by omega)⟩⟩
     rw [run_sliceAt_slice W 22 _ _ _ _ u1,run_slice_l W 22 _ L cap u1 .i64 _ (by omega) (by omega),u2,u3]
     simp [sliced,Addr.add_mid,ha]
theorem u64_or_nat (a b:Nat) (ha:a<18446744073709551616) (hb:b<18446744073709551616):bits .or .u64 (a:Int) (b:Int)=((a ||| b:Nat):Int):=by
 have hx:a ||| b<2 ^ 64:=Nat.or_lt_two_pow (by omega) (by omega)
 show IntKind.u64.wrap ((BitVec.ofInt 64 (a:Int) ||| BitVec.ofInt 64 (b:Int)).toNat:Int)=_
 rw [BitVec.toNat_or,show (BitVec.ofInt 64 (a:Int)).toNat=a by simp;omega,show (BitVec.ofInt 64 (b:Int)).toNat=b by simp;omega]
 show ((a ||| b:Nat):Int)%18446744073709551616=_
 omega
theorem or_byteU (x y:Nat) (hx:x*256+y<18446744073709551616) (hy:y<256):bits .or .u64 ((x*256:Nat):Int) (y:Int)=((x*256+y:Nat):Int):=by
 have h1:x*256<18446744073709551616:=Nat.lt_of_le_of_lt (Nat.le_add_right _ _) hx
 have h2:y<18446744073709551616:=Nat.lt_of_le_of_lt (Nat.le_add_left _ _) hx
 refine (u64_or_nat _ _ h1 h2).trans ?_
 have h:=Nat.two_pow_add_eq_or_of_lt (i:=8) (b:=y) hy x
 have e:(2:Nat) ^ 8*x=x*256:=Nat.mul_comm _ _
 rw [e] at h
 exact congrArg Int.ofNat h.symm
theorem nbN_shift (B:Nat→Nat) (a:Nat):∀ s,nbN (fun j=>B (a+j)) 0 s=nbN B a s
 | 0=>rfl
 | s+1=>by
  show nbN (fun j=>B (a+j)) 0 s*256+B (a+(0+s))=nbN B a s*256+B (a+s)
  rw [nbN_shift B a s,Nat.zero_add]
theorem nbN_lt8 {B:Nat→Nat} (lB:∀ j,B j<256) (a:Nat):∀ k,k≤8→nbN B a k<18446744073709551616:=fun k hk =>
 Nat.lt_of_lt_of_le (nbN_lt lB a k) (Nat.le_trans (Nat.pow_le_pow_right (by decide) hk) (by decide))
set_option maxRecDepth 20000 in
set_option maxHeartbeats 4000000 in
theorem cJoin_any (v:Value) (s:Nat) (B:Nat→Nat) (lB:∀ j,B j<256) (hs:s≤8) (w:World) (hv:BytesIn w v s B):Calls Try.prog 112 #[v] w fun e w'=>e = .returned (.int .u64 ((nbN B 0 s:Nat):Int))∧w'=w:=by
 have hlt:=nbN_lt8 lB 0
 obtain ⟨xo,cx,rfl,-,-,-⟩:=hv.src
 go_enter Try.func112,Try.ntmps112
 go_wp2
 go_loopw [3,7] (fun n i wr=>∃ k:Nat,k≤s∧i = .int .i64 (k:Int)∧n = .int .u64 ((nbN B 0 k:Nat):Int)∧w=wr) (fun _ i _=>s - (intOf i).toNat)
 case atStart=>exact ⟨0,Nat.zero_le _,by go_num,rfl,rfl⟩
 case round =>
  obtain ⟨k,hk,rfl,rfl,rfl⟩:=hrel
  by_cases hks:k<s
  · have q1:(k:Int)<(s:Int):=by omega
    rcases hv with ⟨xo,-,h0⟩ | ⟨bb,ob,cap,e0,hbb,hc,hcell⟩
    · omega
    cases e0
    have f2:=hcell k hks
    have hx:=hlt k (by omega)
    have hx1:=hlt (k+1) (by omega)
    have hy:=lB k
    have hstep:nbN B 0 (k+1)=nbN B 0 k*256+B k:=by show nbN B 0 k*256+B (0+k)=_;rw [Nat.zero_add]
    rw [hstep] at hx1
    have e1:=or_byteU (nbN B 0 k) (B k) hx1 hy
    obtain ⟨x,hx'⟩:∃ x,x=nbN B 0 k:=⟨_,rfl⟩
    obtain ⟨y,hy'⟩:∃ y,y=B k:=⟨_,rfl⟩
    rw [←hx',←hy'] at hstep e1 hx1
    rw [←hy'] at f2 hy
    rw [←hx'] at hx ⊢
    have e3:IntKind.u64.wrap ((x:Int)*256)=((x*256:Nat):Int):=by show ((x:Int)*256)%18446744073709551616=_;omega
    have e5:IntKind.u64.wrap (y:Int)=(y:Int):=by show (y:Int)%18446744073709551616=_;omega
    have t1:(0:Int)≤(k:Int)∧(k:Int)<(s:Int):=by omega
    have Hs:=Hid.mk' hstep
    clear hx' hy' hstep hcell hlt
    go_wp2
    go_roundw
    case rel=>exact ⟨k+1,hks,by go_num,by rw [Hs.out,←e1];rfl,trivial⟩
    case measure=>simp [intOf];omega
  · obtain rfl:k=s:=by omega
    have q1:¬((k:Int)<(k:Int)):=by omega
    go_wp2
    go_ret
    exact ⟨rfl,rfl⟩
end Go.Proofs.Ytgdcmibdjiaofaa
namespace Go.Proofs.Ytgdcmibdjiaofaa
open Go.RowKit
theorem run_eql_slice_nil {P:Program} (w:World) (t e:TypeId) (a:Option Addr) (l c:Nat) (h:P.underlying t=some (.slice e)):(binOp .eql t (.slice a l c) (.slice none 0 0)).run P w = .ok (.bool a.isNone) w:=by
 simp only [binOp]
 simp [run_equal_slice_nil w t e a l c h]
theorem wpList_eqnil {ops:Array Oper} {rest:List Oper} {op:Oper} {a:Act} {w:World} {Q:Exit→Act→World→Prop} (hgd:op.guard=none) (x y:Operand) (t2:TypeId) (ho:op.op = .binOp .eql 22 x y t2) (ad:Addr) (l c:Nat)
 (hx:a.eval x = .slice (some ad) l c) (hy:a.eval y = .slice none 0 0) (h:wpList Try.prog ops Q rest (a.put op.dst (.bool false)) w):wpList Try.prog ops Q (op :: rest) a w :=
 wpList_plain hgd fun K hK=>by
  unfold Oper.wp execOp
  simp only [ho,hx,hy]
  have e:(eqGuard .eql 22 x y (.slice (some ad) l c) (.slice none 0 0)).run Try.prog w = .ok () w:=by
   simp [eqGuard]
  rw [Sem.run_bind,Sem.run_bind,e]
  simp only [Result.andThen_ok]
  rw [run_eql_slice_nil w 22 5 (some ad) l c Try.underlying22]
  exact hK _ _ h
end Go.Proofs.Ytgdcmibdjiaofaa
namespace Go.Proofs.Ytgdcmibdjiaofaa
open Go.RowKit
def RdC (lo hi:Nat) (w:World) (g L:Nat) (B:Nat→Nat) (r:Rd):Prop:=∃ v,RW w g 0 [v,.int .i64 r.e,.bool true]∧BI lo hi w v (L - r.at_) (fun j=>B (r.at_+j))∧r.at_≤L∧(lo≤g∧g<hi)∧hi≤w.heap.size
theorem RdC.keep {lo hi:Nat} {w w':World} {g L:Nat} {B:Nat→Nat} {r:Rd} (h:RdC lo hi w g L B r) (hb:Below hi w w'):RdC lo hi w' g L B r:=by
 obtain ⟨v,rw_,hv,ha,hg,hh⟩:=h
 exact ⟨v,rw_.below hb hg.2,hv.below hb (Nat.le_refl _),ha,hg,Nat.le_trans hh hb.size⟩
theorem RdC.still {lo hi:Nat} {w w':World} {g L:Nat} {B:Nat→Nat} {r:Rd} (h:RdC lo hi w g L B r) (hb:Below w.heap.size w w'):RdC lo hi w' g L B r :=
 h.keep (hb.mono h.choose_spec.2.2.2.2)
theorem RdC.lt {lo hi:Nat} {w:World} {g L:Nat} {B:Nat→Nat} {r:Rd} (h:RdC lo hi w g L B r):g<w.heap.size:=by
 obtain ⟨_,r,_⟩:=h
 exact r.lt
theorem RdC.le {lo hi:Nat} {w:World} {g L:Nat} {B:Nat→Nat} {r:Rd} (h:RdC lo hi w g L B r):r.at_≤L:=by
 obtain ⟨_,_,_,h,_⟩:=h
 exact h
theorem RdC.cells {lo hi:Nat} {w:World} {g L:Nat} {B:Nat→Nat} {r:Rd} (h:RdC lo hi w g L B r):∃ v,(w.cell? ⟨g,0,none⟩=some v∧w.frozen? ⟨g,0,none⟩=false)∧(w.cell? ⟨g,1,none⟩=some (.int .i64 r.e)∧w.frozen? ⟨g,1,none⟩=false)∧w.cell? ⟨g,2,none⟩=some (.bool true)∧BI lo hi w v (L - r.at_) (fun j=>B (r.at_+j)):=by
 obtain ⟨v,rr,hv,ha,hg,hh⟩:=h
 exact ⟨v,⟨rr.range 0 _ rfl,(rr.there 0 (by simp)).2⟩,⟨rr.range 1 _ rfl,(rr.there 1 (by simp)).2⟩,rr.range 2 _ rfl,hv⟩
theorem RdC.setE {lo hi:Nat} {w:World} {g L:Nat} {B:Nat→Nat} {r:Rd} (h:RdC lo hi w g L B r) (e:Int):RdC lo hi (w.setCell ⟨g,1,none⟩ (.int .i64 e)) g L B ⟨r.at_,e⟩:=by
 obtain ⟨v,rr,hv,ha,hg,hh⟩:=h
 exact ⟨v,rr.put 1 (by simp) _,hv.put (rr.range 1 _ rfl) (fun z e=>by cases e) _,ha,hg,by rw [World.size_setCell];exact hh⟩
theorem RdC.setR {lo hi:Nat} {w:World} {g L:Nat} {B:Nat→Nat} {r:Rd} (h:RdC lo hi w g L B r) (a:Nat) (ha:a≤L) (x:Option Addr) (c:Nat) (hx:BI lo hi w (.slice x (L - a) c) (L - a) (fun j=>B (a+j))):RdC lo hi (w.setCell ⟨g,0,none⟩ (.slice x (L - a) c)) g L B ⟨a,r.e⟩:=by
 obtain ⟨v,rr,hv,-,hg,hh⟩:=h
 refine ⟨_,rr.put 0 (by simp) _,hx.put (rr.range 0 _ rfl) (fun z e => ?_) _,ha,hg,by rw [World.size_setCell];exact hh⟩
 rcases hv with ⟨xo,rfl,_⟩ | ⟨bb,ob,cap,rfl,_⟩
 · cases e
 · cases e
theorem wpList_eqnil0 {ops:Array Oper} {rest:List Oper} {op:Oper} {a:Act} {w:World} {Q:Exit→Act→World→Prop} (hgd:op.guard=none) (x y:Operand) (t2:TypeId) (ho:op.op = .binOp .eql 22 x y t2) (l c:Nat)
 (hx:a.eval x = .slice none l c) (hy:a.eval y = .slice none 0 0) (h:wpList Try.prog ops Q rest (a.put op.dst (.bool true)) w):wpList Try.prog ops Q (op :: rest) a w :=
 wpList_plain hgd fun K hK=>by
  unfold Oper.wp execOp
  simp only [ho,hx,hy]
  have e:(eqGuard .eql 22 x y (.slice none l c) (.slice none 0 0)).run Try.prog w = .ok () w:=by
   simp [eqGuard]
  rw [Sem.run_bind,Sem.run_bind,e]
  simp only [Result.andThen_ok]
  rw [run_eql_slice_nil w 22 5 none l c Try.underlying22]
  exact hK _ _ h
set_option maxRecDepth 20000 in
set_option maxHeartbeats 2000000 in
theorem cClone_any (v:Value) (n:Nat) (b:Nat→Nat) (hn:n<140737488355000) (w:World) (hv:BytesIn w v n b):Calls Try.prog 95 #[v] w fun e w'=>∃ u,e = .returned u∧Own w.heap.size w' u n b∧Below w.heap.size w w':=by
 obtain ⟨x1,c1,rfl,hxn,-,hsrc⟩:=hv.src
 have hsu:=hsrc _ ((Below.refl w.heap.size w).alloc (Nat.le_refl _) (.cells #[] 5))
 rcases x1 with _ | ad
 · obtain rfl:=hxn rfl
   obtain rfl:n=0:=by
    rcases hv with ⟨xo,_,h⟩ | ⟨bb,ob,cap,e,_⟩
    · exact h
    · cases e
   clear hv hsrc hsu
   go_enter Try.func95,Try.ntmps95
   go_wp2_with (refine wpList_eqnil0 rfl _ _ _ rfl _ _ rfl rfl ?_)
   go_ret
   exact ⟨_,rfl,Own.nil _ _ _,Below.refl _ _⟩
 · clear hv hsrc
   go_enter Try.func95,Try.ntmps95
   go_wp2_with (first
    | (refine wpList_eqnil rfl _ _ _ rfl _ _ _ rfl rfl ?_)
    | (at_builtin;refine wpList_append_empty rfl (.tmp 5) (.tmp 6) rfl w.heap.size b w.heap.size rfl rfl (some ad) n c1 rfl hsu hxn (by omega) (Nat.le_refl _) ?_;intro v3 w3 own3 hb3;(obtain ⟨y3,d3,e3⟩:=own3.slice);subst e3))
   go_ret
   exact ⟨_,rfl,own3,hb3⟩
set_option maxRecDepth 20000 in
set_option maxHeartbeats 2000000 in
theorem cNew_any (v:Value) (n:Nat) (b:Nat→Nat) (hn:n<140737488355000) (w:World) (hv:BytesIn w v n b):Calls Try.prog 68 #[v] w fun e w'=>∃ g,e = .returned (.pointer (some ⟨g,0,none⟩))∧RdC w.heap.size w'.heap.size w' g n b ⟨0,0⟩∧Below w.heap.size w w':=by
 have cc:=cClone_any v n b hn w hv
 obtain ⟨x1,c1,rfl,-,-,-⟩:=hv.src
 clear hv
 go_enter Try.func68,Try.ntmps68
 go_wp2_with (go_at_call 95;refine cc.mono ?_;clear cc;rintro e w1 ⟨u,rfl,own,b1⟩;(obtain ⟨x2,c2,e2⟩:=own.slice);subst e2)
 go_ret
 have hb:=(Below.refl w1.heap.size w1).alloc (Nat.le_refl _) (.cells #[.slice x2 n c2,.int .i64 0,.bool true] 130)
 refine ⟨w1.heap.size,rfl,⟨_,RW.fresh w1 [_,_,_] _,?_,Nat.zero_le _,⟨b1.size,by simp⟩,Nat.le_refl _⟩,below_next b1 hb⟩
 refine BI.cong ((BI.own own).below hb (Nat.le_refl _) |>.wide (Nat.le_refl _) hb.size) fun j _ => ?_
 show b j=b (0+j)
 rw [Nat.zero_add]
set_option maxRecDepth 20000 in
theorem cErr_any (lo hi g L:Nat) (B:Nat→Nat) (r:Rd) (w:World) (h:RdC lo hi w g L B r):Calls Try.prog 96 #[.pointer (some ⟨g,0,none⟩)] w fun e w'=>e = .returned (.int .i64 r.e)∧w'=w:=by
 obtain ⟨v,-,⟨c1,-⟩,c2,-⟩:=h.cells
 generalize r.e=er at *
 clear h
 go_enter Try.func96,Try.ntmps96
 go_wp2
 go_ret
 exact ⟨rfl,rfl⟩
set_option maxRecDepth 20000 in
theorem cReads_any (lo hi g L:Nat) (B:Nat→Nat) (r:Rd) (w:World) (h:RdC lo hi w g L B r):Calls Try.prog 106 #[.pointer (some ⟨g,0,none⟩)] w fun e w'=>e = .returned (.bool (decide (r.e=0)))∧w'=w:=by
 have c:=cErr_any lo hi g L B r w h
 clear h
 by_cases he:r.e=0
 · rw [he] at c ⊢
   go_enter Try.func106,Try.ntmps106
   go_wp2_with (go_at_call 96;refine c.mono ?_;clear c;rintro e w1 ⟨rfl,hw⟩;obtain rfl:=hw.symm)
   go_ret
   exact ⟨rfl,rfl⟩
 · rw [decide_eq_false he]
   generalize r.e=er at *
   go_enter Try.func106,Try.ntmps106
   go_wp2_with (go_at_call 96;refine c.mono ?_;clear c;rintro e w1 ⟨rfl,hw⟩;obtain rfl:=hw.symm)
   go_ret
   exact ⟨by simp [he],rfl⟩
set_option maxRecDepth 20000 in
theorem cLeft_any (lo hi g L:Nat) (B:Nat→Nat) (r:Rd) (w:World) (h:RdC lo hi w g L B r):Calls Try.prog 97 #[.pointer (some ⟨g,0,none⟩)] w fun e w'=>e = .returned (.int .i64 ((L:Int) - (r.at_:Int)))∧w'=w:=by
 have ha:=h.le
 obtain ⟨v,⟨c0,-⟩,-,-,hv⟩:=h.cells
 obtain ⟨xo,cx,-,-,-,-,rfl,-,-,-,-,-⟩:=hv.cut 0 (Nat.zero_le _)
 have e0:(L:Int) - (r.at_:Int)=((L - r.at_:Nat):Int):=by omega
 rw [e0]
 generalize L - r.at_=m at *
 clear h hv e0
 go_enter Try.func97,Try.ntmps97
 go_wp2
 go_ret
 exact ⟨rfl,rfl⟩
set_option maxRecDepth 20000 in
theorem cEnd_any (lo hi g L:Nat) (B:Nat→Nat) (r:Rd) (w:World) (h:RdC lo hi w g L B r):Calls Try.prog 69 #[.pointer (some ⟨g,0,none⟩)] w fun e w'=>e = .returned (.int .i64 (endD L r))∧w'=w:=by
 have ha:=h.le
 have c:=cErr_any lo hi g L B r w h
 have cl:=cLeft_any lo hi g L B r w h
 obtain ⟨x,hx⟩:∃ x:Int,x=(L:Int) - (r.at_:Int):=⟨_,rfl⟩
 rw [←hx] at cl
 clear h
 unfold endD
 by_cases he:r.e=0
 · rw [he] at c
   by_cases hl:r.at_<L
   · rw [if_pos ⟨he,hl⟩]
     have t1:¬x=0:=by omega
     clear hx
     go_enter Try.func69,Try.ntmps69
     go_wp2_with (first
      | (go_at_call 96;refine c.mono ?_;clear c;rintro e w1 ⟨rfl,hw⟩;obtain rfl:=hw.symm)
      | (go_at_call 97;refine cl.mono ?_;clear cl;rintro e w1 ⟨rfl,hw⟩;obtain rfl:=hw.symm))
     go_ret
     exact ⟨rfl,rfl⟩
   · rw [if_neg (fun e=>hl e.2),he]
     have t1:x=0:=by omega
     clear hx
     go_enter Try.func69,Try.ntmps69
     go_wp2_with (first
      | (go_at_call 96;refine c.mono ?_;clear c;rintro e w1 ⟨rfl,hw⟩;obtain rfl:=hw.symm)
      | (go_at_call 97;refine cl.mono ?_;clear cl;rintro e w1 ⟨rfl,hw⟩;obtain rfl:=hw.symm))
     go_ret
     exact ⟨rfl,rfl⟩
 · rw [if_neg (fun e=>he e.1)]
   clear hx cl
   generalize r.e=er at *
   go_enter Try.func69,Try.ntmps69
   go_wp2_with (go_at_call 96;refine c.mono ?_;clear c;rintro e w1 ⟨rfl,hw⟩;obtain rfl:=hw.symm)
   go_ret
   exact ⟨rfl,rfl⟩
end Go.Proofs.Ytgdcmibdjiaofaa
namespace Go.Proofs.Ytgdcmibdjiaofaa
open Go.RowKit
def knI (n:Int):Nat:=if n / 2 ^ 6=0 then 0 else if n / 2 ^ 14=0 then 1 else if n / 2 ^ 30=0 then 2 else 3
theorem knI_at (n:Int) (k:Nat) (hk:k<3) (h:n / 2 ^ lbN k=0) (hl:∀ q,q<k→¬n / 2 ^ lbN q=0):knI n=k:=by
 unfold knI
 rcases (show k=0∨k=1∨k=2 by omega) with rfl | rfl | rfl
 · exact if_pos h
 · exact (if_neg (hl 0 (by decide))).trans (if_pos h)
 · exact (if_neg (hl 0 (by decide))).trans ((if_neg (hl 1 (by decide))).trans (if_pos h))
theorem knI_none (n:Int) (hl:∀ q,q<3→¬n / 2 ^ lbN q=0):knI n=3:=by
 unfold knI
 exact (if_neg (hl 0 (by decide))).trans ((if_neg (hl 1 (by decide))).trans (if_neg (hl 2 (by decide))))
set_option maxRecDepth 20000 in
set_option maxHeartbeats 4000000 in
theorem cKind_any (n:Int) (w:World):Calls Try.prog 118 #[.int .i64 n] w fun e w'=>e = .returned (.int .i64 ((knI n:Nat):Int))∧w'=w:=by
 go_enter Try.func118,Try.ntmps118
 go_wp2
 go_loopw [4] (fun i wr=>∃ k:Nat,k≤3∧i = .int .i64 k∧w=wr∧∀ q,q<k→¬n / 2 ^ lbN q=0) (fun i _=>3 - (intOf i).toNat)
 case atStart=>exact ⟨0,Nat.zero_le _,rfl,rfl,fun q hq=>absurd hq (Nat.not_lt_zero _)⟩
 case round =>
  obtain ⟨k,hk,rfl,rfl,hl⟩:=hrel
  by_cases hlt:k<3
  · have cb:=cBits_any k hlt w
    have t1:(k:Int)<3:=by omega
    obtain ⟨b,hb⟩:∃ b,b=lbN k:=⟨_,rfl⟩
    have hb64:b<64:=by rw [hb];rcases (show k=0∨k=1∨k=2 by omega) with rfl | rfl | rfl <;> decide
    have t2:(0:Int)≤(b:Int)∧(b:Int)<64:=by omega
    rw [←hb] at cb
    have e4:IntKind.u64.wrap (b:Int)=(b:Int):=by show (b:Int)%18446744073709551616=_;omega
    by_cases hn:n / 2 ^ b=0
    · have hkn:knI n=k:=knI_at n k hlt (by rw [←hb];exact hn) hl
      clear hl hb
      go_wp2_with (go_at_call 119;refine cb.mono ?_;clear cb;rintro e w1 ⟨rfl,hw⟩;obtain rfl:=hw.symm)
      go_ret
      exact ⟨by rw [hkn];rfl,rfl⟩
    · have Hb:=Hid.mk' hb
      have Hl:=Hid.mk' hl
      clear hl hb
      go_wp2_with (go_at_call 119;refine cb.mono ?_;clear cb;rintro e w1 ⟨rfl,hw⟩;obtain rfl:=hw.symm)
      go_roundw
      case rel=>exact ⟨k+1,hlt,by go_num,trivial,fun q hq=>by
       by_cases e:q=k
       · subst e;rw [←Hb.out];exact hn
       · exact Hl.out q (by omega)⟩
      case measure=>simp [intOf];omega
  · obtain rfl:k=3:=by omega
    have hkn:=knI_none n hl
    clear hl
    go_wp2
    go_ret
    exact ⟨by rw [hkn];rfl,rfl⟩
theorem cNum11_good (n s:Nat) (h:szB s=true) (hn:n<mstN s) (w:World):Calls Try.prog 88 #[.int .i64 n,.int .i64 s] w fun e w'=>∃ v,e = .returned (.tuple #[v,.int .i64 0])∧BytesIn w' v s (beN n s)∧Below w.heap.size w w':=by
 have c:=cSize_any s w
 rw [h] at c
 have hs:=szB_cases h
 have cm:=cMost_any s (by omega) w
 have cs:=cSplit_any n s (by omega) w
 obtain ⟨y,hy⟩:∃ y:Int,y=((mstN s - 1:Nat):Int):=⟨_,rfl⟩
 rw [←hy] at cm
 have t1:¬y<(n:Int):=by omega
 have t2:¬(n:Int)<0:=by omega
 clear hy hn hs
 go_enter Try.func88,Try.ntmps88
 go_wp2_with (first
  | (go_at_call 109;refine c.mono ?_;clear c;rintro e w1 ⟨rfl,hw⟩;obtain rfl:=hw.symm)
  | (go_at_call 110;refine cm.mono ?_;clear cm;rintro e w1 ⟨rfl,hw⟩;obtain rfl:=hw.symm)
  | (go_at_call 111;refine cs.mono ?_;clear cs;rintro e w1 ⟨v1,rfl,hv1,b1⟩))
 go_ret2
 exact ⟨v1,rfl,hv1,b1⟩
theorem cLen11_kind (n k q:Nat) (hk:k<3) (hkn:knI n=k) (hq:bits .or .i64 ((k*2 ^ lbN k:Nat):Int) (n:Int)=(q:Int)) (w:World):Calls Try.prog 104 #[.int .i64 n] w fun e w'=>∃ v,e = .returned (.tuple #[v,.int .i64 0])∧BytesIn w' v (2 ^ k) (beN q (2 ^ k))∧Below w.heap.size w w':=by
 have c:=cKind_any n w
 rw [hkn] at c
 clear hkn
 have cb:=cBits_any k hk w.drew
 have bd:Below w.heap.size w w.drew:=(Below.refl _ _).drew
 rcases (show k=0∨k=1∨k=2 by omega) with rfl | rfl | rfl
 · have cs:=cSplit_any q 1 (by decide) w.drew
   replace hq:bits .or .i64 (0:Int) (n:Int)=(q:Int):=hq
   clear hk
   go_enter Try.func104,Try.ntmps104
   go_wp2_with (go_at_call 118;refine c.mono ?_;clear c;rintro e w1 ⟨rfl,hw⟩;obtain rfl:=hw.symm)
   go_upto_region 4 with (fail)
   refine wp_region_held_drew (S:=fun u=>Below w.drew.heap.size w.drew u) (by kernel_rfl) (Below.refl _ _) (fun hS => ?_)
   refine tg 0 hS ?_
   (try simp only [pS])
   refine tg 1 hS ?_
   (try simp only [pS])
   refine tg 4 hS ?_
   (try simp only [pS])
   refine tg 6 hS ?_
   (try simp only [pS])
   refine tg 7 hS (v := .int .i64 1) ?_ (hy:=fun u _=>by kernel_rfl)
   (try simp only [pS])
   refine cl 2 cb ?_
   rintro e w2 ⟨rfl,hw⟩
   obtain rfl:=hw.symm
   refine ⟨_,rfl,hS,?_⟩
   (try simp only [pS])
   refine tg 3 hS (v := .int .i64 0) ?_ (hy:=fun u _=>by kernel_rfl)
   (try simp only [pS])
   refine tg 5 hS (v := .int .i64 (q:Int)) ?_ (hy := ?_)
   rotate_left
   · exact fun u _=>Eq.trans (b := .ok (.value (.int .i64 (bits .or .i64 (0:Int) (n:Int)))) u) (by kernel_rfl) (by rw [hq])
   (try simp only [pS])
   refine cn 8 cs ?_
   rintro e w3 ⟨v3,rfl,hv3,b3⟩
   refine ⟨_,rfl,b3,?_⟩
   (try simp only [pS])
   refine tg 9 (Below.refl _ _) ?_
   (try simp only [pS])
   refine tg 10 (Below.refl _ _) ?_
   (try simp only [pS])
   refine wpAnyH_done (by kernel_rfl) ?_ _
   go_wp2
   go_ret2
   exact ⟨_,rfl,hv3,below_next bd b3⟩
 · have cs:=cSplit_any q 2 (by decide) w.drew
   replace hq:bits .or .i64 (16384:Int) (n:Int)=(q:Int):=hq
   clear hk
   go_enter Try.func104,Try.ntmps104
   go_wp2_with (go_at_call 118;refine c.mono ?_;clear c;rintro e w1 ⟨rfl,hw⟩;obtain rfl:=hw.symm)
   go_upto_region 4 with (fail)
   refine wp_region_held_drew (S:=fun u=>Below w.drew.heap.size w.drew u) (by kernel_rfl) (Below.refl _ _) (fun hS => ?_)
   refine tg 0 hS ?_
   (try simp only [pS])
   refine tg 1 hS ?_
   (try simp only [pS])
   refine tg 4 hS ?_
   (try simp only [pS])
   refine tg 6 hS ?_
   (try simp only [pS])
   refine tg 7 hS (v := .int .i64 2) ?_ (hy:=fun u _=>by kernel_rfl)
   (try simp only [pS])
   refine cl 2 cb ?_
   rintro e w2 ⟨rfl,hw⟩
   obtain rfl:=hw.symm
   refine ⟨_,rfl,hS,?_⟩
   (try simp only [pS])
   refine tg 3 hS (v := .int .i64 16384) ?_ (hy:=fun u _=>by kernel_rfl)
   (try simp only [pS])
   refine tg 5 hS (v := .int .i64 (q:Int)) ?_ (hy := ?_)
   rotate_left
   · exact fun u _=>Eq.trans (b := .ok (.value (.int .i64 (bits .or .i64 (16384:Int) (n:Int)))) u) (by kernel_rfl) (by rw [hq])
   (try simp only [pS])
   refine cn 8 cs ?_
   rintro e w3 ⟨v3,rfl,hv3,b3⟩
   refine ⟨_,rfl,b3,?_⟩
   (try simp only [pS])
   refine tg 9 (Below.refl _ _) ?_
   (try simp only [pS])
   refine tg 10 (Below.refl _ _) ?_
   (try simp only [pS])
   refine wpAnyH_done (by kernel_rfl) ?_ _
   go_wp2
   go_ret2
   exact ⟨_,rfl,hv3,below_next bd b3⟩
 · have cs:=cSplit_any q 4 (by decide) w.drew
   replace hq:bits .or .i64 (2147483648:Int) (n:Int)=(q:Int):=hq
   clear hk
   go_enter Try.func104,Try.ntmps104
   go_wp2_with (go_at_call 118;refine c.mono ?_;clear c;rintro e w1 ⟨rfl,hw⟩;obtain rfl:=hw.symm)
   go_upto_region 4 with (fail)
   refine wp_region_held_drew (S:=fun u=>Below w.drew.heap.size w.drew u) (by kernel_rfl) (Below.refl _ _) (fun hS => ?_)
   refine tg 0 hS ?_
   (try simp only [pS])
   refine tg 1 hS ?_
   (try simp only [pS])
   refine tg 4 hS ?_
   (try simp only [pS])
   refine tg 6 hS ?_
   (try simp only [pS])
   refine tg 7 hS (v := .int .i64 4) ?_ (hy:=fun u _=>by kernel_rfl)
   (try simp only [pS])
   refine cl 2 cb ?_
   rintro e w2 ⟨rfl,hw⟩
   obtain rfl:=hw.symm
   refine ⟨_,rfl,hS,?_⟩
   (try simp only [pS])
   refine tg 3 hS (v := .int .i64 2147483648) ?_ (hy:=fun u _=>by kernel_rfl)
   (try simp only [pS])
   refine tg 5 hS (v := .int .i64 (q:Int)) ?_ (hy := ?_)
   rotate_left
   · exact fun u _=>Eq.trans (b := .ok (.value (.int .i64 (bits .or .i64 (2147483648:Int) (n:Int)))) u) (by kernel_rfl) (by rw [hq])
   (try simp only [pS])
   refine cn 8 cs ?_
   rintro e w3 ⟨v3,rfl,hv3,b3⟩
   refine ⟨_,rfl,b3,?_⟩
   (try simp only [pS])
   refine tg 9 (Below.refl _ _) ?_
   (try simp only [pS])
   refine tg 10 (Below.refl _ _) ?_
   (try simp only [pS])
   refine wpAnyH_done (by kernel_rfl) ?_ _
   go_wp2
   go_ret2
   exact ⟨_,rfl,hv3,below_next bd b3⟩
theorem cLen11_good (n:Nat) (hn:n<1073741824) (w:World):Calls Try.prog 104 #[.int .i64 n] w fun e w'=>∃ v,e = .returned (.tuple #[v,.int .i64 0])∧BytesIn w' v (lnS n) (lnB n)∧Below w.heap.size w w':=by
 unfold lnB
 by_cases h2:n<64
 · have e1:lnW n=n:=by unfold lnW;rw [if_pos h2]
   have e2:lnS n=2 ^ 0:=by unfold lnS;rw [if_pos h2]
   rw [e1,e2]
   refine cLen11_kind n 0 n (by decide) (knI_at _ 0 (by decide) (show (n:Int) / 64=0 by omega) (fun q hq=>absurd hq (Nat.not_lt_zero _))) ?_ w
   have:=i64_or_nat 0 n (by decide) (by omega)
   rw [Nat.zero_or] at this
   exact this
 · have g0:¬(n:Int) / 64=0:=by omega
   by_cases h3:n<16384
   · have e1:lnW n=n+16384:=by unfold lnW;rw [if_neg h2,if_pos h3]
     have e2:lnS n=2 ^ 1:=by unfold lnS;rw [if_neg h2,if_pos h3]
     rw [e1,e2]
     refine cLen11_kind n 1 (n+16384) (by decide) (knI_at _ 1 (by decide) (show (n:Int) / 16384=0 by omega) (fun q hq=>by
      obtain rfl:q=0:=by omega
      exact g0)) ?_ w
     have h:=Nat.two_pow_add_eq_or_of_lt (i:=14) (b:=n) h3 1
     have:=i64_or_nat 16384 n (by decide) (by omega)
     rw [←(show 16384+n=16384 ||| n from h),Nat.add_comm] at this
     exact this
   · have g1:¬(n:Int) / 16384=0:=by omega
     have e1:lnW n=n+2147483648:=by unfold lnW;rw [if_neg h2,if_neg h3]
     have e2:lnS n=2 ^ 2:=by unfold lnS;rw [if_neg h2,if_neg h3]
     rw [e1,e2]
     refine cLen11_kind n 2 (n+2147483648) (by decide) (knI_at _ 2 (by decide) (show (n:Int) / 1073741824=0 by omega) (fun q hq=>by
      rcases (show q=0∨q=1 by omega) with rfl | rfl
      · exact g0
      · exact g1)) ?_ w
     have h:=Nat.two_pow_add_eq_or_of_lt (i:=31) (b:=n) (by omega) 1
     have:=i64_or_nat 2147483648 n (by decide) (by omega)
     rw [←(show 2147483648+n=2147483648 ||| n from h),Nat.add_comm] at this
     exact this
end Go.Proofs.Ytgdcmibdjiaofaa
