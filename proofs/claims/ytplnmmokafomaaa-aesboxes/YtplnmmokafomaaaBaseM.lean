/- What the proof stands on: Base, A8Math, A8Blk, A8Tab, A8Sq, A8Ops, A8Kys, A8Bad, A8RT, A8Thr, RWk, A8Blc, A8RI, A8RB, A8Bxs, Kit. -/
import Derived.Test.YtplnmmokafomaaaRows
import Derived.ArgAppend
import Derived.BigQuiet
import Derived.ChangeOld
import Derived.ChangeSlices
import Derived.Deep.AppendLies
import Derived.Deep.Cut
import Derived.Deep.DeepHandedRow
import Derived.Deep.MidRow
import Derived.Deep.QuietTactic
import Derived.Deep.RegionHeld3
import Derived.Deep.RegionLawGrows
import Derived.Deep.Upon
import Derived.Laws.Bits64
import Derived.Laws.Bits64b
import Derived.Laws.BitsAllLaws
import Derived.Lib.LaidTab
import Derived.OpenShut
import Derived.ProofKit
import Derived.SizedLaws
import Derived.WalkKit
import Derived.WalkLawsBesides
import Derived.WalkSpells
namespace Go.Proofs.Ytplnmmokafomaaa
open Go.RowKit
theorem Hid.mk' {P:Prop} (h:P):Hid P:=h
def upd (X:Nat→Nat) (i v:Nat):Nat→Nat:=fun j=>if j=i then v else X j
def RowAt (K:IntKind) (w:World) (b o n:Nat) (X:Nat→Nat):Prop:=∀ j,j<n→w.cell? ⟨b,o+j,none⟩=some (.int K (X j))∧w.frozen? ⟨b,o+j,none⟩=false
theorem RowAt.drew {K:IntKind} {w:World} {b o n:Nat} {X:Nat→Nat} (h:RowAt K w b o n X):RowAt K w.drew b o n X:=fun j hj=>h j hj
theorem RowAt.set {K:IntKind} {w:World} {b o n:Nat} {X:Nat→Nat} (h:RowAt K w b o n X) {i:Nat} (hi:i<n) {v:Int} {u:Nat} (hv:v=(u:Int)):RowAt K (w.setCell ⟨b,o+i,none⟩ (.int K v)) b o n (upd X i u):=fun j hj=>by
 refine ⟨?_,by rw [World.frozen?_setCell];exact (h j hj).2⟩
 by_cases e:j=i
 · subst e;rw [World.cell?_setCell_same _ _ _ (h j hj).1];simp [upd,hv]
 · have hne:(⟨b,o+i,none⟩:Addr)≠⟨b,o+j,none⟩:=fun h=>by injection h;omega
   rw [World.cell?_setCell_other _ _ _ _ hne];simp [upd,e,(h j hj).1]
theorem RowAt.far {K:IntKind} {w:World} {b o n:Nat} {X:Nat→Nat} (h:RowAt K w b o n X) {a:Addr} (ha:a.block≠b) (v:Value):RowAt K (w.setCell a v) b o n X:=fun j hj=>by
 refine ⟨?_,by rw [World.frozen?_setCell];exact (h j hj).2⟩
 rw [World.cell?_setCell_other _ _ _ _ (fun e=>ha (by rw [e]))];exact (h j hj).1
theorem RowAt.below {K:IntKind} {B:Nat} {w w':World} {b o n:Nat} {X:Nat→Nat} (h:RowAt K w b o n X) (hb:Below B w w') (hB:b<B):RowAt K w' b o n X:=fun j hj =>
 ⟨(hb.cell (p:=⟨b,o+j,none⟩) hB).trans (h j hj).1,(hb.frozen (p:=⟨b,o+j,none⟩) hB).trans (h j hj).2⟩
theorem RowAt.fresh {K:IntKind} {w:World} {cs:Array Value} {t:TypeId} {n:Nat} {X:Nat→Nat} (h:∀ j,j<n→cs[j]? = some (.int K (X j))):RowAt K (w.alloc (.cells cs t)) w.heap.size 0 n X:=fun j hj=>by
 constructor
 · simp [h j hj]
 · simp
theorem RowAt.alloc {K:IntKind} {w:World} {b o n:Nat} {X:Nat→Nat} (h:RowAt K w b o n X) (hb:b<w.heap.size) (ob:Obj):RowAt K (w.alloc ob) b o n X :=
 h.below ((Below.refl w.heap.size w).alloc (Nat.le_refl _) ob) hb
def ints (K:IntKind) (n:Nat) (X:Nat→Nat):List Value:=(List.range n).map fun j => .int K (X j)
theorem ints_len (K:IntKind) (n:Nat) (X:Nat→Nat):(ints K n X).length=n:=by simp [ints]
theorem ints_at (K:IntKind) (n:Nat) (X:Nat→Nat) (j:Nat) (h:j<n):(ints K n X)[j]? = some (.int K (X j)):=by simp [ints,h]
theorem ints_one (K:IntKind) (n:Nat) (X:Nat→Nat):∀ v∈ints K n X,v.oneCell'=true:=fun v hv=>by
 simp only [ints,List.mem_map] at hv
 obtain ⟨_,_,rfl⟩:=hv
 rfl
theorem RowAt.range {K:IntKind} {w:World} {b o n:Nat} {X:Nat→Nat} (h:RowAt K w b o n X):w.rangeAt b o (ints K n X):=fun j v hv=>by
 have hj:j<n:=by have:=(List.getElem?_eq_some_iff.1 hv).1;rwa [ints_len] at this
 rw [ints_at K n X j hj] at hv
 rw [←hv];exact (h j hj).1
theorem RowAt.there {K:IntKind} {w:World} {b o n:Nat} {X:Nat→Nat} (h:RowAt K w b o n X):w.there b o n:=fun j hj=>by
 rw [(h j hj).1];exact ⟨rfl,(h j hj).2⟩
theorem results_cell_mid {P:Program} {fn:Func} {p:Tmp} {ty:TypeId} (h:fn.results=#[.cell p ty]) (tmps:Array Value) (w:World) (g o:Nat) (cs:List Value) (d:TypeDesc)
 (hp:tmps.getD p undef = .pointer (some ⟨g,o,none⟩)) (hc:w.rangeAt g o cs)
 (hu:P.underlying ty=some d) (hd:d.isRow=true) (hi:(P.info? ty).map (·.size)=some cs.length) :
 (results fn tmps).run P w = .ok (.agg cs.toArray) w:=by
 have hp':tmps[p]?.getD undef = .pointer (some ⟨g,o,none⟩):=by simpa using hp
 simp [results,h,hp',asAddr,run_loadVar_mid w g o ty cs d hc hu hd hi]
theorem below_setCells {B:Nat} {a:World} {b:Nat} (hb:B≤b):∀ (vs:List Value) (o:Nat) (w:World),Below B a w→Below B a (w.setCells b o vs)
 | [],_,_,h=>h
 | v :: r,o,w,h=>by rw [World.setCells];exact below_setCells hb r (o+1) _ (h.setCell hb v)
theorem below_next {W a b:World} (h:Below W.heap.size W a) (hb:Below a.heap.size a b):Below W.heap.size W b:=h.trans (hb.mono h.size)
def Near (b o:Nat) (W w':World):Prop:=∃ w0,Below W.heap.size W w0∧(w'=w0∨∃ u,w'=w0.setCell ⟨b,o,none⟩ u)
theorem Near.set {b o:Nat} {W w':World} (h:Below W.heap.size W w') (u:Value):Near b o W (w'.setCell ⟨b,o,none⟩ u):=⟨w',h,.inr ⟨u,rfl⟩⟩
theorem Near.cell {b o:Nat} {W w':World} (h:Near b o W w') (p q:Nat) (hp:p<W.heap.size) (hne:p=b→q≠o):w'.cell? ⟨p,q,none⟩=W.cell? ⟨p,q,none⟩:=by
 obtain ⟨w0,hb,rfl | ⟨u,rfl⟩⟩:=h
 · exact hb.cell (p:=⟨p,q,none⟩) hp
 · rw [World.cell?_setCell_other _ _ _ _ (fun e=>by injection e with e1 e2;exact hne e1.symm e2.symm)];exact hb.cell (p:=⟨p,q,none⟩) hp
theorem Near.frozen {b o:Nat} {W w':World} (h:Near b o W w') (p q:Nat) (hp:p<W.heap.size):w'.frozen? ⟨p,q,none⟩=W.frozen? ⟨p,q,none⟩:=by
 obtain ⟨w0,hb,rfl | ⟨u,rfl⟩⟩:=h
 · exact hb.frozen (p:=⟨p,q,none⟩) hp
 · rw [World.frozen?_setCell];exact hb.frozen (p:=⟨p,q,none⟩) hp
structure Out (b o n:Nat) (w w':World):Prop where
 os:w'.os=w.os
 tape:w'.tape=w.tape
 output:w'.output=w.output
 size:w.heap.size≤w'.heap.size
 block:∀ k,k<w.heap.size→k≠b→w'.heap[k]? = w.heap[k]?
 cell:∀ q,(q<o∨o+n≤q)→w'.cell? ⟨b,q,none⟩=w.cell? ⟨b,q,none⟩
 frozen:∀ q,w'.frozen? ⟨b,q,none⟩=w.frozen? ⟨b,q,none⟩
theorem Out.refl (b o n:Nat) (w:World):Out b o n w w:=⟨rfl,rfl,rfl,Nat.le_refl _,fun _ _ _=>rfl,fun _ _=>rfl,fun _=>rfl⟩
theorem Out.trans {b o n:Nat} {u v w:World} (h:Out b o n u v) (k:Out b o n v w):Out b o n u w :=
 ⟨k.os.trans h.os,k.tape.trans h.tape,k.output.trans h.output,Nat.le_trans h.size k.size,fun i hi hb=>(k.block i (Nat.lt_of_lt_of_le hi h.size) hb).trans (h.block i hi hb),fun q hq=>(k.cell q hq).trans (h.cell q hq),fun q=>(k.frozen q).trans (h.frozen q)⟩
theorem heap_setCells_other (b:Nat):∀ (vs:List Value) (o:Nat) (w:World) (k:Nat),k≠b→(w.setCells b o vs).heap[k]? = w.heap[k]?
 | [],_,_,_,_=>rfl
 | v :: r,o,w,k,h=>by rw [World.setCells,heap_setCells_other b r (o+1) _ k h];exact Below.heap_setCell w ⟨b,o,none⟩ v k h
theorem setCells_same (b:Nat):∀ (vs:List Value) (o:Nat) (w:World),(w.setCells b o vs).os=w.os∧(w.setCells b o vs).tape=w.tape∧(w.setCells b o vs).output=w.output∧(w.setCells b o vs).heap.size=w.heap.size
 | [],_,_=>⟨rfl,rfl,rfl,rfl⟩
 | v :: r,o,w=>by
  have h:=setCells_same b r (o+1) (w.setCell ⟨b,o,none⟩ v)
  rw [World.setCells]
  exact ⟨h.1,h.2.1,h.2.2.1,by rw [h.2.2.2];simp⟩
theorem Out.setCells {b o n:Nat} (w:World) {p:Nat} (vs:List Value) (h1:o≤p) (h2:p+vs.length≤o+n):Out b o n w (w.setCells b p vs):=by
 have h:=setCells_same b vs p w
 refine ⟨h.1,h.2.1,h.2.2.1,by rw [h.2.2.2];exact Nat.le_refl _,fun k _ hk=>heap_setCells_other b vs p w k hk,fun q hq => ?_,fun q=>World.frozen?_setCells b vs p w _⟩
 exact World.cell?_setCells_out b vs p w _ (fun _ _=>by show q<p∨p+vs.length≤q;omega)
theorem Out.drew {b o n:Nat} (w:World):Out b o n w w.drew:=⟨rfl,rfl,rfl,Nat.le_refl _,fun _ _ _=>rfl,fun _ _=>rfl,fun _=>rfl⟩
theorem Out.setCell {b o n:Nat} (w:World) {p:Nat} (v:Value) (h1:o≤p) (h2:p<o+n):Out b o n w (w.setCell ⟨b,p,none⟩ v) :=
 Out.setCells w [v] h1 (by simp;omega)
theorem Out.below {b o n B:Nat} {w w':World} (h:Out b o n w w') (hb:B≤b) (hB:B≤w.heap.size):Below B w w' :=
 ⟨h.os,h.tape,h.output,h.size,fun k hk=>h.block k (by omega) (by omega)⟩
theorem Out.cell' {b o n:Nat} {w w':World} (h:Out b o n w w') {c q:Nat} (hc:c<w.heap.size) (hb:c≠b):w'.cell? ⟨c,q,none⟩=w.cell? ⟨c,q,none⟩:=World.cell?_of_block (w:=w) (h.block c hc hb)
theorem Out.frozen' {b o n:Nat} {w w':World} (h:Out b o n w w') {c q:Nat} (hc:c<w.heap.size) (hb:c≠b):w'.frozen? ⟨c,q,none⟩=w.frozen? ⟨c,q,none⟩:=World.frozen?_of_block (w:=w) (h.block c hc hb)
def Src (w:World) (v:Option Addr) (n:Nat) (bs:Nat→Nat):Prop:=n=0∨∃ bb ob,v=some ⟨bb,ob,none⟩∧∀ j,j<n→w.cell? ⟨bb,ob+j,none⟩=some (.int .u8 (bs j))
theorem RowAt.congr {K:IntKind} {w:World} {b o n:Nat} {X Y:Nat→Nat} (h:RowAt K w b o n X) (e:∀ j,j<n→X j=Y j):RowAt K w b o n Y:=fun j hj=>by rw [←e j hj];exact h j hj
def zb (n:Nat):Array Value:=Array.replicate n (.int .u8 0)
theorem zb_at (n j:Nat) (h:j<n):(zb n)[j]? = some (.int .u8 0):=by simp [zb,h]
theorem made_zb (n:Nat):madeCells (Value.int .u8 0).cells (n*1)=zb n:=by
 apply Array.ext_getElem?
 intro j
 by_cases h:j<n
 · rw [zb_at n j h];simp [madeCells,Value.cells,h,Nat.mod_one]
 · simp [madeCells,zb,Value.cells,h]
theorem make_bytes (W:World) (n:Nat) (l:Int) (hl:l=(n:Int)) (hn:n≤1000000):(Instr.makeSlice 25 (.int .i64 l) (.int .i64 l)).run Try.prog W = .ok (.slice (some ⟨W.heap.size,0,none⟩) n n) (W.alloc (.cells (zb n) 5)):=by
 subst hl
 obtain ⟨i0,hi,hz0,hz1,hz2⟩:=info_parts (show (Try.prog.info? 5).map (fun i=>(i.zero,i.size,i.bytes))=some (some (.int .u8 0),1,1) by kernel_rfl)
 have:=run_makeSlice (P:=Try.prog) W 25 5 i0 (.int .u8 0) Try.underlying25 hi hz0 .i64 .i64 n n (by omega) (Int.le_refl _) (by rw [hz1];simp;omega) (by rw [hz2];omega) (by omega)
 rw [this,hz1]
 simp only [Int.toNat_natCast,made_zb]
def BytesIn (w:World) (v:Value) (n:Nat) (bs:Nat→Nat):Prop:=(∃ xo,v = .slice xo 0 0∧n=0)∨∃ bb ob cap,v = .slice (some ⟨bb,ob,none⟩) n cap∧bb<w.heap.size∧n≤cap∧∀ j,j<n→w.cell? ⟨bb,ob+j,none⟩=some (.int .u8 (bs j))
theorem ints_congr (K:IntKind) (n:Nat) (X Y:Nat→Nat) (h:∀ j,j<n→X j=Y j):ints K n X=ints K n Y:=by
 unfold ints
 apply List.map_congr_left
 intro j hj
 rw [h j (List.mem_range.1 hj)]
theorem Try.info5:(Try.prog.info? 5).map (fun i=>(i.zero,i.size,i.bytes))=some (some (.int .u8 0),1,1):=by kernel_rfl
theorem below_grown {B:Nat} {a w w':World} {v:Value} {base:Nat} {e:TypeId} {size n:Nat} {xs:List Value} (h:Below B a w) (hg:w.grownBy w' v.ownBlock) (ho:w.ownsRow base e size v n xs) (hB:B≤base) (hs:B≤w.heap.size):Below B a w' :=
 h.grown hg hs (fun k hk=>Nat.le_trans hB (ho.lt k hk).1)
theorem own_below {w w':World} {base:Nat} {e:TypeId} {size:Nat} {v:Value} {n:Nat} {xs:List Value} (h:w.ownsRow base e size v n xs) (hb:Below w.heap.size w w'):w'.ownsRow base e size v n xs :=
 h.kept (row:=none) ⟨hb.os,hb.tape,hb.output,hb.size,fun k hk _=>hb.block k hk⟩ (by cases hv:v.ownBlock with | none=>exact .inl rfl | some b=>exact .inr (by simp))
def cat (n:Nat) (a b:Nat→Nat):Nat→Nat:=fun j=>if j<n then a j else b (j - n)
theorem cat_left {n:Nat} {a b:Nat→Nat} {j:Nat} (h:j<n):cat n a b j=a j:=by unfold cat;rw [if_pos h]
theorem ints_add (K:IntKind) (n m:Nat) (X Y:Nat→Nat):ints K n X ++ ints K m Y=ints K (n+m) (cat n X Y):=by
 apply List.ext_getElem?
 intro j
 by_cases h:j<n
 · rw [List.getElem?_append_left (by rw [ints_len];exact h),ints_at _ _ _ j h,ints_at _ _ _ j (by omega),cat_left h]
 · rw [List.getElem?_append_right (by rw [ints_len];omega),ints_len]
   by_cases h2:j<n+m
   · rw [ints_at _ _ _ (j - n) (by omega),ints_at _ _ _ j h2]
     unfold cat;rw [if_neg h]
   · rw [List.getElem?_eq_none (by rw [ints_len];omega),List.getElem?_eq_none (by rw [ints_len];omega)]
theorem run_append_any {P:Program} (w:World) (t ty base e:TypeId) (i:TypeInfo) (z:Value) (bytes:Nat) (ht:P.underlying t=some (.slice e)) (hi:P.info? e=some i) (hz:i.zero=some z) (hsize:i.size=1) (hby:i.bytes=bytes) (hzs:z.cells.size=1)
 (v:Value) (n:Nat) (xs:List Value) (hown:w.ownsRow base e 1 v n xs) (xo:Option Addr) (m c:Nat) (bs:Nat→Nat) (hsrc:Src w xo m bs) (hxn:xo=none→c=0)
 (h63:n+m≤maxLen) (hbytes:(n+m)*bytes≤140737488355328) (hbase:base≤w.heap.size) :
 ∃ v' w',(Builtin.append_ #[t,t] ty #[v,.slice xo m c]).run P w = .ok v' w'∧w'.ownsRow base e 1 v' (n+m) (xs ++ ints .u8 m bs)∧w.grownBy w' v.ownBlock:=by
 cases xo with
 | none =>
  have hm:m=0:=by
   rcases hsrc with h | ⟨_,_,h,_⟩
   · exact h
   · cases h
  subst hm
  have hc:=hxn rfl
  subst hc
  refine ⟨v,w,?_,by rw [show ints .u8 0 bs=[] from rfl,List.append_nil];exact hown,⟨rfl,rfl,rfl,Nat.le_refl _,fun _ _ _=>rfl⟩⟩
  rcases hown.2 with ⟨rfl,_⟩ | ⟨g,cap,cur,rfl,_,_,hnc,_⟩
  · exact run_append_nothing w t t ty e i ht hi none 0 0 (Nat.le_refl _) _ ⟨.inl ⟨_,ht⟩,fun _=>rfl,rfl,rfl,by simp,fun _ h=>by cases h⟩
  · exact run_append_nothing w t t ty e i ht hi _ n cap hnc _ ⟨.inl ⟨_,ht⟩,fun _=>rfl,rfl,rfl,by simp,fun _ h=>by cases h⟩
 | some ad =>
  have hnews:∀ j u,(ints .u8 m bs)[j]? = some u→w.cell? (ad.add j)=some u:=fun j u hu=>by
   have hj:j<m:=by have:=(List.getElem?_eq_some_iff.1 hu).1;rwa [ints_len] at this
   rw [ints_at _ _ _ j hj] at hu
   rcases hsrc with h | ⟨bb,ob,h,hc⟩
   · omega
   · cases h
     rw [Addr.add_mid,←hu]
     exact hc j hj
  obtain ⟨v',w',h1,h2,h3,_,_⟩:=run_append_own_at (P:=P) w base t ty e i z 1 bytes ht hi hz hsize hby hzs (by decide) v n xs hown ad m c (ints .u8 m bs) (by rw [ints_len,Nat.mul_one]) hnews (ints_one _ _ _) h63 hbytes hbase
  exact ⟨v',w',h1,h2,h3⟩
theorem wpList_append_any {P:Program} {w:World} {ops:Array Oper} {rest:List Oper} {o:Oper} {a:Act} {Q:Exit→Act→World→Prop} (hgd:o.guard=none) (s x:Operand) (t:TypeId)
 (ho:o.op = .call { callee := .builtin .append,args:=#[s,x],argTypes:=#[t,t] }) (base e:TypeId) (i:TypeInfo) (z:Value) (bytes:Nat) (ht:P.underlying t=some (.slice e)) (hi:P.info? e=some i) (hz:i.zero=some z) (hsize:i.size=1) (hby:i.bytes=bytes) (hzs:z.cells.size=1)
 (v:Value) (n:Nat) (xs:List Value) (hs:a.eval s=v) (hown:w.ownsRow base e 1 v n xs) (xo:Option Addr) (m c:Nat) (bs:Nat→Nat) (hx:a.eval x = .slice xo m c) (hsrc:Src w xo m bs) (hxn:xo=none→c=0)
 (h63:n+m≤maxLen) (hbytes:(n+m)*bytes≤140737488355328) (hbase:base≤w.heap.size)
 (h:∀ v' w',w'.ownsRow base e 1 v' (n+m) (xs ++ ints .u8 m bs)→w.grownBy w' v.ownBlock→wpList P ops Q rest (a.put o.dst v') w'):wpList P ops Q (o :: rest) a w:=by
 refine wpList_plain hgd fun K hK => ?_
 obtain ⟨v',w',h1,h2,h3⟩:=run_append_any (P:=P) w t o.type base e i z bytes ht hi hz hsize hby hzs v n xs hown xo m c bs hsrc hxn h63 hbytes hbase
 unfold Oper.wp execOp
 simp only [ho,resolve,invoke,builtin,Sem.run_bind,Sem.run_pure,Result.andThen_ok,List.map_toArray,List.map_cons,List.map_nil,hs,hx,h1]
 exact hK _ _ (h v' w' h2 h3)
def Own (base:Nat) (w:World) (v:Value) (n:Nat) (X:Nat→Nat):Prop:=w.ownsRow base 5 1 v n (ints .u8 n X)
theorem Own.below {base:Nat} {w w':World} {v:Value} {n:Nat} {X:Nat→Nat} (h:Own base w v n X) (hb:Below w.heap.size w w'):Own base w' v n X:=own_below h hb
theorem Own.alloc {base:Nat} {w:World} {v:Value} {n:Nat} {X:Nat→Nat} (h:Own base w v n X) (o:Obj):Own base (w.alloc o) v n X:=h.below ((Below.refl _ _).alloc (Nat.le_refl _) _)
theorem Own.congr {base:Nat} {w:World} {v:Value} {n:Nat} {X Y:Nat→Nat} (h:Own base w v n X) (e:∀ j,j<n→X j=Y j):Own base w v n Y:=by
 unfold Own;rw [←ints_congr _ _ _ _ e];exact h
theorem Own.form {base:Nat} {w:World} {v:Value} {n:Nat} {X:Nat→Nat} (h:Own base w v n X):(v = .slice none 0 0∧n=0)∨∃ g cap,v = .slice (some ⟨g,0,none⟩) n cap∧base≤g∧g<w.heap.size∧n≤cap∧RowAt .u8 w g 0 n X:=by
 rcases h.2 with hv | ⟨g,cap,cur,rfl,hb,hg,hn,_⟩
 · exact .inl hv
 · refine .inr ⟨g,cap,rfl,hb,(h.lt g rfl).2,hn,fun j hj => ?_⟩
   rw [Nat.zero_add]
   exact ⟨by rw [World.ownsRow.cellAt h j (by omega),ints_at _ _ _ j hj],World.ownsRow.frozenAt h j⟩
theorem Own.nil (base:Nat) (w:World) (X:Nat→Nat):Own base w (.slice none 0 0) 0 X:=World.ownsRow_nil w base _ _
theorem Own.lit (base:Nat) (w:World) (X:Nat→Nat) (h:base≤w.heap.size):Own base (w.alloc (.cells #[] 5)) (.slice (some ⟨w.heap.size,0,none⟩) 0 0) 0 X:=World.ownsRow_lit w #[] 0 h (by decide) rfl
theorem Own.grown {B base:Nat} {a w w':World} {v:Value} {n:Nat} {X:Nat→Nat} (h:Below B a w) (hg:w.grownBy w' v.ownBlock) (ho:Own base w v n X) (hB:B≤base) (hs:B≤w.heap.size):Below B a w':=below_grown h hg ho hB hs
theorem src_one (w:World) (x:Int) (y:Nat) (h:x=(y:Int)):Src (w.alloc (.cells #[.int .u8 x] 5)) (some ⟨w.heap.size,0,none⟩) 1 (fun _=>y):=by
 subst h
 refine .inr ⟨w.heap.size,0,rfl,fun j hj => ?_⟩
 have:j=0:=by omega
 subst this
 simp
theorem wpList_append_bytes {w:World} {ops:Array Oper} {rest:List Oper} {o:Oper} {a:Act} {Q:Exit→Act→World→Prop} (hgd:o.guard=none) (s x:Operand)
 (ho:o.op = .call { callee := .builtin .append,args:=#[s,x],argTypes:=#[25,25] }) (base:Nat)
 (v:Value) (n:Nat) (X:Nat→Nat) (hs:a.eval s=v) (hown:Own base w v n X) (xo:Option Addr) (m c:Nat) (bs:Nat→Nat) (hx:a.eval x = .slice xo m c) (hsrc:Src w xo m bs) (hxn:xo=none→c=0)
 (hl:n+m≤140737488355328) (hbase:base≤w.heap.size)
 (h:∀ v' w',Own base w' v' (n+m) (cat n X bs)→w.grownBy w' v.ownBlock→wpList Try.prog ops Q rest (a.put o.dst v') w'):wpList Try.prog ops Q (o :: rest) a w:=by
 obtain ⟨i0,hi,hz0,hz1,hz2⟩:=info_parts Try.info5
 exact wpList_append_any hgd s x 25 ho base 5 i0 (.int .u8 0) 1 Try.underlying25 hi hz0 hz1 hz2 rfl v n _ hs hown xo m c bs hx hsrc hxn (by unfold maxLen;omega) (by omega) hbase (fun v' w' h1 h2=>h v' w' (by unfold Own;rw [←ints_add];exact h1) h2)
theorem wpList_append_next {w:World} {ops:Array Oper} {rest:List Oper} {o:Oper} {a:Act} {Q:Exit→Act→World→Prop} (hgd:o.guard=none) (s x:Operand)
 (ho:o.op = .call { callee := .builtin .append,args:=#[s,x],argTypes:=#[25,25] }) (base:Nat)
 (v:Value) (n:Nat) (F:Nat→Nat) (y:Int) (hs:a.eval s=v) (hown:Own base w v n F) (hx:a.eval x = .slice (some ⟨w.heap.size,0,none⟩) 1 1) (hF:y=(F n:Int))
 (hl:n+1≤140737488355328) (hbase:base≤w.heap.size)
 (h:∀ v' w',Own base w' v' (n+1) F→Below base w w'→wpList Try.prog ops Q rest (a.put o.dst v') w'):wpList Try.prog ops Q (o :: rest) a (w.alloc (.cells #[.int .u8 y] 5)):=by
 have hb:Below base w (w.alloc (.cells #[.int .u8 y] 5)):=(Below.refl _ _).alloc hbase _
 have hz:base≤(w.alloc (.cells #[.int .u8 y] 5)).heap.size:=by simp only [World.size_alloc];omega
 refine wpList_append_bytes hgd s x ho base v n F hs (hown.alloc _) _ 1 1 (fun _=>F n) hx (src_one w y (F n) hF) (fun h=>by cases h) hl hz (fun v' w' h1 h2=>h v' w' (h1.congr fun j hj => ?_) (Own.grown hb h2 (hown.alloc _) (Nat.le_refl _) hz))
 by_cases e:j<n
 · rw [cat_left e]
 · obtain rfl:j=n:=by omega
   unfold cat;rw [if_neg e]
theorem BytesIn.src {w:World} {v:Value} {n:Nat} {bs:Nat→Nat} (h:BytesIn w v n bs):∃ xo c,v = .slice xo n c∧(xo=none→c=0)∧n≤c∧∀ w',Below w.heap.size w w'→Src w' xo n bs:=by
 rcases h with ⟨xo,rfl,rfl⟩ | ⟨bb,ob,cap,rfl,h1,h2,h3⟩
 · exact ⟨xo,0,rfl,fun _=>rfl,Nat.le_refl _,fun _ _ => .inl rfl⟩
 · exact ⟨_,cap,rfl,(fun h=>by cases h),h2,fun w' hb => .inr ⟨bb,ob,rfl,fun j hj=>(hb.cell (p:=⟨bb,ob+j,none⟩) h1).trans (h3 j hj)⟩⟩
theorem BytesIn.still {w w':World} {v:Value} {n:Nat} {bs:Nat→Nat} (h:BytesIn w v n bs) (hb:Below w.heap.size w w'):BytesIn w' v n bs:=by
 rcases h with h | ⟨bb,ob,cap,rfl,h1,h2,h3⟩
 · exact .inl h
 · exact .inr ⟨bb,ob,cap,rfl,Nat.lt_of_lt_of_le h1 hb.size,h2,fun j hj=>(hb.cell (p:=⟨bb,ob+j,none⟩) h1).trans (h3 j hj)⟩
end Go.Proofs.Ytplnmmokafomaaa
namespace Go.Proofs.Ytplnmmokafomaaa
def xt (x:Nat):Nat:=if 255<x*2 then (x*2) ^^^ 283 else x*2
def gmP (b:Nat):Nat→Nat→Nat × Nat
 | 0,a=>(0,a)
 | i+1,a=>(if b / 2 ^ i%2=1 then (gmP b i a).1 ^^^ (gmP b i a).2 else (gmP b i a).1,xt (gmP b i a).2)
def gm (a b:Nat):Nat:=(gmP b 8 a).1
def boxL:List Nat:=[99,124,119,123,242,107,111,197,48,1,103,43,254,215,171,118,202,130,201,125,250,89,71,240,173,212,162,175,156,164,114,192,183,253,147,38,54,63,247,204,52,165,229,241,113,216,49,21,4,199,35,195,24,150,5,154,7,18,128,226,235,39,178,117,9,131,44,26,27,110,90,160,82,59,214,179,41,227,47,132,83,209,0,237,32,252,177,91,106,203,190,57,74,76,88,207,208,239,170,251,67,77,51,133,69,249,2,127,80,60,159,168,81,163,64,143,146,157,56,245,188,182,218,33,16,255,243,210,205,12,19,236,95,151,68,23,196,167,126,61,100,93,25,115,96,129,79,220,34,42,144,136,70,238,184,20,222,94,11,219,224,50,58,10,73,6,36,92,194,211,172,98,145,149,228,121,231,200,55,109,141,213,78,169,108,86,244,234,101,122,174,8,186,120,37,46,28,166,180,198,232,221,116,31,75,189,139,138,112,62,181,102,72,3,246,14,97,53,87,185,134,193,29,158,225,248,152,17,105,217,142,148,155,30,135,233,206,85,40,223,140,161,137,13,191,230,66,104,65,153,45,15,176,84,187,22]
def unL:List Nat:=[82,9,106,213,48,54,165,56,191,64,163,158,129,243,215,251,124,227,57,130,155,47,255,135,52,142,67,68,196,222,233,203,84,123,148,50,166,194,35,61,238,76,149,11,66,250,195,78,8,46,161,102,40,217,36,178,118,91,162,73,109,139,209,37,114,248,246,100,134,104,152,22,212,164,92,204,93,101,182,146,108,112,72,80,253,237,185,218,94,21,70,87,167,141,157,132,144,216,171,0,140,188,211,10,247,228,88,5,184,179,69,6,208,44,30,143,202,63,15,2,193,175,189,3,1,19,138,107,58,145,17,65,79,103,220,234,151,242,207,206,240,180,230,115,150,172,116,34,231,173,53,133,226,249,55,232,28,117,223,110,71,241,26,113,29,41,197,137,111,183,98,14,170,24,190,27,252,86,62,75,198,210,121,32,154,219,192,254,120,205,90,244,31,221,168,51,136,7,199,49,177,18,16,89,39,128,236,95,96,81,127,169,25,181,74,13,45,229,122,159,147,201,156,239,160,224,59,77,174,42,245,176,200,235,187,60,131,83,153,97,23,43,4,126,186,119,214,38,225,105,20,99,85,33,12,125]
def boxN (x:Nat):Nat:=boxL.getD x 0
def unN (x:Nat):Nat:=unL.getD x 0
theorem all256 {p:Nat→Bool} (h:(List.range 256).all p=true) (x:Nat) (hx:x<256):p x=true:=List.all_eq_true.1 h x (List.mem_range.2 hx)
set_option maxRecDepth 100000 in
theorem box_ok:((List.range 256).all fun x=>unN (boxN x) == x && boxN (unN x) == x && decide (boxN x<256) && decide (unN x<256) && !(boxN x == x))=true:=by kernel_rfl
theorem box_all (x:Nat) (hx:x<256):unN (boxN x)=x∧boxN (unN x)=x∧boxN x<256∧unN x<256∧boxN x≠x:=by
 have h:=all256 box_ok x hx
 simp only [Bool.and_eq_true,beq_iff_eq,decide_eq_true_eq,Bool.not_eq_true',beq_eq_false_iff_ne] at h
 exact ⟨h.1.1.1.1,h.1.1.1.2,h.1.1.2,h.1.2,h.2⟩
end Go.Proofs.Ytplnmmokafomaaa
namespace Go.Proofs.Ytplnmmokafomaaa
def S16 (a b:Nat→Nat):Prop:=∀ j,j<16→a j=b j
theorem S16.symm {a b:Nat→Nat} (h:S16 a b):S16 b a:=fun j hj=>(h j hj).symm
theorem S16.trans {a b c:Nat→Nat} (h:S16 a b) (k:S16 b c):S16 a c:=fun j hj=>(h j hj).trans (k j hj)
theorem xor_byte {a b:Nat} (ha:a<256) (hb:b<256):a ^^^ b<256:=Nat.xor_lt_two_pow (n:=8) ha hb
end Go.Proofs.Ytplnmmokafomaaa
namespace Go.Proofs.Ytplnmmokafomaaa
def pwL:List Nat:=[1,3,5,15,17,51,85,255,26,46,114,150,161,248,19,53,95,225,56,72,216,115,149,164,247,2,6,10,30,34,102,170,229,52,92,228,55,89,235,38,106,190,217,112,144,171,230,49,83,245,4,12,20,60,68,204,79,209,104,184,211,110,178,205,76,212,103,169,224,59,77,215,98,166,241,8,24,40,120,136,131,158,185,208,107,189,220,127,129,152,179,206,73,219,118,154,181,196,87,249,16,48,80,240,11,29,39,105,187,214,97,163,254,25,43,125,135,146,173,236,47,113,147,174,233,32,96,160,251,22,58,78,210,109,183,194,93,231,50,86,250,21,63,65,195,94,226,61,71,201,64,192,91,237,44,116,156,191,218,117,159,186,213,100,172,239,42,126,130,157,188,223,122,142,137,128,155,182,193,88,232,35,101,175,234,37,111,177,200,67,197,84,252,31,33,99,165,244,7,9,27,45,119,153,176,203,70,202,69,207,74,222,121,139,134,145,168,227,62,66,198,81,243,14,18,54,90,238,41,123,141,140,143,138,133,148,167,242,13,23,57,75,221,124,132,151,162,253,28,36,108,180,199,82,246]
def invL:List Nat:=[0,1,141,246,203,82,123,209,232,79,41,192,176,225,229,199,116,180,170,75,153,43,96,95,88,63,253,204,255,64,238,178,58,110,90,241,85,77,168,201,193,10,152,21,48,68,162,194,44,69,146,108,243,57,102,66,242,53,32,111,119,187,89,25,29,254,55,103,45,49,245,105,167,100,171,19,84,37,233,9,237,92,5,202,76,36,135,191,24,62,34,240,81,236,97,23,22,94,175,211,73,166,54,67,244,71,145,223,51,147,33,59,121,183,151,133,16,181,186,60,182,112,208,6,161,250,129,130,131,126,127,128,150,115,190,86,155,158,149,217,247,2,185,164,222,106,50,109,216,138,132,114,42,20,159,136,249,220,137,154,251,124,46,195,143,184,101,72,38,200,18,74,206,231,210,98,12,224,31,239,17,117,120,113,165,142,118,61,189,188,134,87,11,40,47,163,218,212,228,15,169,39,83,4,27,252,172,230,122,7,174,99,197,219,226,234,148,139,196,213,157,248,144,107,177,13,214,235,198,14,207,173,8,78,215,227,93,80,30,179,91,35,56,52,104,70,3,140,221,156,125,160,205,26,65,28]
def pwN (i:Nat):Nat:=pwL.getD i 0
def invN (x:Nat):Nat:=invL.getD x 0
theorem all_below {p:Nat→Bool} {n:Nat} (h:(List.range n).all p=true) (x:Nat) (hx:x<n):p x=true:=List.all_eq_true.1 h x (List.mem_range.2 hx)
theorem pw_ok:((List.range 255).all fun i=>decide (pwN i<256) && (gm (pwN i) 3 == pwN ((i+1)%255)))=true:=by kernel_rfl
theorem pw_all (i:Nat) (hi:i<255):pwN i<256∧gm (pwN i) 3=pwN ((i+1)%255):=by
 have h:=all_below pw_ok i hi
 simp only [Bool.and_eq_true,beq_iff_eq,decide_eq_true_eq] at h
 exact h
def invF:Nat→Nat→Nat
 | 0=>fun _=>0
 | i+1=>upd (invF i) (pwN i) (pwN ((255 - i)%255))
set_option maxRecDepth 100000 in
theorem inv_ok:((List.range 256).all fun x=>invF 255 x == invN x && decide (invN x<256))=true:=by kernel_rfl
theorem inv_all (x:Nat) (hx:x<256):invF 255 x=invN x∧invN x<256:=by
 have h:=all_below inv_ok x hx
 simp only [Bool.and_eq_true,beq_iff_eq,decide_eq_true_eq] at h
 exact h
def boxF (y:Nat):Nat→Nat
 | 0=>y ^^^ 99
 | n+1=>boxF y n ^^^ (y*2 ^ (n+1)%256 ||| y / 2 ^ (8 - (n+1)))
theorem boxF_ok:((List.range 256).all fun x=>boxF (invN x) 4 == boxN x)=true:=by kernel_rfl
theorem boxF_all (x:Nat) (hx:x<256):boxF (invN x) 4=boxN x:=by
 have h:=all_below boxF_ok x hx
 simp only [beq_iff_eq] at h
 exact h
end Go.Proofs.Ytplnmmokafomaaa
namespace Go.Proofs.Ytplnmmokafomaaa
open Go.RowKit
theorem zeroB (w:World):Sem.run Try.prog (zeroValue 38) w = .ok (.agg (zb 256)) w:=by kernel_rfl
theorem ints_size (K:IntKind) (n:Nat) (X:Nat→Nat):(ints K n X).toArray.size=n:=by rw [List.size_toArray,ints_len]
theorem infoB (X:Nat→Nat):(Try.prog.info? 38).map (·.size)=some (ints .u8 256 X).length:=by rw [ints_len];kernel_rfl
theorem infoBA (X:Nat→Nat):(Try.prog.info? 38).map (·.size)=some (ints .u8 256 X).toArray.size:=by rw [ints_size];kernel_rfl
theorem oneU (n:Nat) (X:Nat→Nat):(ints .u8 n X).toArray.all (·.oneCell')=true:=all_oneCell_toArray (ints_one .u8 n X)
theorem RowAt.zero (w:World) (n:Nat) (t:TypeId):RowAt .u8 (w.alloc (.cells (zb n) t)) w.heap.size 0 n (fun _=>0):=RowAt.fresh (fun j hj=>zb_at n j hj)
theorem wpList_val {P:Program} {w:World} {ops:Array Oper} {rest:List Oper} {o:Oper} {a:Act} {Q:Exit→Act→World→Prop} (d:Option Nat) (v:Value) (hgd:o.guard=none) (hd:o.dst=d) (hrun:(execOp a.eval o).run P w = .ok (.value v) w)
 (h:wpList P ops Q rest (a.put d v) w):wpList P ops Q (o :: rest) a w:=by
 subst hd
 refine wpList_plain hgd fun K hK => ?_
 unfold Oper.wp
 rw [hrun,Oper.upon_value]
 exact hK _ _ h
theorem index_u8 {t n:Nat} (hu:Try.prog.underlying t=some (.array n 5)) (X:Nat→Nat) (k:Nat) (hk:k<n) (kk:IntKind) (W:World):(Instr.index t (.agg (ints .u8 n X).toArray) (.int kk k)).run Try.prog W = .ok (.int .u8 (X k)) W:=by
 have hs:∀ W,(sizeOf 5).run Try.prog W = .ok 1 W:=fun W=>by kernel_rfl
 have hx:(ints .u8 n X)[k]? = some (.int .u8 (X k)):=ints_at .u8 n X k hk
 simp [Instr.index,run_underlying hu,asIntOf,hk,hs,part,isAgg,run_underlying Try.underlying5,hx,Result.andThen]
set_option maxRecDepth 20000 in
set_option maxHeartbeats 2000000 in
theorem boxes_any (w:World) :
 Calls Try.prog 21 #[] w fun e w'=>e = .returned (.agg (ints .u8 256 boxN).toArray)∧Below w.heap.size w w':=by
 have hz:=zeroB
 have hb:Below w.heap.size w (w.alloc (.cells (zb 256) 38)):=(Below.refl _ _).alloc (Nat.le_refl _) _
 have hT:(w.alloc (.cells (zb 256) 38)).there w.heap.size 0 256:=(RowAt.zero w 256 _).there
 have hi1:=infoB boxN
 have hi2:=infoBA boxN
 have ho:=oneU 256 boxN
 have hth:(w.alloc (.cells (zb 256) 38)).there w.heap.size 0 (ints .u8 256 boxN).toArray.size:=by rw [ints_size];exact hT
 have hth2:(w.alloc (.cells (zb 256) 38)).there w.heap.size 0 (ints .u8 256 boxN).length:=by rw [ints_len];exact hT
 obtain ⟨L,hL⟩:∃ L,L=ints .u8 256 boxN:=⟨_,rfl⟩
 rw [←hL] at hi1 hi2 ho hth hth2 ⊢
 have HL:=Hid.mk' hL
 clear hL hT
 go_enter Try.func21,Try.ntmps21
 go_upto_region 1 with (fail)
 refine wp_region_list ?_
 refine wpList_val (some 1) (.agg L.toArray) rfl rfl (by rw [HL.out];kernel_rfl) ?_
 refine wpList_store_mid rfl 38 _ _ rfl w.heap.size 0 L.toArray rfl rfl hth hi2 ho ?_
 refine wpList_nil ?_
 simp only [Act.put,List.setIfInBounds_toArray,List.set_cons_zero,List.set_cons_succ]
 go_wp2
 (try simp only [Exit.inBlock,Exit.then])
 refine bodyPost_ret (results_cell_mid Try.results21 _ _ w.heap.size 0 L _ rfl (World.rangeAt_setCells_same _ _ _ _ hth2) Try.underlying38 rfl hi1) rfl ⟨rfl,?_⟩
 exact below_setCells (Nat.le_refl _) _ _ _ hb
end Go.Proofs.Ytplnmmokafomaaa
namespace Go.Proofs.Ytplnmmokafomaaa
open Go.RowKit
set_option maxHeartbeats 1000000 in
theorem box_any (x:Nat) (hx:x<256) (w:World) :
 Calls Try.prog 8 #[.int .u8 x] w fun e w'=>e = .returned (.int .u8 (boxN x))∧Below w.heap.size w w':=by
 have cb:=boxes_any w
 have hix:=index_u8 Try.underlying38 boxN x hx .u8
 generalize boxN=F at *
 go_enter Try.func8,Try.ntmps8
 go_wp2_with (first
  | (go_at_call 21;refine cb.mono ?_;clear cb;rintro e w1 ⟨rfl,hb1⟩)
  | rw [hix])
 go_ret
 exact ⟨rfl,hb1⟩
end Go.Proofs.Ytplnmmokafomaaa
namespace Go.Proofs.Ytplnmmokafomaaa
open Go.RowKit
set_option maxHeartbeats 1000000 in
theorem keys_bad (v:Value) (n:Nat) (bs:Nat→Nat) (w:World) (hv:BytesIn w v n bs) (hn:n≠16) :
 Calls Try.prog 12 #[v] w fun e w'=>e = .returned (.tuple #[.slice none 0 0,.int .i64 1])∧w'=w:=by
 obtain ⟨xo,cx,rfl,-,-,-⟩:=hv.src
 clear hv
 have hn':¬(n:Int)=16:=by omega
 go_enter Try.func12,Try.ntmps12
 go_wp2
 go_ret2
 exact ⟨rfl,rfl⟩
end Go.Proofs.Ytplnmmokafomaaa
namespace Go.Proofs.Ytplnmmokafomaaa
open Go.RowKit
theorem num8_any (n:Int) (w:World):Calls Try.prog 14 #[.int .i64 n] w fun e w'=>e = .returned (.int .i64 n)∧w'=w:=by
 go_enter Try.func14,Try.ntmps14
 go_wp2
 go_ret
 exact ⟨rfl,rfl⟩
theorem rowB {w:World} {g n cap:Nat} {X:Nat→Nat} (h:RowAt .u8 w g 0 n X) (hn:0<n) (hc:n≤cap):BytesIn w (.slice (some ⟨g,0,none⟩) n cap) n X := .inr ⟨g,0,cap,rfl,block_lt_of_cell (h 0 hn).1,hc,fun j hj=>(h j hj).1⟩
set_option maxHeartbeats 1000000 in
theorem knows8 (w:World):Calls Try.prog 10 #[] w fun e w'=>e = .returned (.bool true)∧Below w.heap.size w w':=by
 have ck:=keys_bad (.slice none 0 0) 0 (fun _=>0) w (.inl ⟨none,rfl,rfl⟩) (by decide)
 have c0:=box_any 0 (by decide)
 have c1:=box_any 83 (by decide)
 rw [show boxN 0=99 by kernel_rfl] at c0
 rw [show boxN 83=237 by kernel_rfl] at c1
 go_enter Try.func10,Try.ntmps10
 go_wp2_with (first
  | (go_at_call 12;refine ck.mono ?_;clear ck;rintro e w1 ⟨rfl,hw1⟩;subst hw1)
  | (go_at_call 8;refine (c0 _).mono ?_;clear c0;rintro e w2 ⟨rfl,hb2⟩)
  | (go_at_call 8;refine (c1 _).mono ?_;clear c1;rintro e w3 ⟨rfl,hb3⟩)
  | (go_at_call 14;refine (num8_any _ _).mono ?_;rintro e wn ⟨rfl,hwn⟩;subst hwn))
 go_ret
 exact ⟨rfl,below_next hb2 hb3⟩
end Go.Proofs.Ytplnmmokafomaaa
namespace Go.Proofs.Ytplnmmokafomaaa
open Go.RowKit
theorem i64_xor_nat (a b:Nat) (ha:a<2 ^ 62) (hb:b<2 ^ 62):bits .xor .i64 (a:Int) (b:Int)=((a ^^^ b:Nat):Int):=by
 have hp:2 ^ 62≤2 ^ IntKind.i64.bits:=by decide
 have ha':a%2 ^ IntKind.i64.bits=a:=Nat.mod_eq_of_lt (Nat.lt_of_lt_of_le ha hp)
 have hb':b%2 ^ IntKind.i64.bits=b:=Nat.mod_eq_of_lt (Nat.lt_of_lt_of_le hb hp)
 have hx:a ^^^ b<2 ^ 62:=Nat.xor_lt_two_pow ha hb
 simp only [bits,BitVec.ofInt_natCast,BitVec.toNat_xor,BitVec.toNat_ofNat,ha',hb']
 simp only [IntKind.wrap_i64]
 omega
theorem xt_ok:((List.range 256).all fun x=>decide (xt x<256))=true:=by kernel_rfl
theorem xt_lt (x:Nat) (hx:x<256):xt x<256:=by
 have h:=all256 xt_ok x hx
 simpa using h
theorem gmP_lt (a b:Nat) (ha:a<256):∀ k,(gmP b k a).1<256∧(gmP b k a).2<256
 | 0=>⟨(by decide:0<256),ha⟩
 | k+1=>by
  obtain ⟨h1,h2⟩:=gmP_lt a b ha k
  refine ⟨?_,xt_lt _ h2⟩
  show (if b / 2 ^ k%2=1 then (gmP b k a).1 ^^^ (gmP b k a).2 else (gmP b k a).1)<256
  split
  · exact xor_byte h1 h2
  · exact h1
set_option maxRecDepth 20000 in
set_option maxHeartbeats 4000000 in
theorem rtimes_any (a b:Nat) (ha:a<256) (hb:b<256) (w:World) :
 Calls Try.prog 41 #[.int .u8 a,.int .u8 b] w fun e w'=>e = .returned (.int .u8 (gm a b))∧w'=w:=by
 have hl:=gmP_lt a b ha
 have hg:gm a b=(gmP b 8 a).1:=rfl
 have hs:∀ k,(gmP b (k+1) a)=(if b / 2 ^ k%2=1 then (gmP b k a).1 ^^^ (gmP b k a).2 else (gmP b k a).1,xt (gmP b k a).2):=fun _=>rfl
 have h0:gmP b 0 a=(0,a):=rfl
 rw [hg]
 generalize (fun k=>gmP b k a)=Y at *
 obtain ⟨Y,hY⟩:∃ Y:Nat→Nat × Nat,Y=fun k=>gmP b k a:=⟨_,rfl⟩
 have e:∀ k,gmP b k a=Y k:=fun k=>by rw [hY]
 simp only [e] at hl hs h0 ⊢
 have HS:=Hid.mk' hs
 clear hY e hg hs
 go_enter Try.func41,Try.ntmps41
 go_wp2
 go_loopw [5,6,7] (fun p x i wr=>∃ k:Nat,k≤8∧p = .int .i64 ((Y k).1:Int)∧x = .int .i64 ((Y k).2:Int)∧i = .int .i64 k∧wr=w) (fun _ _ i _=>8 - (intOf i).toNat)
 case atStart=>exact ⟨0,Nat.zero_le _,by rw [h0];rfl,by rw [h0],rfl,rfl⟩
 case round =>
  clear h0
  obtain ⟨k,hk,rfl,rfl,rfl,hwr⟩:=hrel
  subst hwr
  by_cases hlt:k<8
  · obtain ⟨hP,hX⟩:=hl k
    have hn:=HS.out k
    generalize hYP:(Y k).1=P at *
    generalize hYX:(Y k).2=X at *
    have q1:=u8_and_nat (b / 2 ^ k) 1 (Nat.lt_of_le_of_lt (Nat.div_le_self _ _) hb) (by decide)
    rw [Nat.and_one_is_mod] at q1
    replace q1:bits .and .u8 ((b:Int) / 2 ^ k) 1=((b / 2 ^ k%2:Nat):Int):=by
     rw [←q1];simp
    have q2:=i64_xor_nat P X (by omega) (by omega)
    have q3:=i64_xor_nat (X*2) 283 (by omega) (by decide)
    replace q3:bits .xor .i64 ((X:Int)*2) 283=((X*2 ^^^ 283:Nat):Int):=q3
    have m1:k+1≤8:=by omega
    clear HS hl
    by_cases hbit:b / 2 ^ k%2=1
    · rw [hbit] at q1
      rw [if_pos hbit] at hn
      by_cases hx:255<X*2
      · have hx':(255:Int)<(X:Int)*2:=by omega
        have hxt:xt X=X*2 ^^^ 283:=if_pos hx
        rw [hxt] at hn
        generalize X*2 ^^^ 283=X2 at *
        generalize P ^^^ X=P2 at *
        clear hbit hx hxt
        go_wp2
        go_roundw
        case rel=>exact ⟨k+1,m1,by rw [hn],by rw [hn],by go_num,trivial⟩
        case measure=>simp [intOf];omega
      · have hx':¬(255:Int)<(X:Int)*2:=by omega
        have hxt:xt X=X*2:=if_neg hx
        rw [hxt] at hn
        generalize P ^^^ X=P2 at *
        clear hbit hx hxt
        go_wp2
        go_roundw
        case rel=>exact ⟨k+1,m1,by rw [hn],by rw [hn];rfl,by go_num,trivial⟩
        case measure=>simp [intOf];omega
    · have e0:b / 2 ^ k%2=0:=by omega
      rw [e0] at q1
      rw [if_neg hbit] at hn
      by_cases hx:255<X*2
      · have hx':(255:Int)<(X:Int)*2:=by omega
        have hxt:xt X=X*2 ^^^ 283:=if_pos hx
        rw [hxt] at hn
        generalize X*2 ^^^ 283=X2 at *
        clear hbit hx hxt
        go_wp2
        go_roundw
        case rel=>exact ⟨k+1,m1,by rw [hn],by rw [hn],by go_num,trivial⟩
        case measure=>simp [intOf];omega
      · have hx':¬(255:Int)<(X:Int)*2:=by omega
        have hxt:xt X=X*2:=if_neg hx
        rw [hxt] at hn
        clear hbit hx hxt
        go_wp2
        go_roundw
        case rel=>exact ⟨k+1,m1,by rw [hn],by rw [hn];rfl,by go_num,trivial⟩
        case measure=>simp [intOf];omega
  · obtain rfl:k=8:=by omega
    obtain ⟨hP,-⟩:=hl 8
    generalize hPe:(Y 8).1=P at *
    have HPe:=Hid.mk' hPe
    have hP':(P:Int)%256=P:=by omega
    clear HS hl hPe
    go_wp2
    go_ret
    exact ⟨by rw [HPe.out];rfl,rfl⟩
end Go.Proofs.Ytplnmmokafomaaa
namespace Go.Proofs.Ytplnmmokafomaaa
open Go.RowKit
def StepsAt (w:World) (g n:Nat) (fs:Nat→FuncId):Prop:=g<w.heap.size∧∀ j,j<n→w.cell? ⟨g,j,none⟩=some (.func (.func (fs j)) #[] #[])
theorem StepsAt.below {w w':World} {g n B:Nat} {fs:Nat→FuncId} (h:StepsAt w g n fs) (hb:Below B w w') (hB:g<B):StepsAt w' g n fs:=⟨Nat.lt_of_lt_of_le h.1 hb.size,fun j hj=>(hb.cell (p:=⟨g,j,none⟩) hB).trans (h.2 j hj)⟩
end Go.Proofs.Ytplnmmokafomaaa
namespace Go.Proofs.Ytplnmmokafomaaa
open Go.RowKit
structure RW (w:World) (g o:Nat) (cs:List Value):Prop where
 range:w.rangeAt g o cs
 there:w.there g o cs.length
 lt:g<w.heap.size
theorem RW.still {w w':World} {g o:Nat} {cs:List Value} (h:RW w g o cs) (hb:Below w.heap.size w w'):RW w' g o cs :=
 ⟨fun j v hv=>(hb.cell (p:=⟨g,o+j,none⟩) h.lt).trans (h.range j v hv),fun j hj=>by
   rw [hb.cell (p:=⟨g,o+j,none⟩) h.lt,hb.frozen (p:=⟨g,o+j,none⟩) h.lt];exact h.there j hj,Nat.lt_of_lt_of_le h.lt hb.size⟩
theorem RW.below {w w':World} {g o B:Nat} {cs:List Value} (h:RW w g o cs) (hb:Below B w w') (hB:g<B):RW w' g o cs :=
 ⟨fun j v hv=>(hb.cell (p:=⟨g,o+j,none⟩) hB).trans (h.range j v hv),fun j hj=>by
   rw [hb.cell (p:=⟨g,o+j,none⟩) hB,hb.frozen (p:=⟨g,o+j,none⟩) hB];exact h.there j hj,Nat.lt_of_lt_of_le h.lt hb.size⟩
theorem RW.out {w w':World} {g o b p n:Nat} {cs:List Value} (h:RW w g o cs) (hb:Out b p n w w') (hne:g≠b):RW w' g o cs :=
 ⟨fun j v hv=>(hb.cell' h.lt hne).trans (h.range j v hv),fun j hj=>by
   rw [hb.cell' h.lt hne,hb.frozen' h.lt hne];exact h.there j hj,Nat.lt_of_lt_of_le h.lt hb.size⟩
theorem RW.far {w:World} {g o:Nat} {cs:List Value} (h:RW w g o cs) (b p:Nat) (ds:List Value) (hap:g≠b∨o+cs.length≤p∨p+ds.length≤o):RW (w.setCells b p ds) g o cs :=
 ⟨World.rangeAt_setCells_apart h.range _ _ _ hap,World.there_setCells h.there _ _ _,by rw [(setCells_same b ds p w).2.2.2];exact h.lt⟩
theorem RW.fresh (w:World) (cs:List Value) (t:TypeId):RW (w.alloc (.cells cs.toArray t)) w.heap.size 0 cs :=
 ⟨fun j v hv=>by rw [Nat.zero_add];simp [hv],fun j hj=>by
   rw [Nat.zero_add];simp [hj],by simp⟩
theorem RW.drew {w:World} {g o:Nat} {cs:List Value} (h:RW w g o cs):RW w.drew g o cs:=h.still ((Below.refl _ _).drew)
end Go.Proofs.Ytplnmmokafomaaa
namespace Go.Proofs.Ytplnmmokafomaaa
open Go.RowKit
theorem RowAt.still {K:IntKind} {w w':World} {g o n:Nat} {X:Nat→Nat} (h:RowAt K w g o n X) (hb:Below w.heap.size w w'):RowAt K w' g o n X:=fun j hj=>⟨(hb.cell (p:=⟨g,o+j,none⟩) (block_lt_of_cell (h j hj).1)).trans (h j hj).1,(hb.frozen (p:=⟨g,o+j,none⟩) (block_lt_of_cell (h j hj).1)).trans (h j hj).2⟩
end Go.Proofs.Ytplnmmokafomaaa
namespace Go.Proofs.Ytplnmmokafomaaa
open Go.RowKit
def RowS (w:World) (v:Value) (n:Nat) (X:Nat→Nat):Prop:=∃ g cap,v = .slice (some ⟨g,0,none⟩) n cap∧n≤cap∧RowAt .u8 w g 0 n X
theorem RowS.still {w w':World} {v:Value} {n:Nat} {X:Nat→Nat} (h:RowS w v n X) (hb:Below w.heap.size w w'):RowS w' v n X:=by
 obtain ⟨g,cap,rfl,hc,hr⟩:=h
 exact ⟨g,cap,rfl,hc,hr.still hb⟩
theorem RowS.bytes {w:World} {v:Value} {n:Nat} {X:Nat→Nat} (h:RowS w v n X) (hn:0<n):BytesIn w v n X:=by
 obtain ⟨g,cap,rfl,hc,hr⟩:=h
 exact rowB hr hn hc
set_option maxRecDepth 20000 in
set_option maxHeartbeats 4000000 in
theorem inverses_any (w:World) :
 Calls Try.prog 38 #[] w fun e w'=>∃ v,e = .returned v∧RowS w' v 256 invN∧Below w.heap.size w w':=by
 have hpw:=pw_all
 have hp0:pwN 0=1:=by kernel_rfl
 have hinv:=inv_all
 have hun:∀ i,invF (i+1)=upd (invF i) (pwN i) (pwN ((255 - i)%255)):=fun _=>rfl
 have hz0:invF 0=fun _=>0:=rfl
 have ct:=fun i (hi:i<255) W=>rtimes_any (pwN i) 3 (pw_all i hi).1 (by decide) W
 generalize pwN=P at *
 generalize invF=V at *
 go_enter Try.func38,Try.ntmps38
 go_wp2
 go_loopw [1,2,3] (fun o x i wr=>∃ k:Nat,k≤255∧x = .int .u8 (P (k%255))∧i = .int .i64 k∧Own w.heap.size wr o k P∧Below w.heap.size w wr) (fun _ _ i _=>255 - (intOf i).toNat)
 case atStart=>exact ⟨0,Nat.zero_le _,by rw [show 0%255=0 from rfl,hp0];rfl,rfl,Own.nil _ _ _,Below.refl _ _⟩
 case round =>
  obtain ⟨k,hk,rfl,rfl,own,b⟩:=hrel
  by_cases hlt:k<255
  · have c1:=ct k hlt
    obtain ⟨hp,hn⟩:=hpw k hlt
    rw [hn] at c1
    rw [show k%255=k by omega] at *
    have hs:=b.size
    have HP:∀ y:Int,y=(P k:Int)→y=(P k:Int):=fun _ h=>h
    clear hpw hinv hun hz0 ct hn hp0
    go_wp2_with (first
     | (at_builtin;refine wpList_append_next rfl (.tmp 10) (.tmp 12) rfl w.heap.size _ k P _ rfl own rfl rfl (by omega) hs ?_;intro v2 w2 own2 hb2;(have b2:=b.trans hb2);clear own)
     | (go_at_call 41;refine (c1 _).mono ?_;clear c1;rintro e w3 ⟨rfl,hw3⟩;subst hw3))
    go_roundw
    case rel=>exact ⟨k+1,by omega,rfl,by go_num,own2,b2⟩
    case measure=>simp [intOf];omega
  · obtain rfl:k=255:=by omega
    obtain ⟨g,cap,hv,hg,hgl,hcap,hrow⟩:=own.form.resolve_left (fun h=>by omega)
    subst hv
    have hmk:=make_bytes wr 256 256 rfl (by decide)
    have hb1:Below wr.heap.size wr (wr.alloc (.cells (zb 256) 5)):=(Below.refl _ _).alloc (Nat.le_refl _) _
    have hT0:=RowAt.zero wr 256 5
    rw [←hz0] at hT0
    replace hrow:=hrow.still hb1
    replace b:=below_next b hb1
    have hwg:w.heap.size≤wr.heap.size:=Nat.le_trans hg (Nat.le_of_lt hgl)
    generalize wr.alloc (.cells (zb 256) 5)=U at *
    generalize wr.heap.size=G at *
    clear hb1 own ct hp0 hz0
    go_wp2_with (rw [hmk])
    go_loopw [5] (fun i wq=>∃ k:Nat,k≤255∧i = .int .i64 k∧RowAt .u8 wq g 0 255 P∧RowAt .u8 wq G 0 256 (V k)∧Below w.heap.size w wq) (fun i _=>255 - (intOf i).toNat)
    case atStart=>exact ⟨0,Nat.zero_le _,rfl,hrow,hT0,b⟩
    case round =>
     clear hrow hT0 b hmk
     obtain ⟨k,hk,rfl,hrow,hT,b⟩:=hrel
     by_cases hlt:k<255
     · obtain ⟨hp,-⟩:=hpw k hlt
       obtain ⟨r1,-⟩:=hrow k hlt
       obtain ⟨r2,-⟩:=hrow ((255 - k)%255) (by omega)
       obtain ⟨r3,f3⟩:=hT (P k) hp
       rw [Nat.zero_add] at r1 r2 r3 f3
       have hs:=hT.set (i:=P k) hp (v:=(P ((255 - k)%255):Int)) (u:=P ((255 - k)%255)) rfl
       rw [Nat.zero_add,←hun] at hs
       have q1:(-(k:Int)%255).toNat=(255 - k)%255:=by omega
       have q2:(0:Int)≤-(k:Int)%255∧-(k:Int)%255<255:=by omega
       have q3:(P k:Int)<256:=by omega
       have ng:¬G=g:=by omega
       have ng2:¬g=G:=by omega
       have m1:k+1≤255:=by omega
       clear hpw hinv hun
       go_wp2
       go_region
       go_wp2
       go_roundw
       case rel=>exact ⟨k+1,m1,by go_num,(hrow.far (by show G≠g;omega) _).drew,hs.drew,(b.setCell (by show w.heap.size≤G;omega) _).drew⟩
       case measure=>simp [intOf];omega
     · obtain rfl:k=255:=by omega
       have hT':=hT.congr (fun j hj=>(hinv j hj).1)
       clear hpw hinv hun hT
       go_wp2
       go_ret
       exact ⟨_,rfl,⟨G,256,rfl,Nat.le_refl _,hT'⟩,b⟩
end Go.Proofs.Ytplnmmokafomaaa
namespace Go.Proofs.Ytplnmmokafomaaa
open Go.RowKit
theorem boxF_lt (y:Nat) (hy:y<256):∀ n,n≤4→boxF y n<256
 | 0,_=>xor_byte hy (by decide)
 | n+1,h=>by
  show boxF y n ^^^ (y*2 ^ (n+1)%256 ||| y / 2 ^ (8 - (n+1)))<256
  exact xor_byte (boxF_lt y hy n (by omega)) (Nat.or_lt_two_pow (n:=8) (Nat.mod_lt _ (by decide)) (Nat.lt_of_le_of_lt (Nat.div_le_self _ _) hy))
set_option maxRecDepth 20000 in
set_option maxHeartbeats 4000000 in
theorem rboxes_any (w:World) :
 Calls Try.prog 22 #[] w fun e w'=>∃ v,e = .returned v∧RowS w' v 256 boxN∧Below w.heap.size w w':=by
 have ci:=inverses_any w
 have hinv:=fun x hx=>(inv_all x hx).2
 have hbox:=boxF_all
 have hbl:=boxF_lt
 have hb0:∀ y,boxF y 0=y ^^^ 99:=fun _=>rfl
 have hbs:∀ y n,boxF y (n+1)=boxF y n ^^^ (y*2 ^ (n+1)%256 ||| y / 2 ^ (8 - (n+1))):=fun _ _=>rfl
 generalize invN=I at *
 generalize boxN=F at *
 generalize boxF=Y at *
 go_enter Try.func22,Try.ntmps22
 go_wp2_with (go_at_call 38;refine ci.mono ?_;clear ci;rintro e w1 ⟨v1,rfl,⟨g,cap,rfl,hcap,hr1⟩,b1⟩)
 go_loopw [2,3] (fun o i wr=>∃ k:Nat,k≤256∧i = .int .i64 k∧Own w1.heap.size wr o k F∧Below w1.heap.size w1 wr) (fun _ i _=>256 - (intOf i).toNat)
 case atStart=>exact ⟨0,Nat.zero_le _,rfl,Own.nil _ _ _,Below.refl _ _⟩
 case round =>
  obtain ⟨k,hk,rfl,own,b⟩:=hrel
  have hr:=hr1.still b
  by_cases hlt:k<256
  · obtain ⟨rk,-⟩:=hr k hlt
    rw [Nat.zero_add] at rk
    have hy:=hinv k hlt
    have hfin:=hbox k hlt
    have hl:=hbl (I k) hy
    have hs:=hbs (I k)
    have h0:=hb0 (I k)
    have q0:=u8_xor_nat (I k) 99 hy (by decide)
    rw [←h0] at q0
    replace q0:bits .xor .u8 ((I k:Nat):Int) 99=((Y (I k) 0:Nat):Int):=q0
    have hsz:=b.size
    have hrange:(0:Int)≤(k:Int)∧(k:Int)<256:=by omega
    generalize I k=y at *
    obtain ⟨B,hB⟩:∃ B,B=Y y:=⟨_,rfl⟩
    rw [←hB] at hfin hl hs h0 q0
    have HS:=Hid.mk' hs
    have HF:=Hid.mk' hfin
    clear hB hinv hbox hbl hb0 hbs hs h0 hfin
    go_wp2
    go_loopw [5,6] (fun x n wq=>∃ m:Nat,m≤4∧x = .int .u8 (B m)∧n = .int .i64 ((m:Int)+1)∧wq=wr) (fun _ n _=>5 - (intOf n).toNat)
    case atStart=>exact ⟨0,Nat.zero_le _,rfl,rfl,rfl⟩
    case round =>
     clear q0
     obtain ⟨m,hm,rfl,rfl,hwq⟩:=hrel
     subst hwq
     by_cases hlm:m<4
     · have e1:=HS.out m
       have b1:=hl m hm
       have hq1:=u8_or_nat (y*2 ^ (m+1)%256) (y / 2 ^ (8 - (m+1))) (Nat.mod_lt _ (by decide)) (Nat.lt_of_le_of_lt (Nat.div_le_self _ _) hy)
       have hq2:=u8_xor_nat (B m) (y*2 ^ (m+1)%256 ||| y / 2 ^ (8 - (m+1))) b1 (Nat.or_lt_two_pow (n:=8) (Nat.mod_lt _ (by decide)) (Nat.lt_of_le_of_lt (Nat.div_le_self _ _) hy))
       rw [←e1] at hq2
       clear HS e1 own
       rcases (show m=0∨m=1∨m=2∨m=3 by omega) with rfl | rfl | rfl | rfl
       all_goals
        simp only [Nat.zero_add,Nat.reduceAdd,Nat.reduceSub,Nat.reducePow] at hq1 hq2
        rw [←hq1] at hq2
        push_cast at hq2
        clear hq1
        go_wp2
        go_roundw
        case rel=>exact ⟨_,by decide,rfl,rfl,trivial⟩
        case measure=>simp [intOf]
     · obtain rfl:m=4:=by omega
       have eF:=HF.out
       clear HS HF
       go_wp2_with (at_builtin;refine wpList_append_next rfl (.tmp 34) (.tmp 36) rfl w1.heap.size _ k F _ rfl own rfl (by rw [←eF]) (by omega) hsz ?_;intro v2 w2 own2 hb2;(have b2:=b.trans hb2);clear own)
       go_roundw
       case rel=>exact ⟨k+1,by omega,by go_num,own2,b2⟩
       case measure=>simp [intOf];omega
  · obtain rfl:k=256:=by omega
    obtain ⟨g3,cap3,hv,hg,hgl,hcap3,hrow⟩:=own.form.resolve_left (fun h=>by omega)
    subst hv
    clear hbox hbl hb0 hbs own hinv
    go_wp2
    go_ret
    exact ⟨_,rfl,⟨g3,cap3,rfl,hcap3,hrow⟩,below_next b1 b⟩
set_option maxHeartbeats 1000000 in
theorem rbox_any (x:Nat) (hx:x<256) (w:World) :
 Calls Try.prog 9 #[.int .u8 x] w fun e w'=>e = .returned (.int .u8 (boxN x))∧Below w.heap.size w w':=by
 have cb:=rboxes_any w
 generalize boxN=F at *
 go_enter Try.func9,Try.ntmps9
 go_wp2_with (go_at_call 22;refine cb.mono ?_;clear cb;rintro e w1 ⟨v1,rfl,⟨g,cap,rfl,hcap,hr1⟩,b1⟩;(obtain ⟨rx,-⟩:=hr1 x hx);rw [Nat.zero_add] at rx;(have hx2:(0:Int)≤(x:Int)∧(x:Int)<256:=by omega))
 go_ret
 exact ⟨rfl,b1⟩
end Go.Proofs.Ytplnmmokafomaaa
namespace Go.Proofs.Ytplnmmokafomaaa
open Go.RowKit
set_option maxRecDepth 20000 in
set_option maxHeartbeats 4000000 in
theorem aesBoxes_any (x y:Nat) (hx:x<256) (hy:y<256) (w:World) :
 Calls Try.prog 3 #[.int .u8 x,.int .u8 y] w fun e w'=>e = .returned (.bool true)∧Below w.heap.size w w':=by
 have c1:=box_any x hx w
 have c2:=rbox_any x hx
 have c3:=box_any x hx
 have c4:=box_any y hy
 have c5:=box_any x hx
 have ck:=knows8
 have hn:¬((boxN x:Nat):Int)=(x:Int):=fun h=>(box_all x hx).2.2.2.2 (by omega)
 have hinj:x≠y→¬((boxN x:Nat):Int)=((boxN y:Nat):Int):=fun hne h=>hne (by
  have e:boxN x=boxN y:=by omega
  rw [←(box_all x hx).1,←(box_all y hy).1,e])
 generalize boxN x=X at *
 generalize boxN y=Y at *
 have n1:(((X:Nat):Int) != (x:Int))=true:=bne_iff_ne.2 hn
 clear hn
 by_cases hxy:x=y
 · subst hxy
   clear hinj c3 c4
   go_enter Try.func3,Try.ntmps3
   go_wp2_with (first
    | (go_at_call 8;refine c1.mono ?_;clear c1;rintro e w1 ⟨rfl,hb1⟩)
    | (go_at_call 9;refine (c2 _).mono ?_;clear c2;rintro e w2 ⟨rfl,hb2⟩;(have b2:=below_next hb1 hb2))
    | (go_at_call 8;refine (c5 _).mono ?_;clear c5;rintro e w5 ⟨rfl,hb5⟩;(have b5:=below_next b2 hb5))
    | (go_at_call 10;refine (ck _).mono ?_;clear ck;rintro e w6 ⟨rfl,hb6⟩))
   go_ret
   exact ⟨rfl,below_next b5 hb6⟩
 · have n2:(((X:Nat):Int) != ((Y:Nat):Int))=true:=bne_iff_ne.2 (hinj hxy)
   have n3:((x:Int) == (y:Int))=false:=beq_false_of_ne (by omega)
   clear hinj hxy
   go_enter Try.func3,Try.ntmps3
   go_wp2_with (first
    | (go_at_call 8;refine c1.mono ?_;clear c1;rintro e w1 ⟨rfl,hb1⟩)
    | (go_at_call 9;refine (c2 _).mono ?_;clear c2;rintro e w2 ⟨rfl,hb2⟩;(have b2:=below_next hb1 hb2))
    | (go_at_call 8;refine (c3 _).mono ?_;clear c3;rintro e w3 ⟨rfl,hb3⟩;(have b3:=below_next b2 hb3))
    | (go_at_call 8;refine (c4 _).mono ?_;clear c4;rintro e w4 ⟨rfl,hb4⟩;(have b4:=below_next b3 hb4))
    | (go_at_call 8;refine (c5 _).mono ?_;clear c5;rintro e w5 ⟨rfl,hb5⟩;(have b5:=below_next b4 hb5))
    | (go_at_call 10;refine (ck _).mono ?_;clear ck;rintro e w6 ⟨rfl,hb6⟩))
   go_ret
   exact ⟨rfl,below_next b5 hb6⟩
end Go.Proofs.Ytplnmmokafomaaa
namespace Go.Proofs.Ytplnmmokafomaaa
open Go.ChangeShapes Go.WideShapes Go.ChangeAt Go.RowKit
theorem ownKnobs:ownKnob Try.prog.godebug=none:=by kernel_rfl
end Go.Proofs.Ytplnmmokafomaaa
