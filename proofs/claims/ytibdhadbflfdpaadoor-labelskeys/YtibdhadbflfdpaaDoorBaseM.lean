/- What the proof stands on: Base, Lent, HMath, HSpread, HMix, HEng, HStart, HWrite, HPad, HSum, HTop, HRefSmall, HPlain, HCert, HHashM, HHmac, RWk, RFn, HExp, HExpand, D1Math, D1RR, L5E, Q10Laid. -/
import Derived.Test.YtibdhadbflfdpaaDoorCards
import Derived.Test.YtibdhadbflfdpaaDoorRows
import Derived.Test.YtibdhadbflfdpaaDoorTie
import Derived.ArgAppend
import Derived.BigQuiet
import Derived.ChangeOld
import Derived.ChangeSlices
import Derived.Deep.AppendLies
import Derived.Deep.Cut
import Derived.Deep.DeepHandedRow
import Derived.Deep.MidRow
import Derived.Deep.QuietTactic
import Derived.Deep.RegionHeld3
import Derived.Deep.RegionLawGrows
import Derived.Deep.RegionWith
import Derived.Deep.Upon
import Derived.Laws.Bits64
import Derived.Laws.Bits64b
import Derived.Laws.BitsAllLaws
import Derived.Laws.Externs
import Derived.Lib.AppendStr
import Derived.Lib.ConvBytes
import Derived.Lib.LaidTab
import Derived.Lib.SlBytesConst
import Derived.LoopIn
import Derived.LoopNIn
import Derived.OpenShut
import Derived.OwnWalkIn
import Derived.ProofKit
import Derived.RangeFuncBound
import Derived.RangeFuncCalls
import Derived.RangeFuncLeaves
import Derived.RangeFuncNested
import Derived.Shelf.Abstract
import Derived.Shelf.Bits.Mul64
import Derived.Shelf.RegionOpen
import Derived.Shelf.Spec.BitsCarry
import Derived.SizedLaws
import Derived.TacticsInMore
import Derived.WalkKit
import Derived.WalkLawsBesides
import Derived.WalkSpells
namespace Go.Proofs.YtibdhadbflfdpaaDoor
open Go.RowKit
def upd (X:Nat→Nat) (i v:Nat):Nat→Nat:=fun j=>if j=i then v else X j
def RowAt (K:IntKind) (w:World) (b o n:Nat) (X:Nat→Nat):Prop:=∀ j,j<n→w.cell? ⟨b,o+j,none⟩=some (.int K (X j))∧w.frozen? ⟨b,o+j,none⟩=false
theorem RowAt.far {K:IntKind} {w:World} {b o n:Nat} {X:Nat→Nat} (h:RowAt K w b o n X) {a:Addr} (ha:a.block≠b) (v:Value):RowAt K (w.setCell a v) b o n X:=fun j hj=>by
 refine ⟨?_,by rw [World.frozen?_setCell];exact (h j hj).2⟩
 rw [World.cell?_setCell_other _ _ _ _ (fun e=>ha (by rw [e]))];exact (h j hj).1
theorem RowAt.below {K:IntKind} {B:Nat} {w w':World} {b o n:Nat} {X:Nat→Nat} (h:RowAt K w b o n X) (hb:Below B w w') (hB:b<B):RowAt K w' b o n X:=fun j hj =>
 ⟨(hb.cell (p:=⟨b,o+j,none⟩) hB).trans (h j hj).1,(hb.frozen (p:=⟨b,o+j,none⟩) hB).trans (h j hj).2⟩
theorem RowAt.alloc {K:IntKind} {w:World} {b o n:Nat} {X:Nat→Nat} (h:RowAt K w b o n X) (hb:b<w.heap.size) (ob:Obj):RowAt K (w.alloc ob) b o n X :=
 h.below ((Below.refl w.heap.size w).alloc (Nat.le_refl _) ob) hb
def ints (K:IntKind) (n:Nat) (X:Nat→Nat):List Value:=(List.range n).map fun j => .int K (X j)
theorem ints_len (K:IntKind) (n:Nat) (X:Nat→Nat):(ints K n X).length=n:=by simp [ints]
theorem ints_at (K:IntKind) (n:Nat) (X:Nat→Nat) (j:Nat) (h:j<n):(ints K n X)[j]? = some (.int K (X j)):=by simp [ints,h]
theorem RowAt.range {K:IntKind} {w:World} {b o n:Nat} {X:Nat→Nat} (h:RowAt K w b o n X):w.rangeAt b o (ints K n X):=fun j v hv=>by
 have hj:j<n:=by have:=(List.getElem?_eq_some_iff.1 hv).1;rwa [ints_len] at this
 rw [ints_at K n X j hj] at hv
 rw [←hv];exact (h j hj).1
theorem RowAt.there {K:IntKind} {w:World} {b o n:Nat} {X:Nat→Nat} (h:RowAt K w b o n X):w.there b o n:=fun j hj=>by
 rw [(h j hj).1];exact ⟨rfl,(h j hj).2⟩
theorem below_next {W a b:World} (h:Below W.heap.size W a) (hb:Below a.heap.size a b):Below W.heap.size W b:=h.trans (hb.mono h.size)
def Near (b o:Nat) (W w':World):Prop:=∃ w0,Below W.heap.size W w0∧(w'=w0∨∃ u,w'=w0.setCell ⟨b,o,none⟩ u)
theorem Near.cell {b o:Nat} {W w':World} (h:Near b o W w') (p q:Nat) (hp:p<W.heap.size) (hne:p=b→q≠o):w'.cell? ⟨p,q,none⟩=W.cell? ⟨p,q,none⟩:=by
 obtain ⟨w0,hb,rfl | ⟨u,rfl⟩⟩:=h
 · exact hb.cell (p:=⟨p,q,none⟩) hp
 · rw [World.cell?_setCell_other _ _ _ _ (fun e=>by injection e with e1 e2;exact hne e1.symm e2.symm)];exact hb.cell (p:=⟨p,q,none⟩) hp
theorem Near.frozen {b o:Nat} {W w':World} (h:Near b o W w') (p q:Nat) (hp:p<W.heap.size):w'.frozen? ⟨p,q,none⟩=W.frozen? ⟨p,q,none⟩:=by
 obtain ⟨w0,hb,rfl | ⟨u,rfl⟩⟩:=h
 · exact hb.frozen (p:=⟨p,q,none⟩) hp
 · rw [World.frozen?_setCell];exact hb.frozen (p:=⟨p,q,none⟩) hp
theorem Near.some {b o:Nat} {W w':World} (h:Near b o W w') {v:Value} (hv:W.cell? ⟨b,o,none⟩ = .some v):∃ u,w'.cell? ⟨b,o,none⟩ = .some u:=by
 obtain ⟨w0,hb,rfl | ⟨u,rfl⟩⟩:=h
 · exact ⟨v,(hb.cell (p:=⟨b,o,none⟩) (block_lt_of_cell hv)).trans hv⟩
 · exact ⟨u,World.cell?_setCell_same _ _ _ ((hb.cell (p:=⟨b,o,none⟩) (block_lt_of_cell hv)).trans hv)⟩
structure Out (b o n:Nat) (w w':World):Prop where
 os:w'.os=w.os
 tape:w'.tape=w.tape
 output:w'.output=w.output
 size:w.heap.size≤w'.heap.size
 block:∀ k,k<w.heap.size→k≠b→w'.heap[k]? = w.heap[k]?
 cell:∀ q,(q<o∨o+n≤q)→w'.cell? ⟨b,q,none⟩=w.cell? ⟨b,q,none⟩
 frozen:∀ q,w'.frozen? ⟨b,q,none⟩=w.frozen? ⟨b,q,none⟩
theorem Out.refl (b o n:Nat) (w:World):Out b o n w w:=⟨rfl,rfl,rfl,Nat.le_refl _,fun _ _ _=>rfl,fun _ _=>rfl,fun _=>rfl⟩
theorem Out.trans {b o n:Nat} {u v w:World} (h:Out b o n u v) (k:Out b o n v w):Out b o n u w :=
 ⟨k.os.trans h.os,k.tape.trans h.tape,k.output.trans h.output,Nat.le_trans h.size k.size,fun i hi hb=>(k.block i (Nat.lt_of_lt_of_le hi h.size) hb).trans (h.block i hi hb),fun q hq=>(k.cell q hq).trans (h.cell q hq),fun q=>(k.frozen q).trans (h.frozen q)⟩
theorem heap_setCells_other (b:Nat):∀ (vs:List Value) (o:Nat) (w:World) (k:Nat),k≠b→(w.setCells b o vs).heap[k]? = w.heap[k]?
 | [],_,_,_,_=>rfl
 | v :: r,o,w,k,h=>by rw [World.setCells,heap_setCells_other b r (o+1) _ k h];exact Below.heap_setCell w ⟨b,o,none⟩ v k h
theorem setCells_same (b:Nat):∀ (vs:List Value) (o:Nat) (w:World),(w.setCells b o vs).os=w.os∧(w.setCells b o vs).tape=w.tape∧(w.setCells b o vs).output=w.output∧(w.setCells b o vs).heap.size=w.heap.size
 | [],_,_=>⟨rfl,rfl,rfl,rfl⟩
 | v :: r,o,w=>by
  have h:=setCells_same b r (o+1) (w.setCell ⟨b,o,none⟩ v)
  rw [World.setCells]
  exact ⟨h.1,h.2.1,h.2.2.1,by rw [h.2.2.2];simp⟩
theorem Out.setCells {b o n:Nat} (w:World) {p:Nat} (vs:List Value) (h1:o≤p) (h2:p+vs.length≤o+n):Out b o n w (w.setCells b p vs):=by
 have h:=setCells_same b vs p w
 refine ⟨h.1,h.2.1,h.2.2.1,by rw [h.2.2.2];exact Nat.le_refl _,fun k _ hk=>heap_setCells_other b vs p w k hk,fun q hq => ?_,fun q=>World.frozen?_setCells b vs p w _⟩
 exact World.cell?_setCells_out b vs p w _ (fun _ _=>by show q<p∨p+vs.length≤q;omega)
theorem Out.setCell {b o n:Nat} (w:World) {p:Nat} (v:Value) (h1:o≤p) (h2:p<o+n):Out b o n w (w.setCell ⟨b,p,none⟩ v) :=
 Out.setCells w [v] h1 (by simp;omega)
theorem Out.below {b o n B:Nat} {w w':World} (h:Out b o n w w') (hb:B≤b) (hB:B≤w.heap.size):Below B w w' :=
 ⟨h.os,h.tape,h.output,h.size,fun k hk=>h.block k (by omega) (by omega)⟩
theorem Out.cell' {b o n:Nat} {w w':World} (h:Out b o n w w') {c q:Nat} (hc:c<w.heap.size) (hb:c≠b):w'.cell? ⟨c,q,none⟩=w.cell? ⟨c,q,none⟩:=World.cell?_of_block (w:=w) (h.block c hc hb)
theorem Out.frozen' {b o n:Nat} {w w':World} (h:Out b o n w w') {c q:Nat} (hc:c<w.heap.size) (hb:c≠b):w'.frozen? ⟨c,q,none⟩=w.frozen? ⟨c,q,none⟩:=World.frozen?_of_block (w:=w) (h.block c hc hb)
theorem Out.row {b o n:Nat} {w w':World} (h:Out b o n w w') {K:IntKind} {c p m:Nat} {X:Nat→Nat} (hr:RowAt K w c p m X) (hc:c≠b):RowAt K w' c p m X:=fun j hj =>
 ⟨(h.cell' (block_lt_of_cell (hr j hj).1) hc).trans (hr j hj).1,(h.frozen' (block_lt_of_cell (hr j hj).1) hc).trans (hr j hj).2⟩
def over (R:Nat→Nat) (i c:Nat) (Y:Nat→Nat):Nat→Nat:=fun j=>if i≤j∧j<i+c then Y (j - i) else R j
theorem RowAt.splice {K:IntKind} {w:World} {b o n:Nat} {X:Nat→Nat} (h:RowAt K w b o n X) (i c:Nat) (Y:Nat→Nat) (hi:i+c≤n):RowAt K (w.setCells b (o+i) (ints K c Y)) b o n (over X i c Y):=fun j hj=>by
 refine ⟨?_,by rw [World.frozen?_setCells];exact (h j hj).2⟩
 by_cases e:i≤j∧j<i+c
 · have hin:=World.cell?_setCells_in b (ints K c Y) (o+i) w (fun q hq=>by rw [ints_len] at hq;have:=(h (i+q) (by omega)).1;rw [←Nat.add_assoc] at this;rw [this];rfl) (j - i) (by rw [ints_len];omega)
   rw [show o+i+(j - i)=o+j by omega] at hin
   rw [hin]
   have:=ints_at K c Y (j - i) (by omega)
   rw [List.getElem?_eq_getElem (by rw [ints_len];omega)] at this
   simp only [over,e,and_self,if_true]
   exact this
 · rw [World.cell?_setCells_out b _ _ w _ (fun _ _=>by rw [ints_len];show o+j<o+i∨o+i+c≤o+j;omega)]
   simp only [over,e,if_false]
   exact (h j hj).1
theorem RowAt.apart {K:IntKind} {w:World} {b o n:Nat} {X:Nat→Nat} (h:RowAt K w b o n X) (p:Nat) (vs:List Value) (hp:o+n≤p∨p+vs.length≤o):RowAt K (w.setCells b p vs) b o n X:=fun j hj =>
 ⟨by rw [World.cell?_setCells_out b vs p w _ (fun _ _=>by show o+j<p∨p+vs.length≤o+j;omega)];exact (h j hj).1,by rw [World.frozen?_setCells];exact (h j hj).2⟩
def BytesIn (w:World) (v:Value) (n:Nat) (bs:Nat→Nat):Prop:=(∃ xo,v = .slice xo 0 0∧n=0)∨∃ bb ob cap,v = .slice (some ⟨bb,ob,none⟩) n cap∧bb<w.heap.size∧n≤cap∧∀ j,j<n→w.cell? ⟨bb,ob+j,none⟩=some (.int .u8 (bs j))
theorem own_below {w w':World} {base:Nat} {e:TypeId} {size:Nat} {v:Value} {n:Nat} {xs:List Value} (h:w.ownsRow base e size v n xs) (hb:Below w.heap.size w w'):w'.ownsRow base e size v n xs :=
 h.kept (row:=none) ⟨hb.os,hb.tape,hb.output,hb.size,fun k hk _=>hb.block k hk⟩ (by cases hv:v.ownBlock with | none=>exact .inl rfl | some b=>exact .inr (by simp))
def cat (n:Nat) (a b:Nat→Nat):Nat→Nat:=fun j=>if j<n then a j else b (j - n)
def Own (base:Nat) (w:World) (v:Value) (n:Nat) (X:Nat→Nat):Prop:=w.ownsRow base 5 1 v n (ints .u8 n X)
theorem Own.below {base:Nat} {w w':World} {v:Value} {n:Nat} {X:Nat→Nat} (h:Own base w v n X) (hb:Below w.heap.size w w'):Own base w' v n X:=own_below h hb
theorem Own.alloc {base:Nat} {w:World} {v:Value} {n:Nat} {X:Nat→Nat} (h:Own base w v n X) (o:Obj):Own base (w.alloc o) v n X:=h.below ((Below.refl _ _).alloc (Nat.le_refl _) _)
theorem Own.form {base:Nat} {w:World} {v:Value} {n:Nat} {X:Nat→Nat} (h:Own base w v n X):(v = .slice none 0 0∧n=0)∨∃ g cap,v = .slice (some ⟨g,0,none⟩) n cap∧base≤g∧g<w.heap.size∧n≤cap∧RowAt .u8 w g 0 n X:=by
 rcases h.2 with hv | ⟨g,cap,cur,rfl,hb,hg,hn,_⟩
 · exact .inl hv
 · refine .inr ⟨g,cap,rfl,hb,(h.lt g rfl).2,hn,fun j hj => ?_⟩
   rw [Nat.zero_add]
   exact ⟨by rw [World.ownsRow.cellAt h j (by omega),ints_at _ _ _ j hj],World.ownsRow.frozenAt h j⟩
theorem Own.slice {base:Nat} {w:World} {v:Value} {n:Nat} {X:Nat→Nat} (h:Own base w v n X):∃ x c,v = .slice x n c:=by
 rcases h.form with ⟨hv,e0⟩ | ⟨g,c,hv,_⟩
 · exact ⟨none,0,by rw [hv,e0]⟩
 · exact ⟨_,c,hv⟩
theorem Own.nil (base:Nat) (w:World) (X:Nat→Nat):Own base w (.slice none 0 0) 0 X:=World.ownsRow_nil w base _ _
theorem Own.lit (base:Nat) (w:World) (X:Nat→Nat) (h:base≤w.heap.size):Own base (w.alloc (.cells #[] 5)) (.slice (some ⟨w.heap.size,0,none⟩) 0 0) 0 X:=World.ownsRow_lit w #[] 0 h (by decide) rfl
def strB (n:Nat) (bs:Nat→Nat):ByteArray:=⟨((List.range n).map fun j=>UInt8.ofNat (bs j)).toArray⟩
theorem strB_congr {n:Nat} {a b:Nat→Nat} (h:∀ j,j<n→a j=b j):strB n a=strB n b:=by
 unfold strB
 congr 2
 exact List.map_congr_left fun j hj=>by rw [h j (List.mem_range.1 hj)]
theorem conv_bytes (w:World) (bb ob n cap:Nat) (bs:Nat→Nat) (hb:∀ j,bs j<256) (h:∀ j,j<n→w.cell? ⟨bb,ob+j,none⟩=some (.int .u8 (bs j))) :
 (convert 22 9 (.slice (some ⟨bb,ob,none⟩) n cap)).run Tryd.prog w = .ok (.string (strB n bs)) w:=by
 have hl:((List.range n).map fun j=>UInt8.ofNat (bs j)).length=n:=by simp
 have:=run_convert_bytes_back (P:=Tryd.prog) w 22 9 5 ⟨bb,ob,none⟩ cap ((List.range n).map fun j=>UInt8.ofNat (bs j)) Tryd.underlying22 Tryd.underlying5 (by kernel_rfl) (fun j hj=>by
  rw [hl] at hj
  rw [Addr.add_mid,h j hj]
  simp only [List.getElem_map,List.getElem_range]
  rw [UInt8.toNat_ofNat_of_lt' (by have:=hb j;simp [UInt8.size];omega)])
 rw [hl] at this
 exact this
theorem conv_nil (w:World):(convert 22 9 (.slice none 0 0)).run Tryd.prog w = .ok (.string (strB 0 (fun _=>0))) w:=by
 rw [run_convert_bytes_string w 22 9 5 none 0 0 Tryd.underlying22 Tryd.underlying5 (by kernel_rfl)]
 rfl
theorem conv_empty (w:World) (a:Addr):(convert 22 9 (.slice (some a) 0 0)).run Tryd.prog w = .ok (.string (strB 0 (fun _=>0))) w :=
 run_convert_bytes_back (P:=Tryd.prog) w 22 9 5 a 0 [] Tryd.underlying22 Tryd.underlying5 (by kernel_rfl) (fun j hj=>absurd hj (Nat.not_lt_zero j))
theorem BytesIn.conv {w:World} {v:Value} {n:Nat} {bs:Nat→Nat} (h:BytesIn w v n bs) (hb:∀ j,bs j<256) (w':World) (hw:Below w.heap.size w w'):(convert 22 9 v).run Tryd.prog w' = .ok (.string (strB n bs)) w':=by
 rcases h with ⟨xo,rfl,rfl⟩ | ⟨bb,ob,cap,rfl,h1,h2,h3⟩
 · have e:=strB_congr (n:=0) (a:=fun _=>0) (b:=bs) (fun j hj=>by omega)
   cases xo with
   | none=>exact (conv_nil w').trans (by rw [e])
   | some a=>exact (conv_empty w' a).trans (by rw [e])
 · exact conv_bytes w' bb ob n cap bs hb (fun j hj=>(hw.cell (p:=⟨bb,ob+j,none⟩) h1).trans (h3 j hj))
theorem BytesIn.still {w w':World} {v:Value} {n:Nat} {bs:Nat→Nat} (h:BytesIn w v n bs) (hb:Below w.heap.size w w'):BytesIn w' v n bs:=by
 rcases h with h | ⟨bb,ob,cap,rfl,h1,h2,h3⟩
 · exact .inl h
 · exact .inr ⟨bb,ob,cap,rfl,Nat.lt_of_lt_of_le h1 hb.size,h2,fun j hj=>(hb.cell (p:=⟨bb,ob+j,none⟩) h1).trans (h3 j hj)⟩
end Go.Proofs.YtibdhadbflfdpaaDoor
namespace Go.Proofs.YtibdhadbflfdpaaDoor
open Go.RowKit
def room (j:Nat):Nat:=if j=0 then 201 else 202
end Go.Proofs.YtibdhadbflfdpaaDoor
namespace Go.Proofs.YtibdhadbflfdpaaDoor
open Go
structure Ru where
 m:Nat
 rounds:Nat
 s0:Nat × Nat × Nat
 s1:Nat × Nat × Nat
 l0:Nat × Nat × Nat
 l1:Nat × Nat × Nat
def rn:Ru:=⟨32,64,(7,18,3),(17,19,10),(2,13,22),(6,11,25)⟩
def rw6:Ru:=⟨64,80,(1,8,7),(19,61,6),(28,34,39),(14,18,41)⟩
def rot (m x n:Nat):Nat:=(x / 2 ^ n) ||| (x*2 ^ (m - n)%2 ^ m)
def hi3 (m x:Nat) (n:Nat × Nat × Nat):Nat:=rot m x n.1 ^^^ rot m x n.2.1 ^^^ rot m x n.2.2
def lo3 (m x:Nat) (n:Nat × Nat × Nat):Nat:=rot m x n.1 ^^^ rot m x n.2.1 ^^^ (x / 2 ^ n.2.2)
end Go.Proofs.YtibdhadbflfdpaaDoor
namespace Go.Proofs.YtibdhadbflfdpaaDoor
open Go.RowKit
def fill (m sz:Nat) (bs:Nat→Nat):Nat→Nat→Nat
 | 0=>fun _=>0
 | i+1=>upd (fill m sz bs i) (i / sz) ((fill m sz bs i (i / sz)*256%2 ^ m) ||| bs i)
def nextW (r:Ru) (X:Nat→Nat) (k:Nat):Nat:=(lo3 r.m (X (k+14)) r.s1+X (k+9)+lo3 r.m (X (k+1)) r.s0+X k)%2 ^ r.m
def sch (r:Ru) (X:Nat→Nat):Nat→Nat→Nat
 | 0=>X
 | k+1=>upd (sch r X k) (k+16) (nextW r (sch r X k) k)
end Go.Proofs.YtibdhadbflfdpaaDoor
namespace Go.Proofs.YtibdhadbflfdpaaDoor
open Go.RowKit
structure St where
 a:Nat
 b:Nat
 c:Nat
 d:Nat
 e:Nat
 f:Nat
 g:Nat
 h:Nat
def chS (m e f g:Nat):Nat:=(e &&& f) ^^^ ((2 ^ m - 1 - e) &&& g)
def majS (a b c:Nat):Nat:=(a &&& b) ^^^ (a &&& c) ^^^ (b &&& c)
def t1S (r:Ru) (kt wt:Nat) (s:St):Nat:=(s.h+hi3 r.m s.e r.l1+chS r.m s.e s.f s.g+kt+wt)%2 ^ r.m
def t2S (r:Ru) (s:St):Nat:=(hi3 r.m s.a r.l0+majS s.a s.b s.c)%2 ^ r.m
def stepS (r:Ru) (kt wt:Nat) (s:St):St:=⟨(t1S r kt wt s+t2S r s)%2 ^ r.m,s.a,s.b,s.c,(s.d+t1S r kt wt s)%2 ^ r.m,s.e,s.f,s.g⟩
def roundsS (r:Ru) (K W:Nat→Nat) (s:St):Nat→St
 | 0=>s
 | t+1=>stepS r (K t / 2 ^ (64 - r.m)) (W t) (roundsS r K W s t)
def addS (r:Ru) (s x:St):St:=⟨(s.a+x.a)%2 ^ r.m,(s.b+x.b)%2 ^ r.m,(s.c+x.c)%2 ^ r.m,(s.d+x.d)%2 ^ r.m,(s.e+x.e)%2 ^ r.m,(s.f+x.f)%2 ^ r.m,(s.g+x.g)%2 ^ r.m,(s.h+x.h)%2 ^ r.m⟩
def blockS (r:Ru) (K:Nat→Nat) (bs:Nat→Nat) (s:St):St:=addS r s (roundsS r K (sch r (fill r.m (r.m / 8) bs (2*r.m)) (r.rounds - 16)) s r.rounds)
structure St.lt (p:Nat) (s:St):Prop where
 a:s.a<p
 b:s.b<p
 c:s.c<p
 d:s.d<p
 e:s.e<p
 f:s.f<p
 g:s.g<p
 h:s.h<p
def St.at (s:St):Nat→Nat
 | 0=>s.a
 | 1=>s.b
 | 2=>s.c
 | 3=>s.d
 | 4=>s.e
 | 5=>s.f
 | 6=>s.g
 | _=>s.h
def St.vals (K:IntKind) (s:St):Array Value:=#[.int K s.a,.int K s.b,.int K s.c,.int K s.d,.int K s.e,.int K s.f,.int K s.g,.int K s.h]
theorem RowAt.st {K:IntKind} {w:World} {b:Nat} {s:St} (h:RowAt K w b 0 8 s.at):w.cell? ⟨b,0,none⟩=some (.int K s.a)∧w.cell? ⟨b,1,none⟩=some (.int K s.b)∧w.cell? ⟨b,2,none⟩=some (.int K s.c)∧w.cell? ⟨b,3,none⟩=some (.int K s.d)∧w.cell? ⟨b,4,none⟩=some (.int K s.e)∧w.cell? ⟨b,5,none⟩=some (.int K s.f)∧w.cell? ⟨b,6,none⟩=some (.int K s.g)∧w.cell? ⟨b,7,none⟩=some (.int K s.h) :=
 ⟨(h 0 (by decide)).1,(h 1 (by decide)).1,(h 2 (by decide)).1,(h 3 (by decide)).1,(h 4 (by decide)).1,(h 5 (by decide)).1,(h 6 (by decide)).1,(h 7 (by decide)).1⟩
def Rules32 (w1:World) (B:Nat):Prop:=w1.cell? ⟨B,0,none⟩=some (.int .i64 32)∧w1.cell? ⟨B,1,none⟩=some (.int .i64 64)∧w1.cell? ⟨B,2,none⟩=some (.int .u64 7)∧w1.cell? ⟨B,3,none⟩=some (.int .u64 18)∧w1.cell? ⟨B,4,none⟩=some (.int .u64 3)∧w1.cell? ⟨B,5,none⟩=some (.int .u64 17)∧w1.cell? ⟨B,6,none⟩=some (.int .u64 19)∧w1.cell? ⟨B,7,none⟩=some (.int .u64 10)∧w1.cell? ⟨B,8,none⟩=some (.int .u64 2)∧w1.cell? ⟨B,9,none⟩=some (.int .u64 13)∧w1.cell? ⟨B,10,none⟩=some (.int .u64 22)∧w1.cell? ⟨B,11,none⟩=some (.int .u64 6)∧w1.cell? ⟨B,12,none⟩=some (.int .u64 11)∧w1.cell? ⟨B,13,none⟩=some (.int .u64 25)
theorem Rules32.below {w1 w2:World} {B n:Nat} (h:Rules32 w1 B) (hb:Below n w1 w2) (hB:B<n):Rules32 w2 B:=by
 have hc:∀ j,w2.cell? ⟨B,j,none⟩=w1.cell? ⟨B,j,none⟩:=fun j=>hb.cell (p:=⟨B,j,none⟩) hB
 unfold Rules32 at *
 simp only [hc]
 exact h
structure MixIn32 (w w2:World) (s:St) (W:Nat→Nat) (N:Nat):Prop where
 rules:Rules32 w2 w.heap.size
 state:RowAt .u32 w2 (w.heap.size+1) 0 8 s.at
 res:RowAt .u32 w2 (w.heap.size+1+1) 0 8 (fun _=>0)
 row:RowAt .u32 w2 N 0 80 W
 old:Below w.heap.size w w2
 far:w.heap.size+1+1<N
theorem MixIn32.below {w w2 w3:World} {s:St} {W:Nat→Nat} {N:Nat} (h:MixIn32 w w2 s W N) (hb:Below w2.heap.size w2 w3):MixIn32 w w3 s W N:=by
 have hN:N<w2.heap.size:=block_lt_of_cell (h.row 0 (by decide)).1
 have:=h.far
 exact ⟨h.rules.below hb (by omega),h.state.below hb (by omega),h.res.below hb (by omega),h.row.below hb hN,h.old.trans (hb.mono h.old.size),h.far⟩
def Rules64 (w1:World) (B:Nat):Prop:=w1.cell? ⟨B,0,none⟩=some (.int .i64 64)∧w1.cell? ⟨B,1,none⟩=some (.int .i64 80)∧w1.cell? ⟨B,2,none⟩=some (.int .u64 1)∧w1.cell? ⟨B,3,none⟩=some (.int .u64 8)∧w1.cell? ⟨B,4,none⟩=some (.int .u64 7)∧w1.cell? ⟨B,5,none⟩=some (.int .u64 19)∧w1.cell? ⟨B,6,none⟩=some (.int .u64 61)∧w1.cell? ⟨B,7,none⟩=some (.int .u64 6)∧w1.cell? ⟨B,8,none⟩=some (.int .u64 28)∧w1.cell? ⟨B,9,none⟩=some (.int .u64 34)∧w1.cell? ⟨B,10,none⟩=some (.int .u64 39)∧w1.cell? ⟨B,11,none⟩=some (.int .u64 14)∧w1.cell? ⟨B,12,none⟩=some (.int .u64 18)∧w1.cell? ⟨B,13,none⟩=some (.int .u64 41)
theorem Rules64.below {w1 w2:World} {B n:Nat} (h:Rules64 w1 B) (hb:Below n w1 w2) (hB:B<n):Rules64 w2 B:=by
 have hc:∀ j,w2.cell? ⟨B,j,none⟩=w1.cell? ⟨B,j,none⟩:=fun j=>hb.cell (p:=⟨B,j,none⟩) hB
 unfold Rules64 at *
 simp only [hc]
 exact h
structure MixIn64 (w w2:World) (s:St) (W:Nat→Nat) (N:Nat):Prop where
 rules:Rules64 w2 w.heap.size
 state:RowAt .u64 w2 (w.heap.size+1) 0 8 s.at
 res:RowAt .u64 w2 (w.heap.size+1+1) 0 8 (fun _=>0)
 row:RowAt .u64 w2 N 0 80 W
 old:Below w.heap.size w w2
 far:w.heap.size+1+1<N
theorem MixIn64.below {w w2 w3:World} {s:St} {W:Nat→Nat} {N:Nat} (h:MixIn64 w w2 s W N) (hb:Below w2.heap.size w2 w3):MixIn64 w w3 s W N:=by
 have hN:N<w2.heap.size:=block_lt_of_cell (h.row 0 (by decide)).1
 have:=h.far
 exact ⟨h.rules.below hb (by omega),h.state.below hb (by omega),h.res.below hb (by omega),h.row.below hb hN,h.old.trans (hb.mono h.old.size),h.far⟩
end Go.Proofs.YtibdhadbflfdpaaDoor
namespace Go.Proofs.YtibdhadbflfdpaaDoor
open Go.RowKit
structure EngAt (K:IntKind) (w:World) (b o:Nat) (s:St) (R:Nat→Nat) (c:Nat):Prop where
 st:RowAt K w b o 8 s.at
 rest:RowAt .u8 w b (o+8) 128 R
 cnt:w.cell? ⟨b,o+136,none⟩=some (.int .i64 c)
 cntf:w.frozen? ⟨b,o+136,none⟩=false
theorem EngAt.below {K:IntKind} {w w':World} {b o:Nat} {s:St} {R:Nat→Nat} {c:Nat} (h:EngAt K w b o s R c) (hb:Below w.heap.size w w'):EngAt K w' b o s R c:=by
 have hl:b<w.heap.size:=block_lt_of_cell h.cnt
 exact ⟨h.st.below hb hl,h.rest.below hb hl,(hb.cell (p:=⟨b,o+136,none⟩) hl).trans h.cnt,(hb.frozen (p:=⟨b,o+136,none⟩) hl).trans h.cntf⟩
theorem vals_ints (K:IntKind) (s:St):(St.vals K s).toList=ints K 8 s.at:=rfl
theorem EngAt.state {K:IntKind} {w:World} {b o:Nat} {s:St} {R:Nat→Nat} {c:Nat} (h:EngAt K w b o s R c) (s':St):EngAt K (w.setCells b o (St.vals K s').toList) b o s' R c:=by
 have e:over s.at 0 8 s'.at=over s.at 0 8 s'.at:=rfl
 have h1:=h.st.splice 0 8 s'.at (by decide)
 rw [Nat.add_zero] at h1
 rw [vals_ints]
 refine ⟨fun j hj => ?_,h.rest.apart _ _ (.inr (by rw [ints_len];omega)),?_,by rw [World.frozen?_setCells];exact h.cntf⟩
 · have:=h1 j hj
   have e2:over s.at 0 8 s'.at j=s'.at j:=by simp [over,hj]
   rw [e2] at this
   exact this
 · rw [World.cell?_setCells_out b _ _ w _ (fun _ _=>by rw [ints_len];show o+136<o∨o+8≤o+136;omega)]
   exact h.cnt
def loopS (r:Ru) (K:Nat→Nat) (s:St) (bs:Nat→Nat):Nat→St
 | 0=>s
 | i+1=>blockS r K (fun j=>bs (i*(2*r.m)+j)) (loopS r K s bs i)
end Go.Proofs.YtibdhadbflfdpaaDoor
namespace Go.Proofs.YtibdhadbflfdpaaDoor
open Go.RowKit
def engVals (K:IntKind) (s:St) (R:Nat→Nat) (c:Nat):List Value:=ints K 8 s.at ++ ints .u8 128 R ++ [.int .i64 c]
theorem engVals_len (K:IntKind) (s:St) (R:Nat→Nat) (c:Nat):(engVals K s R c).length=137:=by simp [engVals,ints_len]
theorem engVals_st (K:IntKind) (s:St) (R:Nat→Nat) (c j:Nat) (h:j<8):(engVals K s R c)[j]? = some (.int K (s.at j)):=by
 unfold engVals
 rw [List.append_assoc,List.getElem?_append_left (by rw [ints_len];exact h)];exact ints_at _ _ _ j h
theorem engVals_rest (K:IntKind) (s:St) (R:Nat→Nat) (c j:Nat) (h:j<128):(engVals K s R c)[8+j]? = some (.int .u8 (R j)):=by
 unfold engVals
 rw [List.append_assoc,List.getElem?_append_right (by rw [ints_len];omega),ints_len,List.getElem?_append_left (by rw [ints_len];omega),show 8+j - 8=j by omega];exact ints_at _ _ _ j h
theorem engVals_cnt (K:IntKind) (s:St) (R:Nat→Nat) (c:Nat):(engVals K s R c)[136]? = some (.int .i64 c):=by
 unfold engVals
 rw [List.getElem?_append_right (by simp [ints_len])];simp [ints_len]
theorem EngAt.range {K:IntKind} {w:World} {b o:Nat} {s:St} {R:Nat→Nat} {c:Nat} (h:EngAt K w b o s R c):w.rangeAt b o (engVals K s R c):=fun j v hv=>by
 have hj:j<137:=by have:=(List.getElem?_eq_some_iff.1 hv).1;rwa [engVals_len] at this
 by_cases h1:j<8
 · rw [engVals_st K s R c j h1] at hv;rw [←hv];exact (h.st j h1).1
 · by_cases h2:j=136
   · subst h2;rw [engVals_cnt K s R c] at hv;rw [←hv];exact h.cnt
   · have:=(h.rest (j - 8) (by omega)).1
     have hv':=engVals_rest K s R c (j - 8) (by omega)
     rw [show 8+(j - 8)=j by omega] at hv'
     rw [hv'] at hv
     rw [←hv,show o+j=o+8+(j - 8) by omega];exact this
theorem EngAt.there {K:IntKind} {w:World} {b o:Nat} {s:St} {R:Nat→Nat} {c:Nat} (h:EngAt K w b o s R c):w.there b o 137:=fun j hj=>by
 by_cases h1:j<8
 · rw [(h.st j h1).1];exact ⟨rfl,(h.st j h1).2⟩
 · by_cases h2:j=136
   · subst h2;rw [h.cnt];exact ⟨rfl,h.cntf⟩
   · have:=h.rest (j - 8) (by omega)
     rw [show o+8+(j - 8)=o+j by omega] at this
     rw [this.1];exact ⟨rfl,this.2⟩
def firstS (r:Ru) (q:Nat→Nat):St:=⟨q 0 / 2 ^ (64 - r.m),q 1 / 2 ^ (64 - r.m),q 2 / 2 ^ (64 - r.m),q 3 / 2 ^ (64 - r.m),q 4 / 2 ^ (64 - r.m),q 5 / 2 ^ (64 - r.m),q 6 / 2 ^ (64 - r.m),q 7 / 2 ^ (64 - r.m)⟩
end Go.Proofs.YtibdhadbflfdpaaDoor
namespace Go.Proofs.YtibdhadbflfdpaaDoor
open Go.RowKit
def Bytes (w:World) (b:Nat) (v:Value) (n:Nat) (bs:Nat→Nat):Prop:=(∃ xo,v = .slice xo 0 0∧n=0)∨∃ bb ob cap,v = .slice (some ⟨bb,ob,none⟩) n cap∧bb≠b∧n≤cap∧∀ j,j<n→w.cell? ⟨bb,ob+j,none⟩=some (.int .u8 (bs j))
end Go.Proofs.YtibdhadbflfdpaaDoor
namespace Go.Proofs.YtibdhadbflfdpaaDoor
open Go.RowKit
def padN (r:Ru) (c:Nat):Nat:=1+(4*r.m - 1 - r.m / 4 - c%(2*r.m))%(2*r.m)+r.m / 4
def padG (N c:Nat):Nat→Nat→Nat
 | 0=>upd (fun _=>0) 0 128
 | i+1=>upd (padG N c i) (N - 1 - i) (c*8 / 2 ^ (8*i)%256)
def padF (r:Ru) (c:Nat):Nat→Nat:=padG (padN r c) c 8
end Go.Proofs.YtibdhadbflfdpaaDoor
namespace Go.Proofs.YtibdhadbflfdpaaDoor
open Go.RowKit
def outB (m:Nat) (s:St) (j:Nat):Nat:=s.at (j / (m / 8)) / 2 ^ (m - 8 - j%(m / 8)*8)%256
end Go.Proofs.YtibdhadbflfdpaaDoor
namespace Go.Proofs.YtibdhadbflfdpaaDoor
open Go.RowKit
structure HTab (w:World) (K q:Nat→Nat):Prop where
 cubes:∀ j,j<80→w.cell? ⟨2,j,none⟩=some (.int .u64 (K j))
 squares:∀ j,j<8→w.cell? ⟨1,j,none⟩=some (.int .u64 (q j))
 narrow:Rules32 w 0
 wide:Rules64 w 3
 Klt:∀ j,K j<18446744073709551616
 qlt:∀ j,q j<18446744073709551616
theorem HTab.size {w:World} {K q:Nat→Nat} (h:HTab w K q):3<w.heap.size:=by
 first | exact block_lt_of_cell (h.cubes 0 (by decide)) | exact block_lt_of_cell h.wide.1 | exact block_lt_of_cell h.narrow.1 | exact block_lt_of_cell (h.squares 0 (by decide))
theorem HTab.below {w w':World} {K q:Nat→Nat} (h:HTab w K q) {n:Nat} (hb:Below n w w') (hn:3<n):HTab w' K q :=
 ⟨fun j hj=>(hb.cell (p:=⟨2,j,none⟩) (by show 2<n;omega)).trans (h.cubes j hj),fun j hj=>(hb.cell (p:=⟨1,j,none⟩) (by show 1<n;omega)).trans (h.squares j hj),h.narrow.below hb (by omega),h.wide.below hb (by omega),h.Klt,h.qlt⟩
end Go.Proofs.YtibdhadbflfdpaaDoor
namespace Go.Proofs.YtibdhadbflfdpaaDoor
open Go.RowKit
structure Lists32 (w:World) (g0 g1 g2 g3:Nat):Prop where
 a0:w.cell? ⟨g0,0,none⟩=some (.int .i64 7)
 a1:w.cell? ⟨g0,1,none⟩=some (.int .i64 18)
 a2:w.cell? ⟨g0,2,none⟩=some (.int .i64 3)
 b0:w.cell? ⟨g1,0,none⟩=some (.int .i64 17)
 b1:w.cell? ⟨g1,1,none⟩=some (.int .i64 19)
 b2:w.cell? ⟨g1,2,none⟩=some (.int .i64 10)
 c0:w.cell? ⟨g2,0,none⟩=some (.int .i64 2)
 c1:w.cell? ⟨g2,1,none⟩=some (.int .i64 13)
 c2:w.cell? ⟨g2,2,none⟩=some (.int .i64 22)
 d0:w.cell? ⟨g3,0,none⟩=some (.int .i64 6)
 d1:w.cell? ⟨g3,1,none⟩=some (.int .i64 11)
 d2:w.cell? ⟨g3,2,none⟩=some (.int .i64 25)
theorem Lists32.below {w w':World} {g0 g1 g2 g3:Nat} (h:Lists32 w g0 g1 g2 g3) (hb:Below w.heap.size w w'):Lists32 w' g0 g1 g2 g3:=by
 have k:∀ {g j:Nat} {v:Value},w.cell? ⟨g,j,none⟩=some v→w'.cell? ⟨g,j,none⟩=some v:=fun {g j v} e=>(hb.cell (p:=⟨g,j,none⟩) (block_lt_of_cell e)).trans e
 exact ⟨k h.a0,k h.a1,k h.a2,k h.b0,k h.b1,k h.b2,k h.c0,k h.c1,k h.c2,k h.d0,k h.d1,k h.d2⟩
def ZBox32 (W:World) (B g0 g1 g2 g3:Nat):Prop:=W.cell? ⟨B,0,none⟩=some (.int .i64 32)∧W.cell? ⟨B,1,none⟩=some (.int .i64 64)∧W.cell? ⟨B,2,none⟩=some (.int .i64 64)∧W.cell? ⟨B,3,none⟩=some (.slice (some ⟨g0,0,none⟩) 3 3)∧W.cell? ⟨B,4,none⟩=some (.slice (some ⟨g1,0,none⟩) 3 3)∧W.cell? ⟨B,5,none⟩=some (.slice (some ⟨g2,0,none⟩) 3 3)∧W.cell? ⟨B,6,none⟩=some (.slice (some ⟨g3,0,none⟩) 3 3)
theorem ZBox32.below {w w':World} {B g0 g1 g2 g3:Nat} (h:ZBox32 w B g0 g1 g2 g3) (hb:Below w.heap.size w w'):ZBox32 w' B g0 g1 g2 g3:=by
 have k:∀ {g j:Nat} {v:Value},w.cell? ⟨g,j,none⟩=some v→w'.cell? ⟨g,j,none⟩=some v:=fun {g j v} e=>(hb.cell (p:=⟨g,j,none⟩) (block_lt_of_cell e)).trans e
 obtain ⟨h0,h1,h2,h3,h4,h5,h6⟩:=h
 exact ⟨k h0,k h1,k h2,k h3,k h4,k h5,k h6⟩
structure Lists64 (w:World) (g0 g1 g2 g3:Nat):Prop where
 a0:w.cell? ⟨g0,0,none⟩=some (.int .i64 1)
 a1:w.cell? ⟨g0,1,none⟩=some (.int .i64 8)
 a2:w.cell? ⟨g0,2,none⟩=some (.int .i64 7)
 b0:w.cell? ⟨g1,0,none⟩=some (.int .i64 19)
 b1:w.cell? ⟨g1,1,none⟩=some (.int .i64 61)
 b2:w.cell? ⟨g1,2,none⟩=some (.int .i64 6)
 c0:w.cell? ⟨g2,0,none⟩=some (.int .i64 28)
 c1:w.cell? ⟨g2,1,none⟩=some (.int .i64 34)
 c2:w.cell? ⟨g2,2,none⟩=some (.int .i64 39)
 d0:w.cell? ⟨g3,0,none⟩=some (.int .i64 14)
 d1:w.cell? ⟨g3,1,none⟩=some (.int .i64 18)
 d2:w.cell? ⟨g3,2,none⟩=some (.int .i64 41)
theorem Lists64.below {w w':World} {g0 g1 g2 g3:Nat} (h:Lists64 w g0 g1 g2 g3) (hb:Below w.heap.size w w'):Lists64 w' g0 g1 g2 g3:=by
 have k:∀ {g j:Nat} {v:Value},w.cell? ⟨g,j,none⟩=some v→w'.cell? ⟨g,j,none⟩=some v:=fun {g j v} e=>(hb.cell (p:=⟨g,j,none⟩) (block_lt_of_cell e)).trans e
 exact ⟨k h.a0,k h.a1,k h.a2,k h.b0,k h.b1,k h.b2,k h.c0,k h.c1,k h.c2,k h.d0,k h.d1,k h.d2⟩
def ZBox64 (W:World) (B g0 g1 g2 g3:Nat):Prop:=W.cell? ⟨B,0,none⟩=some (.int .i64 64)∧W.cell? ⟨B,1,none⟩=some (.int .i64 128)∧W.cell? ⟨B,2,none⟩=some (.int .i64 80)∧W.cell? ⟨B,3,none⟩=some (.slice (some ⟨g0,0,none⟩) 3 3)∧W.cell? ⟨B,4,none⟩=some (.slice (some ⟨g1,0,none⟩) 3 3)∧W.cell? ⟨B,5,none⟩=some (.slice (some ⟨g2,0,none⟩) 3 3)∧W.cell? ⟨B,6,none⟩=some (.slice (some ⟨g3,0,none⟩) 3 3)
theorem ZBox64.below {w w':World} {B g0 g1 g2 g3:Nat} (h:ZBox64 w B g0 g1 g2 g3) (hb:Below w.heap.size w w'):ZBox64 w' B g0 g1 g2 g3:=by
 have k:∀ {g j:Nat} {v:Value},w.cell? ⟨g,j,none⟩=some v→w'.cell? ⟨g,j,none⟩=some v:=fun {g j v} e=>(hb.cell (p:=⟨g,j,none⟩) (block_lt_of_cell e)).trans e
 obtain ⟨h0,h1,h2,h3,h4,h5,h6⟩:=h
 exact ⟨k h0,k h1,k h2,k h3,k h4,k h5,k h6⟩
end Go.Proofs.YtibdhadbflfdpaaDoor
namespace Go.Proofs.YtibdhadbflfdpaaDoor
open Go.RowKit
structure Holds (r:Ru) (K:Nat→Nat) (s0:St) (n:Nat) (bs:Nat→Nat) (s:St) (R:Nat→Nat):Prop where
 st:s=loopS r K s0 bs (n / (2*r.m))
 rest:∀ j,j<n%(2*r.m)→R j=bs (n / (2*r.m)*(2*r.m)+j)
def specS (r:Ru) (K q:Nat→Nat) (n:Nat) (bs:Nat→Nat):St:=loopS r K (firstS r q) (cat n bs (padF r n)) ((n+padN r n) / (2*r.m))
end Go.Proofs.YtibdhadbflfdpaaDoor
namespace Go.Proofs.YtibdhadbflfdpaaDoor
open Go
def cubesL:List Nat:=[4794697086780616226,8158064640168781261,13096744586834688815,16840607885511220156,4131703408338449720,6480981068601479193,10538285296894168987,12329834152419229976,15566598209576043074,1334009975649890238,2608012711638119052,6128411473006802146,8268148722764581231,9286055187155687089,11230858885718282805,13951009754708518548,16472876342353939154,17275323862435702243,1135362057144423861,2597628984639134821,3308224258029322869,5365058923640841347,6679025012923562964,8573033837759648693,10970295158949994411,12119686244451234320,12683024718118986047,13788192230050041572,14330467153632333762,15395433587784984357,489312712824947311,1452737877330783856,2861767655752347644,3322285676063803686,5560940570517711597,5996557281743188959,7280758554555802590,8532644243296465576,9350256976987008742,10552545826968843579,11727347734174303076,12113106623233404929,14000437183269869457,14369950271660146224,15101387698204529176,15463397548674623760,17586052441742319658,1182934255886127544,1847814050463011016,2177327727835720531,2830643537854262169,3796741975233480872,4115178125766777443,5681478168544905931,6601373596472566643,7507060721942968483,8399075790359081724,8693463985226723168,9568029438360202098,10144078919501101548,10430055236837252648,11840083180663258601,13761210420658862357,14299343276471374635,14566680578165727644,15097957966210449927,16922976911328602910,17689382322260857208,500013540394364858,748580250866718886,1242879168328830382,1977374033974150939,2944078676154940804,3659926193048069267,4368137639120453308,4836135668995329356,5532061633213252278,6448918945643986474,6902733635092675308,7801388544844847127]
def squaresL:List Nat:=[7640891576956012808,13503953896175478587,4354685564936845355,11912009170470909681,5840696475078001361,11170449401992604703,2270897969802886507,6620516959819538809]
def cubeK (j:Nat):Nat:=cubesL.getD j 0
def squareK (j:Nat):Nat:=squaresL.getD j 0
end Go.Proofs.YtibdhadbflfdpaaDoor
namespace Go.Proofs.YtibdhadbflfdpaaDoor
open Go.RowKit
theorem Bytes.below {w w':World} {b:Nat} {v:Value} {n:Nat} {bs:Nat→Nat} (h:Bytes w b v n bs) (hb:Below w.heap.size w w'):Bytes w' b v n bs:=by
 rcases h with h | ⟨bb,ob,cap,rfl,h1,h2,h3⟩
 · exact .inl h
 · refine .inr ⟨bb,ob,cap,rfl,h1,h2,fun j hj => ?_⟩
   have:=h3 j hj
   exact (hb.cell (p:=⟨bb,ob+j,none⟩) (block_lt_of_cell this)).trans this
structure Made256 (w:World) (g:Nat) (n:Nat) (bs:Nat→Nat):Prop where
 bits:w.cell? ⟨g,0,none⟩=some (.int .i64 256)
 eng:∃ s R,EngAt .u32 w g 1 s R n∧Holds rn cubeK (firstS rn squareK) n bs s R∧s.lt 4294967296∧∀ j,R j<256
theorem Made256.lt {w:World} {g n:Nat} {bs:Nat→Nat} (h:Made256 w g n bs):g<w.heap.size:=block_lt_of_cell h.bits
theorem Made256.below {w w':World} {g n:Nat} {bs:Nat→Nat} (h:Made256 w g n bs) (hb:Below w.heap.size w w'):Made256 w' g n bs:=by
 obtain ⟨s,R,h1,h2,h3,h4⟩:=h.eng
 exact ⟨(hb.cell (p:=⟨g,0,none⟩) h.lt).trans h.bits,s,R,h1.below hb,h2,h3,h4⟩
structure Made512 (w:World) (g:Nat) (n:Nat) (bs:Nat→Nat):Prop where
 bits:w.cell? ⟨g,0,none⟩=some (.int .i64 512)
 eng:∃ s R,EngAt .u64 w g 138 s R n∧Holds rw6 cubeK (firstS rw6 squareK) n bs s R∧s.lt 18446744073709551616∧∀ j,R j<256
theorem Made512.lt {w:World} {g n:Nat} {bs:Nat→Nat} (h:Made512 w g n bs):g<w.heap.size:=block_lt_of_cell h.bits
theorem Made512.below {w w':World} {g n:Nat} {bs:Nat→Nat} (h:Made512 w g n bs) (hb:Below w.heap.size w w'):Made512 w' g n bs:=by
 obtain ⟨s,R,h1,h2,h3,h4⟩:=h.eng
 exact ⟨(hb.cell (p:=⟨g,0,none⟩) h.lt).trans h.bits,s,R,h1.below hb,h2,h3,h4⟩
end Go.Proofs.YtibdhadbflfdpaaDoor
namespace Go.Proofs.YtibdhadbflfdpaaDoor
open Go.RowKit
def Parts (w:World) (gp cnt m:Nat) (t:Nat→Nat):Prop:=∃ (pvs:Nat→Value) (L:Nat→Nat),L 0=0∧L cnt=m∧∀ i,i<cnt→w.cell? ⟨gp,i,none⟩=some (pvs i)∧L i≤L (i+1)∧L (i+1)≤m∧BytesIn w (pvs i) (L (i+1) - L i) (fun j=>t (L i+j))
theorem Parts.below {w w':World} {gp cnt m:Nat} {t:Nat→Nat} (h:Parts w gp cnt m t) (hb:Below w.heap.size w w'):Parts w' gp cnt m t:=by
 obtain ⟨pvs,L,h0,h1,h2⟩:=h
 exact ⟨pvs,L,h0,h1,fun i hi=>⟨(hb.cell (p:=⟨gp,i,none⟩) (block_lt_of_cell (h2 i hi).1)).trans (h2 i hi).1,(h2 i hi).2.1,(h2 i hi).2.2.1,(h2 i hi).2.2.2.still hb⟩⟩
def padH (kv:Nat→Nat) (p m:Nat) (t:Nat→Nat):Nat→Nat:=outB 32 (specS rn cubeK squareK (64+m) (cat 64 (fun j=>kv j ^^^ p) t))
def tagH (kv:Nat→Nat) (m:Nat) (t:Nat→Nat):Nat→Nat:=padH kv 92 32 (padH kv 54 m t)
end Go.Proofs.YtibdhadbflfdpaaDoor
namespace Go.Proofs.YtibdhadbflfdpaaDoor
open Go.RowKit
structure RW (w:World) (g o:Nat) (cs:List Value):Prop where
 range:w.rangeAt g o cs
 there:w.there g o cs.length
 lt:g<w.heap.size
theorem RW.still {w w':World} {g o:Nat} {cs:List Value} (h:RW w g o cs) (hb:Below w.heap.size w w'):RW w' g o cs :=
 ⟨fun j v hv=>(hb.cell (p:=⟨g,o+j,none⟩) h.lt).trans (h.range j v hv),fun j hj=>by
   rw [hb.cell (p:=⟨g,o+j,none⟩) h.lt,hb.frozen (p:=⟨g,o+j,none⟩) h.lt];exact h.there j hj,Nat.lt_of_lt_of_le h.lt hb.size⟩
theorem RW.below {w w':World} {g o B:Nat} {cs:List Value} (h:RW w g o cs) (hb:Below B w w') (hB:g<B):RW w' g o cs :=
 ⟨fun j v hv=>(hb.cell (p:=⟨g,o+j,none⟩) hB).trans (h.range j v hv),fun j hj=>by
   rw [hb.cell (p:=⟨g,o+j,none⟩) hB,hb.frozen (p:=⟨g,o+j,none⟩) hB];exact h.there j hj,Nat.lt_of_lt_of_le h.lt hb.size⟩
theorem RW.far {w:World} {g o:Nat} {cs:List Value} (h:RW w g o cs) (b p:Nat) (ds:List Value) (hap:g≠b∨o+cs.length≤p∨p+ds.length≤o):RW (w.setCells b p ds) g o cs :=
 ⟨World.rangeAt_setCells_apart h.range _ _ _ hap,World.there_setCells h.there _ _ _,by rw [(setCells_same b ds p w).2.2.2];exact h.lt⟩
end Go.Proofs.YtibdhadbflfdpaaDoor
namespace Go.Proofs.YtibdhadbflfdpaaDoor
open Go.RowKit Go.Shelf
attribute [local go_sem] Oper.semAt_some
structure But (bad:Nat→Prop) (W W':World):Prop where
 os:W'.os=W.os
 tape:W'.tape=W.tape
 output:W'.output=W.output
 size:W.heap.size≤W'.heap.size
 block:∀ k,k<W.heap.size→¬bad k→W'.heap[k]? = W.heap[k]?
theorem But.refl (bad:Nat→Prop) (W:World):But bad W W:=⟨rfl,rfl,rfl,Nat.le_refl _,fun _ _ _=>rfl⟩
theorem But.trans {bad:Nat→Prop} {A B C:World} (h:But bad A B) (k:But bad B C):But bad A C:=⟨k.os.trans h.os,k.tape.trans h.tape,k.output.trans h.output,Nat.le_trans h.size k.size,fun i hi hb=>(k.block i (Nat.lt_of_lt_of_le hi h.size) hb).trans (h.block i hi hb)⟩
theorem But.row {bad:Nat→Prop} {W W':World} (h:But bad W W') {K:IntKind} {b o n:Nat} {X:Nat→Nat} (hr:RowAt K W b o n X) (hb:¬bad b):RowAt K W' b o n X:=fun j hj=>by
 have hl:b<W.heap.size:=block_lt_of_cell (hr j hj).1
 exact ⟨(World.cell?_of_block (w:=W) (h.block b hl hb)).trans (hr j hj).1,(World.frozen?_of_block (w:=W) (h.block b hl hb)).trans (hr j hj).2⟩
theorem But.cell {bad:Nat→Prop} {W W':World} (h:But bad W W') {b o:Nat} {v:Value} (hc:W.cell? ⟨b,o,none⟩=some v) (hb:¬bad b):W'.cell? ⟨b,o,none⟩=some v :=
 (World.cell?_of_block (w:=W) (h.block b (block_lt_of_cell hc) hb)).trans hc
theorem But.below {bad:Nat→Prop} {W W':World} (h:But bad W W') {B:Nat} (hB:B≤W.heap.size) (hb:∀ k,bad k→B≤k):Below B W W':=⟨h.os,h.tape,h.output,h.size,fun k hk=>h.block k (by omega) (fun hk'=>by have:=hb k hk';omega)⟩
theorem But.mono {b c:Nat→Prop} {W W':World} (h:But b W W') (hb:∀ k,b k→c k):But c W W':=⟨h.os,h.tape,h.output,h.size,fun k hk hc=>h.block k hk (fun e=>hc (hb k e))⟩
end Go.Proofs.YtibdhadbflfdpaaDoor
namespace Go.Proofs.YtibdhadbflfdpaaDoor
open Go.RowKit Go.Shelf
attribute [local go_sem] Oper.semAt_some
def tE (kv:Nat→Nat) (m:Nat) (info:Nat→Nat):Nat→Nat→Nat
 | 0=>fun _=>0
 | i+1=>tagH kv ((if i=0 then 0 else 32)+m+1) (cat (if i=0 then 0 else 32) (tE kv m info i) (cat m info (fun _=>i+1)))
end Go.Proofs.YtibdhadbflfdpaaDoor
namespace Go.Proofs.YtibdhadbflfdpaaDoor
open Go.RowKit Go.Shelf
attribute [local go_sem] Oper.semAt_some
def outF (kv:Nat→Nat) (m:Nat) (info:Nat→Nat) (a:Nat):Nat→Nat:=fun q=>if q<a then tE kv m info (q / 32+1) (q%32) else 0
structure ExInv (w:World) (l D N:Nat) (rec:Loop) (kv:Nat→Nat) (m:Nat) (info:Nat→Nat) (j:Nat) (W:World):Prop where
 lp:W.heap[l]? = some (.loop rec)
 dfr:W.heap[D]? = some (.deferred (some []))
 nb:W.cell? ⟨w.heap.size,0,none⟩=some (.int .i64 N)
 xb:W.cell? ⟨w.heap.size+1+1,0,none⟩=some (.slice (some ⟨w.heap.size+1,0,none⟩) N N)
 ab:W.cell? ⟨w.heap.size+1+1+1,0,none⟩=some (.int .i64 (32*j:Nat))
 abf:W.frozen? ⟨w.heap.size+1+1+1,0,none⟩=false
 row:RowAt .u8 W (w.heap.size+1) 0 N (outF kv m info (32*j))
 few:j=0∨32*j<N
theorem ExInv.below {w:World} {l D N:Nat} {rec:Loop} {kv:Nat→Nat} {m:Nat} {info:Nat→Nat} {j:Nat} {W W':World} (h:ExInv w l D N rec kv m info j W) (hb:Below W.heap.size W W'):ExInv w l D N rec kv m info j W' :=
 ⟨(hb.block l (Array.getElem?_eq_some_iff.1 h.lp).1).trans h.lp,(hb.block D (Array.getElem?_eq_some_iff.1 h.dfr).1).trans h.dfr,(hb.cell (block_lt_of_cell h.nb)).trans h.nb,(hb.cell (block_lt_of_cell h.xb)).trans h.xb,(hb.cell (block_lt_of_cell h.ab)).trans h.ab,(hb.frozen (block_lt_of_cell h.ab)).trans h.abf,fun q hq=>⟨(hb.cell (block_lt_of_cell (h.row q hq).1)).trans (h.row q hq).1,(hb.frozen (block_lt_of_cell (h.row q hq).1)).trans (h.row q hq).2⟩,h.few⟩
end Go.Proofs.YtibdhadbflfdpaaDoor
namespace Go.Proofs.YtibdhadbflfdpaaDoor
open Go.RowKit
structure Rd where
 at_:Nat
 e:Int
end Go.Proofs.YtibdhadbflfdpaaDoor
namespace Go.Proofs.YtibdhadbflfdpaaDoor
open Go.RowKit
def RdR (w:World) (g L:Nat) (B:Nat→Nat) (r:Rd):Prop:=∃ v,RW w g 0 [v,.int .i64 (r.at_:Int),.int .i64 r.e]∧BytesIn w v L B∧r.at_≤L
theorem RdR.lt {w:World} {g L:Nat} {B:Nat→Nat} {r:Rd} (h:RdR w g L B r):g<w.heap.size:=by
 obtain ⟨_,r,_⟩:=h
 exact r.lt
end Go.Proofs.YtibdhadbflfdpaaDoor
namespace Go.Proofs.YtibdhadbflfdpaaDoor
open Go.RowKit
theorem HTab.still5 {w w':World} {K q:Nat→Nat} (h:HTab w K q) (hb:Below w.heap.size w w'):HTab w' K q:=h.below hb h.size
structure TabAt (w:World):Prop where
 h:HTab w cubeK squareK
theorem TabAt.still {w w':World} (h:TabAt w) (hb:Below w.heap.size w w'):TabAt w':=⟨h.h.still5 hb⟩
structure LntAt (W:World) (g cap n:Nat) (bs:Nat→Nat):Prop where
 cap:n+2≤cap
 row:RowAt .u8 W g 0 (n+2) (cat n bs room)
theorem LntAt.still {W W':World} {g cap n:Nat} {bs:Nat→Nat} (h:LntAt W g cap n bs) (hb:Below W.heap.size W W'):LntAt W' g cap n bs:=⟨h.cap,h.row.below hb (block_lt_of_cell (h.row 0 (by omega)).1)⟩
structure Cs (W:World) (v:Value) (S:ByteArray):Prop where
 conv:∀ w,Below W.heap.size W w→(convert 22 9 v).run Tryd.prog w = .ok (.string S) w
theorem Cs.still {W W':World} {v:Value} {S:ByteArray} (h:Cs W v S) (hb:Below W.heap.size W W'):Cs W' v S:=⟨fun w hw=>h.conv w (below_next hb hw)⟩
end Go.Proofs.YtibdhadbflfdpaaDoor
namespace Go.Proofs.YtibdhadbflfdpaaDoor
open Go Go.RowKit
def lay (cs:Array Value):Obj→Obj
 | .cells _ t frozen => .cells cs t frozen
 | o=>o
def tabA (l:List Nat):Array Value:=(l.map fun n:Nat=>Value.int .u64 (n:Int)).toArray
def rulA (m r:Nat) (l:List Nat):Array Value:=([Value.int .i64 m,.int .i64 r] ++ l.map fun n:Nat=>Value.int .u64 (n:Int)).toArray
noncomputable def laidWorldH (os:Os):World :=
 { World.holding Tryd.prog os ⟨#[],#[],[]⟩ with heap:=(((((World.holding Tryd.prog os ⟨#[],#[],[]⟩).heap.modify 2 (lay (tabA cubesL))).modify 1 (lay (tabA squaresL))).modify 0 (lay (rulA 32 64 [7,18,3,17,19,10,2,13,22,6,11,25]))).modify 3 (lay (rulA 64 80 [1,8,7,19,61,6,28,34,39,14,18,41]))) }
end Go.Proofs.YtibdhadbflfdpaaDoor
