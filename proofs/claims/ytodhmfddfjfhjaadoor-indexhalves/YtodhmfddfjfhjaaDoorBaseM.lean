/- What the proof stands on: Base, I2Math, I2Ref, I2Rp, I2Rb, I2Own, I2Rw, I2Fl, I2Fm, I2Tz, I2Nm, I2Hf. -/
import Derived.Test.YtodhmfddfjfhjaaDoorRows
import Derived.ArgAppend
import Derived.BigQuiet
import Derived.Deep.AppendLies
import Derived.Deep.MidRow
import Derived.Deep.QuietTactic
import Derived.Deep.RegionHeld3
import Derived.Deep.RegionLawGrows
import Derived.Deep.Upon
import Derived.Laws.Bits64
import Derived.Laws.Bits64b
import Derived.Laws.BitsAllLaws
import Derived.Laws.Externs
import Derived.Laws.FloatArith
import Derived.Lib.TrailingZeros
import Derived.WalkKit
import Derived.WalkLawsBesides
import Derived.WalkSpells
namespace Go.Proofs.YtodhmfddfjfhjaaDoor
open Go.RowKit
theorem Hid.mk' {P:Prop} (h:P):Hid P:=h
def upd (X:Nat→Nat) (i v:Nat):Nat→Nat:=fun j=>if j=i then v else X j
def RowAt (K:IntKind) (w:World) (b o n:Nat) (X:Nat→Nat):Prop:=∀ j,j<n→w.cell? ⟨b,o+j,none⟩=some (.int K (X j))∧w.frozen? ⟨b,o+j,none⟩=false
theorem RowAt.drew {K:IntKind} {w:World} {b o n:Nat} {X:Nat→Nat} (h:RowAt K w b o n X):RowAt K w.drew b o n X:=fun j hj=>h j hj
theorem RowAt.set {K:IntKind} {w:World} {b o n:Nat} {X:Nat→Nat} (h:RowAt K w b o n X) {i:Nat} (hi:i<n) {v:Int} {u:Nat} (hv:v=(u:Int)):RowAt K (w.setCell ⟨b,o+i,none⟩ (.int K v)) b o n (upd X i u):=fun j hj=>by
 refine ⟨?_,by rw [World.frozen?_setCell];exact (h j hj).2⟩
 by_cases e:j=i
 · subst e;rw [World.cell?_setCell_same _ _ _ (h j hj).1];simp [upd,hv]
 · have hne:(⟨b,o+i,none⟩:Addr)≠⟨b,o+j,none⟩:=fun h=>by injection h;omega
   rw [World.cell?_setCell_other _ _ _ _ hne];simp [upd,e,(h j hj).1]
theorem RowAt.below {K:IntKind} {B:Nat} {w w':World} {b o n:Nat} {X:Nat→Nat} (h:RowAt K w b o n X) (hb:Below B w w') (hB:b<B):RowAt K w' b o n X:=fun j hj =>
 ⟨(hb.cell (p:=⟨b,o+j,none⟩) hB).trans (h j hj).1,(hb.frozen (p:=⟨b,o+j,none⟩) hB).trans (h j hj).2⟩
theorem RowAt.alloc {K:IntKind} {w:World} {b o n:Nat} {X:Nat→Nat} (h:RowAt K w b o n X) (hb:b<w.heap.size) (ob:Obj):RowAt K (w.alloc ob) b o n X :=
 h.below ((Below.refl w.heap.size w).alloc (Nat.le_refl _) ob) hb
def ints (K:IntKind) (n:Nat) (X:Nat→Nat):List Value:=(List.range n).map fun j => .int K (X j)
theorem ints_len (K:IntKind) (n:Nat) (X:Nat→Nat):(ints K n X).length=n:=by simp [ints]
theorem ints_at (K:IntKind) (n:Nat) (X:Nat→Nat) (j:Nat) (h:j<n):(ints K n X)[j]? = some (.int K (X j)):=by simp [ints,h]
theorem RowAt.range {K:IntKind} {w:World} {b o n:Nat} {X:Nat→Nat} (h:RowAt K w b o n X):w.rangeAt b o (ints K n X):=fun j v hv=>by
 have hj:j<n:=by have:=(List.getElem?_eq_some_iff.1 hv).1;rwa [ints_len] at this
 rw [ints_at K n X j hj] at hv
 rw [←hv];exact (h j hj).1
theorem RowAt.there {K:IntKind} {w:World} {b o n:Nat} {X:Nat→Nat} (h:RowAt K w b o n X):w.there b o n:=fun j hj=>by
 rw [(h j hj).1];exact ⟨rfl,(h j hj).2⟩
theorem below_next {W a b:World} (h:Below W.heap.size W a) (hb:Below a.heap.size a b):Below W.heap.size W b:=h.trans (hb.mono h.size)
def Near (b o:Nat) (W w':World):Prop:=∃ w0,Below W.heap.size W w0∧(w'=w0∨∃ u,w'=w0.setCell ⟨b,o,none⟩ u)
theorem Near.set {b o:Nat} {W w':World} (h:Below W.heap.size W w') (u:Value):Near b o W (w'.setCell ⟨b,o,none⟩ u):=⟨w',h,.inr ⟨u,rfl⟩⟩
theorem Near.cell {b o:Nat} {W w':World} (h:Near b o W w') (p q:Nat) (hp:p<W.heap.size) (hne:p=b→q≠o):w'.cell? ⟨p,q,none⟩=W.cell? ⟨p,q,none⟩:=by
 obtain ⟨w0,hb,rfl | ⟨u,rfl⟩⟩:=h
 · exact hb.cell (p:=⟨p,q,none⟩) hp
 · rw [World.cell?_setCell_other _ _ _ _ (fun e=>by injection e with e1 e2;exact hne e1.symm e2.symm)];exact hb.cell (p:=⟨p,q,none⟩) hp
theorem Near.frozen {b o:Nat} {W w':World} (h:Near b o W w') (p q:Nat) (hp:p<W.heap.size):w'.frozen? ⟨p,q,none⟩=W.frozen? ⟨p,q,none⟩:=by
 obtain ⟨w0,hb,rfl | ⟨u,rfl⟩⟩:=h
 · exact hb.frozen (p:=⟨p,q,none⟩) hp
 · rw [World.frozen?_setCell];exact hb.frozen (p:=⟨p,q,none⟩) hp
theorem Near.some {b o:Nat} {W w':World} (h:Near b o W w') {v:Value} (hv:W.cell? ⟨b,o,none⟩ = .some v):∃ u,w'.cell? ⟨b,o,none⟩ = .some u:=by
 obtain ⟨w0,hb,rfl | ⟨u,rfl⟩⟩:=h
 · exact ⟨v,(hb.cell (p:=⟨b,o,none⟩) (block_lt_of_cell hv)).trans hv⟩
 · exact ⟨u,World.cell?_setCell_same _ _ _ ((hb.cell (p:=⟨b,o,none⟩) (block_lt_of_cell hv)).trans hv)⟩
structure Out (b o n:Nat) (w w':World):Prop where
 os:w'.os=w.os
 tape:w'.tape=w.tape
 output:w'.output=w.output
 size:w.heap.size≤w'.heap.size
 block:∀ k,k<w.heap.size→k≠b→w'.heap[k]? = w.heap[k]?
 cell:∀ q,(q<o∨o+n≤q)→w'.cell? ⟨b,q,none⟩=w.cell? ⟨b,q,none⟩
 frozen:∀ q,w'.frozen? ⟨b,q,none⟩=w.frozen? ⟨b,q,none⟩
theorem Out.refl (b o n:Nat) (w:World):Out b o n w w:=⟨rfl,rfl,rfl,Nat.le_refl _,fun _ _ _=>rfl,fun _ _=>rfl,fun _=>rfl⟩
theorem Out.trans {b o n:Nat} {u v w:World} (h:Out b o n u v) (k:Out b o n v w):Out b o n u w :=
 ⟨k.os.trans h.os,k.tape.trans h.tape,k.output.trans h.output,Nat.le_trans h.size k.size,fun i hi hb=>(k.block i (Nat.lt_of_lt_of_le hi h.size) hb).trans (h.block i hi hb),fun q hq=>(k.cell q hq).trans (h.cell q hq),fun q=>(k.frozen q).trans (h.frozen q)⟩
theorem heap_setCells_other (b:Nat):∀ (vs:List Value) (o:Nat) (w:World) (k:Nat),k≠b→(w.setCells b o vs).heap[k]? = w.heap[k]?
 | [],_,_,_,_=>rfl
 | v :: r,o,w,k,h=>by rw [World.setCells,heap_setCells_other b r (o+1) _ k h];exact Below.heap_setCell w ⟨b,o,none⟩ v k h
theorem setCells_same (b:Nat):∀ (vs:List Value) (o:Nat) (w:World),(w.setCells b o vs).os=w.os∧(w.setCells b o vs).tape=w.tape∧(w.setCells b o vs).output=w.output∧(w.setCells b o vs).heap.size=w.heap.size
 | [],_,_=>⟨rfl,rfl,rfl,rfl⟩
 | v :: r,o,w=>by
  have h:=setCells_same b r (o+1) (w.setCell ⟨b,o,none⟩ v)
  rw [World.setCells]
  exact ⟨h.1,h.2.1,h.2.2.1,by rw [h.2.2.2];simp⟩
theorem Out.setCells {b o n:Nat} (w:World) {p:Nat} (vs:List Value) (h1:o≤p) (h2:p+vs.length≤o+n):Out b o n w (w.setCells b p vs):=by
 have h:=setCells_same b vs p w
 refine ⟨h.1,h.2.1,h.2.2.1,by rw [h.2.2.2];exact Nat.le_refl _,fun k _ hk=>heap_setCells_other b vs p w k hk,fun q hq => ?_,fun q=>World.frozen?_setCells b vs p w _⟩
 exact World.cell?_setCells_out b vs p w _ (fun _ _=>by show q<p∨p+vs.length≤q;omega)
theorem Out.drew {b o n:Nat} (w:World):Out b o n w w.drew:=⟨rfl,rfl,rfl,Nat.le_refl _,fun _ _ _=>rfl,fun _ _=>rfl,fun _=>rfl⟩
theorem Out.setCell {b o n:Nat} (w:World) {p:Nat} (v:Value) (h1:o≤p) (h2:p<o+n):Out b o n w (w.setCell ⟨b,p,none⟩ v) :=
 Out.setCells w [v] h1 (by simp;omega)
theorem Out.below {b o n B:Nat} {w w':World} (h:Out b o n w w') (hb:B≤b) (hB:B≤w.heap.size):Below B w w' :=
 ⟨h.os,h.tape,h.output,h.size,fun k hk=>h.block k (by omega) (by omega)⟩
theorem Out.cell' {b o n:Nat} {w w':World} (h:Out b o n w w') {c q:Nat} (hc:c<w.heap.size) (hb:c≠b):w'.cell? ⟨c,q,none⟩=w.cell? ⟨c,q,none⟩:=World.cell?_of_block (w:=w) (h.block c hc hb)
theorem Out.frozen' {b o n:Nat} {w w':World} (h:Out b o n w w') {c q:Nat} (hc:c<w.heap.size) (hb:c≠b):w'.frozen? ⟨c,q,none⟩=w.frozen? ⟨c,q,none⟩:=World.frozen?_of_block (w:=w) (h.block c hc hb)
def BytesIn (w:World) (v:Value) (n:Nat) (bs:Nat→Nat):Prop:=(∃ xo,v = .slice xo 0 0∧n=0)∨∃ bb ob cap,v = .slice (some ⟨bb,ob,none⟩) n cap∧bb<w.heap.size∧n≤cap∧∀ j,j<n→w.cell? ⟨bb,ob+j,none⟩=some (.int .u8 (bs j))
theorem one_new (w:World) (v:Value) (t:TypeId):∀ j u,[v][j]? = some u→(w.alloc (.cells #[v] t)).cell? ((⟨w.heap.size,0,none⟩:Addr).add j)=some u:=fun j u h=>by
 match j,h with
 | 0,h=>simp at h;subst h;rw [Addr.add_mid];simp
theorem one_cell (K:IntKind) (x:Int):∀ u∈[Value.int K x],u.oneCell'=true:=fun u hu=>by simp at hu;subst hu;rfl
theorem below_grown {B:Nat} {a w w':World} {v:Value} {base:Nat} {e:TypeId} {size n:Nat} {xs:List Value} (h:Below B a w) (hg:w.grownBy w' v.ownBlock) (ho:w.ownsRow base e size v n xs) (hB:B≤base) (hs:B≤w.heap.size):Below B a w' :=
 h.grown hg hs (fun k hk=>Nat.le_trans hB (ho.lt k hk).1)
theorem own_below {w w':World} {base:Nat} {e:TypeId} {size:Nat} {v:Value} {n:Nat} {xs:List Value} (h:w.ownsRow base e size v n xs) (hb:Below w.heap.size w w'):w'.ownsRow base e size v n xs :=
 h.kept (row:=none) ⟨hb.os,hb.tape,hb.output,hb.size,fun k hk _=>hb.block k hk⟩ (by cases hv:v.ownBlock with | none=>exact .inl rfl | some b=>exact .inr (by simp))
def Own (base:Nat) (w:World) (v:Value) (n:Nat) (X:Nat→Nat):Prop:=w.ownsRow base 5 1 v n (ints .u8 n X)
theorem Own.below {base:Nat} {w w':World} {v:Value} {n:Nat} {X:Nat→Nat} (h:Own base w v n X) (hb:Below w.heap.size w w'):Own base w' v n X:=own_below h hb
theorem Own.alloc {base:Nat} {w:World} {v:Value} {n:Nat} {X:Nat→Nat} (h:Own base w v n X) (o:Obj):Own base (w.alloc o) v n X:=h.below ((Below.refl _ _).alloc (Nat.le_refl _) _)
theorem Own.form {base:Nat} {w:World} {v:Value} {n:Nat} {X:Nat→Nat} (h:Own base w v n X):(v = .slice none 0 0∧n=0)∨∃ g cap,v = .slice (some ⟨g,0,none⟩) n cap∧base≤g∧g<w.heap.size∧n≤cap∧RowAt .u8 w g 0 n X:=by
 rcases h.2 with hv | ⟨g,cap,cur,rfl,hb,hg,hn,_⟩
 · exact .inl hv
 · refine .inr ⟨g,cap,rfl,hb,(h.lt g rfl).2,hn,fun j hj => ?_⟩
   rw [Nat.zero_add]
   exact ⟨by rw [World.ownsRow.cellAt h j (by omega),ints_at _ _ _ j hj],World.ownsRow.frozenAt h j⟩
theorem Own.slice {base:Nat} {w:World} {v:Value} {n:Nat} {X:Nat→Nat} (h:Own base w v n X):∃ x c,v = .slice x n c:=by
 rcases h.form with ⟨hv,e0⟩ | ⟨g,c,hv,_⟩
 · exact ⟨none,0,by rw [hv,e0]⟩
 · exact ⟨_,c,hv⟩
theorem Own.nil (base:Nat) (w:World) (X:Nat→Nat):Own base w (.slice none 0 0) 0 X:=World.ownsRow_nil w base _ _
theorem Own.lit (base:Nat) (w:World) (X:Nat→Nat) (h:base≤w.heap.size):Own base (w.alloc (.cells #[] 5)) (.slice (some ⟨w.heap.size,0,none⟩) 0 0) 0 X:=World.ownsRow_lit w #[] 0 h (by decide) rfl
theorem Own.grown {B base:Nat} {a w w':World} {v:Value} {n:Nat} {X:Nat→Nat} (h:Below B a w) (hg:w.grownBy w' v.ownBlock) (ho:Own base w v n X) (hB:B≤base) (hs:B≤w.heap.size):Below B a w':=below_grown h hg ho hB hs
theorem BytesIn.keep {w w':World} {v:Value} {n:Nat} {bs:Nat→Nat} (h:BytesIn w v n bs) (hb:Below w.heap.size w w'):BytesIn w' v n bs:=by
 rcases h with h | ⟨bb,ob,cap,rfl,h1,h2,h3⟩
 · exact .inl h
 · exact .inr ⟨bb,ob,cap,rfl,Nat.lt_of_lt_of_le h1 hb.size,h2,fun j hj=>(hb.cell (p:=⟨bb,ob+j,none⟩) h1).trans (h3 j hj)⟩
theorem BytesIn.still {w w':World} {v:Value} {n:Nat} {bs:Nat→Nat} (h:BytesIn w v n bs) (hb:Below w.heap.size w w'):BytesIn w' v n bs:=by
 rcases h with h | ⟨bb,ob,cap,rfl,h1,h2,h3⟩
 · exact .inl h
 · exact .inr ⟨bb,ob,cap,rfl,Nat.lt_of_lt_of_le h1 hb.size,h2,fun j hj=>(hb.cell (p:=⟨bb,ob+j,none⟩) h1).trans (h3 j hj)⟩
end Go.Proofs.YtodhmfddfjfhjaaDoor
namespace Go.Proofs.YtodhmfddfjfhjaaDoor
open Go.RowKit
def levF:Nat→Nat→Nat
 | 0,_=>0
 | f+1,x=>if x%2=1 then levF f (x / 2)+1 else 0
def levN (x:Nat):Nat:=levF 64 x
theorem levF_more:∀ f x,x<2 ^ f→levF (f+1) x=levF f x
 | 0,x,h=>by
  have:x=0:=by simpa using h
  subst this
  rfl
 | f+1,x,h=>by
  show (if x%2=1 then levF (f+1) (x / 2)+1 else 0)=(if x%2=1 then levF f (x / 2)+1 else 0)
  rw [levF_more f (x / 2) (by have:2 ^ (f+1)=2 ^ f*2:=rfl;omega)]
theorem levN_odd {x:Nat} (h:x<9223372036854775808) (ho:x%2=1):levN x=levN (x / 2)+1:=by
 show (if x%2=1 then levF 63 (x / 2)+1 else 0)=levF 64 (x / 2)+1
 rw [if_pos ho,levF_more 63 (x / 2) (by show x / 2<9223372036854775808;omega)]
theorem levN_even {x:Nat} (he:¬x%2=1):levN x=0:=by
 show (if x%2=1 then levF 63 (x / 2)+1 else 0)=0
 rw [if_neg he]
theorem levF_le:∀ f x,levF f x≤f
 | 0,_=>Nat.le_refl _
 | f+1,x=>by
  show (if x%2=1 then levF f (x / 2)+1 else 0)≤f+1
  have:=levF_le f (x / 2)
  split <;> omega
def mayB (l:Int):Bool:=l == 1 || l == 2 || l == 4 || l == 8 || l == 16 || l == 32 || l == 64
theorem mayB_cases {l:Int} (h:mayB l=true):l=1∨l=2∨l=4∨l=8∨l=16∨l=32∨l=64:=by
 unfold mayB at h
 simpa [or_assoc] using h
def innB (x:Int):Bool:=decide (0≤x) && decide (x<127) && decide (x%2=1)
def lftN (x:Nat):Nat:=x - 2 ^ (levN x - 1)
def rgtN (x:Nat):Nat:=x+2 ^ (levN x - 1)
def lftA (x:Int):Int × Bool:=if innB x then ((lftN x.toNat:Int),true) else (-1,false)
def rgtA (x:Int):Int × Bool:=if innB x then ((rgtN x.toNat:Int),true) else (-1,false)
def hitB (x:Int) (y:Nat):Bool:=y%2 == 1 && ((lftN y:Int) == x || (rgtN y:Int) == x)
def parF (x:Int):Nat→Nat→Option Nat
 | _,0=>none
 | y,f+1=>if hitB x y then some y else parF x (y+1) f
def widN (l:Int):Nat:=if mayB l then (2*l - 1).toNat else 0
def parN (x l:Int):Option Nat:=parF x 0 (widN l)
def ansP:Option Nat→Int × Bool
 | some p=>((p:Int),true)
 | none=>(-1,false)
def parA (x l:Int):Int × Bool:=ansP (parN x l)
def ansS (x:Int):Option Nat→Int × Bool
 | some p=>((lftN p:Int)+(rgtN p:Int) - x,true)
 | none=>(-1,false)
def sibA (x l:Int):Int × Bool:=ansS x (parN x l)
def theB (i l:Int):Bool:=mayB l && decide (0≤i) && decide (i<l)
def belF:Nat→Nat→Int→Bool
 | 0,x,i=>decide ((x:Int)=2*i)
 | f+1,x,i=>if x%2=0 then decide ((x:Int)=2*i) else belF f (lftN x) i || belF f (rgtN x) i
def belB (x i:Int):Bool:=if x<0∨127≤x∨i<0∨64≤i then false else belF 7 x.toNat i
end Go.Proofs.YtodhmfddfjfhjaaDoor
namespace Go.Proofs.YtodhmfddfjfhjaaDoor
open Go.RowKit
set_option maxRecDepth 20000 in
set_option maxHeartbeats 4000000 in
theorem rMay_any (l:Int) (w:World):Calls Tryd.prog 42 #[.int .i64 l] w fun e w'=>e = .returned (.bool (mayB l))∧w=w':=by
 go_enter Tryd.func42,Tryd.ntmps42
 go_wp2
 go_loopw [3] (fun i wr=>∃ k:Nat,k≤7∧i = .int .i64 ((2 ^ k:Nat):Int)∧w=wr∧∀ j,j<k→¬((2 ^ j:Nat):Int)=l) (fun i _=>(128 - intOf i).toNat)
 case atStart=>exact ⟨0,Nat.zero_le _,rfl,rfl,fun j hj=>absurd hj (Nat.not_lt_zero _)⟩
 case round =>
  obtain ⟨k,hk,rfl,rfl,hl⟩:=hrel
  have Hl:=Hid.mk' hl
  clear hl
  rcases (show k=0∨k=1∨k=2∨k=3∨k=4∨k=5∨k=6∨k=7 by omega) with rfl | rfl | rfl | rfl | rfl | rfl | rfl | rfl
  · rw [show (((2 ^ 0:Nat)):Int)=1 from rfl]
    by_cases hE:(1:Int)=l
    · subst hE
      go_wp2
      go_ret
      exact ⟨rfl,rfl⟩
    · have hE':¬l=1:=fun e=>hE e.symm
      go_wp2
      go_roundw
      case rel=>exact ⟨1,by decide,rfl,trivial,fun j hj=>by
       by_cases e:j=0
       · subst e;exact hE
       · exact Hl.out j (by omega)⟩
      case measure=>simp [intOf]
  · rw [show (((2 ^ 1:Nat)):Int)=2 from rfl]
    by_cases hE:(2:Int)=l
    · subst hE
      go_wp2
      go_ret
      exact ⟨rfl,rfl⟩
    · have hE':¬l=2:=fun e=>hE e.symm
      go_wp2
      go_roundw
      case rel=>exact ⟨2,by decide,rfl,trivial,fun j hj=>by
       by_cases e:j=1
       · subst e;exact hE
       · exact Hl.out j (by omega)⟩
      case measure=>simp [intOf]
  · rw [show (((2 ^ 2:Nat)):Int)=4 from rfl]
    by_cases hE:(4:Int)=l
    · subst hE
      go_wp2
      go_ret
      exact ⟨rfl,rfl⟩
    · have hE':¬l=4:=fun e=>hE e.symm
      go_wp2
      go_roundw
      case rel=>exact ⟨3,by decide,rfl,trivial,fun j hj=>by
       by_cases e:j=2
       · subst e;exact hE
       · exact Hl.out j (by omega)⟩
      case measure=>simp [intOf]
  · rw [show (((2 ^ 3:Nat)):Int)=8 from rfl]
    by_cases hE:(8:Int)=l
    · subst hE
      go_wp2
      go_ret
      exact ⟨rfl,rfl⟩
    · have hE':¬l=8:=fun e=>hE e.symm
      go_wp2
      go_roundw
      case rel=>exact ⟨4,by decide,rfl,trivial,fun j hj=>by
       by_cases e:j=3
       · subst e;exact hE
       · exact Hl.out j (by omega)⟩
      case measure=>simp [intOf]
  · rw [show (((2 ^ 4:Nat)):Int)=16 from rfl]
    by_cases hE:(16:Int)=l
    · subst hE
      go_wp2
      go_ret
      exact ⟨rfl,rfl⟩
    · have hE':¬l=16:=fun e=>hE e.symm
      go_wp2
      go_roundw
      case rel=>exact ⟨5,by decide,rfl,trivial,fun j hj=>by
       by_cases e:j=4
       · subst e;exact hE
       · exact Hl.out j (by omega)⟩
      case measure=>simp [intOf]
  · rw [show (((2 ^ 5:Nat)):Int)=32 from rfl]
    by_cases hE:(32:Int)=l
    · subst hE
      go_wp2
      go_ret
      exact ⟨rfl,rfl⟩
    · have hE':¬l=32:=fun e=>hE e.symm
      go_wp2
      go_roundw
      case rel=>exact ⟨6,by decide,rfl,trivial,fun j hj=>by
       by_cases e:j=5
       · subst e;exact hE
       · exact Hl.out j (by omega)⟩
      case measure=>simp [intOf]
  · rw [show (((2 ^ 6:Nat)):Int)=64 from rfl]
    by_cases hE:(64:Int)=l
    · subst hE
      go_wp2
      go_ret
      exact ⟨rfl,rfl⟩
    · have hE':¬l=64:=fun e=>hE e.symm
      go_wp2
      go_roundw
      case rel=>exact ⟨7,by decide,rfl,trivial,fun j hj=>by
       by_cases e:j=6
       · subst e;exact hE
       · exact Hl.out j (by omega)⟩
      case measure=>simp [intOf]
  · have hx:mayB l=false:=by
     have h0:=Hl.out 0 (by decide)
     have h1:=Hl.out 1 (by decide)
     have h2:=Hl.out 2 (by decide)
     have h3:=Hl.out 3 (by decide)
     have h4:=Hl.out 4 (by decide)
     have h5:=Hl.out 5 (by decide)
     have h6:=Hl.out 6 (by decide)
     replace h0:¬(1:Int)=l:=h0
     replace h1:¬(2:Int)=l:=h1
     replace h2:¬(4:Int)=l:=h2
     replace h3:¬(8:Int)=l:=h3
     replace h4:¬(16:Int)=l:=h4
     replace h5:¬(32:Int)=l:=h5
     replace h6:¬(64:Int)=l:=h6
     unfold mayB
     simp
     omega
    rw [show (((2 ^ 7:Nat)):Int)=128 from rfl]
    go_wp2
    go_ret
    exact ⟨by rw [hx];rfl,rfl⟩
theorem rWidth_any (l:Int) (w:World):Calls Tryd.prog 17 #[.int .i64 l] w fun e w'=>e = .returned (.int .i64 (if mayB l then 2*l - 1 else -1))∧w=w':=by
 have c:=rMay_any l w
 by_cases h:mayB l=true
 · rw [h] at c
   rw [if_pos h]
   rcases mayB_cases h with rfl | rfl | rfl | rfl | rfl | rfl | rfl <;>
   · go_enter Tryd.func17,Tryd.ntmps17
     go_wp2_with (go_at_call 42;refine c.mono ?_;clear c;rintro e w1 ⟨rfl,hw⟩;subst hw)
     go_ret
     exact ⟨rfl,rfl⟩
 · rw [if_neg h]
   replace h:mayB l=false:=by simpa using h
   rw [h] at c
   go_enter Tryd.func17,Tryd.ntmps17
   go_wp2_with (go_at_call 42;refine c.mono ?_;clear c;rintro e w1 ⟨rfl,hw⟩;subst hw)
   go_ret
   exact ⟨rfl,rfl⟩
theorem rRoot_any (l:Int) (w:World):Calls Tryd.prog 19 #[.int .i64 l] w fun e w'=>e = .returned (.int .i64 (if mayB l then l - 1 else -1))∧w=w':=by
 have c:=rMay_any l w
 by_cases h:mayB l=true
 · rw [h] at c
   rw [if_pos h]
   rcases mayB_cases h with rfl | rfl | rfl | rfl | rfl | rfl | rfl <;>
   · go_enter Tryd.func19,Tryd.ntmps19
     go_wp2_with (go_at_call 42;refine c.mono ?_;clear c;rintro e w1 ⟨rfl,hw⟩;subst hw)
     go_ret
     exact ⟨rfl,rfl⟩
 · rw [if_neg h]
   replace h:mayB l=false:=by simpa using h
   rw [h] at c
   go_enter Tryd.func19,Tryd.ntmps19
   go_wp2_with (go_at_call 42;refine c.mono ?_;clear c;rintro e w1 ⟨rfl,hw⟩;subst hw)
   go_ret
   exact ⟨rfl,rfl⟩
set_option maxRecDepth 20000 in
theorem rLevel_neg (x:Int) (h:x<0) (w:World):Calls Tryd.prog 21 #[.int .i64 x] w fun e w'=>e = .returned (.int .i64 (-1))∧w=w':=by
 go_enter Tryd.func21,Tryd.ntmps21
 go_wp2
 go_ret
 exact ⟨rfl,rfl⟩
set_option maxRecDepth 20000 in
set_option maxHeartbeats 4000000 in
theorem rLevel_pos (x:Nat) (hx:x<9223372036854775808) (w:World):Calls Tryd.prog 21 #[.int .i64 (x:Int)] w fun e w'=>e = .returned (.int .i64 ((levN x:Nat):Int))∧w=w':=by
 have h0:¬(x:Int)<0:=by omega
 go_enter Tryd.func21,Tryd.ntmps21
 go_wp2
 go_loopw [0,3] (fun a n wr=>∃ m k:Nat,a = .int .i64 (m:Int)∧n = .int .i64 (k:Int)∧Hid (k+levN m=levN x∧m≤x∧k≤64)∧w=wr) (fun a _ _=>(intOf a).toNat)
 case atStart=>exact ⟨x,0,rfl,rfl,Hid.mk' ⟨by omega,Nat.le_refl _,by decide⟩,rfl⟩
 case round =>
  obtain ⟨m,k,rfl,rfl,HH,rfl⟩:=hrel
  by_cases ho:m%2=1
  · have e1:=levN_odd (x:=m) (by have:=HH.out;omega) ho
    have t1:Int.tmod (m:Int) 2=1:=by rw [Int.tmod_eq_emod_of_nonneg (by omega)];omega
    have e2:Int.tdiv (m:Int) 2=((m / 2:Nat):Int):=by rw [Int.tdiv_eq_ediv_of_nonneg (by omega)];omega
    have hl:levN x≤64:=levF_le 64 x
    have hk:k+1≤64:=by have:=HH.out.1;omega
    have e3:IntKind.i64.wrap ((k:Int)+1)=(k:Int)+1:=by simp only [IntKind.wrap_i64];omega
    have HE:Hid (k+1+levN (m / 2)=levN x∧m / 2≤x∧k+1≤64):=by have:=HH.out;exact ⟨by omega,by omega,hk⟩
    have hm2:m / 2<m:=by omega
    have e4:IntKind.i64.wrap ((m / 2:Nat):Int)=((m / 2:Nat):Int):=by have:=HH.out;simp only [IntKind.wrap_i64];omega
    clear e1 ho hl HH
    generalize m / 2=m2 at *
    go_wp2
    go_roundw
    case rel=>exact ⟨m2,k+1,rfl,by go_num,HE,trivial⟩
    case measure=>simp [intOf];omega
  · have e1:=levN_even ho
    have t1:Int.tmod (m:Int) 2=0:=by rw [Int.tmod_eq_emod_of_nonneg (by omega)];omega
    have hh:levN x=k:=by
     obtain ⟨h1,h2,h3⟩:=HH.out
     omega
    have HE:=Hid.mk' hh
    clear hh
    clear e1 ho HH
    go_wp2
    go_ret
    exact ⟨by rw [HE.out];rfl,rfl⟩
theorem rInner_any (x:Int) (w:World):Calls Tryd.prog 36 #[.int .i64 x] w fun e w'=>e = .returned (.bool (innB x))∧w=w':=by
 unfold innB
 by_cases h0:0≤x
 · by_cases h1:x<127
   · have e1:Int.tmod x 2=x%2:=Int.tmod_eq_emod_of_nonneg h0
     by_cases h2:x%2=1
     · go_enter Tryd.func36,Tryd.ntmps36
       go_wp2
       go_ret
       exact ⟨by simp [h0,h1,h2],rfl⟩
     · go_enter Tryd.func36,Tryd.ntmps36
       go_wp2
       go_ret
       exact ⟨by simp [h0,h1,h2],rfl⟩
   · go_enter Tryd.func36,Tryd.ntmps36
     go_wp2
     go_ret
     exact ⟨by simp;omega,rfl⟩
 · go_enter Tryd.func36,Tryd.ntmps36
   go_wp2
   go_ret
   exact ⟨by simp;omega,rfl⟩
theorem innB_cases {x:Int} (h:innB x=true):∃ y:Nat,x=(y:Int)∧y<127∧y%2=1:=by
 unfold innB at h
 simp at h
 exact ⟨x.toNat,by omega,by omega,by omega⟩
theorem lev_small:∀ y,y<127→y%2=1→1≤levN y∧levN y≤6:=by
 have h:(List.range 127).all (fun y=>y%2 == 0 || (decide (1≤levN y) && decide (levN y≤6)))=true:=by kernel_rfl
 intro y hy ho
 have:=List.all_eq_true.1 h y (List.mem_range.2 hy)
 simp [ho] at this
 exact this
theorem rHalf_any (y:Nat) (hy:y<127) (ho:y%2=1) (w:World):Calls Tryd.prog 37 #[.int .i64 (y:Int)] w fun e w'=>e = .returned (.int .i64 ((2 ^ (levN y - 1):Nat):Int))∧w=w':=by
 have c:=rLevel_pos y (by omega) w
 have hl:=lev_small y hy ho
 generalize levN y=n at *
 rcases (show n=1∨n=2∨n=3∨n=4∨n=5∨n=6 by omega) with rfl | rfl | rfl | rfl | rfl | rfl <;>
 · go_enter Tryd.func37,Tryd.ntmps37
   go_wp2_with (go_at_call 21;refine c.mono ?_;clear c;rintro e w1 ⟨rfl,hw⟩;subst hw)
   go_ret
   exact ⟨rfl,rfl⟩
theorem rLeft_any (x:Int) (w:World):Calls Tryd.prog 9 #[.int .i64 x] w fun e w'=>e = .returned (.tuple #[.int .i64 (lftA x).1,.bool (lftA x).2])∧w=w':=by
 have c:=rInner_any x w
 unfold lftA
 by_cases h:innB x=true
 · rw [h] at c
   rw [if_pos h]
   obtain ⟨y,rfl,hy,ho⟩:=innB_cases h
   have c2:=rHalf_any y hy ho w
   have hl:=lev_small y hy ho
   have hle:2 ^ (levN y - 1)≤y:=by
    have hh:(List.range 127).all (fun y=>y%2 == 0 || decide (2 ^ (levN y - 1)≤y))=true:=by kernel_rfl
    have:=List.all_eq_true.1 hh y (List.mem_range.2 hy)
    simp [ho] at this
    exact this
   have e1:(y:Int) - ((2 ^ (levN y - 1):Nat):Int)=((lftN y:Nat):Int):=by unfold lftN;omega
   have hlt:lftN y≤y:=by unfold lftN;exact Nat.sub_le _ _
   have e2:wrap64 ((y:Int) - ((2 ^ (levN y - 1):Nat):Int))=((lftN y:Nat):Int):=by rw [e1];unfold wrap64;omega
   obtain ⟨p,hp⟩:∃ p:Int,p=((2 ^ (levN y - 1):Nat):Int):=⟨_,rfl⟩
   rw [←hp] at c2 e1 e2
   obtain ⟨z,hz⟩:∃ z:Int,z=((lftN y:Nat):Int):=⟨_,rfl⟩
   rw [←hz] at e1 e2
   rw [Int.toNat_natCast,←hz]
   clear hp hz hle hl e1 hlt
   go_enter Tryd.func9,Tryd.ntmps9
   go_wp2_with (first
    | (go_at_call 36;refine c.mono ?_;clear c;rintro e w1 ⟨rfl,hw⟩;subst hw)
    | (go_at_call 37;refine c2.mono ?_;clear c2;rintro e w1 ⟨rfl,hw⟩;subst hw))
   go_ret2
   exact ⟨by rw [←e2];rfl,rfl⟩
 · rw [if_neg h]
   replace h:innB x=false:=by simpa using h
   rw [h] at c
   go_enter Tryd.func9,Tryd.ntmps9
   go_wp2_with (go_at_call 36;refine c.mono ?_;clear c;rintro e w1 ⟨rfl,hw⟩;subst hw)
   go_ret2
   exact ⟨rfl,rfl⟩
theorem rRight_any (x:Int) (w:World):Calls Tryd.prog 11 #[.int .i64 x] w fun e w'=>e = .returned (.tuple #[.int .i64 (rgtA x).1,.bool (rgtA x).2])∧w=w':=by
 have c:=rInner_any x w
 unfold rgtA
 by_cases h:innB x=true
 · rw [h] at c
   rw [if_pos h]
   obtain ⟨y,rfl,hy,ho⟩:=innB_cases h
   have c2:=rHalf_any y hy ho w
   have hle:rgtN y<127:=by
    have hh:(List.range 127).all (fun y=>y%2 == 0 || decide (rgtN y<127))=true:=by kernel_rfl
    have:=List.all_eq_true.1 hh y (List.mem_range.2 hy)
    simp [ho] at this
    exact this
   have e1:(y:Int)+((2 ^ (levN y - 1):Nat):Int)=((rgtN y:Nat):Int):=by unfold rgtN;omega
   have e2:wrap64 ((y:Int)+((2 ^ (levN y - 1):Nat):Int))=((rgtN y:Nat):Int):=by rw [e1];unfold wrap64;omega
   obtain ⟨p,hp⟩:∃ p:Int,p=((2 ^ (levN y - 1):Nat):Int):=⟨_,rfl⟩
   rw [←hp] at c2 e1 e2
   obtain ⟨z,hz⟩:∃ z:Int,z=((rgtN y:Nat):Int):=⟨_,rfl⟩
   rw [←hz] at e1 e2
   rw [Int.toNat_natCast,←hz]
   clear hp hz hle e1
   go_enter Tryd.func11,Tryd.ntmps11
   go_wp2_with (first
    | (go_at_call 36;refine c.mono ?_;clear c;rintro e w1 ⟨rfl,hw⟩;subst hw)
    | (go_at_call 37;refine c2.mono ?_;clear c2;rintro e w1 ⟨rfl,hw⟩;subst hw))
   go_ret2
   exact ⟨by rw [←e2];rfl,rfl⟩
 · rw [if_neg h]
   replace h:innB x=false:=by simpa using h
   rw [h] at c
   go_enter Tryd.func11,Tryd.ntmps11
   go_wp2_with (go_at_call 36;refine c.mono ?_;clear c;rintro e w1 ⟨rfl,hw⟩;subst hw)
   go_ret2
   exact ⟨rfl,rfl⟩
theorem rThere_any (i l:Int) (w:World):Calls Tryd.prog 45 #[.int .i64 i,.int .i64 l] w fun e w'=>e = .returned (.bool (theB i l))∧w=w':=by
 have c:=rMay_any l w
 unfold theB
 by_cases h:mayB l=true
 · rw [h] at c ⊢
   by_cases h0:0≤i
   · by_cases h1:i<l
     · go_enter Tryd.func45,Tryd.ntmps45
       go_wp2_with (go_at_call 42;refine c.mono ?_;clear c;rintro e w1 ⟨rfl,hw⟩;subst hw)
       go_ret
       exact ⟨by simp [h0,h1],rfl⟩
     · go_enter Tryd.func45,Tryd.ntmps45
       go_wp2_with (go_at_call 42;refine c.mono ?_;clear c;rintro e w1 ⟨rfl,hw⟩;subst hw)
       go_ret
       exact ⟨by simp;omega,rfl⟩
   · go_enter Tryd.func45,Tryd.ntmps45
     go_wp2_with (go_at_call 42;refine c.mono ?_;clear c;rintro e w1 ⟨rfl,hw⟩;subst hw)
     go_ret
     exact ⟨by simp;omega,rfl⟩
 · replace h:mayB l=false:=by simpa using h
   rw [h] at c ⊢
   go_enter Tryd.func45,Tryd.ntmps45
   go_wp2_with (go_at_call 42;refine c.mono ?_;clear c;rintro e w1 ⟨rfl,hw⟩;subst hw)
   go_ret
   exact ⟨rfl,rfl⟩
end Go.Proofs.YtodhmfddfjfhjaaDoor
namespace Go.Proofs.YtodhmfddfjfhjaaDoor
open Go.RowKit
theorem widN_le (l:Int):widN l≤127∧((if mayB l then 2*l - 1 else -1:Int)=if widN l=0 then -1 else (widN l:Int)):=by
 unfold widN
 by_cases h:mayB l=true
 · rw [if_pos h,if_pos h]
   rcases mayB_cases h with rfl | rfl | rfl | rfl | rfl | rfl | rfl <;> decide
 · rw [if_neg h,if_neg h]
   exact ⟨by decide,rfl⟩
theorem lr_at {y:Nat} (hy:y<127):lftA (y:Int)=(if y%2=1 then ((lftN y:Int),true) else (-1,false))∧rgtA (y:Int)=(if y%2=1 then ((rgtN y:Int),true) else (-1,false)):=by
 have e:innB (y:Int)=decide (y%2=1):=by
  unfold innB
  by_cases h:y%2=1
  · rw [decide_eq_true h]
    simp
    omega
  · rw [decide_eq_false h]
    simp
    omega
 unfold lftA rgtA
 rw [e,Int.toNat_natCast]
 by_cases h:y%2=1 <;> simp [h]
set_option maxRecDepth 20000 in
set_option maxHeartbeats 4000000 in
theorem rParent_any (x l:Int) (w:World):Calls Tryd.prog 13 #[.int .i64 x,.int .i64 l] w fun e w'=>e = .returned (.tuple #[.int .i64 (parA x l).1,.bool (parA x l).2])∧w=w':=by
 have cw:=rWidth_any l w
 obtain ⟨hW,hE⟩:=widN_le l
 rw [hE] at cw
 unfold parA parN
 generalize widN l=W at *
 clear hE
 obtain ⟨A,hA⟩:∃ A,A=ansP (parF x 0 W):=⟨_,rfl⟩
 rw [←hA]
 have HA:=Hid.mk' hA
 clear hA
 go_enter Tryd.func13,Tryd.ntmps13
 go_wp2
 go_loopw [6] (fun i wr=>∃ y:Nat,y≤W∧i = .int .i64 (y:Int)∧w=wr∧Hid (parF x 0 W=parF x y (W - y))) (fun i _=>W - (intOf i).toNat)
 case atStart=>exact ⟨0,Nat.zero_le _,rfl,rfl,Hid.mk' rfl⟩
 case round =>
  obtain ⟨y,hy,rfl,rfl,HP⟩:=hrel
  by_cases hlt:y<W
  · rw [if_neg (by omega)] at cw
    have cl:=rLeft_any (y:Int) w
    have cr:=rRight_any (y:Int) w
    obtain ⟨el,er⟩:=lr_at (y:=y) (by omega)
    rw [el] at cl
    rw [er] at cr
    have hstep:parF x y (W - y)=if hitB x y then some y else parF x (y+1) (W - (y+1)):=by
     rw [show W - y=(W - (y+1))+1 by omega]
     rfl
    rw [hstep] at HP
    have t0:(y:Int)<(W:Int):=by omega
    have t9:IntKind.i64.wrap ((y:Int)+1)=(y:Int)+1:=by simp only [IntKind.wrap_i64];omega
    clear el er hstep
    by_cases ho:y%2=1
    · rw [if_pos ho] at cl cr
      obtain ⟨a,ha⟩:∃ a:Int,a=(lftN y:Int):=⟨_,rfl⟩
      obtain ⟨b,hb⟩:∃ b:Int,b=(rgtN y:Int):=⟨_,rfl⟩
      have hh:hitB x y=(a == x || b == x):=by unfold hitB;rw [ha,hb];simp [ho]
      rw [hh] at HP
      rw [←ha] at cl
      rw [←hb] at cr
      clear ha hb hh ho
      by_cases h1:a=x
      · subst h1
        have hr:parF a 0 W=some y:=by
         rw [HP.out,if_pos]
         simp
        go_wp2_with (first
         | (go_at_call 17;refine cw.mono ?_;clear cw;rintro e w1 ⟨rfl,hw⟩;subst hw)
         | (go_at_call 9;refine cl.mono ?_;clear cl;rintro e w1 ⟨rfl,hw⟩;subst hw)
         | (go_at_call 11;refine cr.mono ?_;clear cr;rintro e w1 ⟨rfl,hw⟩;subst hw))
        go_ret2
        exact ⟨by rw [HA.out,hr];rfl,rfl⟩
      · by_cases h2:b=x
        · subst h2
          have hr:parF b 0 W=some y:=by
           rw [HP.out,if_pos]
           simp
          go_wp2_with (first
           | (go_at_call 17;refine cw.mono ?_;clear cw;rintro e w1 ⟨rfl,hw⟩;subst hw)
           | (go_at_call 9;refine cl.mono ?_;clear cl;rintro e w1 ⟨rfl,hw⟩;subst hw)
           | (go_at_call 11;refine cr.mono ?_;clear cr;rintro e w1 ⟨rfl,hw⟩;subst hw))
          go_ret2
          exact ⟨by rw [HA.out,hr];rfl,rfl⟩
        · have hr:Hid (parF x 0 W=parF x (y+1) (W - (y+1))):=by
           refine HP.out.trans (if_neg ?_)
           simp [h1,h2]
          have h1':(a == x)=false:=by simp [h1]
          have h2':(b == x)=false:=by simp [h2]
          clear HP
          go_wp2_with (first
           | (go_at_call 17;refine cw.mono ?_;clear cw;rintro e w1 ⟨rfl,hw⟩;subst hw)
           | (go_at_call 9;refine cl.mono ?_;clear cl;rintro e w1 ⟨rfl,hw⟩;subst hw)
           | (go_at_call 11;refine cr.mono ?_;clear cr;rintro e w1 ⟨rfl,hw⟩;subst hw))
          go_roundw
          case rel=>exact ⟨y+1,hlt,by go_num,trivial,hr⟩
          case measure=>simp [intOf];omega
    · rw [if_neg ho] at cl cr
      have hr:Hid (parF x 0 W=parF x (y+1) (W - (y+1))):=by
       refine HP.out.trans (if_neg ?_)
       unfold hitB
       simp [ho]
      clear HP ho
      go_wp2_with (first
       | (go_at_call 17;refine cw.mono ?_;clear cw;rintro e w1 ⟨rfl,hw⟩;subst hw)
       | (go_at_call 9;refine cl.mono ?_;clear cl;rintro e w1 ⟨rfl,hw⟩;subst hw)
       | (go_at_call 11;refine cr.mono ?_;clear cr;rintro e w1 ⟨rfl,hw⟩;subst hw))
      go_roundw
      case rel=>exact ⟨y+1,hlt,by go_num,trivial,hr⟩
      case measure=>simp [intOf];omega
  · obtain rfl:y=W:=by omega
    have hr:parF x 0 y=none:=by rw [HP.out,Nat.sub_self];rfl
    obtain ⟨z,hz⟩:∃ z:Int,z=(if y=0 then -1 else (y:Int)):=⟨_,rfl⟩
    rw [←hz] at cw
    have t0:¬(y:Int)<z:=by rw [hz];split <;> omega
    clear hz HP
    go_wp2_with (go_at_call 17;refine cw.mono ?_;clear cw;rintro e w1 ⟨rfl,hw⟩;subst hw)
    go_ret2
    exact ⟨by rw [HA.out,hr];rfl,rfl⟩
theorem parF_some {x:Int}:∀ f y p,parF x y f=some p→y≤p∧p<y+f∧hitB x p=true
 | 0,_,_,h=>by cases h
 | f+1,y,p,h=>by
  by_cases hh:hitB x y=true
  · have h':(if hitB x y then some y else parF x (y+1) f)=some p:=h
    rw [if_pos hh] at h'
    cases h'
    exact ⟨Nat.le_refl _,by omega,hh⟩
  · have h':(if hitB x y then some y else parF x (y+1) f)=some p:=h
    rw [if_neg hh] at h'
    obtain ⟨h1,h2,h3⟩:=parF_some f (y+1) p h'
    exact ⟨by omega,by omega,h3⟩
theorem parN_some {x l:Int} {p:Nat} (h:parN x l=some p):p<widN l∧p<127∧p%2=1∧((lftN p:Int)=x∨(rgtN p:Int)=x):=by
 obtain ⟨-,h2,h3⟩:=parF_some _ _ _ h
 have hW:=(widN_le l).1
 unfold hitB at h3
 simp at h3
 exact ⟨by omega,by omega,h3.1,h3.2⟩
theorem lr_small:∀ y,y<127→y%2=1→lftN y<y∧y<rgtN y∧rgtN y<127:=by
 have h:(List.range 127).all (fun y=>y%2 == 0 || (decide (lftN y<y) && decide (y<rgtN y) && decide (rgtN y<127)))=true:=by kernel_rfl
 intro y hy ho
 have:=List.all_eq_true.1 h y (List.mem_range.2 hy)
 simp [ho] at this
 exact ⟨this.1.1,this.1.2,this.2⟩
set_option maxRecDepth 20000 in
theorem rSibling_any (x l:Int) (w:World):Calls Tryd.prog 15 #[.int .i64 x,.int .i64 l] w fun e w'=>e = .returned (.tuple #[.int .i64 (sibA x l).1,.bool (sibA x l).2])∧w=w':=by
 have c:=rParent_any x l w
 unfold parA at c
 unfold sibA
 cases hp:parN x l with
 | none =>
  rw [hp] at c
  replace c:Calls Tryd.prog 13 #[.int .i64 x,.int .i64 l] w fun e w'=>e = .returned (.tuple #[.int .i64 (-1),.bool false])∧w=w':=c
  show Calls _ _ _ _ fun e w'=>e = .returned (.tuple #[.int .i64 (-1),.bool false])∧w=w'
  go_enter Tryd.func15,Tryd.ntmps15
  go_wp2_with (go_at_call 13;refine c.mono ?_;clear c;rintro e w1 ⟨rfl,hw⟩;subst hw)
  go_ret2
  exact ⟨rfl,rfl⟩
 | some p =>
  rw [hp] at c
  obtain ⟨-,h1,h2,h3⟩:=parN_some hp
  obtain ⟨g1,g2,g3⟩:=lr_small p h1 h2
  replace c:Calls Tryd.prog 13 #[.int .i64 x,.int .i64 l] w fun e w'=>e = .returned (.tuple #[.int .i64 (p:Int),.bool true])∧w=w':=c
  show Calls _ _ _ _ fun e w'=>e = .returned (.tuple #[.int .i64 ((lftN p:Int)+(rgtN p:Int) - x),.bool true])∧w=w'
  have cl:=rLeft_any (p:Int) w
  have cr:=rRight_any (p:Int) w
  obtain ⟨el,er⟩:=lr_at (y:=p) h1
  rw [el,if_pos h2] at cl
  rw [er,if_pos h2] at cr
  obtain ⟨a,ha⟩:∃ a:Int,a=(lftN p:Int):=⟨_,rfl⟩
  obtain ⟨b,hb⟩:∃ b:Int,b=(rgtN p:Int):=⟨_,rfl⟩
  rw [←ha] at cl h3 ⊢
  rw [←hb] at cr h3 ⊢
  have e1:wrap64 (wrap64 (a+b) - x)=a+b - x:=by unfold wrap64;omega
  clear el er ha hb h3 g1 g2 g3 h1 h2 hp
  go_enter Tryd.func15,Tryd.ntmps15
  go_wp2_with (first
   | (go_at_call 13;refine c.mono ?_;clear c;rintro e w1 ⟨rfl,hw⟩;subst hw)
   | (go_at_call 9;refine cl.mono ?_;clear cl;rintro e w1 ⟨rfl,hw⟩;subst hw)
   | (go_at_call 11;refine cr.mono ?_;clear cr;rintro e w1 ⟨rfl,hw⟩;subst hw))
  go_ret2
  exact ⟨by rw [←e1];rfl,rfl⟩
end Go.Proofs.YtodhmfddfjfhjaaDoor
namespace Go.Proofs.YtodhmfddfjfhjaaDoor
open Go.RowKit
theorem lev_parts:∀ y,y<127→y%2=1→levN (lftN y)=levN y - 1∧levN (rgtN y)=levN y - 1:=by
 have h:(List.range 127).all (fun y=>y%2 == 0 || (levN (lftN y) == levN y - 1 && levN (rgtN y) == levN y - 1))=true:=by kernel_rfl
 intro y hy ho
 have:=List.all_eq_true.1 h y (List.mem_range.2 hy)
 simp [ho] at this
 exact this
theorem belF_even (f x:Nat) (i:Int) (h:x%2=0):belF f x i=decide ((x:Int)=2*i):=by
 cases f with
 | zero=>rfl
 | succ f=>show (if x%2=0 then _ else _)=_;rw [if_pos h]
set_option maxRecDepth 20000 in
set_option maxHeartbeats 4000000 in
theorem rBelow_in (i:Int) (h0:0≤i) (h1:i<64):∀ f x,x<127→levN x≤f→∀ w,Calls Tryd.prog 31 #[.int .i64 (x:Int),.int .i64 i] w fun e w'=>e = .returned (.bool (belF f x i))∧w=w':=by
 intro f
 induction f with
 | zero =>
  intro x hx hl w
  have hev:x%2=0:=by
   by_cases h:x%2=1
   · have:=lev_small x hx h;omega
   · omega
  rw [belF_even 0 x i hev]
  have t0:¬(x:Int)<0:=by omega
  have t1:¬(127:Int)≤(x:Int):=by omega
  have t2:¬i<0:=by omega
  have t3:¬(64:Int)≤i:=by omega
  have t4:Int.tmod (x:Int) 2=0:=by rw [Int.tmod_eq_emod_of_nonneg (by omega)];omega
  have t5:IntKind.i64.wrap (2*i)=2*i:=by simp only [IntKind.wrap_i64];omega
  clear hev hl
  go_enter Tryd.func31,Tryd.ntmps31
  go_wp2
  go_ret
  exact ⟨rfl,rfl⟩
 | succ f ih =>
  intro x hx hl w
  have t0:¬(x:Int)<0:=by omega
  have t1:¬(127:Int)≤(x:Int):=by omega
  have t2:¬i<0:=by omega
  have t3:¬(64:Int)≤i:=by omega
  by_cases hev:x%2=0
  · rw [belF_even _ x i hev]
    have t4:Int.tmod (x:Int) 2=0:=by rw [Int.tmod_eq_emod_of_nonneg (by omega)];omega
    have t5:IntKind.i64.wrap (2*i)=2*i:=by simp only [IntKind.wrap_i64];omega
    clear hev hl ih
    go_enter Tryd.func31,Tryd.ntmps31
    go_wp2
    go_ret
    exact ⟨rfl,rfl⟩
  · have ho:x%2=1:=by omega
    have e0:belF (f+1) x i=(belF f (lftN x) i || belF f (rgtN x) i):=by show (if x%2=0 then _ else _)=_;rw [if_neg hev]
    rw [e0]
    obtain ⟨g1,g2,g3⟩:=lr_small x hx ho
    obtain ⟨p1,p2⟩:=lev_parts x hx ho
    have c1:=ih (lftN x) (by omega) (by omega) w
    have c2:=ih (rgtN x) (by omega) (by omega) w
    have cl:=rLeft_any (x:Int) w
    have cr:=rRight_any (x:Int) w
    obtain ⟨el,er⟩:=lr_at (y:=x) hx
    rw [el,if_pos ho] at cl
    rw [er,if_pos ho] at cr
    have t4:Int.tmod (x:Int) 2=1:=by rw [Int.tmod_eq_emod_of_nonneg (by omega)];omega
    generalize belF f (lftN x) i=B1 at *
    generalize belF f (rgtN x) i=B2 at *
    obtain ⟨a,ha⟩:∃ a:Int,a=(lftN x:Int):=⟨_,rfl⟩
    obtain ⟨b,hb⟩:∃ b:Int,b=(rgtN x:Int):=⟨_,rfl⟩
    rw [←ha] at cl c1
    rw [←hb] at cr c2
    clear ih hl hev ho e0 g1 g2 g3 p1 p2 el er ha hb
    cases B1 <;>
    · go_enter Tryd.func31,Tryd.ntmps31
      go_wp2_with (first
       | (go_at_call 9;refine cl.mono ?_;clear cl;rintro e w1 ⟨rfl,hw⟩;subst hw)
       | (go_at_call 11;refine cr.mono ?_;clear cr;rintro e w1 ⟨rfl,hw⟩;subst hw)
       | (go_at_call 31;refine c1.mono ?_;clear c1;rintro e w1 ⟨rfl,hw⟩;subst hw)
       | (go_at_call 31;refine c2.mono ?_;clear c2;rintro e w1 ⟨rfl,hw⟩;subst hw))
      go_ret
      exact ⟨by simp,rfl⟩
set_option maxRecDepth 20000 in
theorem rBelow_any (x i:Int) (w:World):Calls Tryd.prog 31 #[.int .i64 x,.int .i64 i] w fun e w'=>e = .returned (.bool (belB x i))∧w=w':=by
 unfold belB
 by_cases h:x<0∨127≤x∨i<0∨64≤i
 · rw [if_pos h]
   by_cases h0:x<0
   · go_enter Tryd.func31,Tryd.ntmps31
     go_wp2
     go_ret
     exact ⟨rfl,rfl⟩
   · by_cases h1:127≤x
     · go_enter Tryd.func31,Tryd.ntmps31
       go_wp2
       go_ret
       exact ⟨rfl,rfl⟩
     · by_cases h2:i<0
       · go_enter Tryd.func31,Tryd.ntmps31
         go_wp2
         go_ret
         exact ⟨rfl,rfl⟩
       · have h3:64≤i:=by omega
         clear h
         go_enter Tryd.func31,Tryd.ntmps31
         go_wp2
         go_ret
         exact ⟨rfl,rfl⟩
 · rw [if_neg h]
   obtain ⟨y,rfl⟩:∃ y:Nat,x=(y:Int):=⟨x.toNat,by omega⟩
   rw [Int.toNat_natCast]
   refine rBelow_in i (by omega) (by omega) 7 y (by omega) ?_ w
   by_cases ho:y%2=1
   · have:=lev_small y (by omega) ho;omega
   · rw [levN_even ho];decide
def colN (x:Nat):Nat:=x / 2 ^ (levN x+1)
theorem rColumn_any (y:Nat) (hy:y<127) (w:World):Calls Tryd.prog 33 #[.int .i64 (y:Int)] w fun e w'=>e = .returned (.int .i64 ((colN y:Nat):Int))∧w=w':=by
 have c:=rLevel_pos y (by omega) w
 have hl:levN y≤6:=by
  by_cases ho:y%2=1
  · exact (lev_small y hy ho).2
  · rw [levN_even ho];decide
 unfold colN
 generalize levN y=n at *
 rcases (show n=0∨n=1∨n=2∨n=3∨n=4∨n=5∨n=6 by omega) with rfl | rfl | rfl | rfl | rfl | rfl | rfl <;>
 · go_enter Tryd.func33,Tryd.ntmps33
   go_wp2_with (go_at_call 21;refine c.mono ?_;clear c;rintro e w1 ⟨rfl,hw⟩;subst hw)
   go_ret
   exact ⟨by simp,rfl⟩
end Go.Proofs.YtodhmfddfjfhjaaDoor
namespace Go.Proofs.YtodhmfddfjfhjaaDoor
open Go.RowKit
def OwnZ (base:Nat) (w:World) (v:Value) (l:List Int):Prop:=w.ownsRow base 3 1 v l.length (l.map fun z => .int .i64 z)
theorem info_int:(Tryd.prog.info? 3).map (fun i=>(i.zero,i.size,i.bytes))=some (some (.int .i64 0),1,8):=by kernel_rfl
theorem und_ints:Tryd.prog.underlying 30=some (.slice 3):=by kernel_rfl
theorem OwnZ.nil (base:Nat) (w:World):OwnZ base w (.slice none 0 0) []:=World.ownsRow_nil w base _ _
theorem OwnZ.slice {base:Nat} {w:World} {v:Value} {l:List Int} (h:OwnZ base w v l):∃ x c,v = .slice x l.length c:=by
 rcases h.2 with ⟨rfl,e⟩ | ⟨g,cap,cur,rfl,_⟩
 · rw [e];exact ⟨_,_,rfl⟩
 · exact ⟨_,_,rfl⟩
theorem OwnZ.below {base:Nat} {w w':World} {v:Value} {l:List Int} (h:OwnZ base w v l) (hb:Below w.heap.size w w'):OwnZ base w' v l:=own_below h hb
def ZIn (w:World) (v:Value) (l:List Int):Prop:=∃ x c,v = .slice x l.length c∧∀ i z,l[i]? = some z→∃ g o,x=some ⟨g,o,none⟩∧g<w.heap.size∧w.cell? ⟨g,o+i,none⟩=some (.int .i64 z)
theorem ZIn.keep {w w':World} {v:Value} {l:List Int} (h:ZIn w v l) (hb:Below w.heap.size w w'):ZIn w' v l:=by
 obtain ⟨x,c,e,hc⟩:=h
 refine ⟨x,c,e,fun i z hz => ?_⟩
 obtain ⟨g,o,e1,hl,h1⟩:=hc i z hz
 exact ⟨g,o,e1,Nat.lt_of_lt_of_le hl hb.size,(hb.cell (p:=⟨g,o+i,none⟩) hl).trans h1⟩
theorem ZIn.nil (w:World):ZIn w (.slice none 0 0) []:=⟨none,0,rfl,fun i z h=>by simp at h⟩
theorem OwnZ.zin {base:Nat} {w:World} {v:Value} {l:List Int} (h:OwnZ base w v l):ZIn w v l:=by
 obtain ⟨x,c,rfl⟩:=h.slice
 refine ⟨x,c,rfl,fun i z hz => ?_⟩
 have hi:i<l.length:=(List.getElem?_eq_some_iff.1 hz).1
 have hlt:=World.ownsRow.lt h
 rcases h.2 with ⟨_,e⟩ | ⟨g,cap,cur,e,_⟩
 · omega
 · cases e
   have hc:=World.ownsRow.cellAt h i (by omega)
   refine ⟨g,0,rfl,(hlt g rfl).2,?_⟩
   rw [Nat.zero_add,hc]
   simp [hz]
theorem wpList_append_z {w:World} {ops:Array Oper} {rest:List Oper} {o:Oper} {a:Act} {Q:Exit→Act→World→Prop} (hgd:o.guard=none) (s x:Operand)
 (ho:o.op = .call { callee := .builtin .append,args:=#[s,x],argTypes:=#[30,30] }) (base:Nat)
 (v:Value) (l:List Int) (y:Int) (hs:a.eval s=v) (hown:OwnZ base w v l) (hx:a.eval x = .slice (some ⟨w.heap.size,0,none⟩) 1 1)
 (hl:l.length+1≤1000) (hbase:base≤w.heap.size)
 (h:∀ v' w',OwnZ base w' v' (l ++ [y])→Below base w w'→wpList Tryd.prog ops Q rest (a.put o.dst v') w'):wpList Tryd.prog ops Q (o :: rest) a (w.alloc (.cells #[.int .i64 y] 3)):=by
 obtain ⟨i0,hi,hz0,hz1,hz2⟩:=info_parts info_int
 have hb:Below base w (w.alloc (.cells #[.int .i64 y] 3)):=(Below.refl _ _).alloc hbase _
 have hz:base≤(w.alloc (.cells #[.int .i64 y] 3)).heap.size:=by simp only [World.size_alloc];omega
 refine wpList_append_own _ hgd s x 30 ho base 3 i0 (.int .i64 0) 1 8 und_ints hi hz0 hz1 hz2 rfl (by decide) v l.length _ hs (World.ownsRow.alloc hown _) ⟨w.heap.size,0,none⟩ 1 1 [.int .i64 y] hx rfl (one_new w _ _) (one_cell _ _) (by unfold maxLen;omega) (by omega) hz (fun v' w' h2 h3 _=>h v' w' ?_ (below_grown hb h3 (World.ownsRow.alloc hown _) (Nat.le_refl _) hz))
 unfold OwnZ
 rw [List.length_append,List.map_append]
 exact h2
end Go.Proofs.YtodhmfddfjfhjaaDoor
namespace Go.Proofs.YtodhmfddfjfhjaaDoor
open Go.RowKit
def upF (l:Int):Nat→Nat→List Int
 | 0,_=>[]
 | f+1,x=>match parN (x:Int) l with
  | some p=>(p:Int) :: upF l f p
  | none=>[]
def coF (l:Int):Nat→Nat→List Int
 | 0,_=>[]
 | f+1,x=>match parN (x:Int) l with
  | some p=>((lftN p:Int)+(rgtN p:Int) - (x:Int)) :: coF l f p
  | none=>[]
def pathL (i l:Int):List Int:=if theB i l then upF l 7 (2*i).toNat else []
def copathL (i l:Int):List Int:=if theB i l then coF l 7 (2*i).toNat else []
def comF (l b:Int):Nat→Nat→Nat
 | 0,x=>x
 | f+1,x=>if belB (x:Int) b then x else match parN (x:Int) l with
  | some p=>comF l b f p
  | none=>x
def commonA (a b l:Int):Int × Bool:=if theB a l && theB b l then ((comF l b 7 (2*a).toNat:Int),true) else (-1,false)
theorem lev_le6 {y:Nat} (hy:y<127):levN y≤6:=by
 by_cases ho:y%2=1
 · exact (lev_small y hy ho).2
 · rw [levN_even ho];decide
theorem par_lev {x p:Nat} {l:Int} (h:parN (x:Int) l=some p):p<127∧levN p=levN x+1:=by
 obtain ⟨-,h1,h2,h3⟩:=parN_some h
 obtain ⟨p1,p2⟩:=lev_parts p h1 h2
 have:=lev_small p h1 h2
 refine ⟨h1,?_⟩
 rcases h3 with e | e
 · have e':lftN p=x:=by omega
   rw [←e'];omega
 · have e':rgtN p=x:=by omega
   rw [←e'];omega
theorem theB_cases {i l:Int} (h:theB i l=true):mayB l=true∧0≤i∧i<l∧l≤64:=by
 unfold theB at h
 simp at h
 have:=mayB_cases h.1.1
 exact ⟨h.1.1,h.1.2,h.2,by omega⟩
set_option maxRecDepth 20000 in
set_option maxHeartbeats 4000000 in
theorem rPath_any (i l:Int) (w:World):Calls Tryd.prog 27 #[.int .i64 i,.int .i64 l] w fun e w'=>∃ v,e = .returned v∧OwnZ w.heap.size w' v (pathL i l)∧Below w.heap.size w w':=by
 have ct:=rThere_any i l w
 unfold pathL
 by_cases hT:theB i l=true
 · rw [hT] at ct
   rw [if_pos hT]
   obtain ⟨-,h0,h1,h2⟩:=theB_cases hT
   obtain ⟨s,hs⟩:∃ s:Nat,2*i=(s:Int):=⟨(2*i).toNat,by omega⟩
   have hs127:s<127:=by omega
   rw [hs,Int.toNat_natCast]
   have e1:IntKind.i64.wrap (2*i)=(s:Int):=by simp only [IntKind.wrap_i64];omega
   obtain ⟨P,hP⟩:∃ P,P=upF l 7 s:=⟨_,rfl⟩
   rw [←hP]
   have HP:=Hid.mk' hP
   clear hP h0 h1 h2 hT
   go_enter Tryd.func27,Tryd.ntmps27
   go_wp2_with (go_at_call 45;refine ct.mono ?_;clear ct;rintro e w1 ⟨rfl,hw⟩;subst hw)
   go_loopw [5,6] (fun o x wr=>∃ (d:List Int) (m:Nat),x = .int .i64 (m:Int)∧m<127∧(∃ xa ca,o = .slice xa d.length ca∧OwnZ w.heap.size wr (.slice xa d.length ca) d)∧d.length≤levN m∧Hid (P=d ++ upF l (7 - d.length) m)∧Below w.heap.size w wr) (fun _ x _=>7 - levN (intOf x).toNat)
   case atStart=>exact ⟨[],s,rfl,hs127,⟨none,0,rfl,OwnZ.nil _ _⟩,Nat.zero_le _,HP,Below.refl _ _⟩
   case round =>
    obtain ⟨d,m,rfl,hm,⟨xa,ca,rfl,own⟩,hd,HQ,hb⟩:=hrel
    have h6:=lev_le6 hm
    have c:=rParent_any (m:Int) l wr
    unfold parA at c
    have hstep:upF l (7 - d.length) m=match parN (m:Int) l with | some p=>(p:Int) :: upF l (7 - (d.length+1)) p | none=>[]:=by
     rw [show 7 - d.length=(7 - (d.length+1))+1 by omega]
     rfl
    cases hp:parN (m:Int) l with
    | none =>
     rw [hp] at c hstep
     replace c:Calls Tryd.prog 13 #[.int .i64 (m:Int),.int .i64 l] wr fun e w'=>e = .returned (.tuple #[.int .i64 (-1),.bool false])∧wr=w':=c
     have hPd:P=d:=by rw [HQ.out,hstep];simp
     clear hstep hp HQ HP
     go_wp2_with (go_at_call 13;refine c.mono ?_;clear c;rintro e w1 ⟨rfl,hw⟩;subst hw)
     go_ret
     exact ⟨_,rfl,by rw [hPd];exact own,hb⟩
    | some p =>
     rw [hp] at c hstep
     replace c:Calls Tryd.prog 13 #[.int .i64 (m:Int),.int .i64 l] wr fun e w'=>e = .returned (.tuple #[.int .i64 (p:Int),.bool true])∧wr=w':=c
     obtain ⟨g1,g2⟩:=par_lev hp
     have HN:Hid (P=(d ++ [(p:Int)]) ++ upF l (7 - (d ++ [(p:Int)]).length) p):=by
      refine HQ.out.trans ?_
      rw [hstep,List.length_append]
      simp
     have hdl:(d ++ [(p:Int)]).length≤levN p:=by rw [List.length_append];show d.length+1≤_;omega
     have hlt:7 - levN p<7 - levN m:=by omega
     have hbs:=hb.size
     clear hstep hp HQ HP
     go_wp2_with (first
      | (go_at_call 13;refine c.mono ?_;clear c;rintro e w1 ⟨rfl,hw⟩;subst hw)
      | (at_builtin;refine wpList_append_z rfl (.tmp 24) (.tmp 26) rfl w.heap.size _ d _ rfl own rfl (by omega) hbs ?_;intro v3 w3 own3 b3;(obtain ⟨x3,c3,e3⟩:=own3.slice);subst e3))
     go_roundw
     case rel=>exact ⟨d ++ [(p:Int)],p,rfl,g1,⟨x3,c3,by simp,own3⟩,hdl,HN,hb.trans b3⟩
     case measure=>simp only [intOf,Int.toNat_natCast];exact hlt
 · replace hT:theB i l=false:=by simpa using hT
   rw [hT] at ct ⊢
   go_enter Tryd.func27,Tryd.ntmps27
   go_wp2_with (go_at_call 45;refine ct.mono ?_;clear ct;rintro e w1 ⟨rfl,hw⟩;subst hw)
   go_ret
   exact ⟨_,rfl,OwnZ.nil _ _,Below.refl _ _⟩
set_option maxRecDepth 20000 in
set_option maxHeartbeats 4000000 in
theorem rCopath_any (i l:Int) (w:World):Calls Tryd.prog 29 #[.int .i64 i,.int .i64 l] w fun e w'=>∃ v,e = .returned v∧OwnZ w.heap.size w' v (copathL i l)∧Below w.heap.size w w':=by
 have ct:=rThere_any i l w
 unfold copathL
 by_cases hT:theB i l=true
 · rw [hT] at ct
   rw [if_pos hT]
   obtain ⟨-,h0,h1,h2⟩:=theB_cases hT
   obtain ⟨s,hs⟩:∃ s:Nat,2*i=(s:Int):=⟨(2*i).toNat,by omega⟩
   have hs127:s<127:=by omega
   rw [hs,Int.toNat_natCast]
   have e1:IntKind.i64.wrap (2*i)=(s:Int):=by simp only [IntKind.wrap_i64];omega
   obtain ⟨P,hP⟩:∃ P,P=coF l 7 s:=⟨_,rfl⟩
   rw [←hP]
   have HP:=Hid.mk' hP
   clear hP h0 h1 h2 hT
   go_enter Tryd.func29,Tryd.ntmps29
   go_wp2_with (go_at_call 45;refine ct.mono ?_;clear ct;rintro e w1 ⟨rfl,hw⟩;subst hw)
   go_loopw [5,6] (fun o x wr=>∃ (d:List Int) (m:Nat),x = .int .i64 (m:Int)∧m<127∧(∃ xa ca,o = .slice xa d.length ca∧OwnZ w.heap.size wr (.slice xa d.length ca) d)∧d.length≤levN m∧Hid (P=d ++ coF l (7 - d.length) m)∧Below w.heap.size w wr) (fun _ x _=>7 - levN (intOf x).toNat)
   case atStart=>exact ⟨[],s,rfl,hs127,⟨none,0,rfl,OwnZ.nil _ _⟩,Nat.zero_le _,HP,Below.refl _ _⟩
   case round =>
    obtain ⟨d,m,rfl,hm,⟨xa,ca,rfl,own⟩,hd,HQ,hb⟩:=hrel
    have h6:=lev_le6 hm
    have c:=rParent_any (m:Int) l
    have cs:=rSibling_any (m:Int) l wr
    unfold parA at c
    unfold sibA at cs
    have hstep:coF l (7 - d.length) m=match parN (m:Int) l with | some p=>((lftN p:Int)+(rgtN p:Int) - (m:Int)) :: coF l (7 - (d.length+1)) p | none=>[]:=by
     rw [show 7 - d.length=(7 - (d.length+1))+1 by omega]
     rfl
    cases hp:parN (m:Int) l with
    | none =>
     rw [hp] at cs hstep
     replace cs:Calls Tryd.prog 15 #[.int .i64 (m:Int),.int .i64 l] wr fun e w'=>e = .returned (.tuple #[.int .i64 (-1),.bool false])∧wr=w':=cs
     clear c
     have hPd:P=d:=by rw [HQ.out,hstep];simp
     clear hstep hp HQ HP
     go_wp2_with (go_at_call 15;refine cs.mono ?_;clear cs;rintro e w1 ⟨rfl,hw⟩;subst hw)
     go_ret
     exact ⟨_,rfl,by rw [hPd];exact own,hb⟩
    | some p =>
     rw [hp] at c cs hstep
     replace c:∀ W,Calls Tryd.prog 13 #[.int .i64 (m:Int),.int .i64 l] W fun e w'=>e = .returned (.tuple #[.int .i64 (p:Int),.bool true])∧W=w':=c
     obtain ⟨z,hz⟩:∃ z:Int,z=(lftN p:Int)+(rgtN p:Int) - (m:Int):=⟨_,rfl⟩
     replace cs:Calls Tryd.prog 15 #[.int .i64 (m:Int),.int .i64 l] wr fun e w'=>e = .returned (.tuple #[.int .i64 z,.bool true])∧wr=w':=by rw [hz];exact cs
     replace hstep:coF l (7 - d.length) m=((lftN p:Int)+(rgtN p:Int) - (m:Int)) :: coF l (7 - (d.length+1)) p:=hstep
     rw [←hz] at hstep
     clear hz
     obtain ⟨g1,g2⟩:=par_lev hp
     have HN:Hid (P=(d ++ [z]) ++ coF l (7 - (d ++ [z]).length) p):=by
      refine HQ.out.trans ?_
      rw [hstep,List.length_append]
      simp
     have hdl:(d ++ [z]).length≤levN p:=by rw [List.length_append];show d.length+1≤_;omega
     have hlt:7 - levN p<7 - levN m:=by omega
     have hbs:=hb.size
     clear hstep hp HQ HP
     go_wp2_with (first
      | (go_at_call 15;refine cs.mono ?_;clear cs;rintro e w1 ⟨rfl,hw⟩;subst hw)
      | (go_at_call 13;refine (c _).mono ?_;clear c;rintro e w1 ⟨rfl,hw⟩;subst hw)
      | (at_builtin;refine wpList_append_z rfl (.tmp 24) (.tmp 26) rfl w.heap.size _ d _ rfl own rfl (by omega) hbs ?_;intro v3 w3 own3 b3;(obtain ⟨x3,c3,e3⟩:=own3.slice);subst e3))
     go_roundw
     case rel=>exact ⟨d ++ [z],p,rfl,g1,⟨x3,c3,by simp,own3⟩,hdl,HN,hb.trans b3⟩
     case measure=>simp only [intOf,Int.toNat_natCast];exact hlt
 · replace hT:theB i l=false:=by simpa using hT
   rw [hT] at ct ⊢
   go_enter Tryd.func29,Tryd.ntmps29
   go_wp2_with (go_at_call 45;refine ct.mono ?_;clear ct;rintro e w1 ⟨rfl,hw⟩;subst hw)
   go_ret
   exact ⟨_,rfl,OwnZ.nil _ _,Below.refl _ _⟩
theorem root_only {l:Int} (h:mayB l=true) {m:Nat} (hm:m<widN l) (hp:parN (m:Int) l=none):(m:Int)=l - 1:=by
 have hh:[1,2,4,8,16,32,64].all (fun l:Int=>(List.range (widN l)).all fun m=>(parN (m:Int) l).isSome || (m:Int) == l - 1)=true:=by kernel_rfl
 have hl:l∈[1,2,4,8,16,32,64]:=by
  rcases mayB_cases h with rfl | rfl | rfl | rfl | rfl | rfl | rfl <;> simp
 have:=List.all_eq_true.1 (List.all_eq_true.1 hh l hl) m (List.mem_range.2 hm)
 rw [hp] at this
 simpa using this
theorem root_all {b l:Int} (h:theB b l=true):belB (l - 1) b=true:=by
 obtain ⟨h1,h2,h3,h4⟩:=theB_cases h
 have hh:[1,2,4,8,16,32,64].all (fun l:Int=>(List.range l.toNat).all fun b=>belB (l - 1) (b:Int))=true:=by kernel_rfl
 have hl:l∈[1,2,4,8,16,32,64]:=by
  rcases mayB_cases h1 with rfl | rfl | rfl | rfl | rfl | rfl | rfl <;> simp
 have:=List.all_eq_true.1 (List.all_eq_true.1 hh l hl) b.toNat (List.mem_range.2 (by omega))
 rw [show ((b.toNat:Nat):Int)=b by omega] at this
 exact this
set_option maxRecDepth 20000 in
set_option maxHeartbeats 4000000 in
theorem rCommon_any (a b l:Int) (w:World):Calls Tryd.prog 24 #[.int .i64 a,.int .i64 b,.int .i64 l] w fun e w'=>e = .returned (.tuple #[.int .i64 (commonA a b l).1,.bool (commonA a b l).2])∧w=w':=by
 have c1:=rThere_any a l w
 have c2:=rThere_any b l w
 unfold commonA
 by_cases hA:theB a l=true
 · by_cases hB:theB b l=true
   · rw [hA] at c1
     rw [hB] at c2
     rw [hA,hB]
     obtain ⟨hl,h0,h1,h2⟩:=theB_cases hA
     obtain ⟨s,hs⟩:∃ s:Nat,2*a=(s:Int):=⟨(2*a).toNat,by omega⟩
     have hsW:s<widN l:=by unfold widN;rw [if_pos hl];omega
     rw [hs,Int.toNat_natCast]
     have e1:IntKind.i64.wrap (2*a)=(s:Int):=by simp only [IntKind.wrap_i64];omega
     show Calls _ _ _ _ fun e w'=>e = .returned (.tuple #[.int .i64 (comF l b 7 s:Int),.bool true])∧w=w'
     obtain ⟨P,hP⟩:∃ P,P=comF l b 7 s:=⟨_,rfl⟩
     rw [←hP]
     have HP:=Hid.mk' hP
     clear hP h0 h1 h2
     go_enter Tryd.func24,Tryd.ntmps24
     go_wp2_with (first
      | (go_at_call 45;refine c1.mono ?_;clear c1;rintro e w1 ⟨rfl,hw⟩;subst hw)
      | (go_at_call 45;refine c2.mono ?_;clear c2;rintro e w1 ⟨rfl,hw⟩;subst hw))
     go_loopw [8] (fun x wr=>∃ k m:Nat,x = .int .i64 (m:Int)∧m<widN l∧k≤levN m∧Hid (P=comF l b (7 - k) m)∧w=wr) (fun x _=>7 - levN (intOf x).toNat)
     case atStart=>exact ⟨0,s,by rw [show wrap64 (s:Int)=(s:Int) by have:=(widN_le l).1;unfold wrap64;omega],hsW,Nat.zero_le _,HP,rfl⟩
     case round =>
      obtain ⟨k,m,rfl,hm,hk,HQ,rfl⟩:=hrel
      have h6:=lev_le6 (y:=m) (by have:=(widN_le l).1;omega)
      have cb:=rBelow_any (m:Int) b w
      have hstep:comF l b (7 - k) m=if belB (m:Int) b then m else match parN (m:Int) l with | some p=>comF l b (7 - (k+1)) p | none=>m:=by
       rw [show 7 - k=(7 - (k+1))+1 by omega]
       rfl
      by_cases hbel:belB (m:Int) b=true
      · rw [hbel] at cb
        rw [if_pos hbel] at hstep
        have hPm:P=m:=by rw [HQ.out,hstep]
        clear hstep HQ HP
        go_wp2_with (go_at_call 31;refine cb.mono ?_;clear cb;rintro e w1 ⟨rfl,hw⟩;subst hw)
        go_ret2
        exact ⟨by rw [hPm];rfl,rfl⟩
      · rw [if_neg hbel] at hstep
        have hbf:belB (m:Int) b=false:=by simpa using hbel
        rw [hbf] at cb
        have c:=rParent_any (m:Int) l w
        unfold parA at c
        cases hp:parN (m:Int) l with
        | none =>
         have:=root_only hl hm hp
         rw [this,root_all hB] at hbf
         cases hbf
        | some p =>
         rw [hp] at c hstep
         replace c:Calls Tryd.prog 13 #[.int .i64 (m:Int),.int .i64 l] w fun e w'=>e = .returned (.tuple #[.int .i64 (p:Int),.bool true])∧w=w':=c
         obtain ⟨g1,g2⟩:=par_lev hp
         obtain ⟨g3,-,-,-⟩:=parN_some hp
         have HN:Hid (P=comF l b (7 - (k+1)) p):=HQ.out.trans hstep
         have hlt:7 - levN p<7 - levN m:=by omega
         have hk2:k+1≤levN p:=by omega
         clear hstep hp HQ HP hbel hbf
         go_wp2_with (first
          | (go_at_call 31;refine cb.mono ?_;clear cb;rintro e w1 ⟨rfl,hw⟩;subst hw)
          | (go_at_call 13;refine c.mono ?_;clear c;rintro e w1 ⟨rfl,hw⟩;subst hw))
         go_roundw
         case rel=>exact ⟨k+1,p,rfl,g3,hk2,HN,trivial⟩
         case measure=>simp only [intOf,Int.toNat_natCast];exact hlt
   · replace hB:theB b l=false:=by simpa using hB
     rw [hA] at c1
     rw [hB] at c2
     rw [hA,hB]
     go_enter Tryd.func24,Tryd.ntmps24
     go_wp2_with (first
      | (go_at_call 45;refine c1.mono ?_;clear c1;rintro e w1 ⟨rfl,hw⟩;subst hw)
      | (go_at_call 45;refine c2.mono ?_;clear c2;rintro e w1 ⟨rfl,hw⟩;subst hw))
     go_ret2
     exact ⟨rfl,rfl⟩
 · replace hA:theB a l=false:=by simpa using hA
   rw [hA] at c1 ⊢
   go_enter Tryd.func24,Tryd.ntmps24
   go_wp2_with (go_at_call 45;refine c1.mono ?_;clear c1;rintro e w1 ⟨rfl,hw⟩;subst hw)
   go_ret2
   exact ⟨rfl,rfl⟩
end Go.Proofs.YtodhmfddfjfhjaaDoor
namespace Go.Proofs.YtodhmfddfjfhjaaDoor
open Go.RowKit
def FB (c:Nat):Nat:=floatOfInt .f64 (c:Int)
structure Fin0 (x:Nat):Prop where
 abs:bits BinOp.andNot .u64 (x:Int) 9223372036854775808=(x:Int)
 max:FloatKind.f64.format.order x 9218868437227405311=some .lt
 self:FloatKind.f64.format.order x x=some .eq
 neg:FloatKind.f64.format.order x 0=some .gt∨FloatKind.f64.format.order x 0=some .eq
theorem fin_tab (c:Nat) (hc:c<128):Fin0 (FB c):=by
 have h:(List.range 128).all (fun c=>bits BinOp.andNot .u64 (FB c:Int) 9223372036854775808 == (FB c:Int) && FloatKind.f64.format.order (FB c) 9218868437227405311 == some .lt && FloatKind.f64.format.order (FB c) (FB c) == some .eq && (FloatKind.f64.format.order (FB c) 0 == some .gt || FloatKind.f64.format.order (FB c) 0 == some .eq))=true:=by kernel_rfl
 have:=List.all_eq_true.1 h c (List.mem_range.2 hc)
 simp only [Bool.and_eq_true,Bool.or_eq_true,beq_iff_eq] at this
 exact ⟨this.1.1.1,this.1.1.2,this.1.2,this.2⟩
theorem bits_run (x:Nat) (W:World):(callFunc 64 #[.float .f64 x]).run Tryd.prog W = .ok (.value (.int .u64 (x:Int))) W:=by
 rw [run_callFunc_extern (e:=Extern.MathFloatBits.float64bits) Tryd.func64 (by kernel_rfl) (by kernel_rfl) (by kernel_rfl) (by kernel_rfl)]
 rfl
theorem from_run (x:Nat) (W:World):(callFunc 63 #[.int .u64 (x:Int)]).run Tryd.prog W = .ok (.value (.float .f64 x)) W:=by
 rw [run_callFunc_extern (e:=Extern.MathFloatBits.float64frombits) Tryd.func63 (by kernel_rfl) (by kernel_rfl) (by kernel_rfl) (by kernel_rfl)]
 rfl
theorem abs_any (x:Nat) (hx:Fin0 x) (w:World):Calls Tryd.prog 59 #[.float .f64 x] w fun e w'=>e = .returned (.float .f64 x)∧w=w':=by
 have h1:=bits_run x
 have h2:=from_run x
 have h3:=hx.abs
 clear hx
 go_enter Tryd.func59,Tryd.ntmps59
 go_wp2
 go_ret
 exact ⟨rfl,rfl⟩
theorem isInf_any (x:Nat) (hx:Fin0 x) (w:World):Calls Tryd.prog 56 #[.float .f64 x,.int .i64 0] w fun e w'=>e = .returned (.bool false)∧w=w':=by
 have c:=abs_any x hx w
 have h:=hx.max
 clear hx
 go_enter Tryd.func56,Tryd.ntmps56
 go_wp2_with (go_at_call 59;refine c.mono ?_;clear c;rintro e w1 ⟨rfl,hw⟩;subst hw)
 go_ret
 exact ⟨rfl,rfl⟩
theorem isNaN_any (x:Nat) (hx:Fin0 x) (w:World):Calls Tryd.prog 57 #[.float .f64 x] w fun e w'=>e = .returned (.bool false)∧w=w':=by
 have h:=hx.self
 clear hx
 go_enter Tryd.func57,Tryd.ntmps57
 go_wp2
 go_ret
 exact ⟨rfl,rfl⟩
theorem normal_any (x:Nat) (hx:Fin0 x) (hs:FloatKind.f64.format.order x 4503599627370496=some .gt) (w:World):Calls Tryd.prog 71 #[.float .f64 x] w fun e w'=>e = .returned (.tuple #[.float .f64 x,.int .i64 0])∧w=w':=by
 have c:=abs_any x hx w
 clear hx
 go_enter Tryd.func71,Tryd.ntmps71
 go_wp2_with (go_at_call 59;refine c.mono ?_;clear c;rintro e w1 ⟨rfl,hw⟩;subst hw)
 go_ret2
 exact ⟨rfl,rfl⟩
structure Fin1 (x r:Nat) (z:Int):Prop where
 fin:Fin0 x
 pos:FloatKind.f64.format.order x 0=some .gt
 nor:FloatKind.f64.format.order x 4503599627370496=some .gt
 exp:wrap64 (wrap64 (wrap64 (wrap64 (bits .and .u64 ((x:Int) / 4503599627370496) 2047) - 1023)+1))=z
 frc:bits .or .u64 (bits .andNot .u64 (x:Int) 9218868437227405312) 4602678819172646912=(r:Int)
theorem frexp_any (x r:Nat) (z:Int) (hx:Fin1 x r z) (w:World):Calls Tryd.prog 66 #[.float .f64 x] w fun e w'=>e = .returned (.tuple #[.float .f64 r,.int .i64 z])∧w=w':=by
 have c1:=isInf_any x hx.fin w
 have c2:=isNaN_any x hx.fin w
 have c3:=normal_any x hx.fin hx.nor w
 have h1:=bits_run x
 have h2:=from_run r
 have h3:=hx.pos
 have h4:=hx.exp
 have h5:=hx.frc
 clear hx
 go_enter Tryd.func66,Tryd.ntmps66
 go_wp2_with (first
  | (go_at_call 56;refine c1.mono ?_;clear c1;rintro e w1 ⟨rfl,hw⟩;subst hw)
  | (go_at_call 57;refine c2.mono ?_;clear c2;rintro e w1 ⟨rfl,hw⟩;subst hw)
  | (go_at_call 71;refine c3.mono ?_;clear c3;rintro e w1 ⟨rfl,hw⟩;subst hw))
 rw [h4]
 go_ret2
 exact ⟨rfl,rfl⟩
theorem Frexp_any (x r:Nat) (z:Int) (hx:Fin1 x r z) (w:World):Calls Tryd.prog 60 #[.float .f64 x] w fun e w'=>e = .returned (.tuple #[.float .f64 r,.int .i64 z])∧w=w':=by
 have c:=frexp_any x r z hx w
 clear hx
 go_enter Tryd.func60,Tryd.ntmps60
 go_wp2_with (go_at_call 66;refine c.mono ?_;clear c;rintro e w1 ⟨rfl,hw⟩;subst hw)
 go_ret2
 exact ⟨rfl,rfl⟩
def frB (d:Nat):Nat:=(bits .or .u64 (bits .andNot .u64 (FB d:Int) 9218868437227405312) 4602678819172646912).toNat
theorem fin1_tab (d:Nat) (h0:0<d) (hd:d<128):Fin1 (FB d) (frB d) ((Nat.log2 d+1:Nat):Int):=by
 have h:(List.range 128).all (fun d=>d == 0 || (FloatKind.f64.format.order (FB d) 0 == some .gt && FloatKind.f64.format.order (FB d) 4503599627370496 == some .gt && wrap64 (wrap64 (wrap64 (wrap64 (bits .and .u64 ((FB d:Int) / 4503599627370496) 2047) - 1023)+1)) == ((Nat.log2 d+1:Nat):Int) && bits .or .u64 (bits .andNot .u64 (FB d:Int) 9218868437227405312) 4602678819172646912 == (frB d:Int)))=true:=by kernel_rfl
 have:=List.all_eq_true.1 h d (List.mem_range.2 hd)
 simp only [Bool.and_eq_true,Bool.or_eq_true,beq_iff_eq] at this
 have:=this.resolve_left (by omega)
 exact ⟨fin_tab d hd,this.1.1.1,this.1.1.2,this.1.2,this.2⟩
theorem ldexp_at (z:Int) (hz:0≤z) (hz4:z≤4) (v:Nat) (hv:bits BinOp.or IntKind.u64 0 ((z+1+1023)*4503599627370496)=(v:Int)) (hm:∀ W,(binOp .mul 35 (.float .f64 4607182418800017408) (.float .f64 v)).run Tryd.prog W = .ok (.float .f64 v) W) (w:World):Calls Tryd.prog 68 #[.float .f64 4611686018427387904,.int .i64 z] w fun e w'=>e = .returned (.float .f64 v)∧w=w':=by
 have hx:=fin1_tab 2 (by decide) (by decide)
 rw [show FB 2=4611686018427387904 by kernel_rfl] at hx
 have c1:=isInf_any _ hx.fin w
 have c2:=isNaN_any _ hx.fin w
 have c3:=normal_any _ hx.fin hx.nor w
 have h1:∀ W,(callFunc 64 #[.float .f64 4611686018427387904]).run Tryd.prog W = .ok (.value (.int .u64 4611686018427387904)) W:=bits_run 4611686018427387904
 have h2:=from_run v
 have h3:=hx.pos
 have h4:bits BinOp.and IntKind.i64 1024 2047=1024:=by kernel_rfl
 have h5:bits BinOp.andNot IntKind.u64 4611686018427387904 9218868437227405312=0:=by kernel_rfl
 have h6:wrap64 (1024 - 1023)=1:=by kernel_rfl
 have h7:wrap64 (z+1)=z+1:=by unfold wrap64;omega
 have t1:¬z+1 < -1075:=by omega
 have t2:¬z+1 > 1023:=by omega
 have t3:¬z+1 < -1022:=by omega
 clear hx
 go_enter Tryd.func68,Tryd.ntmps68
 go_wp2_with (first
  | (go_at_call 56;refine c1.mono ?_;clear c1;rintro e w1 ⟨rfl,hw⟩;subst hw)
  | (go_at_call 57;refine c2.mono ?_;clear c2;rintro e w1 ⟨rfl,hw⟩;subst hw)
  | (go_at_call 71;refine c3.mono ?_;clear c3;rintro e w1 ⟨rfl,hw⟩;subst hw))
 go_ret
 exact ⟨rfl,rfl⟩
theorem Ldexp_any (k:Nat) (hk:k≤4) (w:World):Calls Tryd.prog 61 #[.float .f64 4611686018427387904,.int .i64 (k:Int)] w fun e w'=>e = .returned (.float .f64 (FB (2 ^ (k+1))))∧w=w':=by
 have ht:(List.range 5).all (fun k=>bits BinOp.or IntKind.u64 0 (((k:Int)+1+1023)*4503599627370496) == (FB (2 ^ (k+1)):Int) && floatBits .mul .f64 4607182418800017408 (FB (2 ^ (k+1))) == some (FB (2 ^ (k+1))))=true:=by kernel_rfl
 have h:=List.all_eq_true.1 ht k (List.mem_range.2 (by omega))
 simp only [Bool.and_eq_true,beq_iff_eq] at h
 have c:=ldexp_at (k:Int) (by omega) (by omega) (FB (2 ^ (k+1))) h.1 (fun W=>run_float_arith W .mul _ .f64 _ _ _ h.2) w
 clear h ht
 generalize FB (2 ^ (k+1))=v at *
 go_enter Tryd.func61,Tryd.ntmps61
 go_wp2_with (go_at_call 68;refine c.mono ?_;clear c;rintro e w1 ⟨rfl,hw⟩;subst hw)
 go_ret
 exact ⟨rfl,rfl⟩
end Go.Proofs.YtodhmfddfjfhjaaDoor
namespace Go.Proofs.YtodhmfddfjfhjaaDoor
open Go.RowKit
def fltN:Value→Nat
 | .float _ b=>b
 | _=>0
theorem mod_tab (d:Nat) (hd:d<64) (h2:2≤d):(FloatKind.f64.format.order (FB d) 4611686018427387904=some .gt∨FloatKind.f64.format.order (FB d) 4611686018427387904=some .eq)∧(FloatKind.f64.format.order (frB d) 4602678819172646912 == some .lt)=false∧1≤Nat.log2 d∧Nat.log2 d≤5∧floatBits .sub .f64 (FB d) (FB (2 ^ (Nat.log2 d - 1+1)))=some (FB (d - 2 ^ Nat.log2 d))∧FB (d - 2 ^ Nat.log2 d)<FB d∧(d - 2 ^ Nat.log2 d)%2=d%2:=by
 have h:(List.range 64).all (fun d=>decide (d<2) || ((FloatKind.f64.format.order (FB d) 4611686018427387904 == some .gt || FloatKind.f64.format.order (FB d) 4611686018427387904 == some .eq) && (FloatKind.f64.format.order (frB d) 4602678819172646912 == some .lt) == false && decide (1≤Nat.log2 d) && decide (Nat.log2 d≤5) && floatBits .sub .f64 (FB d) (FB (2 ^ (Nat.log2 d - 1+1))) == some (FB (d - 2 ^ Nat.log2 d)) && decide (FB (d - 2 ^ Nat.log2 d)<FB d) && (d - 2 ^ Nat.log2 d)%2 == d%2))=true:=by kernel_rfl
 have:=List.all_eq_true.1 h d (List.mem_range.2 hd)
 simp only [Bool.and_eq_true,Bool.or_eq_true,beq_iff_eq,decide_eq_true_eq] at this
 obtain ⟨⟨⟨⟨⟨⟨a,b⟩,c⟩,d⟩,e⟩,f⟩,g⟩:=this.resolve_left (by omega)
 exact ⟨a,b,c,d,e,f,g⟩
theorem less_tab (d:Nat) (h2:d<2):FloatKind.f64.format.order (FB d) 4611686018427387904=some .lt:=by
 rcases (show d=0∨d=1 by omega) with rfl | rfl <;> kernel_rfl
theorem mod_any (c:Nat) (hc:c<64) (w:World):Calls Tryd.prog 53 #[.float .f64 (FB c),.float .f64 4611686018427387904] w fun e w'=>e = .returned (.float .f64 (FB (c%2)))∧w=w':=by
 have F2:=fin1_tab 2 (by decide) (by decide)
 rw [show FB 2=4611686018427387904 by kernel_rfl,show frB 2=4602678819172646912 by kernel_rfl,show ((Nat.log2 2+1:Nat):Int)=2 by kernel_rfl] at F2
 have F0:=fin_tab c (by omega)
 have c1:=isInf_any _ F0 w
 have c2:=isNaN_any _ F0 w
 have c3:=isNaN_any _ F2.fin w
 have c4:=abs_any _ F2.fin w
 have c5:=Frexp_any _ _ _ F2 w
 have h2:=F2.pos
 have hx:(FloatKind.f64.format.order (FB c) 0 == some .lt)=false:=by rcases F0.neg with h | h <;> rw [h] <;> rfl
 generalize hx0:FB c=x at *
 have HX0:=Hid.mk' hx0
 clear F2 F0 hx0
 go_enter Tryd.func53,Tryd.ntmps53
 go_wp2_with (first
  | (go_at_call 56;refine c1.mono ?_;clear c1;rintro e w1 ⟨rfl,hw⟩;subst hw)
  | (go_at_call 57;refine c2.mono ?_;clear c2;rintro e w1 ⟨rfl,hw⟩;subst hw)
  | (go_at_call 57;refine c3.mono ?_;clear c3;rintro e w1 ⟨rfl,hw⟩;subst hw)
  | (go_at_call 59;refine c4.mono ?_;clear c4;rintro e w1 ⟨rfl,hw⟩;subst hw)
  | (go_at_call 60;refine c5.mono ?_;clear c5;rintro e w1 ⟨rfl,hw⟩;subst hw))
 go_loopw [7] (fun r wr=>(∃ d:Nat,d<64∧r = .float .f64 (FB d)∧Hid (d%2=c%2))∧wr=w) (fun r _=>fltN r)
 case atStart=>exact ⟨⟨c,hc,by rw [HX0.out],Hid.mk' rfl⟩,rfl⟩
 case round =>
  obtain ⟨⟨d,hd,rfl,HD⟩,rfl⟩:=hrel
  by_cases h2d:d<2
  · have hl:=less_tab d h2d
    have hdd:d=c%2:=by have:=HD.out;omega
    have HP:Hid (FB d=FB (c%2)):=Hid.mk' (by rw [←hdd])
    generalize FB d=y at *
    clear hdd HD HX0
    go_wp2
    go_ret
    refine ⟨?_,rfl⟩
    rw [←HP.out]
    rfl
  · obtain ⟨g1,g2,g3,g4,g5,g6,g7⟩:=mod_tab d hd (by omega)
    have c6:=Frexp_any _ _ _ (fin1_tab d (by omega) (by omega)) wr
    have c7:=Ldexp_any (Nat.log2 d - 1) (by omega) wr
    have g8:∀ W,(binOp .sub 35 (.float .f64 (FB d)) (.float .f64 (FB (2 ^ (Nat.log2 d - 1+1))))).run Tryd.prog W = .ok (.float .f64 (FB (d - 2 ^ Nat.log2 d))) W:=fun W=>run_float_arith W .sub _ .f64 _ _ _ g5
    have u1:wrap64 (((Nat.log2 d+1:Nat):Int) - 2)=((Nat.log2 d - 1:Nat):Int):=by unfold wrap64;omega
    have HE:Hid ((d - 2 ^ Nat.log2 d)%2=c%2):=g7.trans HD.out
    have hlt:d - 2 ^ Nat.log2 d<64:=Nat.lt_of_le_of_lt (Nat.sub_le _ _) hd
    generalize FB (2 ^ (Nat.log2 d - 1+1))=q at *
    generalize d - 2 ^ Nat.log2 d=d' at *
    obtain ⟨z1,hz1⟩:∃ z:Int,z=((Nat.log2 d+1:Nat):Int):=⟨_,rfl⟩
    obtain ⟨z2,hz2⟩:∃ z:Int,z=((Nat.log2 d - 1:Nat):Int):=⟨_,rfl⟩
    rw [←hz1] at c6 u1
    rw [←hz2] at c7 u1
    have HM:Hid (FB d'<FB d):=g6
    clear hz1 hz2 g3 g4 g5 g6 g7 HX0
    generalize frB d=fr at *
    have g1':(FloatKind.f64.format.order (FB d) 4611686018427387904 == some .gt || FloatKind.f64.format.order (FB d) 4611686018427387904 == some .eq)=true:=by rcases g1 with h | h <;> rw [h] <;> rfl
    clear g1
    go_wp2_with (first
     | (go_at_call 60;refine c6.mono ?_;clear c6;rintro e w1 ⟨rfl,hw⟩;subst hw)
     | (go_at_call 61;refine c7.mono ?_;clear c7;rintro e w1 ⟨rfl,hw⟩;subst hw))
    go_roundw
    case rel=>exact ⟨⟨d',hlt,rfl,HE⟩,trivial⟩
    case measure=>exact HM.out
theorem Mod_any (c:Nat) (hc:c<64) (w:World):Calls Tryd.prog 48 #[.float .f64 (FB c),.float .f64 4611686018427387904] w fun e w'=>e = .returned (.float .f64 (FB (c%2)))∧w=w':=by
 have k:=mod_any c hc w
 generalize FB (c%2)=v at *
 generalize FB c=x at *
 go_enter Tryd.func48,Tryd.ntmps48
 go_wp2_with (go_at_call 53;refine k.mono ?_;clear k;rintro e w1 ⟨rfl,hw⟩;subst hw)
 go_ret
 exact ⟨rfl,rfl⟩
def flrB (x:Nat):Option Nat:=if (FloatKind.f64.decode x).isNaN then none else some (FloatKind.f64.encode ((FloatKind.f64.decode x).integral .down))
theorem flr_in (x r:Nat) (h:flrB x=some r):Extern.MathFloor.toIntegral "math.archFloor" .down #[.float .f64 x]=pure (.float .f64 r):=by
 unfold flrB at h
 suffices hh:∀ d,FloatKind.f64.decode x=d→d.isNaN=false→Extern.MathFloor.toIntegral "math.archFloor" .down #[.float .f64 x]=pure (.float .f64 (FloatKind.f64.encode (d.integral .down))) by
  cases hn:(FloatKind.f64.decode x).isNaN with
  | true=>rw [hn] at h;cases h
  | false=>rw [hn] at h;cases h;exact hh _ rfl hn
 intro d hd hn
 cases d with
 | nan s t=>cases hn
 | number a b c =>
  conv=>lhs;whnf
  rw [hd]
 | infinity a =>
  conv=>lhs;whnf
  rw [hd]
theorem flr_run (x r:Nat) (h:flrB x=some r) (W:World):(callFunc 54 #[.float .f64 x]).run Tryd.prog W = .ok (.value (.float .f64 r)) W:=by
 rw [run_callFunc_extern (e:=Extern.MathFloor.toIntegral "math.archFloor" .down) Tryd.func54 (by kernel_rfl) (by kernel_rfl) (by kernel_rfl) (by kernel_rfl),flr_in x r h]
 rfl
theorem Floor_any (x r:Nat) (h:flrB x=some r) (w:World):Calls Tryd.prog 49 #[.float .f64 x] w fun e w'=>e = .returned (.float .f64 r)∧w=w':=by
 have k:=flr_run x r h
 clear h
 go_enter Tryd.func49,Tryd.ntmps49
 go_wp2
 go_ret
 exact ⟨rfl,rfl⟩
def halfB (b:Nat):Nat:=((floatBits .quo .f64 (FB b) 4611686018427387904).getD 0)
theorem step_tab (b:Nat) (hb:b<64):floatBits .quo .f64 (FB b) 4611686018427387904=some (halfB b)∧flrB (halfB b)=some (FB (b / 2))∧floatBits .add .f64 (FB b) 4607182418800017408=some (FB (b+1))∧floatBits .mul .f64 4611686018427387904 (FB b)=some (FB (2*b))∧(0<b→floatBits .sub .f64 (FB b) 4607182418800017408=some (FB (b - 1)))∧floatBits .add .f64 (FB b) 0=some (FB b)∧floatBits .sub .f64 (FB b) 0=some (FB b):=by
 have h:(List.range 64).all (fun b=>floatBits .quo .f64 (FB b) 4611686018427387904 == some (halfB b) && flrB (halfB b) == some (FB (b / 2)) && floatBits .add .f64 (FB b) 4607182418800017408 == some (FB (b+1)) && floatBits .mul .f64 4611686018427387904 (FB b) == some (FB (2*b)) && (b == 0 || floatBits .sub .f64 (FB b) 4607182418800017408 == some (FB (b - 1))) && floatBits .add .f64 (FB b) 0 == some (FB b) && floatBits .sub .f64 (FB b) 0 == some (FB b))=true:=by kernel_rfl
 have:=List.all_eq_true.1 h b (List.mem_range.2 hb)
 simp only [Bool.and_eq_true,Bool.or_eq_true,beq_iff_eq] at this
 obtain ⟨⟨⟨⟨⟨⟨a1,a2⟩,a3⟩,a4⟩,a5⟩,a6⟩,a7⟩:=this
 exact ⟨a1,a2,a3,a4,fun h=>a5.resolve_left (by omega),a6,a7⟩
theorem above_any (a b:Nat) (ha:a<64) (hb:b<64) (w:World):Calls Tryd.prog 40 #[.complex .f64 (FB a) (FB b)] w fun e w'=>e = .returned (.complex .f64 (FB (a+1)) (FB (b / 2)))∧w=w':=by
 obtain ⟨-,-,s1,-⟩:=step_tab a ha
 obtain ⟨s2,s3,-⟩:=step_tab b hb
 have k:=Floor_any _ _ s3 w
 have r1:∀ W,_:=fun W=>run_float_arith (P:=Tryd.prog) W .add 35 .f64 _ _ _ s1
 have r2:∀ W,_:=fun W=>run_float_arith (P:=Tryd.prog) W .quo 35 .f64 _ _ _ s2
 clear s1 s2 s3
 generalize FB (a+1)=v1 at *
 generalize FB a=x at *
 generalize halfB b=h at *
 generalize FB (b / 2)=v2 at *
 generalize FB b=y at *
 go_enter Tryd.func40,Tryd.ntmps40
 go_wp2_with (go_at_call 49;refine k.mono ?_;clear k;rintro e w1 ⟨rfl,hw⟩;subst hw)
 go_ret
 exact ⟨rfl,rfl⟩
theorem leftOf_any (a b:Nat) (ha:a<64) (h0:0<a) (hb:b<64) (w:World):Calls Tryd.prog 35 #[.complex .f64 (FB a) (FB b)] w fun e w'=>e = .returned (.complex .f64 (FB (a - 1)) (FB (2*b)))∧w=w':=by
 obtain ⟨-,-,-,-,s1,-⟩:=step_tab a ha
 obtain ⟨-,-,-,s2,-⟩:=step_tab b hb
 have r1:∀ W,_:=fun W=>run_float_arith (P:=Tryd.prog) W .sub 35 .f64 _ _ _ (s1 h0)
 have r2:∀ W,_:=fun W=>run_float_arith (P:=Tryd.prog) W .mul 35 .f64 _ _ _ s2
 clear s1 s2
 generalize FB (a - 1)=v1 at *
 generalize FB a=x at *
 generalize FB (2*b)=v2 at *
 generalize FB b=y at *
 go_enter Tryd.func35,Tryd.ntmps35
 go_wp2
 go_ret
 exact ⟨rfl,rfl⟩
theorem cadd_run (a b c d x y:Nat) (h1:floatBits .add .f64 a c=some x) (h2:floatBits .add .f64 b d=some y) (W:World):(binOp .add 33 (.complex .f64 a b) (.complex .f64 c d)).run Tryd.prog W = .ok (.complex .f64 x y) W:=by
 replace h1:FloatKind.f64.format.add a c=some x:=h1
 replace h2:FloatKind.f64.format.add b d=some y:=h2
 simp [binOp,Op.complexOp,Op.Complex.arith,Op.floatArith,h1,h2]
theorem csub_run (a b c d x y:Nat) (h1:floatBits .sub .f64 a c=some x) (h2:floatBits .sub .f64 b d=some y) (W:World):(binOp .sub 33 (.complex .f64 a b) (.complex .f64 c d)).run Tryd.prog W = .ok (.complex .f64 x y) W:=by
 replace h1:FloatKind.f64.format.sub a c=some x:=h1
 replace h2:FloatKind.f64.format.sub b d=some y:=h2
 simp [binOp,Op.complexOp,Op.Complex.arith,Op.floatArith,h1,h2]
def othN (b:Nat):Nat:=if b%2=0 then b+1 else b - 1
theorem beside_any (a b:Nat) (ha:a<64) (hb:b<64) (w:World):Calls Tryd.prog 38 #[.complex .f64 (FB a) (FB b)] w fun e w'=>e = .returned (.complex .f64 (FB a) (FB (othN b)))∧w=w':=by
 obtain ⟨-,-,-,-,-,s1,s2⟩:=step_tab a ha
 obtain ⟨-,-,s3,-,s4,-,-⟩:=step_tab b hb
 have k:=Mod_any b hb w
 unfold othN
 by_cases h0:b%2=0
 · rw [h0,show FB 0=0 by kernel_rfl] at k
   rw [if_pos h0]
   have r:=cadd_run _ _ _ _ _ _ s1 s3
   have o:FloatKind.f64.format.order 0 0=some .eq:=by kernel_rfl
   clear s1 s2 s3 s4 h0
   generalize FB a=x at *
   generalize FB (b+1)=v at *
   generalize FB b=y at *
   go_enter Tryd.func38,Tryd.ntmps38
   go_wp2_with (go_at_call 48;refine k.mono ?_;clear k;rintro e w1 ⟨rfl,hw⟩;subst hw)
   go_ret
   exact ⟨rfl,rfl⟩
 · rw [show b%2=1 by omega,show FB 1=4607182418800017408 by kernel_rfl] at k
   rw [if_neg h0]
   have r:=csub_run _ _ _ _ _ _ s2 (s4 (by omega))
   have o:FloatKind.f64.format.order 4607182418800017408 0=some .gt:=by kernel_rfl
   clear s1 s2 s3 s4 h0
   generalize FB a=x at *
   generalize FB (b - 1)=v at *
   generalize FB b=y at *
   go_enter Tryd.func38,Tryd.ntmps38
   go_wp2_with (go_at_call 48;refine k.mono ?_;clear k;rintro e w1 ⟨rfl,hw⟩;subst hw)
   go_ret
   exact ⟨rfl,rfl⟩
end Go.Proofs.YtodhmfddfjfhjaaDoor
namespace Go.Proofs.YtodhmfddfjfhjaaDoor
open Go.RowKit
structure DbT (w:World):Prop where
 lt:0<w.heap.size
 cell:∀ j,j<64→w.cell? ⟨0,j,none⟩=some (.int .u8 ((Lib.deBruijn64tab.getD j 0:Nat):Int))
theorem DbT.keep {w w':World} (h:DbT w) (hb:Below w.heap.size w w'):DbT w' :=
 ⟨Nat.lt_of_lt_of_le h.lt hb.size,fun j hj=>(hb.cell (p:=⟨0,j,none⟩) h.lt).trans (h.cell j hj)⟩
set_option maxHeartbeats 1000000 in
theorem tz_core (x k idx:Nat) (w:World) (hx0:((x:Int) == 0)=false)
 (key:IntKind.u64.wrap (bits BinOp.and IntKind.u64 (x:Int) (IntKind.u64.wrap (-(x:Int)))*285870213051353865) / 288230376151711744=(idx:Int))
 (hi:idx<64) (hk:k<64) (hcell:w.cell? ⟨0,idx,none⟩=some (.int .u8 k)) :
 Calls Tryd.prog 43 #[.int .u64 x] w fun e w'=>e = .returned (.int .i64 k)∧w=w':=by
 go_enter Tryd.func43,Tryd.ntmps43
 go_wp2_with (simp only [key])
 go_ret
 exact ⟨rfl,rfl⟩
theorem tz_key (x a:Nat) (hx:x<18446744073709551616) (hx0:x≠0) (hlow:x &&& (18446744073709551616 - x)=a) :
 IntKind.u64.wrap (bits BinOp.and IntKind.u64 (x:Int) (IntKind.u64.wrap (-(x:Int)))*285870213051353865) / 288230376151711744=((a*285870213051353865%18446744073709551616 / 288230376151711744:Nat):Int):=by
 have e1:IntKind.u64.wrap (-(x:Int))=((18446744073709551616 - x:Nat):Int):=by rw [IntKind.wrap_u64];omega
 rw [e1,bits_and_u64_nat x _ hx (by omega),hlow,IntKind.wrap_u64]
 omega
theorem tz_any (x:Nat) (hx:x<18446744073709551616) (hx0:x≠0) (w:World) (hT:DbT w) :
 Calls Tryd.prog 43 #[.int .u64 x] w fun e w'=>e = .returned (.int .i64 (Lib.ctz 64 x))∧w=w':=by
 obtain ⟨hlow,hk⟩:=Lib.lowest_bit 64 x hx0 hx
 obtain ⟨hi,htab⟩:=Lib.deBruijn64_at _ hk
 have hcell:=hT.cell _ hi
 rw [htab] at hcell
 exact tz_core x _ _ w (by simp;omega) (tz_key x _ hx hx0 hlow) hi hk hcell
theorem ctz_lev:∀ f x,x<2 ^ f→Lib.ctzFrom (f+1) (2 ^ (f+1) - 1 - x)=levF (f+1) x
 | 0,x,h=>by
  have:x=0:=by simpa using h
  subst this
  rfl
 | f+1,x,h=>by
  have e:2 ^ (f+1+1)=2*2 ^ (f+1):=by rw [Nat.pow_succ 2 (f+1),Nat.mul_comm]
  have e':2 ^ (f+1)=2*2 ^ f:=by rw [Nat.pow_succ 2 f,Nat.mul_comm]
  show (if (2 ^ (f+1+1) - 1 - x)%2=1 then 0 else 1+Lib.ctzFrom (f+1) ((2 ^ (f+1+1) - 1 - x) / 2))=(if x%2=1 then levF (f+1) (x / 2)+1 else 0)
  by_cases ho:x%2=1
  · rw [if_neg (by omega),if_pos ho,show (2 ^ (f+1+1) - 1 - x) / 2=2 ^ (f+1) - 1 - x / 2 by omega,ctz_lev f (x / 2) (by omega),Nat.add_comm]
  · rw [if_pos (by omega),if_neg ho]
theorem ctz_levN (x:Nat) (h:x<9223372036854775808):Lib.ctz 64 (18446744073709551615 - x)=levN x:=by
 unfold Lib.ctz
 rw [if_neg (by omega)]
 exact ctz_lev 63 x h
def levA (x:Int):Int:=if x<0 then -1 else (levN x.toNat:Int)
theorem rLevel_any (x:Int) (hx:x≤9223372036854775807) (w:World):Calls Tryd.prog 21 #[.int .i64 x] w fun e w'=>e = .returned (.int .i64 (levA x))∧w=w':=by
 unfold levA
 by_cases h:x<0
 · rw [if_pos h]
   exact rLevel_neg x h w
 · rw [if_neg h]
   obtain ⟨y,rfl⟩:∃ y:Nat,x=(y:Int):=⟨x.toNat,by omega⟩
   rw [Int.toNat_natCast]
   exact rLevel_pos y (by omega) w
theorem not_u64 (y:Nat) (h:y<9223372036854775808):bits BinOp.xor IntKind.u64 IntKind.u64.max (y:Int)=((18446744073709551615 - y:Nat):Int):=by
 show IntKind.u64.wrap ((BitVec.ofInt 64 IntKind.u64.max ^^^ BitVec.ofInt 64 (y:Int)).toNat:Int)=_
 rw [show BitVec.ofInt 64 IntKind.u64.max=BitVec.allOnes 64 by decide,BitVec.allOnes_xor,BitVec.toNat_not,BitVec.ofInt_natCast,BitVec.toNat_ofNat,Nat.mod_eq_of_lt (by omega),IntKind.wrap_u64]
 omega
theorem iLevel_any (x:Int) (hx:x≤9223372036854775807) (w:World) (hT:DbT w):Calls Tryd.prog 20 #[.int .i64 x] w fun e w'=>e = .returned (.int .i64 (levA x))∧w=w':=by
 unfold levA
 by_cases h:x<0
 · rw [if_pos h]
   go_enter Tryd.func20,Tryd.ntmps20
   go_wp2
   go_ret
   exact ⟨rfl,rfl⟩
 · rw [if_neg h]
   obtain ⟨y,rfl⟩:∃ y:Nat,x=(y:Int):=⟨x.toNat,by omega⟩
   have hy:y<9223372036854775808:=by omega
   rw [Int.toNat_natCast]
   have c:=tz_any (18446744073709551615 - y) (by omega) (by omega) w hT
   rw [ctz_levN y hy] at c
   have hn:=not_u64 y hy
   have hs:IntKind.u64.signed=false:=rfl
   have h0:(0:Int)≤(y:Int):=by omega
   clear hT
   generalize 18446744073709551615 - y=z at *
   go_enter Tryd.func20,Tryd.ntmps20
   go_wp2_with (go_at_call 43;refine c.mono ?_;clear c;rintro e w1 ⟨rfl,hw⟩;subst hw)
   go_ret
   exact ⟨rfl,rfl⟩
end Go.Proofs.YtodhmfddfjfhjaaDoor
namespace Go.Proofs.YtodhmfddfjfhjaaDoor
open Go.RowKit
def plaF (z1 z2:Int):Nat→Int
 | 0=>-1
 | k+1=>if (levN k:Int)=z1∧(colN k:Int)=z2 then (k:Int) else plaF z1 z2 k
theorem fl_same:∀ c:Nat,c<128→(FloatKind.f64.format.order (floatOfInt .f64 (c:Int)) (floatOfInt .f64 (c:Int)) == some Ordering.eq)=true:=by
 have h:(List.range 128).all (fun c=>FloatKind.f64.format.order (floatOfInt .f64 (c:Int)) (floatOfInt .f64 (c:Int)) == some Ordering.eq)=true:=by kernel_rfl
 exact fun c hc=>List.all_eq_true.1 h c (List.mem_range.2 hc)
theorem pla_tab:∀ y:Nat,y<127→plaF (levN y:Int) (colN y:Int) 127=(y:Int)∧colN y<64:=by
 have h:(List.range 127).all (fun y=>plaF (levN y:Int) (colN y:Int) 127 == (y:Int) && decide (colN y<64))=true:=by kernel_rfl
 intro y hy
 have:=List.all_eq_true.1 h y (List.mem_range.2 hy)
 simpa using this
theorem norm_less (x:Int) (m:Nat) (hm:0<m) (hm2:m<1000):∃ z:Int,-1≤z∧z<(m:Int) - 1∧wrap64 (Int.tmod (wrap64 (Int.tmod x (m:Int)+(m:Int))) (m:Int) - 1)=z:=by
 have h1:=Int.tmod_lt_of_pos x (show (0:Int)<(m:Int) by omega)
 have h2:=Int.lt_tmod_of_pos x (show (0:Int)<(m:Int) by omega)
 have e1:wrap64 (Int.tmod x (m:Int)+(m:Int))=Int.tmod x (m:Int)+(m:Int):=by unfold wrap64;omega
 rw [e1]
 have h3:=Int.tmod_nonneg (m:Int) (show 0≤Int.tmod x (m:Int)+(m:Int) by omega)
 have h4:=Int.tmod_lt_of_pos (Int.tmod x (m:Int)+(m:Int)) (show (0:Int)<(m:Int) by omega)
 exact ⟨Int.tmod (Int.tmod x (m:Int)+(m:Int)) (m:Int) - 1,by omega,by omega,by unfold wrap64;omega⟩
end Go.Proofs.YtodhmfddfjfhjaaDoor
namespace Go.Proofs.YtodhmfddfjfhjaaDoor
open Go.RowKit
def hlfB (z:Int):Nat :=
 if z=-1 then 13826050856027422720 else if z=0 then 4602678819172646912 else if z=1 then 4609434218613702656 else if z=2 then 4612811918334230528 else if z=3 then 4615063718147915776 else if z=4 then 4616752568008179712 else if z=5 then 4617878467915022336 else if z=6 then 4619004367821864960 else if z=7 then 4620130267728707584 else if z=8 then 4620974692658839552 else 0
theorem add_half (z:Int) (h0:-1≤z) (h1:z<9) (W:World):(binOp .add 35 (.float .f64 (floatOfInt .f64 z)) (.float .f64 4602678819172646912)).run Tryd.prog W = .ok (.float .f64 (hlfB z)) W:=by
 rcases (show z=-1∨z=0∨z=1∨z=2∨z=3∨z=4∨z=5∨z=6∨z=7∨z=8 by omega) with rfl | rfl | rfl | rfl | rfl | rfl | rfl | rfl | rfl | rfl <;> kernel_rfl
end Go.Proofs.YtodhmfddfjfhjaaDoor
