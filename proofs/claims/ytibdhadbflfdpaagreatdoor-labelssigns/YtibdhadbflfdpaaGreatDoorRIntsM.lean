/- What the proof stands on: RInts, RLess, ROrder, RRest, RRed. -/
import Derived.Test.YtibdhadbflfdpaaGreatDoorPtBM
import Derived.Test.YtibdhadbflfdpaaGreatDoorPtEM
import Derived.Test.YtibdhadbflfdpaaGreatDoorSgHashM
namespace Go.Proofs.YtibdhadbflfdpaaGreatDoor
open Nat renaming le_refl → JW
open Nat renaming lt_of_lt_of_le → JX
open Nat renaming zero_add → J0
open Go renaming block_lt_of_cell → J5
open Go.RowKit
def fm (base:Nat) (w:World) (v:Value) (n:Nat) (X:Nat→Nat):Prop:=w.ownsRow base 3 1 v n (au .i64 n X)
theorem fm.below {base:Nat} {w w':World} {v:Value} {n:Nat} {X:Nat→Nat} (h:fm base w v n X) (hb:Below w.heap.size w w'):fm base w' v n X:=ji h hb
theorem fm.alloc {base:Nat} {w:World} {v:Value} {n:Nat} {X:Nat→Nat} (h:fm base w v n X) (o:Obj):fm base (w.alloc o) v n X:=h.below ((Below.refl _ _).alloc (JW _) _)
theorem fm.congr {base:Nat} {w:World} {v:Value} {n:Nat} {X Y:Nat→Nat} (h:fm base w v n X) (e:∀ j,j<n→X j=Y j):fm base w v n Y:=by
 unfold fm;rw [←jY _ _ _ _ e];exact h
theorem fm.form {base:Nat} {w:World} {v:Value} {n:Nat} {X:Nat→Nat} (h:fm base w v n X):(v = .slice none 0 0∧n=0)∨∃ g cap,v = .slice (some ⟨g,0,none⟩) n cap∧base≤g∧g<w.heap.size∧n≤cap∧ah .i64 w g 0 n X:=by
 rcases h.2 with hv | ⟨g,cap,cur,rfl,hb,hg,hn,_⟩
 · exact .inl hv
 · refine .inr ⟨g,cap,rfl,hb,(h.lt g rfl).2,hn,fun j hj => ?_⟩
   rw [J0];exact ⟨by rw [World.ownsRow.cellAt h j (by omega),bo _ _ _ j hj],World.ownsRow.frozenAt h j⟩
theorem fm.nil (base:Nat) (w:World) (X:Nat→Nat):fm base w (.slice none 0 0) 0 X:=World.ownsRow_nil w base _ _
theorem yq:(Tryz.prog.info? 3).map (fun i=>(i.zero,i.size,i.bytes))=some (some (.int .i64 0),1,8):=by kernel_rfl
theorem fv {w:World} {ops:Array Oper} {rest:List Oper} {o:Oper} {a:Act} {Q:Exit→Act→World→Prop} (hgd:o.guard=none) (s x:Operand)
 (ho:o.op = .call { callee := .builtin .append,args:=#[s,x],argTypes:=#[129,129] }) (base:Nat)
 (v:Value) (n:Nat) (F:Nat→Nat) (y:Int) (hs:a.eval s=v) (hown:fm base w v n F) (hx:a.eval x = .slice (some ⟨w.heap.size,0,none⟩) 1 1) (hF:y=(F n:Int))
 (hl:n+1≤100000) (hbase:base≤w.heap.size)
 (h:∀ v' w',fm base w' v' (n+1) F→Below base w w'→wpList Tryz.prog ops Q rest (a.put o.dst v') w'):wpList Tryz.prog ops Q (o :: rest) a (w.alloc (.cells #[.int .i64 y] 3)):=by
 obtain ⟨i0,hi,hz0,hz1,hz2⟩:=info_parts yq;have hb:Below base w (w.alloc (.cells #[.int .i64 y] 3)):=(Below.refl _ _).alloc hbase _
 have hz:base≤(w.alloc (.cells #[.int .i64 y] 3)).heap.size:=by simp only [World.size_alloc];omega
 refine wpList_append_own_at (w:=w.alloc (.cells #[.int .i64 y] 3)) hgd s x 129 ho base 3 i0 (.int .i64 0) 1 8 Tryz.underlying129 hi hz0 hz1 hz2 rfl (by decide) v n _ hs (hown.alloc _) ⟨w.heap.size,0,none⟩ 1 1 [.int .i64 y] hx rfl (nw w (.int .i64 y) 3) (pc .i64 y) (by unfold maxLen;omega) (by omega) hz ?_
 · intro v' w' h1 h2 _ _
   refine h v' w' ?_ (fU hb h2 (hown.alloc _) (JW _) hz);unfold fm
   have e:au .i64 (n+1) F=au .i64 n F ++ [.int .i64 y]:=by
    rw [hF];unfold au;rw [List.range_succ,List.map_append];rfl
   rw [e];exact h1
theorem zl (a b:Nat) (ha:a<9223372036854775808) (hb:b<9223372036854775808):bits .and .i64 (a:Int) (b:Int)=((a &&& b:Nat):Int):=by
 have hx:a &&& b≤a:=Nat.and_le_left;show IntKind.i64.wrap ((BitVec.ofInt 64 (a:Int) &&& BitVec.ofInt 64 (b:Int)).toNat:Int)=_;rw [BitVec.toNat_and,ofInt_u64 a (by omega),ofInt_u64 b (by omega),IntKind.wrap_i64];omega
theorem oR (a:Nat) (ha:a<9223372036854775808):bits .and .i64 (a:Int) 255=((a%256:Nat):Int):=by
 have h:=zl a 255 ha (by decide);rw [Nat.and_two_pow_sub_one_eq_mod a 8] at h;exact h
theorem Dl (a:Nat) (ha:a<9223372036854775808):bits .and .i64 (a:Int) 1=((a%2:Nat):Int):=by
 have h:=zl a 1 ha (by decide);rw [Nat.and_two_pow_sub_one_eq_mod a 1] at h;exact h
def zi (n:Nat):Array Value:=Array.replicate n (.int .i64 0)
theorem xU (n j:Nat) (h:j<n):(zi n)[j]? = some (.int .i64 0):=by simp [zi,h]
theorem Fc (n:Nat):madeCells (Value.int .i64 0).cells (n*1)=zi n:=by
 apply Array.ext_getElem?;intro j
 by_cases h:j<n
 · rw [xU n j h];simp [madeCells,Value.cells,h,Nat.mod_one]
 · simp [madeCells,zi,Value.cells,h]
theorem mp (W:World) (n:Nat) (l:Int) (hl:l=(n:Int)) (hn:n≤1000000):(Instr.makeSlice 129 (.int .i64 l) (.int .i64 l)).run Tryz.prog W = .ok (.slice (some ⟨W.heap.size,0,none⟩) n n) (W.alloc (.cells (zi n) 3)):=by
 subst hl;obtain ⟨i0,hi,hz0,hz1,hz2⟩:=info_parts yq;have:=run_makeSlice (P:=Tryz.prog) W 129 3 i0 (.int .i64 0) Tryz.underlying129 hi hz0 .i64 .i64 n n (by omega) (Int.le_refl _) (by rw [hz1];simp;omega) (by rw [hz2];omega) (by omega);rw [this,hz1];simp only [Int.toNat_natCast,Fc]
theorem tF (X:Nat→Nat) (i v:Nat):aK (bK X i v) i=aK X i:=dP i (fun j hj=>by unfold bK;rw [if_neg (by omega)])
set_option maxRecDepth 20000 in
set_option maxHeartbeats 2000000 in
theorem lR (ga gb ca cb:Nat) (X Y:Nat→Nat) (hX:∀ j,X j<256) (hY:∀ j,Y j<256) (w:World) (ha:ah .i64 w ga 0 34 X) (hb:ah .i64 w gb 0 34 Y) :
 Calls Tryz.prog 170 #[.slice (some ⟨ga,0,none⟩) 34 ca,.slice (some ⟨gb,0,none⟩) 34 cb] w fun e w'=>∃ (Z:Nat→Nat) (b:Nat),b≤1∧e = .returned (.tuple #[.slice (some ⟨w.heap.size,0,none⟩) 34 34,.bool (decide (b=0))])∧ah .i64 w' w.heap.size 0 34 Z∧(∀ j,Z j<256)∧aK Z 34+aK Y 34=aK X 34+256 ^ 34*b∧Below w.heap.size w w':=by
 have hmk:=mp w 34 34 rfl (by decide);have hal:ga<w.heap.size:=J5 (ha 0 (by decide)).1;have hbl:gb<w.heap.size:=J5 (hb 0 (by decide)).1;have hb0:Below w.heap.size w (w.alloc (.cells (zi 34) 3)):=(Below.refl _ _).alloc (JW _) _;have hrow0:ah .i64 (w.alloc (.cells (zi 34) 3)) w.heap.size 0 34 (fun _=>0):=ah.fresh (fun j hj=>xU 34 j hj);go_enter Tryz.func170,Tryz.ntmps170;go_wp2_with (rw [hmk]);go_loopw [8,7] (fun i c wr=>∃ (k b:Nat) (Z:Nat→Nat),k≤34∧i = .int .i64 k∧c = .int .i64 b∧b≤1∧ah .i64 wr w.heap.size 0 34 Z∧(∀ j,Z j<256)∧aK Z k+aK Y k=aK X k+256 ^ k*b∧Below w.heap.size w wr) (fun i _ _=>34 - (intOf i).toNat)
 case atStart=>exact ⟨0,0,fun _=>0,by decide,rfl,rfl,by decide,hrow0,fun _=>Nat.zero_lt_succ _,by simp [aK],hb0⟩
 case round =>
  clear hrow0 hb0 hmk;obtain ⟨k,b,Z,hk,rfl,rfl,hb1,hrow,hZ,hinv,hbel⟩:=hrel
  by_cases hlt:k<34
  · have ra:=(hbel.cell (p:=⟨ga,0+k,none⟩) hal).trans (ha k hlt).1
    have rb:=(hbel.cell (p:=⟨gb,0+k,none⟩) hbl).trans (hb k hlt).1;obtain ⟨rz,fz⟩:=hrow k hlt;rw [J0] at ra rb rz fz;have hx:=hX k;have hy:=hY k;have hi':=Hid.mk' hinv;clear hinv
    have key:∀ (u b':Nat),u<256→b'≤1→u+Y k+b=X k+256*b'→∃ (k' b'':Nat) (Z':Nat→Nat),k'=k+1∧b''=b'∧Z'=bK Z k u∧(∀ j,Z' j<256)∧aK Z' (k+1)+aK Y (k+1)=aK X (k+1)+256 ^ (k+1)*b':=fun u b' hu hb' e=>by
     refine ⟨_,_,_,rfl,rfl,rfl,fun j => ?_,?_⟩
     · unfold bK;split
       · exact hu
       · exact hZ j
     · have h1:=hi'.out
       rw [aK,aK,aK,tF,show bK Z k u k=u by unfold bK;rw [if_pos rfl],Nat.pow_succ];generalize 256 ^ k=P at *
       have e2:P*(u+Y k+b)=P*(X k+256*b'):=by rw [e]
       rw [Nat.mul_add,Nat.mul_add,Nat.mul_add,←Nat.mul_assoc] at e2;omega
    by_cases hneg:X k<Y k+b
    · have hd:((X k:Int) - (Y k:Int) - (b:Int))<0:=by omega
      obtain ⟨_,_,Z',rfl,rfl,rfl,hZ',hinv'⟩:=key (X k+256 - Y k - b) 1 (by omega) (by decide) (by omega);have hin2:=Hid.mk' hinv';clear key hinv';go_wp2;go_region;go_wp2;go_roundw
      case rel =>
       have h1:=(hrow.drew.set (i:=k) hlt (v:=(X k:Int) - (Y k:Int) - (b:Int)+256) (u:=X k+256 - Y k - b) (by omega))
       rw [J0] at h1;exact ⟨k+1,1,_,by omega,by go_num,rfl,by decide,h1,hZ',hin2.out,(hbel.drew).setCell (JW _) _⟩
      case measure=>simp [intOf];omega
    · have hd:¬((X k:Int) - (Y k:Int) - (b:Int))<0:=by omega
      obtain ⟨_,_,Z',rfl,rfl,rfl,hZ',hinv'⟩:=key (X k - Y k - b) 0 (by omega) (by decide) (by omega);have hin2:=Hid.mk' hinv';clear key hinv';go_wp2;go_region;go_wp2;go_roundw
      case rel =>
       have h1:=(hrow.drew.set (i:=k) hlt (v:=(X k:Int) - (Y k:Int) - (b:Int)) (u:=X k - Y k - b) (by omega))
       rw [J0] at h1;exact ⟨k+1,0,_,by omega,by go_num,rfl,by decide,h1,hZ',hin2.out,(hbel.drew).setCell (JW _) _⟩
      case measure=>simp [intOf];omega
  · have hke:k=34:=by omega
    subst hke;have hi':=Hid.mk' hinv;clear hinv
    by_cases hb0:b=0
    · subst hb0
      go_wp2;go_ret2;exact ⟨Z,0,by decide,rfl,hrow,hZ,hi'.out,hbel⟩
    · obtain rfl:b=1:=by omega
      go_wp2;go_ret2;exact ⟨Z,1,by decide,rfl,hrow,hZ,hi'.out,hbel⟩
def pe (j:Nat):Nat:=if j<16 then bf oL j else 0
theorem CN (j:Nat) (hj:j<34):bK pe 31 16 j=bf oL j:=by
 have h:∀ j,j<34→bK pe 31 16 j=bf oL j:=by decide +kernel
 exact h j hj
theorem Jt:(au .i64 16 pe)=[.int .i64 237,.int .i64 211,.int .i64 245,.int .i64 92,.int .i64 26,.int .i64 99,.int .i64 18,.int .i64 88,.int .i64 214,.int .i64 156,.int .i64 247,.int .i64 162,.int .i64 222,.int .i64 249,.int .i64 222,.int .i64 20]:=by kernel_rfl
theorem GT (j:Nat) (h:16≤j):pe j=0:=by unfold pe;rw [if_neg (by omega)]
theorem fm.some {base:Nat} {w:World} {v:Value} {n:Nat} {X:Nat→Nat} (h:fm base w v (n+1) X):∃ g cap,v = .slice (.some ⟨g,0,none⟩) (n+1) cap:=by
 rcases h.form with ⟨_,h⟩ | ⟨g,cap,h,_⟩
 · omega
 · exact ⟨g,cap,h⟩
def Fo:Value→Nat
 | .slice _ n _=>n
 | _=>0
set_option maxRecDepth 20000 in
set_option maxHeartbeats 2000000 in
theorem xK (w:World):Calls Tryz.prog 169 #[] w fun e w'=>∃ g cap,e = .returned (.slice (some ⟨g,0,none⟩) 34 cap)∧w.heap.size≤g∧g<w'.heap.size∧ah .i64 w' g 0 34 (bf oL)∧Below w.heap.size w w':=by
 have own0:fm w.heap.size (w.alloc (.cells (au .i64 16 pe).toArray 3)) (.slice (some ⟨w.heap.size,0,none⟩) 16 16) 16 pe:=by
  have:=World.ownsRow_lit (base:=w.heap.size) (e:=3) (size:=1) w (au .i64 16 pe).toArray 16 (JW _) (by decide) (by kernel_rfl);exact this
 rw [Jt] at own0;go_enter Tryz.func169,Tryz.ntmps169;go_wp2;go_loopw [1] (fun v wr=>∃ n g cap:Nat,16≤n∧n≤34∧v = .slice (some ⟨g,0,none⟩) n cap∧fm w.heap.size wr v n pe∧Below w.heap.size w wr) (fun v _=>34 - Fo v)
 case atStart=>exact ⟨16,w.heap.size,16,by decide,by decide,rfl,own0,(Below.refl _ _).alloc (JW _) _⟩
 case round =>
  clear own0;obtain ⟨n,g,cap,h16,h34,rfl,own,hb⟩:=hrel
  by_cases hlt:n<34
  · have hni:(n:Int)<34:=by omega
    have hs:=hb.size
    have hz:(0:Int)=(pe n:Int):=by rw [GT n h16];rfl
    have HZ:=Hid.mk' hz;clear hz;go_wp2_with (at_builtin;refine fv rfl (.tmp 6) (.tmp 7) rfl w.heap.size _ n pe 0 rfl own rfl HZ.out (by omega) hs ?_;intro v' w' own' hb';(obtain ⟨g',cap',rfl⟩:=own'.some);clear own);go_roundw
    case rel=>exact ⟨n+1,g',cap',by omega,by omega,rfl,own',hb.trans hb'⟩
    case measure=>simp [Fo];omega
  · have hke:n=34:=by omega
    subst hke;obtain ⟨g2,cap2,e,hg,hgl,hc,hr⟩:=own.form.resolve_left (fun h=>by omega);cases e;obtain ⟨r31,f31⟩:=hr 31 (by decide);rw [J0] at r31 f31;clear own;go_wp2;go_ret;have h1:=hr.set (i:=31) (by decide) (v:=16) (u:=16) rfl;rw [J0] at h1;exact ⟨g,cap,rfl,hg,by simpa using hgl,h1.congr (fun j hj=>CN j hj),hb.setCell hg _⟩
theorem Gs (M s:Nat) (hs:s<8):M / 2 ^ s=2*(M / 2 ^ (s+1))+M%256 / 2 ^ s%2:=by
 have h:s=0∨s=1∨s=2∨s=3∨s=4∨s=5∨s=6∨s=7:=by omega
 rcases h with rfl | rfl | rfl | rfl | rfl | rfl | rfl | rfl <;> simp only [Nat.reducePow,Nat.reduceAdd] <;> omega
theorem Bo (D:Nat→Nat) (hD:∀ j,D j<256) (n i s:Nat) (hi:i<n) (hs:s<8):aK D n / 2 ^ (8*i+s)=2*(aK D n / 2 ^ (8*i+(s+1)))+D i / 2 ^ s%2:=by
 have e:=fD D hD n i hi;unfold bf at e;rw [←e,Nat.pow_add,Nat.pow_add,←Nat.div_div_eq_div_mul,←Nat.div_div_eq_div_mul,←vm];exact Gs _ s hs
theorem AP (A c:Nat):(2*A+c)%oL=(2*(A%oL)+c)%oL:=by
 rw [Nat.add_mod,Nat.mul_mod];rw [Nat.add_mod (2*(A%oL)),Nat.mul_mod 2 (A%oL),Nat.mod_mod]
theorem BE {P a b z c:Nat} {v:Nat} (h:a+P*c=b) (hv:v=2*z+c):a+P*(v%256)+P*256*(v / 256)=b+2*(P*z):=by
 have e:v%256+256*(v / 256)=v:=Nat.mod_add_div v 256
 have e2:P*(v%256)+P*256*(v / 256)=P*v:=by rw [Nat.mul_assoc,←Nat.mul_add,e]
 have e3:P*v=2*(P*z)+P*c:=by rw [hv,Nat.mul_add,Nat.mul_left_comm]
 omega
theorem EN (d s:Nat) (hd:d<256):bits .and .i64 ((d:Int) / 2 ^ s) 1=((d / 2 ^ s%2:Nat):Int):=by
 have e:(d:Int) / 2 ^ s=((d / 2 ^ s:Nat):Int):=by simp
 rw [e];exact Dl _ (by have:=Nat.div_le_self d (2 ^ s);omega)
theorem Ey {x r c C y:Nat} (h:x+256 ^ 34*C=2*y+c) (hy:y=r) (hr:r<oL) (hc:c≤1) (hC:C≤1) (hx:x<256 ^ 34):x=2*r+c:=by
 subst hy
 have:C=0∨C=1:=by omega
 unfold oL at hr;simp only [Nat.reducePow] at h hx;omega
theorem Di (ga gb ca cb:Nat) (X Y:Nat→Nat) (hX:∀ j,X j<256) (hY:∀ j,Y j<256) (x y:Nat) (hx:aK X 34=x) (hy:aK Y 34=y) (h:y≤x) (w:World) (ha:ah .i64 w ga 0 34 X) (hb:ah .i64 w gb 0 34 Y) :
 Calls Tryz.prog 170 #[.slice (some ⟨ga,0,none⟩) 34 ca,.slice (some ⟨gb,0,none⟩) 34 cb] w fun e w'=>∃ Z:Nat→Nat,e = .returned (.tuple #[.slice (some ⟨w.heap.size,0,none⟩) 34 34,.bool true])∧ah .i64 w' w.heap.size 0 34 Z∧(∀ j,Z j<256)∧aK Z 34=x - y∧Below w.heap.size w w' :=
 (lR ga gb ca cb X Y hX hY w ha hb).mono fun e w' ⟨Z,b,hb1,he,hr,hZ,hv,hbel⟩=>by
  have hl:=dY Z hZ 34
  have hb0:b=0:=by
   rcases (by omega:b=0∨b=1) with h0 | h0
   · exact h0
   · subst h0;rw [hx,hy] at hv;omega
  subst hb0;exact ⟨Z,he,hr,hZ,by rw [hx,hy] at hv;omega,hbel⟩
theorem CW (ga gb ca cb:Nat) (X Y:Nat→Nat) (hX:∀ j,X j<256) (hY:∀ j,Y j<256) (x y:Nat) (hx:aK X 34=x) (hy:aK Y 34=y) (h:x<y) (w:World) (ha:ah .i64 w ga 0 34 X) (hb:ah .i64 w gb 0 34 Y) :
 Calls Tryz.prog 170 #[.slice (some ⟨ga,0,none⟩) 34 ca,.slice (some ⟨gb,0,none⟩) 34 cb] w fun e w'=>e = .returned (.tuple #[.slice (some ⟨w.heap.size,0,none⟩) 34 34,.bool false])∧Below w.heap.size w w' :=
 (lR ga gb ca cb X Y hX hY w ha hb).mono fun e w' ⟨Z,b,hb1,he,hr,hZ,hv,hbel⟩=>by
  have hb0:b=1:=by
   rcases (by omega:b=0∨b=1) with h0 | h0
   · subst h0;rw [hx,hy] at hv;omega
   · exact h0
  subst hb0;exact ⟨he,hbel⟩
structure Dg (w:World) (g r:Nat) (Z:Nat→Nat):Prop where
 row:ah .i64 w g 0 34 Z
 dig:∀ j,Z j<256
 val:aK Z 34=r
theorem Dg.below {B:Nat} {w w':World} {g r:Nat} {Z:Nat→Nat} (h:Dg w g r Z) (hb:Below B w w') (hB:g<B):Dg w' g r Z:=⟨h.row.below hb hB,h.dig,h.val⟩
theorem ym:aK (bf oL) 34=oL:=by rw [ed];decide
set_option maxRecDepth 20000 in
set_option maxHeartbeats 8000000 in
theorem nQ (xo:Option Addr) (n cd:Nat) (D:Nat→Nat) (hD:∀ j,D j<256) (hn:n≤1000) (w:World) (hd:∀ W,Below w.heap.size w W→∀ j,j<n→∃ gd,xo=some ⟨gd,0,none⟩∧W.cell? ⟨gd,j,none⟩=some (.int .i64 (D j))) :
 Calls Tryz.prog 107 #[.slice xo n cd] w fun e w'=>∃ v,e = .returned v∧ae w' v 32 (bf (aK D n%oL))∧Below w.heap.size w w':=by
 have hmk:=mp w 34 34 rfl (by decide)
 obtain ⟨W,hW⟩:∃ W,W=w.alloc (.cells (zi 34) 3):=⟨_,rfl⟩
 have hbW:Below w.heap.size w W:=by rw [hW];exact (Below.refl _ _).alloc (JW _) _
 have hWs:W.heap.size=w.heap.size+1:=by rw [hW];simp
 have hx0:ah .i64 W w.heap.size 0 34 (fun _=>0):=by rw [hW];exact ah.fresh (fun j hj=>xU 34 j hj)
 rw [←hW] at hmk;clear hW;have co:=xK W
 have cless:=fun (W':World) ga gb cb X Y hX hY h1 h2=>lR ga gb 34 cb X Y hX hY W' h1 h2
 have hlen:((n:Int) - 1)=(n:Int) - 1:=rfl
 have hw1:IntKind.i64.wrap ((n:Int) - 1)=(n:Int) - 1:=by simp only [IntKind.wrap_i64];omega
 obtain ⟨N,hN⟩:∃ N,N=aK D n:=⟨_,rfl⟩
 have hNl:N<256 ^ n:=by rw [hN];exact dY D hD n
 rw [←hN];have HN:=Hid.mk' hN;have HNl:=Hid.mk' hNl
 obtain ⟨rr,hrr⟩:∃ rr,rr=N%oL:=⟨_,rfl⟩
 rw [←hrr];have HRR:=Hid.mk' hrr;clear hN hNl hlen hrr;go_enter Tryz.func107,Tryz.ntmps107
 go_wp2_with (first
  | rw [hmk]
  | (go_at_call 169;refine co.mono ?_;clear co;rintro e w1 ⟨gl,cl,rfl,hgl,hgls,hrl,hb1⟩))
 have hw1':=hbW.trans (hb1.mono (by omega))
 have hz34:aK (fun _=>0) 34=0:=by decide
 have d0:Dg w1 w.heap.size 0 (fun _=>0):=⟨hx0.below hb1 (by omega),fun _=>Nat.zero_lt_succ _,hz34⟩
 clear hx0 hz34;go_loopw [5,3] (fun i x wr=>∃ (p gx:Nat) (Z:Nat→Nat),p≤n∧i = .int .i64 ((p:Int) - 1)∧x = .slice (some ⟨gx,0,none⟩) 34 34∧Dg wr gx (N / 256 ^ p%oL) Z∧ah .i64 wr gl 0 34 (bf oL)∧w.heap.size≤gx∧gx≠gl∧gx<wr.heap.size∧gl<wr.heap.size∧Below w.heap.size w wr) (fun i _ _=>(intOf i+1).toNat)
 case atStart =>
  refine ⟨n,w.heap.size,fun _=>0,JW _,by first | rfl | go_num,rfl,?_,hrl,JW _,by omega,by have:=hw1'.size;have:=hb1.size;omega,hgls,hw1'⟩;rw [Nat.div_eq_of_lt HNl.out,Nat.zero_mod];exact d0
 case round =>
  clear d0 hrl hw1' hb1 hmk hbW;obtain ⟨p,gx,Z,hp,rfl,rfl,dg,hrl,hgx,hne,hgs,hls,hb⟩:=hrel
  by_cases hp0:p=0
  · subst hp0
    rw [Nat.pow_zero,Nat.div_one] at dg;rw [←HRR.out] at dg;rw [show (((0:Nat):Int) - 1)=-1 from rfl]
    have hZr:∀ j,j<34→Z j=bf rr j:=fun j hj=>by rw [←dg.val];exact (fD Z dg.dig 34 j hj).symm
    have HZ:=Hid.mk' hZr;have drow:=dg.row
    obtain ⟨B,hB⟩:∃ B,B=wr.heap.size:=⟨_,rfl⟩
    have hBw:w.heap.size≤B:=by rw [hB];exact hb.size
    have hgB:gx<B:=by omega
    have hB2:B≤wr.heap.size:=by omega
    clear hZr hB dg;go_wp2;go_loopw [13,12] (fun i o wt=>∃ k:Nat,k≤32∧i = .int .i64 k∧bx B wt o k (bf rr)∧ah .i64 wt gx 0 34 Z∧B≤wt.heap.size∧Below w.heap.size w wt) (fun i _ _=>32 - (intOf i).toNat)
    case atStart=>exact ⟨0,by decide,rfl,bx.nil _ _ _,drow,hB2,hb⟩
    case round =>
     clear hb hgs hls hrl drow hB2;obtain ⟨k,hk,rfl,own,hrow,hs,hb⟩:=hrel
     by_cases hkl:k<32
     · obtain ⟨rk,-⟩:=hrow k (by omega)
       rw [J0,HZ.out k (by omega)] at rk;have hbl:=dD rr k;go_wp2_with (at_builtin;refine bq rfl (.tmp 65) (.tmp 71) rfl B _ k (bf rr) _ rfl own rfl rfl (by omega) hs ?_;intro v' w' own' hb';(have hrow':=hrow.below hb' hgB);(have hs':=Nat.le_trans hs hb'.size);(have hbw':=hb.trans (hb'.mono hBw));clear own hb');go_roundw
       case rel=>exact ⟨k+1,by omega,by go_num,own',hrow',hs',hbw'⟩
       case measure=>simp [intOf];omega
     · have hke:k=32:=by omega
       subst hke;have hin:=ae.of_own own;clear own;go_wp2;go_ret;exact ⟨_,rfl,hin,hb⟩
  · obtain ⟨i,rfl⟩:∃ i,p=i+1:=⟨p - 1,by omega⟩
    have ei:(((i+1:Nat):Int) - 1)=(i:Int):=by omega
    rw [ei]
    have hii:(0:Int)≤(i:Int):=by omega
    go_wp2;go_loopw [6,3] (fun b x wt=>∃ (q gy:Nat) (Y:Nat→Nat),q≤8∧b = .int .i64 ((q:Int) - 1)∧x = .slice (some ⟨gy,0,none⟩) 34 34∧Dg wt gy (N / 2 ^ (8*i+q)%oL) Y∧ah .i64 wt gl 0 34 (bf oL)∧w.heap.size≤gy∧gy≠gl∧gy<wt.heap.size∧gl<wt.heap.size∧Below w.heap.size w wt) (fun b _ _=>(intOf b+1).toNat)
    case atStart =>
     refine ⟨8,gx,Z,by decide,rfl,rfl,?_,hrl,hgx,hne,hgs,hls,hb⟩;rw [vm] at dg;exact dg
    case round =>
     clear dg hrl hgx hne hgs hls hb;obtain ⟨q,gy,Y,hq,rfl,rfl,dg,hrl,hgy,hne,hgs,hls,hb⟩:=hrel
     by_cases hq0:q=0
     · subst hq0
       rw [Nat.add_zero,←vm] at dg;have dg':=Hid.mk' dg;clear dg;go_wp2;exact ⟨⟨i,gy,Y,by omega,rfl,rfl,dg'.out,hrl,hgy,hne,hgs,hls,hb⟩,by simp [intOf]⟩
     · obtain ⟨s,rfl⟩:∃ s,q=s+1:=⟨q - 1,by omega⟩
       have es:(((s+1:Nat):Int) - 1)=(s:Int):=by omega
       rw [es]
       have hss:(0:Int)≤(s:Int):=by omega
       obtain ⟨gd,rfl,rd⟩:=hd wr hb i (by omega)
       have hin:(0:Int)≤(i:Int)∧(i:Int)<n:=by omega
       have hbit:=EN (D i) s (hD i)
       obtain ⟨c0,hc0⟩:∃ c0,c0=D i / 2 ^ s%2:=⟨_,rfl⟩
       have hc1:c0≤1:=by omega
       have hnb:=Bo D hD n i s (by omega) (by omega);rw [←hc0] at hnb hbit;rw [←HN.out] at hnb;have HB:=Hid.mk' hbit;have HNB:=Hid.mk' hnb
       obtain ⟨r,hr⟩:∃ r,r=N / 2 ^ (8*i+(s+1))%oL:=⟨_,rfl⟩
       have hrl':r<oL:=by rw [hr];exact Nat.mod_lt _ (by decide)
       rw [←hr] at dg;have HR:=Hid.mk' hr;clear hbit hnb hc0 hr;go_wp2;rw [HB.out];go_loopw [8,7] (fun k c wu=>∃ (k' C:Nat) (X:Nat→Nat),k'≤34∧k = .int .i64 k'∧c = .int .i64 C∧C≤1∧ah .i64 wu gy 0 34 X∧(∀ j,X j<256)∧(∀ j,k'≤j→X j=Y j)∧aK X k'+256 ^ k'*C=2*aK Y k'+c0∧ah .i64 wu gl 0 34 (bf oL)∧gy<wu.heap.size∧gl<wu.heap.size∧Below w.heap.size w wu) (fun k _ _=>34 - (intOf k).toNat)
       case atStart=>exact ⟨0,c0,Y,by decide,rfl,rfl,hc1,dg.row,dg.dig,fun _ _=>rfl,by simp [aK],hrl,hgs,hls,hb⟩
       case round =>
        clear hrl hgs hls hb rd;obtain ⟨k,C,X,hk,rfl,rfl,hC,hrow,hX,hXY,hinv,hrl,hgs,hls,hb⟩:=hrel;have HXY:=Hid.mk' hXY;have HI:=Hid.mk' hinv;clear hXY hinv
        by_cases hkl:k<34
        · obtain ⟨rk,fk⟩:=hrow k hkl
          rw [J0] at rk fk;have hXk:=hX k
          obtain ⟨v,hv⟩:∃ v,v=2*X k+C:=⟨_,rfl⟩
          have hvi:2*(X k:Int)+(C:Int)=(v:Int):=by omega
          have ha:=oR v (by omega);have hs8:=BE HI.out (show v=2*Y k+C by rw [hv,HXY.out k (JW _)]);have HS:=Hid.mk' hs8
          have hdv:(v:Int) / 256=((v / 256:Nat):Int):=by omega
          have hv1:v / 256≤1:=by omega
          have hvm:v%256<256:=Nat.mod_lt _ (by decide)
          have hvl:v<512:=by omega
          have HDV:=Hid.mk' hdv;clear hs8 hv hdv;go_wp2;have h1:=hrow.set (i:=k) hkl (v:=(v:Int)%256) (u:=v%256) (by omega);rw [J0] at h1;refine ⟨⟨k+1,v / 256,bK X k (v%256),by omega,by go_num,by rw [HDV.out],hv1,h1,fun j => ?_,fun j hj => ?_,?_,hrl.far (by show gy≠gl;exact hne) _,by simpa using hgs,by simpa using hls,hb.setCell hgy _⟩,by simp [intOf];omega⟩
          · unfold bK;split
            · exact hvm
            · exact hX j
          · unfold bK;rw [if_neg (by omega)];exact HXY.out j (by omega)
          · rw [aK,aK,tF,show bK X k (v%256) k=v%256 by unfold bK;rw [if_pos rfl],Nat.pow_succ]
            have:=HS.out;omega
        · have hke:k=34:=by omega
          subst hke;have hfin:=Ey HI.out dg.val hrl' hc1 hC (dY X hX 34);have HF:=Hid.mk' (AP (N / 2 ^ (8*i+(s+1))) c0)
          have hge:=fun h=>Di gy gl 34 cl X (bf oL) hX (bS oL) (2*r+c0) oL hfin ym h wr hrow hrl
          have hlt:=fun h=>CW gy gl 34 cl X (bf oL) hX (bS oL) (2*r+c0) oL hfin ym h wr hrow hrl
          have hval:N / 2 ^ (8*i+s)%oL=(2*r+c0)%oL:=by rw [HNB.out,HF.out,HR.out]
          have HV:=Hid.mk' hval;have HFI:=Hid.mk' hfin;clear hval hfin
          by_cases hc:oL≤2*r+c0
          · replace hge:=hge hc
            have hm:(2*r+c0)%oL=2*r+c0 - oL:=by rw [Nat.mod_eq_sub_mod hc,Nat.mod_eq_of_lt (by omega)]
            have HM:=Hid.mk' hm;clear hlt hm;go_wp2_with (go_at_call 170;refine hge.mono ?_;clear hge;rintro e w2 ⟨Z2,rfl,hr2,hZ2,hv2,hb2⟩);exact ⟨⟨s,wr.heap.size,Z2,by omega,rfl,rfl,⟨hr2,hZ2,by rw [HV.out,HM.out];exact hv2⟩,hrl.below hb2 hls,hb.size,by omega,J5 (hr2 0 (by decide)).1,JX hls hb2.size,aa hb hb2⟩,by simp [intOf]⟩
          · replace hlt:=hlt (by omega)
            have hm:(2*r+c0)%oL=2*r+c0:=Nat.mod_eq_of_lt (by omega);have HM:=Hid.mk' hm;clear hge hm;go_wp2_with (go_at_call 170;refine hlt.mono ?_;clear hlt;rintro e w2 ⟨rfl,hb2⟩);exact ⟨⟨s,gy,X,by omega,rfl,rfl,⟨hrow.below hb2 hgs,hX,by rw [HV.out,HM.out];exact HFI.out⟩,hrl.below hb2 hls,hgy,hne,JX hgs hb2.size,JX hls hb2.size,aa hb hb2⟩,by simp [intOf]⟩
theorem AH {base:Nat} (v:Value) (n:Nat) (D:Nat→Nat) (hD:∀ j,D j<256) (hn:n≤1000) (w:World) (hv:fm base w v n D) :
 Calls Tryz.prog 107 #[v] w fun e w'=>∃ s,e = .returned s∧ae w' s 32 (bf (aK D n%oL))∧Below w.heap.size w w':=by
 rcases hv.form with ⟨rfl,rfl⟩ | ⟨g,cap,rfl,_,hg,_,hr⟩
 · exact nQ none 0 0 D hD hn w (fun _ _ j hj=>absurd hj (Nat.not_lt_zero j))
 · exact nQ _ n cap D hD hn w (fun W hW j hj=>⟨g,rfl,by have:=(hr.below hW hg j hj).1;rwa [J0] at this⟩)
theorem zU (g n cap:Nat) (D:Nat→Nat) (hD:∀ j,D j<256) (hn:n≤1000) (w:World) (hr:ah .i64 w g 0 n D) (hg:g<w.heap.size) :
 Calls Tryz.prog 107 #[.slice (some ⟨g,0,none⟩) n cap] w fun e w'=>∃ s,e = .returned s∧ae w' s 32 (bf (aK D n%oL))∧Below w.heap.size w w' :=
 nQ _ n cap D hD hn w (fun W hW j hj=>⟨g,rfl,by have:=(hr.below hW hg j hj).1;rwa [J0] at this⟩)
set_option maxRecDepth 20000 in
set_option maxHeartbeats 4000000 in
theorem nR (xo:Option Addr) (n c:Nat) (bs:Nat→Nat) (hbs:∀ j,bs j<256) (hn:n≤64) (w:World) (hc:∀ W,Below w.heap.size w W→∀ j,j<n→∃ bb ob,xo=some ⟨bb,ob,none⟩∧W.cell? ⟨bb,ob+j,none⟩=some (.int .u8 (bs j))) :
 Calls Tryz.prog 105 #[.slice xo n c] w fun e w'=>∃ s,e = .returned (.tuple #[s,.int .i64 0])∧ae w' s 32 (bf (aK bs n%oL))∧Below w.heap.size w w':=by
 have cr:=fun (W:World) v (hv:fm w.heap.size W v n bs)=>AH v n bs hbs (by omega) W hv
 obtain ⟨R,hR⟩:∃ R,R=aK bs n%oL:=⟨_,rfl⟩
 rw [←hR] at cr ⊢
 have hni:¬(64:Int)<n:=by omega
 clear hR;go_enter Tryz.func105,Tryz.ntmps105;go_wp2;go_loopw [5,4] (fun i d wr=>∃ k:Nat,k≤n∧i = .int .i64 k∧fm w.heap.size wr d k bs∧Below w.heap.size w wr) (fun i _ _=>n - (intOf i).toNat)
 case atStart=>exact ⟨0,Nat.zero_le _,rfl,fm.nil _ _ _,Below.refl _ _⟩
 case round =>
  obtain ⟨k,hk,rfl,own,hb⟩:=hrel
  by_cases hlt:k<n
  · obtain ⟨bb,ob,rfl,rk⟩:=hc wr hb k hlt
    have hki:(k:Int)<n:=by omega
    have hbk:=hbs k;have hs:=hb.size;clear hc cr;go_wp2_with (at_builtin;refine fv rfl (.tmp 15) (.tmp 21) rfl w.heap.size _ k bs _ rfl own rfl rfl (by omega) hs ?_;intro v' w' own' hb';clear own);go_roundw
    case rel=>exact ⟨k+1,by omega,by go_num,own',hb.trans hb'⟩
    case measure=>simp [intOf];omega
  · have hke:k=n:=by omega
    subst hke
    have hki:¬(k:Int)<k:=by omega
    replace cr:=cr wr _ own;clear hc own;go_wp2_with (go_at_call 107;refine cr.mono ?_;clear cr;rintro e w1 ⟨s,rfl,hs,hb1⟩);go_ret2;exact ⟨_,rfl,hs,aa hb hb1⟩
theorem lj (v:Value) (n:Nat) (bs:Nat→Nat) (hbs:∀ j,bs j<256) (hn:n≤64) (w:World) (hv:ae w v n bs) :
 Calls Tryz.prog 105 #[v] w fun e w'=>∃ s,e = .returned (.tuple #[s,.int .i64 0])∧ae w' s 32 (bf (aK bs n%oL))∧Below w.heap.size w w':=by
 rcases hv with ⟨xo,rfl,rfl⟩ | ⟨bb,ob,cap,rfl,h1,h2,h3⟩
 · exact nR xo 0 0 bs hbs hn w (fun _ _ j hj=>absurd hj (Nat.not_lt_zero j))
 · exact nR _ n cap bs hbs hn w (fun W hW j hj=>⟨bb,ob,rfl,(hW.cell (p:=⟨bb,ob+j,none⟩) h1).trans (h3 j hj)⟩)
set_option maxRecDepth 20000 in
set_option maxHeartbeats 2000000 in
theorem iv (v:Value) (bs:Nat→Nat) (hbs:∀ j,bs j<256) (w:World) (hv:ae w v 32 bs) :
 Calls Tryz.prog 58 #[v] w fun e w'=>e = .returned (.bool (gA bs))∧Below w.heap.size w w':=by
 have cr:=lj v 32 bs hbs (by decide) w hv;have hcs:=ql hbs;have sv:=iL.of hv hbs;obtain ⟨xv,kv,rfl,-⟩:=hv.src
 obtain ⟨R,hR⟩:∃ R,R=aK bs 32%oL:=⟨_,rfl⟩
 rw [←hR] at cr hcs
 obtain ⟨b,hb⟩:∃ b,b=gA bs:=⟨_,rfl⟩
 rw [←hb] at hcs ⊢
 obtain ⟨SA,hSA⟩:∃ S,S=bF 32 bs:=⟨_,rfl⟩
 rw [←hSA] at sv hcs;clear hv hR hb hSA hbs;go_enter Tryz.func58,Tryz.ntmps58;go_wp2_with (go_at_call 105;refine cr.mono ?_;clear cr;rintro e w1 ⟨s,rfl,hs,hb1⟩;(have q1:=(iL.of hs (bS R)).conv w1 (Below.refl _ _));(have q2:=sv.conv w1 hb1);(obtain ⟨x1,k1,rfl,-⟩:=hs.src));go_ret;exact ⟨rfl,hb1⟩
end Go.Proofs.YtibdhadbflfdpaaGreatDoor
