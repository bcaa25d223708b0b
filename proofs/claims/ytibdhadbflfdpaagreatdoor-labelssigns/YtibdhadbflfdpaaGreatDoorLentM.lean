/- What the proof stands on: Lent, Kit, W64, Bts, Narrow, RWk, RFn, D1Math, D1CA. -/
import Derived.Test.YtibdhadbflfdpaaGreatDoorBase
import Derived.ChangeOld
import Derived.ChangeSlices
import Derived.Deep.Cut
import Derived.Deep.DeepHandedRow
import Derived.Laws.Externs
import Derived.Lib.LaidTab
import Derived.LoopIn
import Derived.LoopNIn
import Derived.OpenShut
import Derived.OwnWalkIn
import Derived.ProofKit
import Derived.RangeFuncBound
import Derived.RangeFuncCalls
import Derived.RangeFuncLeaves
import Derived.RangeFuncNested
import Derived.Shelf.Abstract
import Derived.Shelf.Bits.Mul64
import Derived.Shelf.RegionOpen
import Derived.Shelf.Spec.BitsCarry
import Derived.SizedLaws
import Derived.TacticsInMore
import Derived.WalkKit
namespace Go.Proofs.YtibdhadbflfdpaaGreatDoor
open Nat renaming lt_of_lt_of_le → JX
open Nat renaming zero_add → J0
open Go.RowKit
def sC (j:Nat):Nat:=if j=0 then 201 else 202
theorem Ch (w:World):nK (w.alloc (.cells #[.int .u8 201,.int .u8 202] 5)) (some ⟨w.heap.size,0,none⟩) 2 sC:=by
 refine .inr ⟨w.heap.size,0,rfl,fun j hj => ?_⟩
 match j,hj with
 | 0,_=>simp [sC]
 | 1,_=>simp [sC]
set_option maxHeartbeats 1000000 in
theorem vj (v:Value) (n:Nat) (bs:Nat→Nat) (w:World) (hv:ae w v n bs) (hn:n<140737488355000) :
 Calls Tryz.prog 6 #[v] w fun e w'=>∃ g cap,e = .returned (.slice (some ⟨g,0,none⟩) n cap)∧n+2≤cap∧w.heap.size≤g∧ah .u8 w' g 0 (n+2) (bu n bs sC)∧Below w.heap.size w w':=by
 obtain ⟨xo,cx,rfl,hxn,-,hsrc⟩:=hv.src;clear hv;have src0:=hsrc _ ((Below.refl _ _).alloc (Nat.le_refl _) (.cells #[] 5));clear hsrc;go_enter Tryz.func6,Tryz.ntmps6
 go_wp2_with (first
  | (at_builtin;refine bn rfl (.tmp 4) (.tmp 5) rfl w.heap.size bs _ rfl rfl xo n cx rfl src0 hxn (by omega) (Nat.le_refl _) ?_;intro v1 w1 own1 hb1;have hs1:=hb1.size;clear src0)
  | (at_builtin;refine aR rfl (.tmp 7) (.tmp 8) rfl w.heap.size v1 n bs rfl (own1.alloc _) _ 2 2 sC rfl (Ch w1) (fun h=>by cases h) (by omega) (by simp only [World.size_alloc];omega) ?_;intro v2 w2 own2 grow2;have hb2:=bx.grown (hb1.alloc hs1 _) grow2 (own1.alloc _) (Nat.le_refl _) (by simp only [World.size_alloc];omega);clear own1 hb1 hs1;(obtain ⟨g,cap,hv2,hg,hgl,hcap,hrow⟩:∃ g cap,v2 = .slice (some ⟨g,0,none⟩) (n+2) cap∧w.heap.size≤g∧g<w2.heap.size∧n+2≤cap∧ah .u8 w2 g 0 (n+2) (bu n bs sC):=own2.form.resolve_left (fun h=>by omega));subst hv2;have hni:(n:Int)≤cap:=by omega))
 go_ret;exact ⟨g,cap,rfl,hcap,hg,hrow,hb2⟩
set_option maxRecDepth 20000 in
set_option maxHeartbeats 1000000 in
theorem A6 (g cap n:Nat) (v:Value) (bs:Nat→Nat) (hbs:∀ j,bs j<256) (w:World) (hn:n<140737488355000) (hcap:n+2≤cap) (hrow:ah .u8 w g 0 (n+2) (bu n bs sC)) (hv:ae w v n bs) :
 Calls Tryz.prog 12 #[.slice (some ⟨g,0,none⟩) n cap,v] w fun e w'=>e = .returned (.bool true)∧Below w.heap.size w w':=by
 have hc1:∀ W,Below w.heap.size w W→∀ c,(convert 22 9 (.slice (some ⟨g,0,none⟩) n c)).run Tryz.prog W = .ok (.string (bF n bs)) W:=fun W hW c=>ph W g 0 n c bs hbs (fun j hj=>by
  have:=(hrow j (by omega)).1;rw [d7 hj] at this
  exact (hW.cell (p:=⟨g,0+j,none⟩) (block_lt_of_cell this)).trans this)
 have hc2:=hv.conv hbs;obtain ⟨xo,cx,rfl,-,-,-⟩:=hv.src
 have r1:w.cell? ⟨g,n,none⟩=some (.int .u8 201):=by
  have:=(hrow n (by omega)).1;rw [J0] at this;rw [this];unfold bu sC;simp
 have r2:w.cell? ⟨g,n+1,none⟩=some (.int .u8 202):=by
  have:=(hrow (n+1) (by omega)).1;rw [J0,fJ] at this;exact this
 clear hrow hv
 have hn2:(n:Int)+2≤cap:=by omega
 have hn3:(n:Int)≤cap:=by omega
 have e1:IntKind.i64.wrap ((n:Int)+1)=(n:Int)+1:=by simp only [IntKind.wrap_i64];omega
 have e3:((n:Int)+1).toNat=n+1:=by omega
 have e4:(0:Int)≤(n:Int)∧(n:Int)<(n:Int)+2:=by omega
 have e5:(0:Int)≤(n:Int)+1∧(n:Int)+1<(n:Int)+2:=by omega
 have e6:n<n+2:=by omega
 have e7:n+1<n+2:=by omega
 go_enter Tryz.func12,Tryz.ntmps12;go_wp2
 have hS:∀ w':World,Below w.heap.size w w'→∀ b o,b<w.heap.size→w'.cell? ⟨b,o,none⟩=w.cell? ⟨b,o,none⟩:=fun w' h b o hb=>h.cell (p:=⟨b,o,none⟩) hb
 have hb0:Below w.heap.size w w.drew:=(Below.refl _ _).drew;have hgl:g<w.heap.size:=block_lt_of_cell r1;go_region_held3 (fun w'=>Below w.heap.size w w') (first | assumption) (fail);go_wp2;go_ret;exact ⟨rfl,hb0⟩
open Go.ChangeShapes Go.WideShapes Go.ChangeAt Go.RowKit
theorem Bp:ownKnob Tryz.prog.godebug=none:=by kernel_rfl
theorem nG:laidOutB Tryz.prog=true:=by kernel_rfl
theorem tR:Tryz.prog.cellsOf 5=1:=by kernel_rfl
theorem vt:Tryz.prog.bytesOf 5=1:=by kernel_rfl
set_option maxRecDepth 20000 in
theorem gT {H:Type} {enc:TypeId × Value→H} {W:World} {base:Nat} {v:Value} {d:DataW H} {ps:List MemPlace} (hval:Value.okWide Tryz.prog W .any base 22 v) (h:DataW.Trod enc Tryz.prog W 0 (fun _=>true) true 22 v d ps) :
 ∃ n bs,ae W v n bs∧(∀ j,bs j<256)∧(n=0∨∃ elems spare,d = .slice elems spare∧elems.length=n):=by
 obtain ⟨a0,len,cap,rfl⟩:=okWide_slice Tryz.underlying22 hval;obtain ⟨fuel,hf⟩:=h
 have hc:Cell.ok Tryz.prog W .any base 22 (.slice a0 len cap):=by
  unfold Value.okWide Cell.okWide at hval;simp only [Tryz.underlying22] at hval;exact hval
 rcases open_ints Tryz.underlying22 Tryz.underlying5 tR hf with ⟨hcs,hx⟩ | ⟨a,len',cap',zs,hcs,_,hl,hm,hz,hx,hcell,hwz⟩
 · simp [Value.cells] at hcs
   obtain ⟨rfl,rfl,rfl⟩:=hcs;exact ⟨0,fun _=>0,.inl ⟨none,rfl,rfl⟩,fun _=>Nat.zero_lt_succ _,.inl rfl⟩
 · simp [Value.cells] at hcs
   obtain ⟨rfl,rfl,rfl⟩:=hcs;simp only [Prod.mk.injEq] at hx;obtain ⟨rfl,rfl⟩:=hx;simp only [if_true] at hz;unfold Cell.ok at hc;simp only [Tryz.underlying22] at hc;obtain ⟨_,_,_,hs,row,cells,hsh,_⟩:=hc;obtain ⟨b,off,spot⟩:=a;subst hs
   have hbl:b<W.heap.size:=by
    rcases Nat.lt_or_ge b W.heap.size with h | h
    · exact h
    · unfold World.shape? at hsh
      rw [Array.getElem?_eq_none h] at hsh;cases hsh
   have hn:∀ j,0≤zs.getD j 0∧zs.getD j 0<256:=fun j=>by
    rw [List.getD_eq_getElem?_getD]
    cases h:zs[j]? with
    | none=>simp
    | some x =>
     have:=hwz x (List.mem_of_getElem? h)
     have h0:(0:Int)≤x∧x≤255:=by simpa [Lit.wf,IntKind.min,IntKind.max,IntKind.signed,IntKind.bits] using this
     show 0≤x∧x<256;omega
   refine ⟨len,fun j=>(zs.getD j 0).toNat,.inr ⟨b,off,cap,rfl,hbl,hl,fun j hj => ?_⟩,fun j => ?_,.inr ⟨_,_,rfl,?_⟩⟩
   · have h:=hcell j (by omega)
     rw [Addr.add_mid] at h;rw [h,Int.toNat_of_nonneg (hn j).1]
   · have:=hn j
     show (zs.getD j 0).toNat<256;omega
   · simp [lits];omega
theorem fy {H:Type} {ts:List TypeId} {ds:List (DataW H)} (hR:(DataW.weightsEach Tryz.prog ts ds).all (·≤reachBytes)=true) {j n:Nat} {d:DataW H} (ht:ts[j]? = some 22) (hd:ds[j]? = some d) (h:n=0∨∃ elems spare,d = .slice elems spare∧elems.length=n):n<140737488352000:=by
 rcases h with h | ⟨elems,spare,rfl,rfl⟩
 · omega
 · have:=sized_slice hR ht hd Tryz.underlying22
   rw [vt] at this;unfold reachBytes at this;omega
open Go.RowKit Go.Lib
def bN (a b c d:Nat):Nat:=a+18446744073709551616*b+340282366920938463463374607431768211456*c+6277101735386680763835789423207666416102355444464034512896*d
def lw (n i:Nat):Nat:=n / 18446744073709551616 ^ i%18446744073709551616
def ag (n:Nat):Value := .agg #[.int .u64 (lw n 0),.int .u64 (lw n 1),.int .u64 (lw n 2),.int .u64 (lw n 3)]
theorem fs (n i:Nat):lw n i<18446744073709551616:=Nat.mod_lt _ (by decide)
theorem BX (n:Nat) (h:n<115792089237316195423570985008687907853269984665640564039457584007913129639936):bN (lw n 0) (lw n 1) (lw n 2) (lw n 3)=n:=by
 unfold bN lw;simp only [Nat.reducePow];omega
theorem E6 (a b c d:Nat) (ha:a<18446744073709551616) (hb:b<18446744073709551616) (hc:c<18446744073709551616) (hd:d<18446744073709551616):lw (bN a b c d) 0=a∧lw (bN a b c d) 1=b∧lw (bN a b c d) 2=c∧lw (bN a b c d) 3=d:=by
 unfold bN lw;simp only [Nat.reducePow]
 refine ⟨?_,?_,?_,?_⟩ <;> omega
theorem ny (a b c d:Nat) (ha:a<18446744073709551616) (hb:b<18446744073709551616) (hc:c<18446744073709551616) (hd:d<18446744073709551616):bN a b c d<115792089237316195423570985008687907853269984665640564039457584007913129639936:=by
 unfold bN;omega
theorem nq (n a b c d:Nat) (ha:a<18446744073709551616) (hb:b<18446744073709551616) (hc:c<18446744073709551616) (hd:d<18446744073709551616) (h:bN a b c d=n):(Value.agg #[.int .u64 a,.int .u64 b,.int .u64 c,.int .u64 d]:Value)=ag n:=by
 obtain ⟨h0,h1,h2,h3⟩:=E6 a b c d ha hb hc hd;rw [h] at h0 h1 h2 h3;unfold ag;rw [h0,h1,h2,h3]
theorem zE (x y c:Nat) (hc:c≤1) (w:World):(callFunc 163 #[.int .u64 x,.int .u64 y,.int .u64 c]).run Tryz.prog w =
 .ok (.value (.tuple #[.int .u64 (((x+y+c)%18446744073709551616:Nat):Int),.int .u64 (((x+y+c) / 18446744073709551616:Nat):Int)])) w:=by
 rw [run_callFunc_extern Tryz.func163 (by kernel_rfl) (by kernel_rfl) (by kernel_rfl) (e:=add64Entry) (by kernel_rfl),run_add64 x y c (by omega) (by omega) (by omega) (by omega)];simp only [Result.andThen]
 congr 5 <;> omega
theorem iK (x y c:Nat) (hx:x<18446744073709551616) (hy:y<18446744073709551616) (hc:c≤1):∃ s k:Nat,s<18446744073709551616∧k≤1∧s+18446744073709551616*k=x+y+c∧∀ w,(callFunc 163 #[.int .u64 x,.int .u64 y,.int .u64 c]).run Tryz.prog w = .ok (.value (.tuple #[.int .u64 s,.int .u64 k])) w :=
 ⟨_,_,by omega,by omega,by omega,fun w=>zE x y c hc w⟩
theorem eI (x y:Nat) (hx:x<18446744073709551616) (hy:y<18446744073709551616):∃ s k:Nat,s<18446744073709551616∧k≤1∧s+18446744073709551616*k=x+y∧∀ w,(callFunc 163 #[.int .u64 x,.int .u64 y,.int .u64 0]).run Tryz.prog w = .ok (.value (.tuple #[.int .u64 s,.int .u64 k])) w :=
 iK x y 0 hx hy (by decide)
theorem qh (x c:Nat) (hx:x<18446744073709551616) (hc:c≤1):∃ s k:Nat,s<18446744073709551616∧k≤1∧s+18446744073709551616*k=x+c∧∀ w,(callFunc 163 #[.int .u64 x,.int .u64 0,.int .u64 c]).run Tryz.prog w = .ok (.value (.tuple #[.int .u64 s,.int .u64 k])) w :=
 iK x 0 c hx (by decide) hc
theorem As (x y b:Nat) (hb:b≤1) (w:World):(callFunc 212 #[.int .u64 x,.int .u64 y,.int .u64 b]).run Tryz.prog w =
 .ok (.value (.tuple #[.int .u64 (((x+18446744073709551616 - y - b)%18446744073709551616:Nat):Int),.int .u64 ((if x<y+b then 1 else 0:Nat):Int)])) w:=by
 rw [run_callFunc_extern Tryz.func212 (by kernel_rfl) (by kernel_rfl) (by kernel_rfl) (e:=sub64Entry) (by kernel_rfl),run_sub64 x y b hb];rfl
theorem gK (x y b:Nat) (hx:x<18446744073709551616) (hy:y<18446744073709551616) (hb:b≤1):∃ s k:Nat,s<18446744073709551616∧k≤1∧s+y+b=x+18446744073709551616*k∧∀ w,(callFunc 212 #[.int .u64 x,.int .u64 y,.int .u64 b]).run Tryz.prog w = .ok (.value (.tuple #[.int .u64 s,.int .u64 k])) w :=
 ⟨_,_,by omega,by split <;> omega,by split <;> omega,fun w=>As x y b hb w⟩
theorem rp (x y:Nat) (hx:x<18446744073709551616) (hy:y<18446744073709551616):∃ s k:Nat,s<18446744073709551616∧k≤1∧s+y=x+18446744073709551616*k∧∀ w,(callFunc 212 #[.int .u64 x,.int .u64 y,.int .u64 0]).run Tryz.prog w = .ok (.value (.tuple #[.int .u64 s,.int .u64 k])) w :=
 gK x y 0 hx hy (by decide)
theorem mc (x b:Nat) (hx:x<18446744073709551616) (hb:b≤1):∃ s k:Nat,s<18446744073709551616∧k≤1∧s+b=x+18446744073709551616*k∧∀ w,(callFunc 212 #[.int .u64 x,.int .u64 0,.int .u64 b]).run Tryz.prog w = .ok (.value (.tuple #[.int .u64 s,.int .u64 k])) w :=
 gK x 0 b hx (by decide) hb
def ID:Go.Shelf.Ren:=⟨fun _=>162,fun n=>if n=46 then 104 else 71,fun x=>x⟩
theorem Ic:Lays.n264 Tryz.prog ID:=by
 constructor <;> first | kernel_rfl | (intro w;kernel_rfl)
theorem AY (x y:Nat) (hx:x<18446744073709551616) (hy:y<18446744073709551616) (w:World) :
 Calls Tryz.prog 162 #[.int .u64 x,.int .u64 y] w fun e w'=>e = .returned (.tuple #[.int .u64 ((x*y / 18446744073709551616:Nat):Int),.int .u64 ((x*y%18446744073709551616:Nat):Int)])∧w'=w :=
 Any.bits_Mul64 Ic x y hx hy w
theorem nM (x y:Nat) (hx:x<18446744073709551616) (hy:y<18446744073709551616):∃ h l:Nat,h≤18446744073709551614∧l<18446744073709551616∧l+18446744073709551616*h=x*y∧∀ w,Calls Tryz.prog 162 #[.int .u64 x,.int .u64 y] w fun e w'=>e = .returned (.tuple #[.int .u64 h,.int .u64 l])∧w'=w:=by
 have h1:x*y≤18446744073709551615*18446744073709551615:=Nat.mul_le_mul (by omega) (by omega);exact ⟨x*y / 18446744073709551616,x*y%18446744073709551616,by omega,by omega,by omega,fun w=>AY x y hx hy w⟩
theorem rE {fn:Func} {t u v x:Tmp} (h:fn.results=#[.tmp t,.tmp u,.tmp v,.tmp x]) (tmps:Array Value) (P:Program) (w:World) :
 (results fn tmps).run P w = .ok (.tuple #[tmps.getD t undef,tmps.getD u undef,tmps.getD v undef,tmps.getD x undef]) w:=by
 simp [results,h]
theorem tD {fn:Func} {t u v x y:Tmp} (h:fn.results=#[.tmp t,.tmp u,.tmp v,.tmp x,.tmp y]) (tmps:Array Value) (P:Program) (w:World) :
 (results fn tmps).run P w = .ok (.tuple #[tmps.getD t undef,tmps.getD u undef,tmps.getD v undef,tmps.getD x undef,tmps.getD y undef]) w:=by
 simp [results,h]
theorem xD (d:Nat) (hd:d<18446744073709551616):bits .and .u64 (d:Int) 9223372036854775807=((d%9223372036854775808:Nat):Int):=by
 have h:=bits_and_u64_nat d 9223372036854775807 hd (by omega);have e:d &&& 9223372036854775807=d%9223372036854775808:=Nat.and_two_pow_sub_one_eq_mod d 63;rw [e] at h;exact h
theorem ii (w:World) (a b c d:Value) (t:TypeId):(w.alloc (.cells #[a,b,c,d] t)).rangeAt w.heap.size 0 [a,b,c,d]:=fun j v hv=>by
 match j,hv with
 | 0,hv=>simpa using hv
 | 1,hv=>simpa using hv
 | 2,hv=>simpa using hv
 | 3,hv=>simpa using hv
theorem fN {P:Program} {fn:Func} {p:Tmp} {ty:TypeId} (h:fn.results=#[.cell p ty]) (tmps:Array Value) (w:World) (t:TypeId) (a b c d:Value) {D:TypeDesc}
 (hp:tmps.getD p undef = .pointer (some ⟨w.heap.size,0,none⟩)) (hu:P.underlying ty=some D) (hd:D.isRow=true) (hi:(P.info? ty).map (·.size)=some 4) :
 (results fn tmps).run P (w.alloc (.cells #[a,b,c,d] t)) = .ok (.agg #[a,b,c,d]) (w.alloc (.cells #[a,b,c,d] t)) :=
 ai h tmps _ _ 0 [a,b,c,d] D hp (ii w a b c d t) hu hd hi
def bf (n j:Nat):Nat:=n / 256 ^ j%256
theorem dD (n j:Nat):bf n j<256:=Nat.mod_lt _ (by decide)
def aK (bs:Nat→Nat):Nat→Nat
 | 0=>0
 | k+1=>aK bs k+256 ^ k*bs k
theorem dY (bs:Nat→Nat) (hb:∀ j,bs j<256):∀ k,aK bs k<256 ^ k
 | 0=>Nat.one_pos
 | k+1=>by
  have h:=dY bs hb k;have h2:256 ^ k*bs k≤256 ^ k*255:=Nat.mul_le_mul_left _ (by have:=hb k;omega);rw [aK,Nat.pow_succ];omega
theorem dP {a b:Nat→Nat}:∀ k,(∀ j,j<k→a j=b j)→aK a k=aK b k
 | 0,_=>rfl
 | k+1,h=>by rw [aK,aK,dP k (fun j hj=>h j (by omega)),h k (by omega)]
theorem Fg (a:Nat):18446744073709551616 ^ a=2 ^ (64*a):=by
 rw [show (18446744073709551616:Nat)=2 ^ 64 from rfl,←Nat.pow_mul]
theorem vm (a:Nat):256 ^ a=2 ^ (8*a):=by
 rw [show (256:Nat)=2 ^ 8 from rfl,←Nat.pow_mul]
theorem A7 (n k:Nat):lw n (k / 8) / 2 ^ (k%8*8)%256=bf n k:=by
 unfold lw bf;rw [←Nat.mod_mul_right_div_self,Nat.mod_mod_of_dvd,Nat.mod_mul_right_div_self,Nat.div_div_eq_div_mul,Fg,vm,←Nat.pow_add]
 · congr 4;omega
 · rw [show (256:Nat)=2 ^ 8 from rfl,show (18446744073709551616:Nat)=2 ^ 64 from rfl,←Nat.pow_add]
   exact Nat.pow_dvd_pow 2 (by omega)
theorem js (n k:Nat):(lw n (k / 8):Int) / 2 ^ (k%8*8)%256=((bf n k:Nat):Int):=by
 rw [←A7];simp
theorem qW (bs:Nat→Nat) (hb:∀ j,bs j<256) (k a:Nat):lw (aK bs (k+1)) a=if a=k / 8 then lw (aK bs k) a ||| bs k*2 ^ (k%8*8) else lw (aK bs k) a:=by
 have hV:=dY bs hb k;have hbk:=hb k;rw [aK];generalize hv:aK bs k=V at hV ⊢;clear hv;unfold lw;rw [vm] at hV ⊢;rw [Fg]
 have hk:8*k=64*(k / 8)+k%8*8:=by omega
 have hc:k%8*8+8≤64:=by omega
 rw [hk,Nat.pow_add] at hV;rw [hk,Nat.pow_add];generalize hA:k / 8=A at *;generalize k%8*8=c at *;clear hk hA;have hBp:0<2 ^ (64*A):=Nat.two_pow_pos _;have hcp:0<2 ^ c:=Nat.two_pow_pos _
 have h2:2 ^ c*bs k+2 ^ c≤18446744073709551616:=by
  have:2 ^ c*256≤18446744073709551616:=by
   rw [show (256:Nat)=2 ^ 8 from rfl,show (18446744073709551616:Nat)=2 ^ 64 from rfl,←Nat.pow_add];exact Nat.pow_le_pow_right (by decide) hc
  have h3:2 ^ c*bs k≤2 ^ c*255:=Nat.mul_le_mul_left _ (by omega);omega
 rcases Nat.lt_trichotomy a A with h | h | h
 · rw [if_neg (by omega)]
   have e:64*A=64*a+(64+64*(A - a - 1)):=by omega
   rw [e,Nat.pow_add,Nat.mul_assoc,Nat.mul_assoc,Nat.add_mul_div_left _ _ (Nat.two_pow_pos _),Nat.pow_add,Nat.mul_assoc,show (2:Nat) ^ 64=18446744073709551616 from rfl,Nat.add_mul_mod_self_left]
 · subst h
   rw [if_pos rfl,Nat.mul_assoc,Nat.add_mul_div_left _ _ hBp];have hq:V / 2 ^ (64*a)<2 ^ c:=Nat.div_lt_of_lt_mul hV;rw [Nat.mod_eq_of_lt (by omega),Nat.mod_eq_of_lt (by omega),Nat.or_comm,Nat.mul_comm (bs k)];have:=Nat.two_pow_add_eq_or_of_lt hq (bs k);omega
 · rw [if_neg (by omega)]
   have e:64*a=64*A+(64+64*(a - A - 1)):=by omega
   have hle:2 ^ (64*A)*18446744073709551616≤2 ^ (64*a):=by
    rw [show (18446744073709551616:Nat)=2 ^ 64 from rfl,←Nat.pow_add];exact Nat.pow_le_pow_right (by decide) (by omega)
   have h5:V+2 ^ (64*A)*2 ^ c*bs k<2 ^ (64*A)*(2 ^ c*bs k+2 ^ c):=by
    rw [Nat.mul_add,Nat.mul_assoc];omega
   have h6:2 ^ (64*A)*(2 ^ c*bs k+2 ^ c)≤2 ^ (64*A)*18446744073709551616:=Nat.mul_le_mul_left _ h2;rw [Nat.div_eq_of_lt (by omega),Nat.div_eq_of_lt (by omega)]
theorem fD (bs:Nat→Nat) (hb:∀ j,bs j<256):∀ k j,j<k→bf (aK bs k) j=bs j
 | 0,_,h=>absurd h (Nat.not_lt_zero _)
 | k+1,j,h=>by
  unfold bf;rw [aK]
  by_cases e:j=k
  · subst e
    rw [Nat.add_mul_div_left _ _ (Nat.pow_pos (by decide)),Nat.div_eq_of_lt (dY bs hb j),J0,Nat.mod_eq_of_lt (hb j)]
  · have hj:j<k:=by omega
    have e2:k=j+(1+(k - j - 1)):=by omega
    have:256 ^ k=256 ^ j*(256*256 ^ (k - j - 1)):=by
     conv=>lhs;rw [e2]
     rw [Nat.pow_add,Nat.pow_add,Nat.pow_one]
    rw [this,Nat.mul_assoc,Nat.add_mul_div_left _ _ (Nat.pow_pos (by decide)),Nat.mul_assoc,Nat.add_mul_mod_self_left];exact fD bs hb k j hj
theorem ed (n:Nat):∀ k,aK (bf n) k=n%256 ^ k
 | 0=>by rw [aK,Nat.pow_zero,Nat.mod_one]
 | k+1=>by
  rw [aK,ed n k,Nat.pow_succ,Nat.mod_mul];rfl
theorem Eu {a b:Nat} (ha:a<115792089237316195423570985008687907853269984665640564039457584007913129639936) (hb:b<115792089237316195423570985008687907853269984665640564039457584007913129639936) (h:∀ j,j<32→bf a j=bf b j):a=b:=by
 have:=dP 32 h;rw [ed,ed,show (256:Nat) ^ 32=115792089237316195423570985008687907853269984665640564039457584007913129639936 from rfl,Nat.mod_eq_of_lt ha,Nat.mod_eq_of_lt hb] at this;exact this
theorem zk (V b k:Nat) (hV:V<18446744073709551616) (hb:b<256):bits .or .u64 (V:Int) (IntKind.u64.wrap ((b:Int)*2 ^ (k%8*8)))=((V ||| b*2 ^ (k%8*8):Nat):Int):=by
 have h2:b*2 ^ (k%8*8)<18446744073709551616:=by
  have h1:2 ^ (k%8*8)≤2 ^ 56:=Nat.pow_le_pow_right (by decide) (by omega);have h3:b*2 ^ (k%8*8)≤255*2 ^ 56:=Nat.mul_le_mul (by omega) h1;omega
 have e:IntKind.u64.wrap ((b:Int)*2 ^ (k%8*8))=((b*2 ^ (k%8*8):Nat):Int):=by
  rw [IntKind.wrap_u64]
  have e1:(b:Int)*2 ^ (k%8*8)=((b*2 ^ (k%8*8):Nat):Int):=by simp
  rw [e1];omega
 rw [e,bits_or_u64_nat _ _ hV h2]
theorem eU {P:Program} {md:Region.Mode} {ops:Array Oper} {Q:Exit→Act→World→Prop} {S S':World→Prop} (h:∀ w,S' w→S w):∀ (fuel:Nat) (listed:Array Bool) (a:Act) (w:World),wpAnyH P md ops Q S' fuel listed a w→wpAnyH P md ops Q S fuel listed a w
 | 0,_,_,_,H=>H
 | fuel+1,_,_,_,H=>⟨H.1,fun i hi=>wpOp_mono (fun a' w' h'=>⟨h w' h'.1,eU h fuel _ a' w' h'.2⟩) (H.2 i hi)⟩
structure RW (w:World) (g o:Nat) (cs:List Value):Prop where
 range:w.rangeAt g o cs
 there:w.there g o cs.length
 lt:g<w.heap.size
theorem RW.still {w w':World} {g o:Nat} {cs:List Value} (h:RW w g o cs) (hb:Below w.heap.size w w'):RW w' g o cs :=
 ⟨fun j v hv=>(hb.cell (p:=⟨g,o+j,none⟩) h.lt).trans (h.range j v hv),fun j hj=>by
   rw [hb.cell (p:=⟨g,o+j,none⟩) h.lt,hb.frozen (p:=⟨g,o+j,none⟩) h.lt];exact h.there j hj,JX h.lt hb.size⟩
theorem RW.below {w w':World} {g o B:Nat} {cs:List Value} (h:RW w g o cs) (hb:Below B w w') (hB:g<B):RW w' g o cs :=
 ⟨fun j v hv=>(hb.cell (p:=⟨g,o+j,none⟩) hB).trans (h.range j v hv),fun j hj=>by
   rw [hb.cell (p:=⟨g,o+j,none⟩) hB,hb.frozen (p:=⟨g,o+j,none⟩) hB];exact h.there j hj,JX h.lt hb.size⟩
theorem RW.out {w w':World} {g o b p n:Nat} {cs:List Value} (h:RW w g o cs) (hb:aT b p n w w') (hne:g≠b):RW w' g o cs :=
 ⟨fun j v hv=>(hb.cell' h.lt hne).trans (h.range j v hv),fun j hj=>by
   rw [hb.cell' h.lt hne,hb.frozen' h.lt hne];exact h.there j hj,JX h.lt hb.size⟩
theorem RW.stored {w:World} {g o:Nat} {cs:List Value} (h:RW w g o cs) (ds:List Value) (hl:ds.length=cs.length):RW (w.setCells g o ds) g o ds :=
 ⟨World.rangeAt_setCells_same _ _ _ _ (by rw [hl];exact h.there),World.there_setCells (by rw [hl];exact h.there) _ _ _,by rw [(aj g ds o w).2.2.2];exact h.lt⟩
theorem RW.far {w:World} {g o:Nat} {cs:List Value} (h:RW w g o cs) (b p:Nat) (ds:List Value) (hap:g≠b∨o+cs.length≤p∨p+ds.length≤o):RW (w.setCells b p ds) g o cs :=
 ⟨World.rangeAt_setCells_apart h.range _ _ _ hap,World.there_setCells h.there _ _ _,by rw [(aj b ds p w).2.2.2];exact h.lt⟩
theorem RW.left {w:World} {g o:Nat} {cs ds:List Value} (h:RW w g o (cs ++ ds)):RW w g o cs :=
 ⟨fun j v hv=>h.range j v (by rw [List.getElem?_append_left (List.getElem?_eq_some_iff.1 hv).1];exact hv),fun j hj=>h.there j (by rw [List.length_append];omega),h.lt⟩
theorem RW.right {w:World} {g o:Nat} {cs ds:List Value} (h:RW w g o (cs ++ ds)):RW w g (o+cs.length) ds :=
 ⟨fun j v hv=>by
   have:=h.range (cs.length+j) v (by rw [List.getElem?_append_right (Nat.le_add_right _ _),Nat.add_sub_cancel_left];exact hv)
   rw [←Nat.add_assoc] at this;exact this,fun j hj=>by
   have:=h.there (cs.length+j) (by rw [List.length_append];omega)
   rw [←Nat.add_assoc] at this;exact this,h.lt⟩
theorem RW.join {w:World} {g o:Nat} {cs ds:List Value} (h:RW w g o cs) (k:RW w g (o+cs.length) ds):RW w g o (cs ++ ds) :=
 ⟨fun j v hv=>by
   by_cases hj:j<cs.length
   · exact h.range j v (by rw [List.getElem?_append_left hj] at hv;exact hv)
   · rw [List.getElem?_append_right (by omega)] at hv
     have:=k.range (j - cs.length) v hv
     rw [show o+cs.length+(j - cs.length)=o+j by omega] at this;exact this,fun j hj=>by
   rw [List.length_append] at hj
   by_cases hj':j<cs.length
   · exact h.there j hj'
   · have:=k.there (j - cs.length) (by omega)
     rw [show o+cs.length+(j - cs.length)=o+j by omega] at this;exact this,h.lt⟩
theorem RW.fresh (w:World) (cs:List Value) (t:TypeId):RW (w.alloc (.cells cs.toArray t)) w.heap.size 0 cs :=
 ⟨fun j v hv=>by rw [J0];simp [hv],fun j hj=>by
   rw [J0];simp [hj],by simp⟩
theorem RW.drew {w:World} {g o:Nat} {cs:List Value} (h:RW w g o cs):RW w.drew g o cs:=h.still ((Below.refl _ _).drew)
end Go.Proofs.YtibdhadbflfdpaaGreatDoor
namespace Go.Proofs.YtibdhadbflfdpaaGreatDoor
open Go.RowKit Go.Shelf
attribute [local go_sem] Oper.semAt_some
structure mU (bad:Nat→Prop) (W W':World):Prop where
 os:W'.os=W.os
 tape:W'.tape=W.tape
 output:W'.output=W.output
 size:W.heap.size≤W'.heap.size
 block:∀ k,k<W.heap.size→¬bad k→W'.heap[k]? = W.heap[k]?
theorem mU.refl (bad:Nat→Prop) (W:World):mU bad W W:=⟨rfl,rfl,rfl,Nat.le_refl _,fun _ _ _=>rfl⟩
theorem mU.trans {bad:Nat→Prop} {A B C:World} (h:mU bad A B) (k:mU bad B C):mU bad A C:=⟨k.os.trans h.os,k.tape.trans h.tape,k.output.trans h.output,Nat.le_trans h.size k.size,fun i hi hb=>(k.block i (Nat.lt_of_lt_of_le hi h.size) hb).trans (h.block i hi hb)⟩
theorem mU.row {bad:Nat→Prop} {W W':World} (h:mU bad W W') {K:IntKind} {b o n:Nat} {X:Nat→Nat} (hr:ah K W b o n X) (hb:¬bad b):ah K W' b o n X:=fun j hj=>by
 have hl:b<W.heap.size:=block_lt_of_cell (hr j hj).1;exact ⟨(World.cell?_of_block (w:=W) (h.block b hl hb)).trans (hr j hj).1,(World.frozen?_of_block (w:=W) (h.block b hl hb)).trans (hr j hj).2⟩
theorem mU.cell {bad:Nat→Prop} {W W':World} (h:mU bad W W') {b o:Nat} {v:Value} (hc:W.cell? ⟨b,o,none⟩=some v) (hb:¬bad b):W'.cell? ⟨b,o,none⟩=some v :=
 (World.cell?_of_block (w:=W) (h.block b (block_lt_of_cell hc) hb)).trans hc
theorem le {P:Program} {n:Nat} {ops:Array Oper} {rest:List Oper} {op:Oper} {a:Act} {w:World} {Q:Exit→Act→World→Prop} (hgd:op.guard=none) (ty:TypeId) (x:Operand) (ho:op.op = .load ty x)
 (b o:Nat) (hx:a.eval x = .pointer (some ⟨b,o,none⟩)) (cs:List Value) (d:TypeDesc) (hc:w.rangeAt b o cs)
 (hu:P.underlying ty=some d) (hd:d.isRow=true) (hi:(P.info? ty).map (·.size)=some cs.length)
 (h:wpListIn Fence.wide n P ops Q rest (a.put op.dst (.agg cs.toArray)) w):wpListIn Fence.wide n P ops Q (op :: rest) a w :=
 wpListIn_plain hgd fun _ hK=>⟨fun _ _=>trivial,by
  have hsem:(op.semAt Fence.wide.round a.eval)=execOp a.eval op:=rfl;rw [hsem];unfold execOp;simp only [ho,hx,Instr.loadAt,Instr.sureAddr,Sem.run_bind,Sem.run_pure,Result.andThen_ok,run_loadVar_mid w b o ty cs d hc hu hd hi]
  exact hK _ _ h⟩
theorem jX {P:Program} {n:Nat} {ops:Array Oper} {rest:List Oper} {op:Oper} {a:Act} {w:World} {Q:Exit→Act→World→Prop} (hgd:op.guard=none) (ty:TypeId) (x y:Operand) (ho:op.op = .store ty x y)
 (b o:Nat) (cells:Array Value) (hx:a.eval x = .pointer (some ⟨b,o,none⟩)) (hy:a.eval y = .agg cells) (ht:w.there b o cells.size) (hi:(P.info? ty).map (·.size)=some cells.size) (h1:cells.all (·.oneCell')=true)
 (h:wpListIn Fence.wide n P ops Q rest (a.put op.dst undef) (w.setCells b o cells.toList)):wpListIn Fence.wide n P ops Q (op :: rest) a w :=
 wpListIn_plain hgd fun _ hK=>⟨fun _ _=>trivial,by
  have hsem:(op.semAt Fence.wide.round a.eval)=execOp a.eval op:=rfl;rw [hsem];unfold execOp;simp only [ho,hx,hy,Instr.storeAt,Instr.sureAddr,Sem.run_bind,Sem.run_pure,Result.andThen_ok,run_storeVar_mid w b o ty cells ht hi h1]
  exact hK _ _ h⟩
theorem mU.below {bad:Nat→Prop} {W W':World} (h:mU bad W W') {B:Nat} (hB:B≤W.heap.size) (hb:∀ k,bad k→B≤k):Below B W W':=⟨h.os,h.tape,h.output,h.size,fun k hk=>h.block k (by omega) (fun hk'=>by have:=hb k hk';omega)⟩
theorem lE (W:World) (l:Nat) (o:Obj):mU (fun k=>k=l) W (W.putObj l o):=⟨rfl,rfl,rfl,by simp [World.putObj],fun k _ hb=>World.putObj_heap_other (fun e=>hb e)⟩
theorem mU.mono {b c:Nat→Prop} {W W':World} (h:mU b W W') (hb:∀ k,b k→c k):mU c W W':=⟨h.os,h.tape,h.output,h.size,fun k hk hc=>h.block k hk (fun e=>hc (hb k e))⟩
theorem ne {F:Fence} {P:Program} {n:Nat} {g:Operand} {ps:Array Tmp} {assign body:Code} {Q:Exit→Act→World→Prop} {a:Act} {w:World} {gf:Nat} {lb:Array Value} (hro:F.round=none) (hF:∀ f,F.fn f) (hd:F.depth.isSome=true→1≤n) (hg:a.eval g = .func (.func gf) #[] lb) (eg:∀ args w,(callFunc gf args).run P w = .ok (.enter gf args) w)
 (h:∀ r0:Loop,r0.state = .ready→r0.pending=none→r0.tmps=a.tmps→r0.params=ps→r0.assign=assign→r0.body=body →
   CallsIn F (n - 1) P gf (#[.func (.yield (w.heap.size+1)) #[] #[]] ++ lb) ((w.alloc (.deferred (some []))).alloc (.loop r0)) (rangePost F n P (w.heap.size+1) Q { a with defers:=[{ target := .collected w.heap.size,args:=#[] }] ++ a.defers })) :
 (Code.rangeFunc g ps assign body).wpIn F n P Q a w:=by
 refine wpIn_rangeFunc ?_;intro fn _;rw [hro]
 obtain ⟨r0,hr0⟩:∃ r0:Loop,r0={ state := .ready,pending:=none,fn,tmps:=a.tmps,params:=ps,assign,body,defers:=w.heap.size }:=⟨_,rfl⟩
 obtain ⟨W1,hW1⟩:∃ W1,(w.alloc (.deferred (some []))).alloc (.loop r0)=W1:=⟨_,rfl⟩
 have hh:=h r0 (by rw [hr0]) (by rw [hr0]) (by rw [hr0]) (by rw [hr0]) (by rw [hr0]) (by rw [hr0]);rw [hW1] at hh;clear h
 refine ⟨w.heap.size+1,[{ target := .collected w.heap.size,args:=#[] }],W1,{ target := .fn (.func gf) lb,args:=#[.func (.yield (w.heap.size+1)) #[] #[]] },W1,gf,
  #[.func (.yield (w.heap.size+1)) #[] #[]] ++ lb,W1,?_,?_,?_,?_,hd,?_⟩
 · rw [←hW1,hr0];exact run_enterLoop_outer _ _ _ _ _
 · simp only [resolve,hg]
   simp [go_sem]
 · intro f' _;exact hF f'
 · simp [invoke,go_sem,eg]
 · exact hh
theorem Ay (r0:Loop) (h1:r0.state = .ready) (h2:r0.pending=none):({ { r0 with state := .busy } with state := .ready,pending:=none }:Loop)=r0:=by
 cases r0;cases h1;cases h2;rfl
theorem ud {P:Program} {n l:Nat} {r0:Loop} {args:Array Value} {W:World} {R:Ending→World→Prop} (hl:W.heap[l]? = some (.loop r0)) (hs:args.size=r0.params.size)
 (h:r0.assign.wpIn (Fence.wide.inRound l) n P (Exit.then (fun a₁ w₁=>∃ w₂,(Instr.beginRound l).run P w₁ = .ok () w₂∧r0.body.wpIn (Fence.wide.inRound l) n P (roundPost P l R) a₁ w₂) (fun _ _ _=>False)) { tmps:=(r0.params.zip args).foldl (fun tmps (t,a)=>tmps.setIfInBounds t a) r0.tmps,defers:=[] } W):YieldAt Fence.wide n P l args W R :=
 ⟨r0.fn,_,r0.assign,r0.body,run_yield hl hs,roundIn_of_wpIn trivial h⟩
end Go.Proofs.YtibdhadbflfdpaaGreatDoor
namespace Go.Proofs.YtibdhadbflfdpaaGreatDoor
open Go.RowKit
def vz (n s j:Nat):Nat:=n / 2 ^ (8*(s - 1 - j))%256
theorem Dq (n s j:Nat):vz n s j<256:=Nat.mod_lt _ (by decide)
def nD (n:Nat):Nat:=if n<64 then 1 else if n<16384 then 2 else 4
def yt (n:Nat):Nat:=if n<64 then n else if n<16384 then n+16384 else n+2147483648
def Iy (n:Nat):Nat→Nat:=vz (yt n) (nD n)
def DK (n:Nat) (b:Nat→Nat):Nat→Nat:=bu (nD n) (Iy n) b
def yW (n:Nat):Nat:=nD n+n
theorem nv (n:Nat):0<nD n∧nD n≤4:=by unfold nD;split <;> (try split) <;> omega
def IG (s:Int):Bool:=s == 1 || s == 2 || s == 4 || s == 8
def Ik (s:Nat):Nat:=if s=8 then 4611686018427387904 else 2 ^ (8*s)
structure Rd where
 at_:Nat
 e:Int
def Fy (n s k:Nat):Nat→Nat:=fun j=>if s≤j+k then vz n s j else 0
theorem CP (n s k:Nat) (hk:k<s) (j:Nat) (_hj:j<s):bK (Fy n s k) (s - 1 - k) (n / 2 ^ (8*k)%256) j=Fy n s (k+1) j:=by
 unfold bK Fy
 by_cases h:j=s - 1 - k
 · rw [if_pos h,if_pos (by omega)]
   unfold vz;rw [show s - 1 - j=k by omega]
 · rw [if_neg h]
   by_cases h2:s≤j+k
   · rw [if_pos h2,if_pos (by omega)]
   · rw [if_neg h2,if_neg (by omega)]
set_option maxRecDepth 20000 in
set_option maxHeartbeats 4000000 in
theorem ij (n s:Nat) (hs:s≤8) (w:World) :
 Calls Tryz.prog 129 #[.int .i64 n,.int .i64 s] w fun e w'=>∃ v,e = .returned v∧ae w' v s (vz n s)∧Below w.heap.size w w':=by
 have hmk:=cO w s (s:Int) rfl (by omega);have b0:Below w.heap.size w (w.alloc (.cells (zb s) 5)):=(Below.refl _ _).alloc (Nat.le_refl _) _
 have r0:ah .u8 (w.alloc (.cells (zb s) 5)) w.heap.size 0 s (Fy n s 0):=(ah.fresh (X:=fun _=>0) (fun j hj=>fO s j hj)).congr fun j hj=>by
  unfold Fy;rw [if_neg (by omega)]
 obtain ⟨W,hW⟩:∃ W,W=w.alloc (.cells (zb s) 5):=⟨_,rfl⟩
 have gW:w.heap.size<W.heap.size:=by rw [hW];simp
 obtain ⟨g,hg⟩:∃ g,g=w.heap.size:=⟨_,rfl⟩
 rw [←hW] at hmk b0 r0;rw [←hg] at hmk r0
 have hgl:w.heap.size≤g:=by omega
 have gW':g<W.heap.size:=by omega
 clear hW gW hg;go_enter Tryz.func129,Tryz.ntmps129;go_wp2;go_loopw [10] (fun i wr=>∃ k:Nat,k≤s∧i = .int .i64 k∧ah .u8 wr g 0 s (Fy n s k)∧Below w.heap.size w wr∧g<wr.heap.size) (fun i _=>s - (intOf i).toNat)
 case atStart=>exact ⟨0,Nat.zero_le _,rfl,r0,b0,gW'⟩
 case round =>
  clear r0 b0 hmk;obtain ⟨k,hk,rfl,hr,hb,gl⟩:=hrel
  by_cases hlt:k<s
  · obtain ⟨q1,z1⟩:=hr (s - 1 - k) (by omega)
    have hst:=hr.set (i:=s - 1 - k) (by omega) (v:=((n / 2 ^ (8*k)%256:Nat):Int)) rfl;rw [Nat.zero_add] at q1 z1 hst
    replace hst:=hst.congr fun j hj=>CP n s k hlt j hj
    have e1:IntKind.u8.wrap ((n:Int) / 2 ^ (8*k))=((n / 2 ^ (8*k)%256:Nat):Int):=by
     show (n:Int) / 2 ^ (8*k)%256=_;simp
    obtain ⟨y,hy⟩:∃ y,y=n / 2 ^ (8*k)%256:=⟨_,rfl⟩
    rw [←hy] at hst e1
    obtain ⟨q,hq⟩:∃ q,q=s - 1 - k:=⟨_,rfl⟩
    rw [←hq] at q1 z1 hst
    obtain ⟨u,hu⟩:∃ u,u=Fy n s k q:=⟨_,rfl⟩
    rw [←hu] at q1
    obtain ⟨sh,hsh⟩:∃ sh,sh=8*k:=⟨_,rfl⟩
    rw [←hsh] at e1
    have e2:(s:Int) - 1 - (k:Int)=(q:Int):=by omega
    have e2':IntKind.i64.wrap ((s:Int) - 1 - (k:Int))=(q:Int):=by simp only [IntKind.wrap_i64];omega
    have e2'':IntKind.i64.wrap ((s:Int) - 1)=(s:Int) - 1:=by simp only [IntKind.wrap_i64];omega
    have e3:8*(k:Int)=(sh:Int):=by omega
    have e3':IntKind.i64.wrap (8*(k:Int))=(sh:Int):=by simp only [IntKind.wrap_i64];omega
    have e4:IntKind.u64.wrap (sh:Int)=(sh:Int):=by show (sh:Int)%18446744073709551616=_;omega
    have t1:(0:Int)≤(q:Int)∧(q:Int)<(s:Int):=by omega
    have t2:(0:Int)≤(sh:Int)∧(sh:Int)<64:=by omega
    have hlt':(k:Int)<(s:Int):=by omega
    clear hy hq hu hsh hr;go_wp2;go_roundw
    case rel=>exact ⟨k+1,hlt,by go_num,hst,hb.setCell hgl _,by simp;exact gl⟩
    case measure=>simp [intOf];omega
  · obtain rfl:k=s:=by omega
    have hlt':¬(k:Int)<(k:Int):=by omega
    go_wp2;go_ret;exact ⟨_,rfl,.inr ⟨g,0,k,rfl,gl,Nat.le_refl _,fun j hj=>by rw [(hr j hj).1];unfold Fy;rw [if_pos (by omega)]⟩,hb⟩
theorem Ac (s:Int) (w:World):Calls Tryz.prog 127 #[.int .i64 s] w fun e w'=>e = .returned (.bool (IG s))∧w'=w:=by
 by_cases h1:s=1
 · subst h1
   go_enter Tryz.func127,Tryz.ntmps127;go_wp2;go_ret;exact ⟨rfl,rfl⟩
 · by_cases h2:s=2
   · subst h2
     go_enter Tryz.func127,Tryz.ntmps127;go_wp2;go_ret;exact ⟨rfl,rfl⟩
   · by_cases h4:s=4
     · subst h4
       go_enter Tryz.func127,Tryz.ntmps127;go_wp2;go_ret;exact ⟨rfl,rfl⟩
     · by_cases h8:s=8
       · subst h8
         go_enter Tryz.func127,Tryz.ntmps127;go_wp2;go_ret;exact ⟨rfl,rfl⟩
       · go_enter Tryz.func127,Tryz.ntmps127
         go_wp2;go_ret;exact ⟨by simp [IG],rfl⟩
theorem AK (s:Nat) (h:s=1∨s=2∨s=4∨s=8) (w:World):Calls Tryz.prog 128 #[.int .i64 (s:Int)] w fun e w'=>e = .returned (.int .i64 ((Ik s - 1:Nat):Int))∧w'=w:=by
 rcases h with rfl | rfl | rfl | rfl <;>
 · go_enter Tryz.func128,Tryz.ntmps128
   go_wp2;go_ret;exact ⟨rfl,rfl⟩
def G0 (k:Nat):Nat:=8*2 ^ k - 2
theorem qL (k:Nat) (h:k<3) (w:World):Calls Tryz.prog 246 #[.int .i64 (k:Int)] w fun e w'=>e = .returned (.int .i64 ((G0 k:Nat):Int))∧w'=w:=by
 rcases (show k=0∨k=1∨k=2 by omega) with rfl | rfl | rfl <;>
 · go_enter Tryz.func246,Tryz.ntmps246
   go_wp2;go_ret;exact ⟨rfl,rfl⟩
end Go.Proofs.YtibdhadbflfdpaaGreatDoor
