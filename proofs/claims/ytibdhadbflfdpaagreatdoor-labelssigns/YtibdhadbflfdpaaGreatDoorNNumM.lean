/- What the proof stands on: NNum, Both, Then, Ones, Inverse. -/
import Derived.Test.YtibdhadbflfdpaaGreatDoorRefOneM
import Derived.Test.YtibdhadbflfdpaaGreatDoorWordsM
namespace Go.Proofs.YtibdhadbflfdpaaGreatDoor
open Nat renaming le_refl → JW
open Go renaming wpAnyH_ready → J1
open Go.AllReadyH renaming nil → J6
open Go.AllReadyH renaming cons → J7
open Go.RowKit
theorem BM (a e:Nat) (h:pF - 2=e):a ^ e%pF=de a%pF:=by unfold de;rw [h,Nat.mod_mod]
theorem gD (A:Nat→Int) (a:Nat) (hA:Rw A a) (w:World):Calls Tryz.prog 126 #[rV A] w fun e w'=>∃ R,e = .returned (rV R)∧Rw R (de a)∧Below w.heap.size w w':=by
 obtain ⟨E,hE⟩:∃ E:Nat,57896044618658097711785492504343953926634992332820282019728792003956564819947=E:=⟨_,rfl⟩
 have h:=li A a hA.bd (fun M m h=>(je h.wide hA).cast (by unfold av;rw [Nat.mod_mod])) w;rw [hE] at h
 exact h.mono fun _ _ ⟨R,he,hR,hb⟩=>⟨R,he,(hR.cast (BM a E (by rw [←hE];decide))).wide,hb⟩
theorem Rep.far {L:Nat→Int} {x:Nat} (h:Rep L x):∀ j,j<16→-1073741824≤L j∧L j≤1073741824:=fun j hj=>by have:=h.bd j hj;omega
theorem Rw.far {L:Nat→Int} {x:Nat} (h:Rw L x):∀ j,j<16→-1073741824≤L j∧L j≤1073741824:=fun j hj=>by have:=h.bd j hj;omega
structure bE (w:World) (g:Nat) (a b c d:Value):Prop where
 c0:w.cell? ⟨g,0,none⟩=some a
 c1:w.cell? ⟨g,1,none⟩=some b
 c2:w.cell? ⟨g,2,none⟩=some c
 c3:w.cell? ⟨g,3,none⟩=some d
 f0:w.frozen? ⟨g,0,none⟩=false
 f1:w.frozen? ⟨g,1,none⟩=false
 f2:w.frozen? ⟨g,2,none⟩=false
 f3:w.frozen? ⟨g,3,none⟩=false
theorem bE.below {w w':World} {g B:Nat} {a b c d:Value} (h:bE w g a b c d) (hb:Below B w w') (hB:g<B):bE w' g a b c d :=
 ⟨(hb.cell (p:=⟨g,0,none⟩) hB).trans h.c0,(hb.cell (p:=⟨g,1,none⟩) hB).trans h.c1,(hb.cell (p:=⟨g,2,none⟩) hB).trans h.c2,(hb.cell (p:=⟨g,3,none⟩) hB).trans h.c3,(hb.frozen (p:=⟨g,0,none⟩) hB).trans h.f0,(hb.frozen (p:=⟨g,1,none⟩) hB).trans h.f1,(hb.frozen (p:=⟨g,2,none⟩) hB).trans h.f2,(hb.frozen (p:=⟨g,3,none⟩) hB).trans h.f3⟩
theorem bE.there {w:World} {g:Nat} {a b c d:Value} (h:bE w g a b c d):w.there g 0 4:=fun j hj=>by
 match j,hj with
 | 0,_=>exact ⟨by rw [h.c0];rfl,h.f0⟩
 | 1,_=>exact ⟨by rw [show (0+1:Nat)=1 from rfl,h.c1];rfl,h.f1⟩
 | 2,_=>exact ⟨by rw [show (0+2:Nat)=2 from rfl,h.c2];rfl,h.f2⟩
 | 3,_=>exact ⟨by rw [show (0+3:Nat)=3 from rfl,h.c3];rfl,h.f3⟩
theorem bE.range {w:World} {g:Nat} {a b c d:Value} (h:bE w g a b c d):w.rangeAt g 0 [a,b,c,d]:=fun j v hv=>by
 match j,hv with
 | 0,hv=>cases hv;exact h.c0
 | 1,hv=>cases hv;exact h.c1
 | 2,hv=>cases hv;exact h.c2
 | 3,hv=>cases hv;exact h.c3
theorem bE.drew {w:World} {g:Nat} {a b c d:Value} (h:bE w g a b c d):bE w.drew g a b c d:=⟨h.c0,h.c1,h.c2,h.c3,h.f0,h.f1,h.f2,h.f3⟩
theorem cQ (w:World) (a b c d:Value) (t:TypeId):bE (w.alloc (.cells #[a,b,c,d] t)) w.heap.size a b c d:=by constructor <;> simp
def oO (w:World) (g:Nat) (a b c d:Value):World:=(((w.setCell ⟨g,0,none⟩ a).setCell ⟨g,1,none⟩ b).setCell ⟨g,2,none⟩ c).setCell ⟨g,3,none⟩ d
theorem bE.set {w:World} {g:Nat} {a b c d:Value} (h:bE w g a b c d) (a' b' c' d':Value):bE (oO w g a' b' c' d') g a' b' c' d':=by
 have hr:=World.rangeAt_setCells_same w g 0 [a',b',c',d'] h.there
 have hf:∀ j,(oO w g a' b' c' d').frozen? ⟨g,j,none⟩=w.frozen? ⟨g,j,none⟩:=fun j=>World.frozen?_setCells g [a',b',c',d'] 0 w _
 exact ⟨hr 0 _ rfl,hr 1 _ rfl,hr 2 _ rfl,hr 3 _ rfl,(hf 0).trans h.f0,(hf 1).trans h.f1,(hf 2).trans h.f2,(hf 3).trans h.f3⟩
theorem pd {w:World} {g k:Nat} (hk:k≠g) (a b c d:Value):(oO w g a b c d).heap[k]? = w.heap[k]?:=aF g [a,b,c,d] 0 w k hk
theorem bE.far {w:World} {g k:Nat} {a b c d:Value} (h:bE w g a b c d) (hk:g≠k) (a' b' c' d':Value):bE (oO w k a' b' c' d') g a b c d:=by
 have hc:∀ j,(oO w k a' b' c' d').cell? ⟨g,j,none⟩=w.cell? ⟨g,j,none⟩:=fun j=>World.cell?_of_block (w:=w) (pd hk a' b' c' d')
 have hf:∀ j,(oO w k a' b' c' d').frozen? ⟨g,j,none⟩=w.frozen? ⟨g,j,none⟩:=fun j=>World.frozen?_of_block (w:=w) (pd hk a' b' c' d')
 exact ⟨(hc 0).trans h.c0,(hc 1).trans h.c1,(hc 2).trans h.c2,(hc 3).trans h.c3,(hf 0).trans h.f0,(hf 1).trans h.f1,(hf 2).trans h.f2,(hf 3).trans h.f3⟩
theorem dF {B:Nat} {u w:World} {g:Nat} (h:Below B u w) (hg:B≤g) (a b c d:Value):Below B u (oO w g a b c d):=bX h hg a b c d
theorem ri (w:World) (g:Nat) (a b c d:Value):(oO w g a b c d).heap.size=w.heap.size:=(aj g [a,b,c,d] 0 w).2.2.2
theorem pi {P:Program} {fn:Func} {p q s:Tmp} {ty:TypeId} (h:fn.results=#[.cell p ty,.cell q ty,.tmp s]) (tmps:Array Value) (w:World) (g k:Nat) (cs ds:List Value) (d:TypeDesc)
 (hp:tmps.getD p undef = .pointer (some ⟨g,0,none⟩)) (hq:tmps.getD q undef = .pointer (some ⟨k,0,none⟩)) (hc:w.rangeAt g 0 cs) (hds:w.rangeAt k 0 ds)
 (hu:P.underlying ty=some d) (hd:d.isRow=true) (hi:(P.info? ty).map (·.size)=some cs.length) (hj:(P.info? ty).map (·.size)=some ds.length) :
 (results fn tmps).run P w = .ok (.tuple #[.agg cs.toArray,.agg ds.toArray,tmps.getD s undef]) w:=by
 have hp':tmps[p]?.getD undef = .pointer (some ⟨g,0,none⟩):=by simpa using hp
 have hq':tmps[q]?.getD undef = .pointer (some ⟨k,0,none⟩):=by simpa using hq
 simp [results,h,hp',hq',asAddr,run_loadVar_mid w g 0 ty cs d hc hu hd hi,run_loadVar_mid w k 0 ty ds d hds hu hd hj]
def fV (n:Nat) (bs:Nat→Nat):Nat:=if n=32 then aK bs 32%pF else 0
def BI (n:Nat):Nat:=if n=32 then 0 else 1
theorem pk (v:Value) (n:Nat) (bs:Nat→Nat) (hbs:∀ j,bs j<256) (w:World) (hv:ae w v n bs) :
 Calls Tryz.prog 172 #[v] w fun e w'=>e = .returned (.tuple #[ag (fV n bs),.int .i64 (BI n)])∧Below w.heap.size w w':=by
 unfold fV BI
 by_cases h:n=32
 · subst h
   rw [if_pos rfl,if_pos rfl]
   rcases hv with ⟨_,_,h0⟩ | ⟨bb,ob,cap,rfl,h1,h2,h3⟩
   · omega
   · exact E8 bb ob cap bs hbs w h1 h3
 · rw [if_neg h,if_neg h]
   obtain ⟨xo,c,rfl,-⟩:=hv.src;exact wW xo n c h w
set_option maxRecDepth 20000 in
set_option maxHeartbeats 2000000 in
theorem Af (v u:Value) (bs cs:Nat→Nat) (hbs:∀ j,bs j<256) (hcs:∀ j,cs j<256) (w:World) (hv:ae w v 32 bs) (hu:ae w u 32 cs) :
 Calls Tryz.prog 218 #[v,u] w fun e w'=>e = .returned (.tuple #[ag (aK bs 32%pF),ag (aK cs 32%pF),.int .i64 0])∧Below w.heap.size w w':=by
 have cv:∀ W,Below w.heap.size w W→Calls Tryz.prog 172 #[v] W fun e w'=>e = .returned (.tuple #[ag (aK bs 32%pF),.int .i64 0])∧Below W.heap.size W w':=fun W h=>pk v 32 bs hbs W (hv.still h)
 have cu:∀ W,Below w.heap.size w W→Calls Tryz.prog 172 #[u] W fun e w'=>e = .returned (.tuple #[ag (aK cs 32%pF),.int .i64 0])∧Below W.heap.size W w':=fun W h=>pk u 32 cs hcs W (hu.still h)
 obtain ⟨xv,kv,rfl,-⟩:=hv.src;obtain ⟨xu,ku,rfl,-⟩:=hu.src;obtain ⟨x0,x1,x2,x3,hx⟩:=bh (aK bs 32%pF);obtain ⟨y0,y1,y2,y3,hy⟩:=bh (aK cs 32%pF);rw [hx] at cv ⊢;rw [hy] at cu ⊢
 obtain ⟨W0,hW0⟩:∃ W,W=(w.alloc (.cells #[.int .u64 0,.int .u64 0,.int .u64 0,.int .u64 0] 75)).alloc (.cells #[.int .u64 0,.int .u64 0,.int .u64 0,.int .u64 0] 75):=⟨_,rfl⟩
 have H0:=Hid.mk' hW0
 have hs0:W0.heap.size=w.heap.size+1+1:=by rw [hW0];simp
 have hb0:Below w.heap.size w W0:=by rw [hW0];exact ((Below.refl _ _).alloc (JW _) _).alloc (by simp) _
 have A0:bE W0 w.heap.size (.int .u64 0) (.int .u64 0) (.int .u64 0) (.int .u64 0):=by rw [hW0];exact (cQ w _ _ _ _ _).below ((Below.refl _ _).alloc (JW _) _) (by simp)
 have B0:bE W0 (w.heap.size+1) (.int .u64 0) (.int .u64 0) (.int .u64 0) (.int .u64 0):=by
  have:=cQ (w.alloc (.cells #[.int .u64 0,.int .u64 0,.int .u64 0,.int .u64 0] 75)) (.int .u64 0) (.int .u64 0) (.int .u64 0) (.int .u64 0) 75;rw [World.size_alloc] at this;rw [hW0];exact this
 have cv0:=cv W0 hb0;clear hv hu hx hy hW0 cv;go_enter Tryz.func218,Tryz.ntmps218
 go_wp2_with (first
  | (go_at_call 172;rw [←H0.out];refine cv0.mono ?_;clear cv0;rintro e w1 ⟨rfl,hb1⟩;(have A1:=A0.below hb1 (by omega));(have B1:=B0.below hb1 (by omega));(have hbw1:Below w.heap.size w w1:=hb0.trans (hb1.mono hb0.size));(have hs1:=hb1.size);obtain ⟨a0,a1,a2,a3,g0,g1,g2,g3⟩:=id A1;clear A0 B0)
  | (go_at_call 172;refine (cu (oO w1 w.heap.size (.int .u64 x0) (.int .u64 x1) (.int .u64 x2) (.int .u64 x3)) (dF hbw1 (JW _) _ _ _ _)).mono ?_;clear cu;rintro e w2 ⟨rfl,hb2⟩;(have hs2:=hb2.size);rw [ri] at hb2 hs2;(have A2:=(A1.set (.int .u64 x0) (.int .u64 x1) (.int .u64 x2) (.int .u64 x3)).below hb2 (by omega));(have B2:=(B1.far (k:=w.heap.size) (by omega) (.int .u64 x0) (.int .u64 x1) (.int .u64 x2) (.int .u64 x3)).below hb2 (by omega));(have hbw2:Below w.heap.size w w2:=(dF hbw1 (JW _) _ _ _ _).trans (hb2.mono (by omega)));clear a0 a1 a2 a3 g0 g1 g2 g3 A1 B1;obtain ⟨a0,a1,a2,a3,g0,g1,g2,g3⟩:=id A2;obtain ⟨b0,b1,b2,b3,k0,k1,k2,k3⟩:=id B2))
 go_region;go_wp2;(try simp only [Exit.inBlock,Exit.then]);have FA:=(((A2.far (k:=w.heap.size+1) (by omega) (.int .u64 y0) (.int .u64 y1) (.int .u64 y2) (.int .u64 y3)).set (.int .u64 x0) (.int .u64 x1) (.int .u64 x2) (.int .u64 x3)).far (k:=w.heap.size+1) (by omega) (.int .u64 y0) (.int .u64 y1) (.int .u64 y2) (.int .u64 y3)).drew;have FB:=(((B2.set (.int .u64 y0) (.int .u64 y1) (.int .u64 y2) (.int .u64 y3)).far (k:=w.heap.size) (by omega) (.int .u64 x0) (.int .u64 x1) (.int .u64 x2) (.int .u64 x3)).set (.int .u64 y0) (.int .u64 y1) (.int .u64 y2) (.int .u64 y3)).drew;exact bodyPost_ret (pi Tryz.results218 _ _ w.heap.size (w.heap.size+1) _ _ _ rfl rfl FA.range FB.range Tryz.underlying75 rfl (by kernel_rfl) (by kernel_rfl)) rfl ⟨rfl,(dF (dF (dF hbw2 (by omega) _ _ _ _) (JW _) _ _ _ _) (by omega) _ _ _ _).drew⟩
theorem db:0<pF:=by decide
def tH (n k:Nat):Nat:=n ^ (2 ^ k)%pF
theorem wI (n k:Nat):tH n k<pF:=Nat.mod_lt _ db
theorem C4 (n:Nat) (h:n<pF):tH n 0=n:=by unfold tH;rw [Nat.pow_zero,Nat.pow_one,Nat.mod_eq_of_lt h]
theorem Df (n k:Nat):tH n k*tH n k%pF=tH n (k+1):=by
 unfold tH;rw [←Nat.mul_mod,←Nat.pow_add,Nat.pow_succ,Nat.mul_two]
def CF (w:World) (g n:Nat):Prop:=bE w g (.int .u64 (lw n 0)) (.int .u64 (lw n 1)) (.int .u64 (lw n 2)) (.int .u64 (lw n 3))
theorem CF.ex {w:World} {g n:Nat} (h:CF w g n):∃ x0 x1 x2 x3:Nat,ag n = .agg #[.int .u64 x0,.int .u64 x1,.int .u64 x2,.int .u64 x3]∧bE w g (.int .u64 x0) (.int .u64 x1) (.int .u64 x2) (.int .u64 x3):=⟨_,_,_,_,rfl,h⟩
set_option maxRecDepth 20000 in
set_option maxHeartbeats 2000000 in
theorem BW (n m k:Nat) (hn:n<pF) (hm:m<pF) (hk:k<1000) (w:World) :
 Calls Tryz.prog 159 #[ag n,.int .i64 k,.func (.func 98) #[ag m] #[]] w fun e w'=>e = .returned (ag (m*tH n k%pF))∧Below w.heap.size w w':=by
 have ct:=fun W=>aI m (tH n k) hm (wI n k) W
 obtain ⟨R,hR⟩:∃ R,R=m*tH n k%pF:=⟨_,rfl⟩
 rw [←hR] at ct ⊢;obtain ⟨z0,z1,z2,z3,hz⟩:=bh R;obtain ⟨m0,m1,m2,m3,hmv⟩:=bh m;rw [hz] at ct ⊢;rw [hmv] at ct ⊢
 obtain ⟨W,hW⟩:∃ W,W=(w.alloc (.cells #[.int .u64 (lw n 0),.int .u64 (lw n 1),.int .u64 (lw n 2),.int .u64 (lw n 3)] 75)).alloc (.cells #[.int .u64 0,.int .u64 0,.int .u64 0,.int .u64 0] 75):=⟨_,rfl⟩
 have HW:=Hid.mk' hW
 have hWs:W.heap.size=w.heap.size+1+1:=by rw [hW];simp
 have hbW:Below w.heap.size w W:=by rw [hW];exact ((Below.refl _ _).alloc (JW _) _).alloc (by simp) _
 have hA:CF W w.heap.size (tH n 0):=by rw [C4 n hn,hW];exact (cQ w _ _ _ _ _).below ((Below.refl _ _).alloc (JW _) _) (by simp)
 have hB:bE W (w.heap.size+1) (.int .u64 0) (.int .u64 0) (.int .u64 0) (.int .u64 0):=by
  have:=cQ (w.alloc (.cells #[.int .u64 (lw n 0),.int .u64 (lw n 1),.int .u64 (lw n 2),.int .u64 (lw n 3)] 75)) (.int .u64 0) (.int .u64 0) (.int .u64 0) (.int .u64 0) 75;rw [World.size_alloc] at this;rw [hW];exact this
 unfold ag;clear hW hR hz hmv;go_enter Tryz.func159,Tryz.ntmps159;go_wp2;rw [←HW.out];go_loopw [8] (fun i wr=>∃ q:Nat,q≤k∧i = .int .i64 q∧CF wr w.heap.size (tH n q)∧bE wr (w.heap.size+1) (.int .u64 0) (.int .u64 0) (.int .u64 0) (.int .u64 0)∧Below w.heap.size w wr∧w.heap.size+1<wr.heap.size) (fun i _=>k - (intOf i).toNat)
 case atStart=>exact ⟨0,Nat.zero_le _,rfl,hA,hB,hbW,by omega⟩
 case round =>
  clear hA hB hbW;obtain ⟨q,hq,rfl,hA,hB,hb,hs⟩:=hrel
  by_cases hlt:q<k
  · have cs:=aI (tH n q) (tH n q) (wI n q) (wI n q) wr
    rw [Df] at cs;obtain ⟨x0,x1,x2,x3,hx,hA'⟩:=hA.ex
    have hy:∃ y0 y1 y2 y3:Nat,ag (tH n (q+1)) = .agg #[.int .u64 y0,.int .u64 y1,.int .u64 y2,.int .u64 y3]∧∀ W,bE W w.heap.size (.int .u64 y0) (.int .u64 y1) (.int .u64 y2) (.int .u64 y3)→CF W w.heap.size (tH n (q+1)):=⟨_,_,_,_,rfl,fun _ h=>h⟩
    obtain ⟨y0,y1,y2,y3,hye,hyn⟩:=hy;rw [hx,hye] at cs;obtain ⟨c0,c1,c2,c3,f0,f1,f2,f3⟩:=id hA';clear ct hx hye hA;go_wp2_with (go_at_call 98;refine cs.mono ?_;clear cs;rintro e w1 ⟨rfl,hb1⟩;(have A1:=hA'.below hb1 (by omega));clear c0 c1 c2 c3 f0 f1 f2 f3;obtain ⟨c0,c1,c2,c3,f0,f1,f2,f3⟩:=id A1);go_roundw
    case rel =>
     refine ⟨q+1,by omega,by go_num,hyn _ (A1.set _ _ _ _),(hB.below hb1 (by omega)).far (by omega) _ _ _ _,dF (hb.trans (hb1.mono hb.size)) (JW _) _ _ _ _,?_⟩;show w.heap.size+1<(oO _ _ _ _ _ _).heap.size;rw [ri];have:=hb1.size;omega
    case measure=>simp [intOf];omega
  · have hqe:q=k:=by omega
    rw [hqe] at hA;obtain ⟨x0,x1,x2,x3,hx,hA'⟩:=hA.ex;have ct':=ct wr;rw [hx] at ct';obtain ⟨c0,c1,c2,c3,f0,f1,f2,f3⟩:=id hA';clear ct hx hA;go_wp2_with (go_at_call 98;refine ct'.mono ?_;clear ct';rintro e w1 ⟨rfl,hb1⟩;(have B1:=hB.below hb1 (by omega));(have ht1:=B1.there);clear c0 c1 c2 c3 f0 f1 f2 f3;obtain ⟨c0,c1,c2,c3,f0,f1,f2,f3⟩:=B1);(try simp only [Exit.inBlock,Exit.then]);exact bodyPost_ret (bO Tryz.results159 _ _ _ _ _ _ _ ht1 rfl Tryz.underlying75 rfl (by kernel_rfl)) rfl ⟨rfl,bX (hb.trans (hb1.mono hb.size)) (by omega) _ _ _ _⟩
theorem cJ (x a b k e:Nat) (he:b+a*2 ^ k=e) (hk:k<1000) (w:World) :
 Calls Tryz.prog 159 #[ag (x ^ a%pF),.int .i64 k,.func (.func 98) #[ag (x ^ b%pF)] #[]] w fun e' w'=>e' = .returned (ag (x ^ e%pF))∧Below w.heap.size w w':=by
 have h:=BW (x ^ a%pF) (x ^ b%pF) k (Nat.mod_lt _ db) (Nat.mod_lt _ db) hk w
 have e1:x ^ b%pF*tH (x ^ a%pF) k%pF=x ^ e%pF:=by
  unfold tH;rw [←Nat.pow_mod,←Nat.mul_mod,←Nat.pow_mul,←Nat.pow_add,he]
 rw [e1] at h;exact h
set_option maxRecDepth 20000 in
set_option maxHeartbeats 4000000 in
theorem mH (x:Nat) (w:World) :
 Calls Tryz.prog 158 #[ag (x ^ 1%pF)] w fun e w'=>e = .returned (ag (x ^ 1809251394333065553493296640760748560207343510400633813116524750123642650623%pF))∧Below w.heap.size w w':=by
 have cc0:=fun W=>cJ x 1 1 1 3 (by decide) (by decide) W
 have cc1:=fun W=>cJ x 3 3 2 15 (by decide) (by decide) W
 have cc2:=fun W=>cJ x 15 1 1 31 (by decide) (by decide) W
 have cc3:=fun W=>cJ x 31 31 5 1023 (by decide) (by decide) W
 have cc4:=fun W=>cJ x 1023 1023 10 1048575 (by decide) (by decide) W
 have cc5:=fun W=>cJ x 1048575 1048575 20 1099511627775 (by decide) (by decide) W
 have cc6:=fun W=>cJ x 1099511627775 1023 10 1125899906842623 (by decide) (by decide) W
 have cc7:=fun W=>cJ x 1125899906842623 1125899906842623 50 1267650600228229401496703205375 (by decide) (by decide) W
 have cc8:=fun W=>cJ x 1267650600228229401496703205375 1267650600228229401496703205375 100 1606938044258990275541962092341162602522202993782792835301375 (by decide) (by decide) W
 have cc9:=fun W=>cJ x 1606938044258990275541962092341162602522202993782792835301375 1125899906842623 50 1809251394333065553493296640760748560207343510400633813116524750123642650623 (by decide) (by decide) W
 obtain ⟨va0,va1,va2,va3,hva⟩:=bh (x ^ 1%pF);obtain ⟨vb0,vb1,vb2,vb3,hvb⟩:=bh (x ^ 3%pF);obtain ⟨vc0,vc1,vc2,vc3,hvc⟩:=bh (x ^ 15%pF);obtain ⟨vd0,vd1,vd2,vd3,hvd⟩:=bh (x ^ 31%pF);obtain ⟨ve0,ve1,ve2,ve3,hve⟩:=bh (x ^ 1023%pF);obtain ⟨vf0,vf1,vf2,vf3,hvf⟩:=bh (x ^ 1048575%pF);obtain ⟨vg0,vg1,vg2,vg3,hvg⟩:=bh (x ^ 1099511627775%pF);obtain ⟨vh0,vh1,vh2,vh3,hvh⟩:=bh (x ^ 1125899906842623%pF);obtain ⟨vi0,vi1,vi2,vi3,hvi⟩:=bh (x ^ 1267650600228229401496703205375%pF);obtain ⟨vj0,vj1,vj2,vj3,hvj⟩:=bh (x ^ 1606938044258990275541962092341162602522202993782792835301375%pF);obtain ⟨vk0,vk1,vk2,vk3,hvk⟩:=bh (x ^ 1809251394333065553493296640760748560207343510400633813116524750123642650623%pF);rw [hva,hvb] at cc0;rw [hvb,hvc] at cc1;rw [hvc,hva,hvd] at cc2;rw [hvd,hve] at cc3;rw [hve,hvf] at cc4;rw [hvf,hvg] at cc5;rw [hvg,hve,hvh] at cc6;rw [hvh,hvi] at cc7;rw [hvi,hvj] at cc8;rw [hvj,hvh,hvk] at cc9;rw [hva,hvk]
 have dd0:∀ W,Calls Tryz.prog 159 #[.agg #[.int .u64 va0,.int .u64 va1,.int .u64 va2,.int .u64 va3],.int .i64 1,.func (.func 98) #[.agg #[.int .u64 va0,.int .u64 va1,.int .u64 va2,.int .u64 va3]] #[]] W fun e w'=>e = .returned (.agg #[.int .u64 vb0,.int .u64 vb1,.int .u64 vb2,.int .u64 vb3])∧Below W.heap.size W w':=cc0
 have dd1:∀ W,Calls Tryz.prog 159 #[.agg #[.int .u64 vb0,.int .u64 vb1,.int .u64 vb2,.int .u64 vb3],.int .i64 2,.func (.func 98) #[.agg #[.int .u64 vb0,.int .u64 vb1,.int .u64 vb2,.int .u64 vb3]] #[]] W fun e w'=>e = .returned (.agg #[.int .u64 vc0,.int .u64 vc1,.int .u64 vc2,.int .u64 vc3])∧Below W.heap.size W w':=cc1
 have dd2:∀ W,Calls Tryz.prog 159 #[.agg #[.int .u64 vc0,.int .u64 vc1,.int .u64 vc2,.int .u64 vc3],.int .i64 1,.func (.func 98) #[.agg #[.int .u64 va0,.int .u64 va1,.int .u64 va2,.int .u64 va3]] #[]] W fun e w'=>e = .returned (.agg #[.int .u64 vd0,.int .u64 vd1,.int .u64 vd2,.int .u64 vd3])∧Below W.heap.size W w':=cc2
 have dd3:∀ W,Calls Tryz.prog 159 #[.agg #[.int .u64 vd0,.int .u64 vd1,.int .u64 vd2,.int .u64 vd3],.int .i64 5,.func (.func 98) #[.agg #[.int .u64 vd0,.int .u64 vd1,.int .u64 vd2,.int .u64 vd3]] #[]] W fun e w'=>e = .returned (.agg #[.int .u64 ve0,.int .u64 ve1,.int .u64 ve2,.int .u64 ve3])∧Below W.heap.size W w':=cc3
 have dd4:∀ W,Calls Tryz.prog 159 #[.agg #[.int .u64 ve0,.int .u64 ve1,.int .u64 ve2,.int .u64 ve3],.int .i64 10,.func (.func 98) #[.agg #[.int .u64 ve0,.int .u64 ve1,.int .u64 ve2,.int .u64 ve3]] #[]] W fun e w'=>e = .returned (.agg #[.int .u64 vf0,.int .u64 vf1,.int .u64 vf2,.int .u64 vf3])∧Below W.heap.size W w':=cc4
 have dd5:∀ W,Calls Tryz.prog 159 #[.agg #[.int .u64 vf0,.int .u64 vf1,.int .u64 vf2,.int .u64 vf3],.int .i64 20,.func (.func 98) #[.agg #[.int .u64 vf0,.int .u64 vf1,.int .u64 vf2,.int .u64 vf3]] #[]] W fun e w'=>e = .returned (.agg #[.int .u64 vg0,.int .u64 vg1,.int .u64 vg2,.int .u64 vg3])∧Below W.heap.size W w':=cc5
 have dd6:∀ W,Calls Tryz.prog 159 #[.agg #[.int .u64 vg0,.int .u64 vg1,.int .u64 vg2,.int .u64 vg3],.int .i64 10,.func (.func 98) #[.agg #[.int .u64 ve0,.int .u64 ve1,.int .u64 ve2,.int .u64 ve3]] #[]] W fun e w'=>e = .returned (.agg #[.int .u64 vh0,.int .u64 vh1,.int .u64 vh2,.int .u64 vh3])∧Below W.heap.size W w':=cc6
 have dd7:∀ W,Calls Tryz.prog 159 #[.agg #[.int .u64 vh0,.int .u64 vh1,.int .u64 vh2,.int .u64 vh3],.int .i64 50,.func (.func 98) #[.agg #[.int .u64 vh0,.int .u64 vh1,.int .u64 vh2,.int .u64 vh3]] #[]] W fun e w'=>e = .returned (.agg #[.int .u64 vi0,.int .u64 vi1,.int .u64 vi2,.int .u64 vi3])∧Below W.heap.size W w':=cc7
 have dd8:∀ W,Calls Tryz.prog 159 #[.agg #[.int .u64 vi0,.int .u64 vi1,.int .u64 vi2,.int .u64 vi3],.int .i64 100,.func (.func 98) #[.agg #[.int .u64 vi0,.int .u64 vi1,.int .u64 vi2,.int .u64 vi3]] #[]] W fun e w'=>e = .returned (.agg #[.int .u64 vj0,.int .u64 vj1,.int .u64 vj2,.int .u64 vj3])∧Below W.heap.size W w':=cc8
 have dd9:∀ W,Calls Tryz.prog 159 #[.agg #[.int .u64 vj0,.int .u64 vj1,.int .u64 vj2,.int .u64 vj3],.int .i64 50,.func (.func 98) #[.agg #[.int .u64 vh0,.int .u64 vh1,.int .u64 vh2,.int .u64 vh3]] #[]] W fun e w'=>e = .returned (.agg #[.int .u64 vk0,.int .u64 vk1,.int .u64 vk2,.int .u64 vk3])∧Below W.heap.size W w':=cc9
 clear cc0 cc1 cc2 cc3 cc4 cc5 cc6 cc7 cc8 cc9 hva hvb hvc hvd hve hvf hvg hvh hvi hvj hvk
 obtain ⟨W,hW⟩:∃ W,W=(w.alloc (.cells #[.int .u64 va0,.int .u64 va1,.int .u64 va2,.int .u64 va3] 75)).alloc (.cells #[.int .u64 0,.int .u64 0,.int .u64 0,.int .u64 0] 75):=⟨_,rfl⟩
 have HW:=Hid.mk' hW
 have hWs:W.heap.size=w.heap.size+1+1:=by rw [hW];simp
 have hbW:Below w.heap.size w W:=by rw [hW];exact ((Below.refl _ _).alloc (JW _) _).alloc (by simp) _
 have N0:bE W w.heap.size (.int .u64 va0) (.int .u64 va1) (.int .u64 va2) (.int .u64 va3):=by rw [hW];exact (cQ w _ _ _ _ _).below ((Below.refl _ _).alloc (JW _) _) (by simp)
 have R0:bE W (w.heap.size+1) (.int .u64 0) (.int .u64 0) (.int .u64 0) (.int .u64 0):=by
  have:=cQ (w.alloc (.cells #[.int .u64 va0,.int .u64 va1,.int .u64 va2,.int .u64 va3] 75)) (.int .u64 0) (.int .u64 0) (.int .u64 0) (.int .u64 0) 75;rw [World.size_alloc] at this;rw [hW];exact this
 clear hW;go_enter Tryz.func158,Tryz.ntmps158
 go_wp2_with (first
  | (go_at_call 159;rw [←HW.out];refine (dd0 _).mono ?_;clear dd0;rintro e w1 ⟨rfl,bel1⟩;(have N1:=N0.below bel1 (by omega));(have R1:=R0.below bel1 (by omega));(have zz1:w.heap.size+1+1≤w1.heap.size:=by have:=bel1.size;omega);(have hw1:Below w.heap.size w w1:=hbW.trans (bel1.mono (by omega))))
  | (go_at_call 159;refine (dd1 _).mono ?_;clear dd1;rintro e w2 ⟨rfl,bel2⟩;(have sz2:w1.heap.size+1≤w2.heap.size:=by have:=bel2.size;rw [World.size_alloc] at this;exact this);(have tb2:Below w1.heap.size w1 w2:=((Below.refl w1.heap.size w1).alloc (JW _) _).trans (bel2.mono (by rw [World.size_alloc];omega)));(have zz2:w.heap.size+1+1≤w2.heap.size:=by omega);(have hw2:Below w.heap.size w w2:=hw1.trans (tb2.mono (by omega)));(have R2:=R1.below tb2 (by omega));(have N2:=N1.below tb2 (by omega));(have q2:w.heap.size<w2.heap.size:=by omega);(obtain ⟨n0,n1,n2,n3,-,-,-,-⟩:=id N2))
  | (go_at_call 159;refine (dd2 _).mono ?_;clear dd2;rintro e w3 ⟨rfl,bel3⟩;(have sz3:w2.heap.size+1≤w3.heap.size:=by have:=bel3.size;rw [World.size_alloc] at this;exact this);(have tb3:Below w2.heap.size w2 w3:=((Below.refl w2.heap.size w2).alloc (JW _) _).trans (bel3.mono (by rw [World.size_alloc];omega)));(have zz3:w.heap.size+1+1≤w3.heap.size:=by omega);(have hw3:Below w.heap.size w w3:=hw2.trans (tb3.mono (by omega)));(have R3:=R2.below tb3 (by omega)))
  | (go_at_call 159;refine (dd3 _).mono ?_;clear dd3;rintro e w4 ⟨rfl,bel4⟩;(have sz4:w3.heap.size+1≤w4.heap.size:=by have:=bel4.size;rw [World.size_alloc] at this;exact this);(have tb4:Below w3.heap.size w3 w4:=((Below.refl w3.heap.size w3).alloc (JW _) _).trans (bel4.mono (by rw [World.size_alloc];omega)));(have zz4:w.heap.size+1+1≤w4.heap.size:=by omega);(have hw4:Below w.heap.size w w4:=hw3.trans (tb4.mono (by omega)));(have R4:=R3.below tb4 (by omega)))
  | (go_at_call 159;refine (dd4 _).mono ?_;clear dd4;rintro e w5 ⟨rfl,bel5⟩;(have sz5:w4.heap.size+1≤w5.heap.size:=by have:=bel5.size;rw [World.size_alloc] at this;exact this);(have tb5:Below w4.heap.size w4 w5:=((Below.refl w4.heap.size w4).alloc (JW _) _).trans (bel5.mono (by rw [World.size_alloc];omega)));(have zz5:w.heap.size+1+1≤w5.heap.size:=by omega);(have hw5:Below w.heap.size w w5:=hw4.trans (tb5.mono (by omega)));(have R5:=R4.below tb5 (by omega));(have T5:=(cQ w4 (.int .u64 ve0) (.int .u64 ve1) (.int .u64 ve2) (.int .u64 ve3) 75).below bel5 (by simp));(have q5:w4.heap.size<w5.heap.size:=by omega))
  | (go_at_call 159;refine (dd5 _).mono ?_;clear dd5;rintro e w6 ⟨rfl,bel6⟩;(have sz6:w5.heap.size+1≤w6.heap.size:=by have:=bel6.size;rw [World.size_alloc] at this;exact this);(have tb6:Below w5.heap.size w5 w6:=((Below.refl w5.heap.size w5).alloc (JW _) _).trans (bel6.mono (by rw [World.size_alloc];omega)));(have zz6:w.heap.size+1+1≤w6.heap.size:=by omega);(have hw6:Below w.heap.size w w6:=hw5.trans (tb6.mono (by omega)));(have R6:=R5.below tb6 (by omega));(have T6:=T5.below tb6 (by omega));(have q6:w4.heap.size<w6.heap.size:=by omega);(obtain ⟨m0,m1,m2,m3,-,-,-,-⟩:=id T6))
  | (go_at_call 159;refine (dd6 _).mono ?_;clear dd6;rintro e w7 ⟨rfl,bel7⟩;(have sz7:w6.heap.size+1≤w7.heap.size:=by have:=bel7.size;rw [World.size_alloc] at this;exact this);(have tb7:Below w6.heap.size w6 w7:=((Below.refl w6.heap.size w6).alloc (JW _) _).trans (bel7.mono (by rw [World.size_alloc];omega)));(have zz7:w.heap.size+1+1≤w7.heap.size:=by omega);(have hw7:Below w.heap.size w w7:=hw6.trans (tb7.mono (by omega)));(have R7:=R6.below tb7 (by omega)))
  | (go_at_call 159;refine (dd7 _).mono ?_;clear dd7;rintro e w8 ⟨rfl,bel8⟩;(have sz8:w7.heap.size+1≤w8.heap.size:=by have:=bel8.size;rw [World.size_alloc] at this;exact this);(have tb8:Below w7.heap.size w7 w8:=((Below.refl w7.heap.size w7).alloc (JW _) _).trans (bel8.mono (by rw [World.size_alloc];omega)));(have zz8:w.heap.size+1+1≤w8.heap.size:=by omega);(have hw8:Below w.heap.size w w8:=hw7.trans (tb8.mono (by omega)));(have R8:=R7.below tb8 (by omega));(have F8:=(cQ w7 (.int .u64 vh0) (.int .u64 vh1) (.int .u64 vh2) (.int .u64 vh3) 75).below bel8 (by simp));(have q8:w7.heap.size<w8.heap.size:=by omega))
  | (go_at_call 159;refine (dd8 _).mono ?_;clear dd8;rintro e w9 ⟨rfl,bel9⟩;(have sz9:w8.heap.size+1≤w9.heap.size:=by have:=bel9.size;rw [World.size_alloc] at this;exact this);(have tb9:Below w8.heap.size w8 w9:=((Below.refl w8.heap.size w8).alloc (JW _) _).trans (bel9.mono (by rw [World.size_alloc];omega)));(have zz9:w.heap.size+1+1≤w9.heap.size:=by omega);(have hw9:Below w.heap.size w w9:=hw8.trans (tb9.mono (by omega)));(have R9:=R8.below tb9 (by omega));(have F9:=F8.below tb9 (by omega));(have q9:w7.heap.size<w9.heap.size:=by omega);(obtain ⟨p0,p1,p2,p3,-,-,-,-⟩:=id F9))
  | (go_at_call 159;refine (dd9 _).mono ?_;clear dd9;rintro e w10 ⟨rfl,bel10⟩;(have sz10:w9.heap.size+1≤w10.heap.size:=by have:=bel10.size;rw [World.size_alloc] at this;exact this);(have tb10:Below w9.heap.size w9 w10:=((Below.refl w9.heap.size w9).alloc (JW _) _).trans (bel10.mono (by rw [World.size_alloc];omega)));(have zz10:w.heap.size+1+1≤w10.heap.size:=by omega);(have hw10:Below w.heap.size w w10:=hw9.trans (tb10.mono (by omega)));(have R10:=R9.below tb10 (by omega));(have ht:=R10.there);(obtain ⟨r0,r1,r2,r3,f0,f1,f2,f3⟩:=id R10)))
 (try simp only [Exit.inBlock,Exit.then]);exact bodyPost_ret (bO Tryz.results158 _ _ _ _ _ _ _ ht rfl Tryz.underlying75 rfl (by kernel_rfl)) rfl ⟨rfl,bX hw10 (by omega) _ _ _ _⟩
set_option maxRecDepth 20000 in
set_option maxHeartbeats 4000000 in
theorem uE (x:Nat) (w:World) :
 Calls Tryz.prog 96 #[ag (x ^ 1%pF)] w fun e w'=>e = .returned (ag (x ^ 57896044618658097711785492504343953926634992332820282019728792003956564819947%pF))∧Below w.heap.size w w':=by
 have cc0:=fun W=>mH x W
 have cc1:=fun W=>cJ x 1809251394333065553493296640760748560207343510400633813116524750123642650623 1 2 7237005577332262213973186563042994240829374041602535252466099000494570602493 (by decide) (by decide) W
 have cc2:=fun W=>cJ x 7237005577332262213973186563042994240829374041602535252466099000494570602493 1 2 28948022309329048855892746252171976963317496166410141009864396001978282409973 (by decide) (by decide) W
 have cc3:=fun W=>cJ x 28948022309329048855892746252171976963317496166410141009864396001978282409973 1 1 57896044618658097711785492504343953926634992332820282019728792003956564819947 (by decide) (by decide) W
 obtain ⟨va0,va1,va2,va3,hva⟩:=bh (x ^ 1%pF);obtain ⟨vb0,vb1,vb2,vb3,hvb⟩:=bh (x ^ 1809251394333065553493296640760748560207343510400633813116524750123642650623%pF);obtain ⟨vc0,vc1,vc2,vc3,hvc⟩:=bh (x ^ 7237005577332262213973186563042994240829374041602535252466099000494570602493%pF);obtain ⟨vd0,vd1,vd2,vd3,hvd⟩:=bh (x ^ 28948022309329048855892746252171976963317496166410141009864396001978282409973%pF);obtain ⟨ve0,ve1,ve2,ve3,hve⟩:=bh (x ^ 57896044618658097711785492504343953926634992332820282019728792003956564819947%pF);rw [hva,hvb] at cc0;rw [hvb,hva,hvc] at cc1;rw [hvc,hva,hvd] at cc2;rw [hvd,hva,hve] at cc3;rw [hva,hve]
 have dd1:∀ W,Calls Tryz.prog 159 #[.agg #[.int .u64 vb0,.int .u64 vb1,.int .u64 vb2,.int .u64 vb3],.int .i64 2,.func (.func 98) #[.agg #[.int .u64 va0,.int .u64 va1,.int .u64 va2,.int .u64 va3]] #[]] W fun e w'=>e = .returned (.agg #[.int .u64 vc0,.int .u64 vc1,.int .u64 vc2,.int .u64 vc3])∧Below W.heap.size W w':=cc1
 have dd2:∀ W,Calls Tryz.prog 159 #[.agg #[.int .u64 vc0,.int .u64 vc1,.int .u64 vc2,.int .u64 vc3],.int .i64 2,.func (.func 98) #[.agg #[.int .u64 va0,.int .u64 va1,.int .u64 va2,.int .u64 va3]] #[]] W fun e w'=>e = .returned (.agg #[.int .u64 vd0,.int .u64 vd1,.int .u64 vd2,.int .u64 vd3])∧Below W.heap.size W w':=cc2
 have dd3:∀ W,Calls Tryz.prog 159 #[.agg #[.int .u64 vd0,.int .u64 vd1,.int .u64 vd2,.int .u64 vd3],.int .i64 1,.func (.func 98) #[.agg #[.int .u64 va0,.int .u64 va1,.int .u64 va2,.int .u64 va3]] #[]] W fun e w'=>e = .returned (.agg #[.int .u64 ve0,.int .u64 ve1,.int .u64 ve2,.int .u64 ve3])∧Below W.heap.size W w':=cc3
 clear cc1 cc2 cc3 hva hvb hvc hvd hve
 obtain ⟨W,hW⟩:∃ W,W=(w.alloc (.cells #[.int .u64 va0,.int .u64 va1,.int .u64 va2,.int .u64 va3] 75)).alloc (.cells #[.int .u64 0,.int .u64 0,.int .u64 0,.int .u64 0] 75):=⟨_,rfl⟩
 have HW:=Hid.mk' hW
 have hWs:W.heap.size=w.heap.size+1+1:=by rw [hW];simp
 have hbW:Below w.heap.size w W:=by rw [hW];exact ((Below.refl _ _).alloc (JW _) _).alloc (by simp) _
 have N0:bE W w.heap.size (.int .u64 va0) (.int .u64 va1) (.int .u64 va2) (.int .u64 va3):=by rw [hW];exact (cQ w _ _ _ _ _).below ((Below.refl _ _).alloc (JW _) _) (by simp)
 have R0:bE W (w.heap.size+1) (.int .u64 0) (.int .u64 0) (.int .u64 0) (.int .u64 0):=by
  have:=cQ (w.alloc (.cells #[.int .u64 va0,.int .u64 va1,.int .u64 va2,.int .u64 va3] 75)) (.int .u64 0) (.int .u64 0) (.int .u64 0) (.int .u64 0) 75;rw [World.size_alloc] at this;rw [hW];exact this
 have hr:∀ w':World,Below (w.heap.size+1) W w'→w'.rangeAt w.heap.size 0 [.int .u64 va0,.int .u64 va1,.int .u64 va2,.int .u64 va3]:=fun w' h=>(N0.below h (by omega)).range
 have hi':(Tryz.prog.info? 75).map (·.size)=some 4:=by kernel_rfl
 have hb0:Below (w.heap.size+1) W W.drew:=(Below.refl _ _).drew;clear hW;go_enter Tryz.func96,Tryz.ntmps96;go_wp2;rw [←HW.out];refine wp_region_held_drew (S:=fun w2=>Below (w.heap.size+1) W w2) (by kernel_rfl) hb0 (fun hHeld => ?_);refine wpAnyH_take (i:=0) (v := .agg #[.int .u64 va0,.int .u64 va1,.int .u64 va2,.int .u64 va3]) rfl (by kernel_rfl) (by kernel_rfl) (by kernel_rfl) (fun _ _ _ h=>h) (yieldsIf_load_mid (by rfl) 75 _ rfl w.heap.size 0 rfl [.int .u64 va0,.int .u64 va1,.int .u64 va2,.int .u64 va3] _ hr Tryz.underlying75 rfl hi') hHeld ?_;refine wpAnyH_take (i:=2) (v := .agg #[.int .u64 va0,.int .u64 va1,.int .u64 va2,.int .u64 va3]) rfl (by kernel_rfl) (by kernel_rfl) (by kernel_rfl) (fun _ _ _ h=>h) (yieldsIf_load_mid (by rfl) 75 _ rfl w.heap.size 0 rfl [.int .u64 va0,.int .u64 va1,.int .u64 va2,.int .u64 va3] _ hr Tryz.underlying75 rfl hi') hHeld ?_;refine wpAnyH_take (i:=5) (v := .agg #[.int .u64 va0,.int .u64 va1,.int .u64 va2,.int .u64 va3]) rfl (by kernel_rfl) (by kernel_rfl) (by kernel_rfl) (fun _ _ _ h=>h) (yieldsIf_load_mid (by rfl) 75 _ rfl w.heap.size 0 rfl [.int .u64 va0,.int .u64 va1,.int .u64 va2,.int .u64 va3] _ hr Tryz.underlying75 rfl hi') hHeld ?_;refine wpAnyH_take (i:=8) (v := .agg #[.int .u64 va0,.int .u64 va1,.int .u64 va2,.int .u64 va3]) rfl (by kernel_rfl) (by kernel_rfl) (by kernel_rfl) (fun _ _ _ h=>h) (yieldsIf_load_mid (by rfl) 75 _ rfl w.heap.size 0 rfl [.int .u64 va0,.int .u64 va1,.int .u64 va2,.int .u64 va3] _ hr Tryz.underlying75 rfl hi') hHeld ?_;refine wpAnyH_take (i:=3) (v := .func (.func 98) #[.agg #[.int .u64 va0,.int .u64 va1,.int .u64 va2,.int .u64 va3]] #[]) rfl (by kernel_rfl) (by kernel_rfl) (by kernel_rfl) (fun _ _ _ h=>h) (Or.inl ⟨by rfl,fun w2 _=>by go_simp⟩) hHeld ?_;refine wpAnyH_take (i:=6) (v := .func (.func 98) #[.agg #[.int .u64 va0,.int .u64 va1,.int .u64 va2,.int .u64 va3]] #[]) rfl (by kernel_rfl) (by kernel_rfl) (by kernel_rfl) (fun _ _ _ h=>h) (Or.inl ⟨by rfl,fun w2 _=>by go_simp⟩) hHeld ?_;refine wpAnyH_take (i:=9) (v := .func (.func 98) #[.agg #[.int .u64 va0,.int .u64 va1,.int .u64 va2,.int .u64 va3]] #[]) rfl (by kernel_rfl) (by kernel_rfl) (by kernel_rfl) (fun _ _ _ h=>h) (Or.inl ⟨by rfl,fun w2 _=>by go_simp⟩) hHeld ?_;refine J1 (rs:=[1]) (by kernel_rfl) (by simp) ?_;refine J7 rfl (fun K hK => ?_) J6;go_simp;go_at_call 158;refine (cc0 _).mono ?_;clear cc0;rintro e w1 ⟨rfl,bel_w1⟩;have S_w1:Below (w.heap.size+1) W w1:=hb0.trans (bel_w1.mono (by have:=hb0.size;omega));go_simp;refine hK.out _ _ S_w1 (fun h1 => ?_);clear hK K;refine J1 (rs:=[4]) (by kernel_rfl) (by simp) ?_;refine J7 rfl (fun K hK => ?_) J6;go_simp;go_at_call 159;refine (dd1 _).mono ?_;clear dd1;rintro e w2 ⟨rfl,bel_w2⟩;have S_w2:Below (w.heap.size+1) W w2:=S_w1.trans (bel_w2.mono (by have:=S_w1.size;omega));go_simp;refine hK.out _ _ S_w2 (fun h2 => ?_);clear hK K;refine J1 (rs:=[7]) (by kernel_rfl) (by simp) ?_;refine J7 rfl (fun K hK => ?_) J6;go_simp;go_at_call 159;refine (dd2 _).mono ?_;clear dd2;rintro e w3 ⟨rfl,bel_w3⟩;have S_w3:Below (w.heap.size+1) W w3:=S_w2.trans (bel_w3.mono (by have:=S_w2.size;omega));go_simp;refine hK.out _ _ S_w3 (fun h3 => ?_);clear hK K;refine J1 (rs:=[10]) (by kernel_rfl) (by simp) ?_;refine J7 rfl (fun K hK => ?_) J6;go_simp;go_at_call 159;refine (dd3 _).mono ?_;clear dd3;rintro e w4 ⟨rfl,bel_w4⟩;have S_w4:Below (w.heap.size+1) W w4:=S_w3.trans (bel_w4.mono (by have:=S_w3.size;omega));go_simp;refine hK.out _ _ S_w4 (fun h4 => ?_);clear hK K;have z1:=bel_w1.size;have z2:=bel_w2.size;have z3:=bel_w3.size;have zd:W.drew.heap.size=w.heap.size+1+1:=hWs;have R4:=(((R0.drew.below bel_w1 (by omega)).below bel_w2 (by omega)).below bel_w3 (by omega)).below bel_w4 (by omega);have ht:=R4.there;have S5:Below (w.heap.size+1) W (oO w4 (w.heap.size+1) (.int .u64 ve0) (.int .u64 ve1) (.int .u64 ve2) (.int .u64 ve3)):=dF S_w4 (JW _) _ _ _ _;have hbw4:Below w.heap.size w w4:=hbW.trans (S_w4.mono (by omega));obtain ⟨r0,r1,r2,r3,f0,f1,f2,f3⟩:=R4;refine J1 (rs:=[11]) (by kernel_rfl) (by simp) ?_
 refine J7 rfl (fun K hK => ?_) J6;go_simp;refine hK.out _ _ S5 (fun h5 => ?_);clear hK K;refine wpAnyH_done (by kernel_rfl) ?_ _;go_simp;go_wp2;(try simp only [Exit.inBlock,Exit.then]);exact bodyPost_ret (bO Tryz.results96 _ _ _ _ _ _ _ ht rfl Tryz.underlying75 rfl (by kernel_rfl)) rfl ⟨rfl,bX hbw4 (by omega) _ _ _ _⟩
theorem uX (x:Nat) (hx:x<pF) (w:World) :
 Calls Tryz.prog 96 #[ag x] w fun e w'=>e = .returned (ag (x ^ (pF - 2)%pF))∧Below w.heap.size w w':=by
 have h:=uE x w;rw [Nat.pow_one,Nat.mod_eq_of_lt hx] at h
 have e:57896044618658097711785492504343953926634992332820282019728792003956564819947=pF - 2:=by decide
 rw [e] at h;exact h
end Go.Proofs.YtibdhadbflfdpaaGreatDoor
