/- What the proof stands on: N3S, N3ra, D1RJ, N3rb, N3rc, I2Own, N3E, N3U, N3L. -/
import Derived.Test.YtgdcmibdjiaofaaBaseM
import Derived.Test.YtgdcmibdjiaofaaD1PcsM
import Derived.Test.YtgdcmibdjiaofaaN3HM
namespace Go.Proofs.Ytgdcmibdjiaofaa
open Go.RowKit
theorem fld0 (i j k:Nat) (c d e:Array Value) (W:World):(Instr.field 102 (.agg #[clo i c,clo j d,clo k e]) 0).run Try.prog W = .ok (clo i c) W:=by kernel_rfl
theorem fld1 (i j k:Nat) (c d e:Array Value) (W:World):(Instr.field 102 (.agg #[clo i c,clo j d,clo k e]) 1).run Try.prog W = .ok (clo j d) W:=by kernel_rfl
set_option maxRecDepth 20000 in
theorem lhAl (k:Nat) (c:Array Value) (f:Fd) (al:Bool) (w:World) (hk:RW w k 0 [clo 114 c]) (cK:Calls Try.prog 114 c w fun e w'=>e = .returned f.val∧Below w.heap.size w w') (h0:∀ W,(callFunc f.i0 f.c0).run Try.prog W = .ok (.enter f.i0 f.c0) W)
 (hal:∀ W,Below w.heap.size w W→Calls Try.prog f.i0 f.c0 W fun e w'=>e = .returned (.bool al)∧Below W.heap.size W w'):Calls Try.prog 115 #[pA k 0] w fun e w'=>e = .returned (.bool al)∧Below w.heap.size w w':=by
 obtain ⟨i0,c0,i1,c1,i2,c2⟩:=f
 have q:=hk.cell (o:=0) rfl
 replace cK:Calls Try.prog 114 c w fun e w'=>e = .returned (.agg #[clo i0 c0,clo i1 c1,clo i2 c2])∧Below w.heap.size w w':=cK
 have hK:∀ W,(callFunc 114 c).run Try.prog W = .ok (.enter 114 c) W:=fun W=>by kernel_rfl
 have hA:=Hid.mk' hal
 clear hal hk
 have hfl:=fld0 i0 i1 i2 c0 c1 c2
 go_enter Try.func115,Try.ntmps115
 go_wp2_with (first
  | (with_reducible (refine id (?_:wpList _ _ _ _ _ _));refine wpList_clo rfl cK hK _ _ rfl rfl ?_;clear cK;rintro e w1 ⟨rfl,b1⟩;refine .inl ⟨_,rfl,?_⟩;have ca:=hA.out w1 b1)
  | (with_reducible (refine id (?_:wpList _ _ _ _ _ _));refine wpList_clo rfl ca h0 _ _ rfl rfl ?_;clear ca;rintro e w2 ⟨rfl,b2⟩;refine .inl ⟨_,rfl,?_⟩))
 go_ret
 exact ⟨rfl,below_next b1 b2⟩
set_option maxRecDepth 20000 in
theorem lhPut (k:Nat) (c:Array Value) (f:Fd) (n:Nat) (b:Nat→Nat) (w:World) (hk:RW w k 0 [clo 114 c]) (cK:Calls Try.prog 114 c w fun e w'=>e = .returned f.val∧Below w.heap.size w w') (h0:∀ W,(callFunc f.i1 f.c1).run Try.prog W = .ok (.enter f.i1 f.c1) W)
 (hal:∀ W,Below w.heap.size w W→Calls Try.prog f.i1 f.c1 W fun e w'=>∃ s,e = .returned s∧BytesIn w' s n b∧Below W.heap.size W w'):Calls Try.prog 116 #[pA k 0] w fun e w'=>∃ s,e = .returned s∧BytesIn w' s n b∧Below w.heap.size w w':=by
 obtain ⟨i0,c0,i1,c1,i2,c2⟩:=f
 have q:=hk.cell (o:=0) rfl
 replace cK:Calls Try.prog 114 c w fun e w'=>e = .returned (.agg #[clo i0 c0,clo i1 c1,clo i2 c2])∧Below w.heap.size w w':=cK
 have hK:∀ W,(callFunc 114 c).run Try.prog W = .ok (.enter 114 c) W:=fun W=>by kernel_rfl
 have hA:=Hid.mk' hal
 clear hal hk
 have hfl:=fld1 i0 i1 i2 c0 c1 c2
 go_enter Try.func116,Try.ntmps116
 go_wp2_with (first
  | (with_reducible (refine id (?_:wpList _ _ _ _ _ _));refine wpList_clo rfl cK hK _ _ rfl rfl ?_;clear cK;rintro e w1 ⟨rfl,b1⟩;refine .inl ⟨_,rfl,?_⟩;have ca:=hA.out w1 b1)
  | (with_reducible (refine id (?_:wpList _ _ _ _ _ _));refine wpList_clo rfl ca h0 _ _ rfl rfl ?_;clear ca;rintro e w2 ⟨s,rfl,hs,b2⟩;refine .inl ⟨_,rfl,?_⟩))
 go_ret
 exact ⟨_,rfl,hs,below_next b1 b2⟩
theorem BytesIn.zero {w:World} {v:Value} {b b':Nat→Nat} (h:BytesIn w v 0 b):BytesIn w v 0 b':=by
 rcases h with h | ⟨bb,ob,cap,h1,h2,h3,h4⟩
 · exact .inl h
 · exact .inr ⟨bb,ob,cap,h1,h2,h3,fun j hj=>by omega⟩
theorem lhP {lo hi:Nat} {w:World} {f:Fd} {p o:Nat} (h:LhD lo hi w f p o) {src:Int} {v:Value} {n:Nat} {b:Nat→Nat} (h3:w.cell? ⟨p,o+3,none⟩=some (.int .i64 src)) (hc:w.cell? ⟨p,o+4,none⟩=some v) (hv:BytesIn w v n b):FieldPut w f (if src=3 then decide (n=0) || decide (n=32) else decide (n=0)) (if src=3 then vcL n else 0) (vcB n b):=by
 have hp:=block_lt_of_cell h3
 obtain ⟨q,q0,q1,s1,s2,s3,g9,g10,k,rfl,B⟩:=h
 have f9:HonD lo hi w ⟨98,#[pA q0 0],81,#[pA q1 0],84,#[pA q1 0]⟩ p (o+4):=⟨q0,q1,rfl,fun x hx=>B x (by simp at hx;rcases hx with rfl | rfl <;> simp)⟩
 have f10:VecD lo hi w ⟨80,#[pA s1 0,pA s2 0,pA s3 0],81,#[pA s1 0],84,#[pA s1 0]⟩ p (o+4) 0 0:=⟨s1,s2,s3,rfl,fun x hx=>B x (by simp at hx;rcases hx with rfl | rfl | rfl <;> simp)⟩
 have P9:=honP f9 hc hp hv
 have P10:=unwP (vecP f10 hc hp hv (by decide))
 have cK:∀ W,Below w.heap.size w W→Calls Try.prog 114 #[pA q 0,pA g9 0,pA g10 0] W fun e w'=>e = .returned (if src=3 then Fd.val ⟨98,#[pA q0 0],81,#[pA q1 0],84,#[pA q1 0]⟩ else Fd.val (unwD ⟨80,#[pA s1 0,pA s2 0,pA s3 0],81,#[pA s1 0],84,#[pA s1 0]⟩))∧Below W.heap.size W w':=fun W hb =>
  kind_any q g9 g10 p o src _ _ W (B.nth 0 hb) ((hb.cell (p:=⟨p,o+3,none⟩) hp).trans h3) (B.nth 6 hb) (B.nth 7 hb)
 by_cases hs:src=3
 · rw [if_pos hs,if_pos hs]
   simp only [if_pos hs] at cK
   exact ⟨fun W=>by kernel_rfl,fun W=>by kernel_rfl,fun W hb=>lhAl k _ _ _ W (B.nth 8 hb) (cK W hb) P9.h0 (fun W' hb'=>P9.allow W' (below_next hb hb')),fun ha W hb=>lhPut k _ _ _ _ W (B.nth 8 hb) (cK W hb) P9.h1 (fun W' hb'=>P9.put ha W' (below_next hb hb'))⟩
 · rw [if_neg hs,if_neg hs]
   simp only [if_neg hs] at cK
   have e:(decide ((0:Int)≤(n:Int)) && decide ((n:Int)≤0))=decide (n=0):=by rw [Bool.eq_iff_iff];simp only [Bool.and_eq_true,decide_eq_true_eq];omega
   rw [e] at P10
   exact ⟨fun W=>by kernel_rfl,fun W=>by kernel_rfl,fun W hb=>lhAl k _ _ _ W (B.nth 8 hb) (cK W hb) P10.h0 (fun W' hb'=>P10.allow W' (below_next hb hb')),fun ha W hb=>(lhPut k _ _ 0 (fun _=>0) W (B.nth 8 hb) (cK W hb) P10.h1 (fun W' hb'=>P10.put ha W' (below_next hb hb'))).mono fun e w' ⟨s,h1,h2,h3⟩=>⟨s,h1,h2.zero,h3⟩⟩
def LfIn (w:World) (cs:List Value) (d:LfD):Prop:=∃ v0 v1 v2 v4 v5,cs=[v0,v1,v2,.int .i64 d.src,v4,v5]∧BytesIn w v0 d.enc.n d.enc.b∧BytesIn w v1 d.sig.n d.sig.b∧BytesIn w v2 d.name.n d.name.b∧BytesIn w v4 d.hash.n d.hash.b∧BytesIn w v5 d.sg.n d.sg.b
theorem LfIn.keep {w w':World} {cs:List Value} {d:LfD} (h:LfIn w cs d) (hb:Below w.heap.size w w'):LfIn w' cs d:=by
 obtain ⟨v0,v1,v2,v4,v5,e,h0,h1,h2,h4,h5⟩:=h
 exact ⟨v0,v1,v2,v4,v5,e,h0.keep hb,h1.keep hb,h2.keep hb,h4.keep hb,h5.keep hb⟩
theorem leafP {lo hi:Nat} {w:World} {p o:Nat} {last:Int} {f0 f1 f2 f3 f4 f5:Fd} (h:LeafFs lo hi w p o last f0 f1 f2 f3 f4 f5) (hl:last≤3) {cs:List Value} {d:LfD} (hr:RW w p o cs) (hd:LfIn w cs d):∀ i f,[f0,f1,f2,f3,f4,f5][i]? = some f→FieldPut w f (lfA d last i) (lfN d i) (lfB d i):=by
 obtain ⟨v0,v1,v2,v4,v5,rfl,h0,h1,h2,h4,h5⟩:=hd
 have c0:w.cell? ⟨p,o,none⟩=some v0:=hr.range 0 v0 rfl
 have c1:=hr.range 1 v1 rfl
 have c2:=hr.range 2 v2 rfl
 have c3:=hr.range 3 _ rfl
 have c4:=hr.range 4 v4 rfl
 have c5:=hr.range 5 v5 rfl
 intro i f hi
 match i,hi with
 | 0,hi=>cases hi;exact vecP h.e0 c0 hr.lt h0 (by decide)
 | 1,hi=>cases hi;exact vecP h.e1 c1 hr.lt h1 (by decide)
 | 2,hi=>cases hi;exact vecP h.e2 c2 hr.lt h2 (by decide)
 | 3,hi=>cases hi;exact numP (s:=1) h.e3 c3 hr.lt (by decide) rfl (by show last<256;omega)
 | 4,hi=>cases hi;exact lhP h.e4 c3 c4 h4
 | 5,hi=>cases hi;exact vecP h.e5 c5 hr.lt h5 (by decide)
 | n+6,hi=>simp at hi
theorem lf_small {d:LfD} {last:Int}:∀ i,i<6→lfA d last i=true→lfN d i≤70000:=by
 have hv:∀ n,n≤65536→vcL n≤70000:=fun n hn=>by have:=lnS_pos n;unfold vcL;omega
 intro i hi ha
 match i with
 | 0=>simp only [lfA,Bool.and_eq_true,decide_eq_true_eq] at ha;exact hv _ (by omega)
 | 1=>simp only [lfA,Bool.and_eq_true,decide_eq_true_eq] at ha;exact hv _ (by omega)
 | 2=>simp only [lfA,Bool.and_eq_true,decide_eq_true_eq] at ha;exact hv _ (by omega)
 | 3=>show 1≤70000;omega
 | 4 =>
  show (if d.src=3 then vcL d.hash.n else 0)≤70000
  have ha':(if d.src=3 then decide (d.hash.n=0) || decide (d.hash.n=32) else decide (d.hash.n=0))=true:=ha
  split
  · rename_i hs
    rw [if_pos hs,Bool.or_eq_true,decide_eq_true_eq,decide_eq_true_eq] at ha'
    exact hv _ (by omega)
  · omega
 | 5=>simp only [lfA,Bool.and_eq_true,decide_eq_true_eq] at ha;exact hv _ (by omega)
 | n+6=>omega
def lfLen (d:LfD):Nat:=sumN (lfN d) 6
def lfByt (d:LfD):Nat→Nat:=allB (lfN d) (lfB d) 6
open Classical in
def PutA (R:Prop) (n:Nat) (b:Nat→Nat) (e:Ending) (w':World):Prop:=if R then ∃ s,e = .returned (.tuple #[s,.int .i64 0])∧BytesIn w' s n b else e = .returned (.tuple #[.slice none 0 0,.int .i64 1])
theorem PutA.keep {R:Prop} {n:Nat} {b:Nat→Nat} {e:Ending} {w w':World} (h:PutA R n b e w) (hb:Below w.heap.size w w'):PutA R n b e w':=by
 unfold PutA at *
 split
 · rename_i hR;rw [if_pos hR] at h;obtain ⟨s,h1,h2⟩:=h;exact ⟨s,h1,h2.keep hb⟩
 · rename_i hR;rw [if_neg hR] at h;exact h
theorem putA {R:Prop} {al:Nat→Bool} {n m:Nat} {b:Nat→Nat} {e:Ending} {w':World} (hi:allU al m=true↔R) (h:if allU al m=true then ∃ s,e = .returned (.tuple #[s,.int .i64 0])∧BytesIn w' s n b else e = .returned (.tuple #[.slice none 0 0,.int .i64 1])):PutA R n b e w':=by
 unfold PutA
 by_cases hR:R
 · rw [if_pos hR];rw [if_pos (hi.2 hR)] at h;exact h
 · rw [if_neg hR];rw [if_neg (fun e=>hR (hi.1 e))] at h;exact h
theorem PutA.form {R:Prop} {n:Nat} {b:Nat→Nat} {e:Ending} {w:World} (h:PutA R n b e w):∃ s z,e = .returned (.tuple #[s,.int .i64 z]):=by
 unfold PutA at h
 split at h
 · obtain ⟨s,h1,-⟩:=h;exact ⟨s,0,h1⟩
 · exact ⟨_,1,h⟩
theorem lf_any (p o:Nat) (w:World):Calls Try.prog 37 #[pA p o] w fun e w'=>∃ v f0 f1 f2 f3 f4 f5,e = .returned v∧FL w.heap.size w' v [f0,f1,f2,f3,f4,f5]∧LeafFs w.heap.size w'.heap.size w' p o 3 f0 f1 f2 f3 f4 f5∧Below w.heap.size w w':=by
 have c:=lft_any p o 3 w
 go_enter Try.func37,Try.ntmps37
 go_wp2_with (go_at_call 66;refine c.mono ?_;clear c;rintro e w1 ⟨v,f0,f1,f2,f3,f4,f5,rfl,h1,h2,h3⟩)
 go_ret
 exact ⟨_,f0,f1,f2,f3,f4,f5,rfl,h1,h2,h3⟩
set_option maxRecDepth 20000 in
set_option maxHeartbeats 1000000 in
theorem putLeaf_any (cs:List Value) (d:LfD) (w:World) (hd:LfIn w cs d):Calls Try.prog 11 #[.agg cs.toArray] w fun e w'=>Below w.heap.size w w'∧PutA (lfR d 3) (lfLen d) (lfByt d) e w':=by
 have hd':=hd
 obtain ⟨v0,v1,v2,v4,v5,rfl,-⟩:=hd
 have k1:=RW.fresh w [v0,v1,v2,.int .i64 d.src,v4,v5] 26
 have b1:Below w.heap.size w (w.alloc (.cells #[v0,v1,v2,.int .i64 d.src,v4,v5] 26)):=(Below.refl _ _).alloc (Nat.le_refl _) _
 obtain ⟨W,hW⟩:∃ W,W=w.alloc (.cells #[v0,v1,v2,.int .i64 d.src,v4,v5] 26):=⟨_,rfl⟩
 rw [show w.alloc (.cells [v0,v1,v2,.int .i64 d.src,v4,v5].toArray 26)=W from hW.symm] at k1
 rw [←hW] at b1
 have HW:=Hid.mk' hW
 have cl:=lf_any w.heap.size 0 W
 have hdW:=Hid.mk' (hd'.keep b1)
 have K1:=Hid.mk' k1
 generalize d.src=src at *
 clear hW hd' k1
 go_enter Try.func11,Try.ntmps11
 go_upto_region 1 with (fail)
 rw [←HW.out]
 go_wp2_with (first
  | (go_at_call 37;refine cl.mono ?_;clear cl;rintro e w1 ⟨v,f0,f1,f2,f3,f4,f5,rfl,g1,g2,c1⟩;(have cp:=put_any _ v _ (lfA d 3) (lfN d) (lfB d) w1 g1 (by simp) (by simp) lf_small (leafP g2 (by decide) (K1.out.still c1) (hdW.out.keep c1))))
  | (go_at_call 36;refine cp.mono ?_;clear cp;rintro e w2 ⟨c2,hA⟩;(replace hA:=Hid.mk' (putA (lf_all d 3) hA));obtain ⟨s,z,rfl⟩:=hA.out.form))
 go_ret2
 exact ⟨below_next (below_next b1 c1) c2,hA.out⟩
end Go.Proofs.Ytgdcmibdjiaofaa
namespace Go.Proofs.Ytgdcmibdjiaofaa
open Go.RowKit
set_option maxRecDepth 20000 in
set_option maxHeartbeats 4000000 in
theorem rRL_f0 (x0 x1 x2 x4 x5:Option Addr) (n0 n1 n2 n4 n5 c0 c1 c2 c4 c5:Nat) (s:Int)  (_h0:¬(n0:Int)=32) (w:World):Calls Try.prog 38 #[.agg #[.slice x0 n0 c0,.slice x1 n1 c1,.slice x2 n2 c2,.int .i64 s,.slice x4 n4 c4,.slice x5 n5 c5]] w fun e w'=>e = .returned (.bool false)∧Below w.heap.size w w':=by
 go_enter Try.func38,Try.ntmps38
 go_wp2
 go_ret
 exact ⟨rfl,(Below.refl _ _).alloc (Nat.le_refl _) _⟩
set_option maxRecDepth 20000 in
set_option maxHeartbeats 4000000 in
theorem rRL_f1 (x0 x1 x2 x4 x5:Option Addr) (n0 n1 n2 n4 n5 c0 c1 c2 c4 c5:Nat) (s:Int) (_h0:(n0:Int)=32) (_h1:¬(n1:Int)=32) (w:World):Calls Try.prog 38 #[.agg #[.slice x0 n0 c0,.slice x1 n1 c1,.slice x2 n2 c2,.int .i64 s,.slice x4 n4 c4,.slice x5 n5 c5]] w fun e w'=>e = .returned (.bool false)∧Below w.heap.size w w':=by
 go_enter Try.func38,Try.ntmps38
 go_wp2
 go_ret
 exact ⟨rfl,(Below.refl _ _).alloc (Nat.le_refl _) _⟩
set_option maxRecDepth 20000 in
set_option maxHeartbeats 4000000 in
theorem rRL_f2 (x0 x1 x2 x4 x5:Option Addr) (n0 n1 n2 n4 n5 c0 c1 c2 c4 c5:Nat) (s:Int) (_h0:(n0:Int)=32) (_h1:(n1:Int)=32) (_h2:(n2:Int)<1) (w:World):Calls Try.prog 38 #[.agg #[.slice x0 n0 c0,.slice x1 n1 c1,.slice x2 n2 c2,.int .i64 s,.slice x4 n4 c4,.slice x5 n5 c5]] w fun e w'=>e = .returned (.bool false)∧Below w.heap.size w w':=by
 go_enter Try.func38,Try.ntmps38
 go_wp2
 go_ret
 exact ⟨rfl,(Below.refl _ _).alloc (Nat.le_refl _) _⟩
set_option maxRecDepth 20000 in
set_option maxHeartbeats 4000000 in
theorem rRL_f3 (x0 x1 x2 x4 x5:Option Addr) (n0 n1 n2 n4 n5 c0 c1 c2 c4 c5:Nat) (s:Int) (_h0:(n0:Int)=32) (_h1:(n1:Int)=32) (_h2:¬(n2:Int)<1) (_h3:(64:Int)<(n2:Int)) (w:World):Calls Try.prog 38 #[.agg #[.slice x0 n0 c0,.slice x1 n1 c1,.slice x2 n2 c2,.int .i64 s,.slice x4 n4 c4,.slice x5 n5 c5]] w fun e w'=>e = .returned (.bool false)∧Below w.heap.size w w':=by
 go_enter Try.func38,Try.ntmps38
 go_wp2
 go_ret
 exact ⟨rfl,(Below.refl _ _).alloc (Nat.le_refl _) _⟩
set_option maxRecDepth 20000 in
set_option maxHeartbeats 4000000 in
theorem rRL_f4 (x0 x1 x2 x4 x5:Option Addr) (n0 n1 n2 n4 n5 c0 c1 c2 c4 c5:Nat) (s:Int) (_h0:(n0:Int)=32) (_h1:(n1:Int)=32) (_h2:¬(n2:Int)<1) (_h3:¬(64:Int)<(n2:Int)) (_h4:s<1) (w:World):Calls Try.prog 38 #[.agg #[.slice x0 n0 c0,.slice x1 n1 c1,.slice x2 n2 c2,.int .i64 s,.slice x4 n4 c4,.slice x5 n5 c5]] w fun e w'=>e = .returned (.bool false)∧Below w.heap.size w w':=by
 go_enter Try.func38,Try.ntmps38
 go_wp2
 go_ret
 exact ⟨rfl,(Below.refl _ _).alloc (Nat.le_refl _) _⟩
set_option maxRecDepth 20000 in
set_option maxHeartbeats 4000000 in
theorem rRL_f5 (x0 x1 x2 x4 x5:Option Addr) (n0 n1 n2 n4 n5 c0 c1 c2 c4 c5:Nat) (s:Int) (_h0:(n0:Int)=32) (_h1:(n1:Int)=32) (_h2:¬(n2:Int)<1) (_h3:¬(64:Int)<(n2:Int)) (_h4:¬s<1) (_h5:(3:Int)<s) (w:World):Calls Try.prog 38 #[.agg #[.slice x0 n0 c0,.slice x1 n1 c1,.slice x2 n2 c2,.int .i64 s,.slice x4 n4 c4,.slice x5 n5 c5]] w fun e w'=>e = .returned (.bool false)∧Below w.heap.size w w':=by
 go_enter Try.func38,Try.ntmps38
 go_wp2
 go_ret
 exact ⟨rfl,(Below.refl _ _).alloc (Nat.le_refl _) _⟩
set_option maxRecDepth 20000 in
set_option maxHeartbeats 4000000 in
theorem rRL_f6 (x0 x1 x2 x4 x5:Option Addr) (n0 n1 n2 n4 n5 c0 c1 c2 c4 c5:Nat) (s:Int) (_h0:(n0:Int)=32) (_h1:(n1:Int)=32) (_h2:¬(n2:Int)<1) (_h3:¬(64:Int)<(n2:Int)) (_h4:¬s<1) (_h5:¬(3:Int)<s) (_h6:¬(n5:Int)=64) (w:World):Calls Try.prog 38 #[.agg #[.slice x0 n0 c0,.slice x1 n1 c1,.slice x2 n2 c2,.int .i64 s,.slice x4 n4 c4,.slice x5 n5 c5]] w fun e w'=>e = .returned (.bool false)∧Below w.heap.size w w':=by
 go_enter Try.func38,Try.ntmps38
 go_wp2
 go_ret
 exact ⟨rfl,(Below.refl _ _).alloc (Nat.le_refl _) _⟩
set_option maxRecDepth 20000 in
set_option maxHeartbeats 4000000 in
theorem rRL_z (x0 x1 x2 x4 x5:Option Addr) (n0 n1 n2 n4 n5 c0 c1 c2 c4 c5:Nat) (s:Int) (_h0:(n0:Int)=32) (_h1:(n1:Int)=32) (_h2:¬(n2:Int)<1) (_h3:¬(64:Int)<(n2:Int)) (_h4:¬s<1) (_h5:¬(3:Int)<s) (_h6:(n5:Int)=64) (_h7:(n4:Int)=0) (w:World):Calls Try.prog 38 #[.agg #[.slice x0 n0 c0,.slice x1 n1 c1,.slice x2 n2 c2,.int .i64 s,.slice x4 n4 c4,.slice x5 n5 c5]] w fun e w'=>e = .returned (.bool true)∧Below w.heap.size w w':=by
 go_enter Try.func38,Try.ntmps38
 go_wp2
 go_ret
 exact ⟨rfl,(Below.refl _ _).alloc (Nat.le_refl _) _⟩
set_option maxRecDepth 20000 in
set_option maxHeartbeats 4000000 in
theorem rRL_y (x0 x1 x2 x4 x5:Option Addr) (n0 n1 n2 n4 n5 c0 c1 c2 c4 c5:Nat) (s:Int) (_h0:(n0:Int)=32) (_h1:(n1:Int)=32) (_h2:¬(n2:Int)<1) (_h3:¬(64:Int)<(n2:Int)) (_h4:¬s<1) (_h5:¬(3:Int)<s) (_h6:(n5:Int)=64) (_h7:¬(n4:Int)=0) (_h8:¬(n4:Int)=32) (w:World):Calls Try.prog 38 #[.agg #[.slice x0 n0 c0,.slice x1 n1 c1,.slice x2 n2 c2,.int .i64 s,.slice x4 n4 c4,.slice x5 n5 c5]] w fun e w'=>e = .returned (.bool false)∧Below w.heap.size w w':=by
 go_enter Try.func38,Try.ntmps38
 go_wp2
 go_ret
 exact ⟨by show Ending.returned (.bool ((n4:Int) == 0))=_;rw [show ((n4:Int) == 0)=false from by simpa using _h7],(Below.refl _ _).alloc (Nat.le_refl _) _⟩
set_option maxRecDepth 20000 in
set_option maxHeartbeats 4000000 in
theorem rRL_x (x0 x1 x2 x4 x5:Option Addr) (n0 n1 n2 n4 n5 c0 c1 c2 c4 c5:Nat) (s:Int) (_h0:(n0:Int)=32) (_h1:(n1:Int)=32) (_h2:¬(n2:Int)<1) (_h3:¬(64:Int)<(n2:Int)) (_h4:¬s<1) (_h5:¬(3:Int)<s) (_h6:(n5:Int)=64) (_h7:¬(n4:Int)=0) (_h8:(n4:Int)=32) (_h9:s=3) (w:World):Calls Try.prog 38 #[.agg #[.slice x0 n0 c0,.slice x1 n1 c1,.slice x2 n2 c2,.int .i64 s,.slice x4 n4 c4,.slice x5 n5 c5]] w fun e w'=>e = .returned (.bool true)∧Below w.heap.size w w':=by
 go_enter Try.func38,Try.ntmps38
 go_wp2
 go_ret
 exact ⟨rfl,(Below.refl _ _).alloc (Nat.le_refl _) _⟩
set_option maxRecDepth 20000 in
set_option maxHeartbeats 4000000 in
theorem rRL_w (x0 x1 x2 x4 x5:Option Addr) (n0 n1 n2 n4 n5 c0 c1 c2 c4 c5:Nat) (s:Int) (_h0:(n0:Int)=32) (_h1:(n1:Int)=32) (_h2:¬(n2:Int)<1) (_h3:¬(64:Int)<(n2:Int)) (_h4:¬s<1) (_h5:¬(3:Int)<s) (_h6:(n5:Int)=64) (_h7:¬(n4:Int)=0) (_h8:(n4:Int)=32) (_h9:¬s=3) (w:World):Calls Try.prog 38 #[.agg #[.slice x0 n0 c0,.slice x1 n1 c1,.slice x2 n2 c2,.int .i64 s,.slice x4 n4 c4,.slice x5 n5 c5]] w fun e w'=>e = .returned (.bool false)∧Below w.heap.size w w':=by
 go_enter Try.func38,Try.ntmps38
 go_wp2
 go_ret
 exact ⟨by show Ending.returned (.bool (s == 3))=_;rw [show (s == 3)=false from by simpa using _h9],(Below.refl _ _).alloc (Nat.le_refl _) _⟩
theorem rRightLeaf_any (cs:List Value) (d:LfD) (w:World) (hd:LfIn w cs d):Calls Try.prog 38 #[.agg cs.toArray] w fun e w'=>e = .returned (.bool (allU (lfA d 3) 6))∧Below w.heap.size w w':=by
 obtain ⟨v0,v1,v2,v4,v5,rfl,h0,h1,h2,h4,h5⟩:=hd
 obtain ⟨x0,c0,rfl,-⟩:=h0.src
 obtain ⟨x1,c1,rfl,-⟩:=h1.src
 obtain ⟨x2,c2,rfl,-⟩:=h2.src
 obtain ⟨x4,c4,rfl,-⟩:=h4.src
 obtain ⟨x5,c5,rfl,-⟩:=h5.src
 have hT:lfR d 3→allU (lfA d 3) 6=true:=(lf_all d 3).2
 have hF:¬lfR d 3→allU (lfA d 3) 6=false:=fun h=>Bool.eq_false_iff.2 (fun e=>h ((lf_all d 3).1 e))
 unfold lfR at hT hF
 generalize allU (lfA d 3) 6=r at *
 generalize d.enc.n=n0 at *
 generalize d.sig.n=n1 at *
 generalize d.name.n=n2 at *
 generalize d.src=s at *
 generalize d.hash.n=n4 at *
 generalize d.sg.n=n5 at *
 clear h0 h1 h2 h4 h5
 by_cases h0:(n0:Int)=32
 rotate_left
 · rw [hF (by intro h;omega)];exact rRL_f0 x0 x1 x2 x4 x5 n0 n1 n2 n4 n5 c0 c1 c2 c4 c5 s h0 w
 by_cases h1:(n1:Int)=32
 rotate_left
 · rw [hF (by intro h;omega)];exact rRL_f1 x0 x1 x2 x4 x5 n0 n1 n2 n4 n5 c0 c1 c2 c4 c5 s h0 h1 w
 by_cases h2:(n2:Int)<1
 · rw [hF (by intro h;omega)];exact rRL_f2 x0 x1 x2 x4 x5 n0 n1 n2 n4 n5 c0 c1 c2 c4 c5 s h0 h1 h2 w
 by_cases h3:(64:Int)<(n2:Int)
 · rw [hF (by intro h;omega)];exact rRL_f3 x0 x1 x2 x4 x5 n0 n1 n2 n4 n5 c0 c1 c2 c4 c5 s h0 h1 h2 h3 w
 by_cases h4:s<1
 · rw [hF (by intro h;omega)];exact rRL_f4 x0 x1 x2 x4 x5 n0 n1 n2 n4 n5 c0 c1 c2 c4 c5 s h0 h1 h2 h3 h4 w
 by_cases h5:(3:Int)<s
 · rw [hF (by intro h;omega)];exact rRL_f5 x0 x1 x2 x4 x5 n0 n1 n2 n4 n5 c0 c1 c2 c4 c5 s h0 h1 h2 h3 h4 h5 w
 by_cases h6:(n5:Int)=64
 rotate_left
 · rw [hF (by intro h;omega)];exact rRL_f6 x0 x1 x2 x4 x5 n0 n1 n2 n4 n5 c0 c1 c2 c4 c5 s h0 h1 h2 h3 h4 h5 h6 w
 by_cases h7:(n4:Int)=0
 · rw [hT (by split <;> omega)];exact rRL_z x0 x1 x2 x4 x5 n0 n1 n2 n4 n5 c0 c1 c2 c4 c5 s h0 h1 h2 h3 h4 h5 h6 h7 w
 by_cases h8:(n4:Int)=32
 rotate_left
 · rw [hF (by intro h;split at h <;> omega)];exact rRL_y x0 x1 x2 x4 x5 n0 n1 n2 n4 n5 c0 c1 c2 c4 c5 s h0 h1 h2 h3 h4 h5 h6 h7 h8 w
 by_cases h9:s=3
 · rw [hT (by rw [if_pos h9];omega)];exact rRL_x x0 x1 x2 x4 x5 n0 n1 n2 n4 n5 c0 c1 c2 c4 c5 s h0 h1 h2 h3 h4 h5 h6 h7 h8 h9 w
 · rw [hF (by rw [if_neg h9];omega)];exact rRL_w x0 x1 x2 x4 x5 n0 n1 n2 n4 n5 c0 c1 c2 c4 c5 s h0 h1 h2 h3 h4 h5 h6 h7 h8 h9 w
end Go.Proofs.Ytgdcmibdjiaofaa
namespace Go.Proofs.Ytgdcmibdjiaofaa
open Go.RowKit
set_option maxRecDepth 20000 in
set_option maxHeartbeats 4000000 in
theorem rJoin_any (xo:Option Addr) (cnt cap:Nat) (pv:Nat→Value) (pn:Nat→Nat) (pb:Nat→Nat→Nat) (hsz:∀ i,i<cnt→pn i≤65536) (hcnt:cnt≤1048576) (hsum:sumN pn cnt≤1048576) (w:World) (hP:PiecesIn w xo cnt pv pn pb) :
 Calls Try.prog 61 #[.slice xo cnt cap] w fun e w'=>∃ v,e = .returned v∧Own w.heap.size w' v (vsL pn cnt) (vsB pn pb cnt)∧Below w.heap.size w w':=by
 have hall:=vsL_le pn cnt
 go_enter Try.func61,Try.ntmps61
 go_wp2
 go_loopw [3,4] (fun al i wr=>∃ q:Nat,q≤cnt∧i = .int .i64 q∧(∃ xa ca,al = .slice xa (vsL pn q) ca∧Own w.heap.size wr (.slice xa (vsL pn q) ca) (vsL pn q) (vsB pn pb q))∧Below w.heap.size w wr) (fun _ i _=>cnt - (intOf i).toNat)
 case atStart=>exact ⟨0,Nat.zero_le _,rfl,⟨none,0,rfl,Own.nil _ _ _⟩,Below.refl _ _⟩
 case round =>
  obtain ⟨q,hq,rfl,⟨xa,ca,rfl,own⟩,hb⟩:=hrel
  by_cases hlt:q<cnt
  · obtain ⟨lb,lo,rfl,hcell⟩:=(hP.keep hb).cell q hlt
    have hBq:=(hP.keep hb).each q hlt
    have hc0:=hcell q hlt
    have hv:=rVec11_good (pv q) (pn q) (pb q) (hsz q hlt) wr hBq
    have hqi:(0:Int)≤(q:Int)∧(q:Int)<cnt:=by omega
    have hq1:(q:Int)<(cnt:Int):=by omega
    have HN:Hid (vsL pn (q+1)=vsL pn q+vcL (pn q)∧vsB pn pb (q+1)=cat (vsL pn q) (vsB pn pb q) (vcB (pn q) (pb q))):=Hid.mk' ⟨rfl,rfl⟩
    have hle:vsL pn (q+1)≤vsL pn cnt:=sumN_le _ hlt
    rw [HN.out.1] at hle
    obtain ⟨T,hT⟩:∃ T,T=vsL pn q:=⟨_,rfl⟩
    obtain ⟨F,hF⟩:∃ F,F=vsB pn pb q:=⟨_,rfl⟩
    obtain ⟨m,hm⟩:∃ m,m=vcL (pn q):=⟨_,rfl⟩
    obtain ⟨G,hG⟩:∃ G,G=vcB (pn q) (pb q):=⟨_,rfl⟩
    obtain ⟨vv,hvv⟩:∃ vv,vv=pv q:=⟨_,rfl⟩
    rw [←hT,←hF,←hm,←hG] at HN
    rw [←hT,←hm] at hle
    rw [←hT,←hF] at own
    rw [←hm,←hG,←hvv] at hv
    rw [←hvv] at hc0
    rw [←hT]
    have hTm:T+m≤140737488355328:=by omega
    clear hT hF hm hG hvv hBq hcell hP hle
    go_wp2_with (first
     | (go_at_call 93;refine hv.mono ?_;clear hv;rintro e w1 ⟨s1,rfl,own1,b1⟩;(obtain ⟨x1,c1,hs1,hxn1,hc1,hsrc1⟩:=(BytesIn.of_own own1).src);subst hs1;have hsrc:=hsrc1 w1 (Below.refl _ _);have ownW:=own.below b1;have hbw1:=below_next hb b1)
     | (at_builtin;refine wpList_append_bytes rfl (.tmp 21) (.tmp 22) rfl w.heap.size _ T F rfl ownW x1 m c1 G rfl hsrc hxn1 hTm hbw1.size ?_;intro v2 w2 own2 grow2;have hbw2:=Own.grown hbw1 grow2 ownW (Nat.le_refl _) hbw1.size;(obtain ⟨x2,c2,hv2⟩:=own2.slice);subst hv2))
    go_roundw
    case rel=>exact ⟨q+1,hlt,by go_num,⟨x2,c2,by rw [HN.out.1],by rw [HN.out.1,HN.out.2];exact own2⟩,hbw2⟩
    case measure=>simp [intOf];omega
  · obtain rfl:q=cnt:=by omega
    have hq1:¬(q:Int)<(q:Int):=by omega
    go_wp2
    go_ret
    exact ⟨_,rfl,own,hb⟩
end Go.Proofs.Ytgdcmibdjiaofaa
namespace Go.Proofs.Ytgdcmibdjiaofaa
open Go.RowKit
section
variable {P:Program} {md:Region.Mode} {ops:Array Oper} {Q:Exit→Act→World→Prop} {S:World→Prop} {fuel:Nat} {listed:Array Bool} {a:Act} {w:World}
theorem rG (i:Nat) {rs:List Nat} {oi:Oper} (v:Nat→Value) (cs:List Value) (t:TypeId) (hk:∀ u,Below w.heap.size w u→S u) (h:∀ w1 g,w.heap.size≤g→Below w.heap.size w w1→RW w1 g 0 cs→wpAnyH P md ops Q S fuel (listed.setIfInBounds i true) (a.put oi.dst (v g)) w1) (hs:AllReadyH P md ops Q S fuel listed a w rs)
 (hi:ops.toList[i]? = some oi:=by rfl) (hrun:(execOp a.eval oi).run P w = .ok (.value (v w.heap.size)) (w.alloc (.cells cs.toArray t)):=by kernel_rfl) (hw:Region.wanted oi (yielded ops a.tmps)=true:=by rfl):AllReadyH P md ops Q S fuel listed a w (i :: rs) :=
 aG oi v cs t hk h hs hrun (at_list hi) hw
theorem rC (i:Nat) {rs:List Nat} {oi:Oper} {f:FuncId} {args:Array Value} {R:Ending→World→Prop} (c:Calls P f args w R) (h:∀ e w',R e w'→∃ r,e = .returned r∧S w'∧wpAnyH P md ops Q S fuel (listed.setIfInBounds i true) (a.put oi.dst r) w') (hs:AllReadyH P md ops Q S fuel listed a w rs)
 (hi:ops.toList[i]? = some oi:=by rfl) (hw:Region.wanted oi (yielded ops a.tmps)=true:=by rfl) (hrun:(execOp a.eval oi).run P w = .ok (.enter f args) w:=by kernel_rfl):AllReadyH P md ops Q S fuel listed a w (i :: rs) :=
 arC oi c h hs (at_list hi) hw hrun
end
theorem exec_cvt {o:Oper} {a:Act} {w:World} (x:Operand) (ho:o.op = .convert 3 5 x) {z:Nat} (hz:z<256) (hx:a.eval x = .int .i64 (z:Int)):(execOp a.eval o).run Try.prog w = .ok (.value (.int .u8 (z:Int))) w:=by
 have e:IntKind.u8.wrap (z:Int)=(z:Int):=by show (z:Int)%256=_;omega
 have h:=run_convert_int (P:=Try.prog) (w:=w) 3 5 .i64 (z:Int) (by kernel_rfl) (by kernel_rfl)
 have ek:Try.prog.intKind 5 = .u8:=by kernel_rfl
 rw [ek,e] at h
 simp [execOp,ho,hx,h,Result.andThen]
theorem pieces_lit {w:World} {g n:Nat} (vs:List Value) (pn:Nat→Nat) (pb:Nat→Nat→Nat) (r:RW w g 0 vs) (hn:vs.length=n) (h:∀ i v,vs[i]? = some v→BytesIn w v (pn i) (pb i)) (lb:∀ i j,pb i j<256):PiecesIn w (some ⟨g,0,none⟩) n (fun i=>(vs[i]?).getD undef) pn pb:=by
 subst hn
 refine ⟨fun q _=>⟨g,0,rfl,fun i hi => ?_⟩,fun i hi => ?_,lb⟩
 · rw [List.getElem?_eq_getElem hi];exact r.range i _ (List.getElem?_eq_getElem hi)
 · rw [List.getElem?_eq_getElem hi];exact h i _ (List.getElem?_eq_getElem hi)
theorem cat_zero (a b:Nat→Nat):cat 0 a b=b:=by funext j;unfold cat;rw [if_neg (by omega),Nat.sub_zero]
theorem rJoin1 (g:Nat) (v:Value) (n:Nat) (b:Nat→Nat) (hn:n≤65536) (lb:∀ j,b j<256) (w:World) (r:RW w g 0 [v]) (hv:BytesIn w v n b):Calls Try.prog 61 #[.slice (some ⟨g,0,none⟩) 1 1] w fun e w'=>∃ s,e = .returned s∧Own w.heap.size w' s (vcL n) (vcB n b)∧Below w.heap.size w w' :=
 (rJoin_any (some ⟨g,0,none⟩) 1 1 _ (fun _=>n) (fun _=>b) (fun _ _=>hn) (by decide) (by show 0+n≤_;omega) w (pieces_lit [v] _ _ r rfl (fun i u hu=>by
   match i,hu with
   | 0,hu=>cases hu;exact hv
   | i+1,hu=>simp at hu) (fun _=>lb))).mono fun e w' ⟨s,h1,h2,h3⟩=>⟨s,h1,by
    have e1:vsL (fun _=>n) 1=vcL n:=Nat.zero_add _
    have e2:vsB (fun _=>n) (fun _=>b) 1=vcB n b:=cat_zero (fun _=>0) _
    rw [e1,e2] at h2
    exact h2,h3⟩
def tri {α:Type} (a b c:α):Nat→α
 | 0=>a
 | 1=>b
 | _=>c
theorem rJoin3 (g:Nat) (v0 v1 v2:Value) (a b c:Tx) (ha:a.n≤65536) (hb:b.n≤65536) (hc:c.n≤65536) (la:∀ j,a.b j<256) (lb:∀ j,b.b j<256) (lc:∀ j,c.b j<256) (w:World) (r:RW w g 0 [v0,v1,v2]) (h0:BytesIn w v0 a.n a.b) (h1:BytesIn w v1 b.n b.b) (h2:BytesIn w v2 c.n c.b):Calls Try.prog 61 #[.slice (some ⟨g,0,none⟩) 3 3] w fun e w'=>∃ s,e = .returned s∧Own w.heap.size w' s (sumN (fun i=>vcL (tri a b c i).n) 3) (allB (fun i=>vcL (tri a b c i).n) (fun i=>vcB (tri a b c i).n (tri a b c i).b) 3)∧Below w.heap.size w w' :=
 rJoin_any (some ⟨g,0,none⟩) 3 3 _ (fun i=>(tri a b c i).n) (fun i=>(tri a b c i).b) (fun i hi=>by
  match i,hi with
  | 0,_=>exact ha
  | 1,_=>exact hb
  | 2,_=>exact hc
  | i+3,hi=>omega) (by decide) (by show 0+a.n+b.n+c.n≤_;omega) w (pieces_lit [v0,v1,v2] _ _ r rfl (fun i u hu=>by
  match i,hu with
  | 0,hu=>cases hu;exact h0
  | 1,hu=>cases hu;exact h1
  | 2,hu=>cases hu;exact h2
  | i+3,hu=>simp at hu) (fun i=>by
  match i with
  | 0=>exact la
  | 1=>exact lb
  | i+2=>exact lc))
theorem Own.base {base base':Nat} {w:World} {v:Value} {n:Nat} {X:Nat→Nat} (h:Own base w v n X) (hb:base'≤base):Own base' w v n X:=own_base h hb
theorem rJoinL (g:Nat) (v0 v1 v2:Value) (d:LfD) (ha:d.enc.n≤65536) (hb:d.sig.n≤65536) (hc:d.name.n≤65536) (la:∀ j,d.enc.b j<256) (lb:∀ j,d.sig.b j<256) (lc:∀ j,d.name.b j<256) (w:World) (r:RW w g 0 [v0,v1,v2]) (h0:BytesIn w v0 d.enc.n d.enc.b) (h1:BytesIn w v1 d.sig.n d.sig.b) (h2:BytesIn w v2 d.name.n d.name.b):Calls Try.prog 61 #[.slice (some ⟨g,0,none⟩) 3 3] w fun e w'=>∃ s,e = .returned s∧Own w.heap.size w' s (sumN (lfN d) 3) (allB (lfN d) (lfB d) 3)∧Below w.heap.size w w':=rJoin3 g v0 v1 v2 d.enc d.sig d.name ha hb hc la lb lc w r h0 h1 h2
def lfK (d:LfD):Prop:=(∀ j,d.enc.b j<256)∧(∀ j,d.sig.b j<256)∧(∀ j,d.name.b j<256)∧(∀ j,d.hash.b j<256)∧∀ j,d.sg.b j<256
theorem src_row {w:World} {g:Nat} {z:Nat} (r:RW w g 0 [.int .u8 (z:Int)]):Src w (some ⟨g,0,none⟩) 1 (fun _=>z) := .inr ⟨g,0,rfl,fun j hj=>by
 obtain rfl:j=0:=by omega
 exact r.cell (o:=0) rfl⟩
theorem beN_one {z:Nat} (hz:z<256) {j:Nat} (hj:j<1):beN z 1 j=z:=by
 obtain rfl:j=0:=by omega
 show z / 2 ^ (8*0)%256=z
 simp;omega
theorem bare_c (d:LfD) (z:Nat) (hs:d.src=(z:Int)) (hz:z<256):∀ j,j<sumN (lfN d) 3+1→cat (sumN (lfN d) 3) (allB (lfN d) (lfB d) 3) (fun _=>z) j=allB (lfN d) (lfB d) 4 j:=by
 intro j hj
 show cat (sumN (lfN d) 3) (allB (lfN d) (lfB d) 3) (fun _=>z) j=cat (sumN (lfN d) 3) (allB (lfN d) (lfB d) 3) (beN d.src.toNat 1) j
 unfold cat
 split
 · rfl
 · rename_i hn
   rw [hs,show ((z:Int)).toNat=z from by omega,beN_one hz]
   have:j<sumN (lfN d) 3+1:=hj
   omega
set_option maxRecDepth 20000 in
set_option maxHeartbeats 4000000 in
theorem rBare3 (cs:List Value) (d:LfD) (z:Nat) (hs:d.src=(z:Int)) (hz:z<256) (h:d.enc.n≤65536∧d.sig.n≤65536∧d.name.n≤65536) (hs3:d.src=3) (h4:d.hash.n≤65536) (hk:lfK d) (w:World) (hd:LfIn w cs d):Calls Try.prog 60 #[.agg cs.toArray] w fun e w'=>∃ s,e = .returned s∧Own w.heap.size w' s (sumN (lfN d) 5) (allB (lfN d) (lfB d) 5)∧Below w.heap.size w w':=by
 obtain ⟨v0,v1,v2,v4',v5,rfl,h0,h1,h2,hh4,h5⟩:=hd
 obtain ⟨xh,ch,rfl,-⟩:=hh4.src
 obtain ⟨x0,c0,rfl,-⟩:=h0.src
 obtain ⟨x1,c1,rfl,-⟩:=h1.src
 obtain ⟨x2,c2,rfl,-⟩:=h2.src
 rw [hs]
 have k1:=RW.fresh w [(.slice x0 d.enc.n c0),(.slice x1 d.sig.n c1),(.slice x2 d.name.n c2),.int .i64 (z:Int),(.slice xh d.hash.n ch),v5] 24
 have bV:Below w.heap.size w (w.alloc (.cells #[(.slice x0 d.enc.n c0),(.slice x1 d.sig.n c1),(.slice x2 d.name.n c2),.int .i64 (z:Int),(.slice xh d.hash.n ch),v5] 24)):=(Below.refl _ _).alloc (Nat.le_refl _) _
 obtain ⟨W,hW⟩:∃ W,W=w.alloc (.cells #[(.slice x0 d.enc.n c0),(.slice x1 d.sig.n c1),(.slice x2 d.name.n c2),.int .i64 (z:Int),(.slice xh d.hash.n ch),v5] 24):=⟨_,rfl⟩
 rw [show w.alloc (.cells [(.slice x0 d.enc.n c0),(.slice x1 d.sig.n c1),(.slice x2 d.name.n c2),.int .i64 (z:Int),(.slice xh d.hash.n ch),v5].toArray 24)=W from hW.symm] at k1
 rw [←hW] at bV
 have HW:=Hid.mk' hW
 have C3:Hid ((z:Int)=3):=Hid.mk' (by omega)
 have SZ:Hid (sumN (lfN d) 3≤200000):=Hid.mk' (by
  have q0:=lnS_pos d.enc.n
  have q1:=lnS_pos d.sig.n
  have q2:=lnS_pos d.name.n
  show 0+vcL d.enc.n+vcL d.sig.n+vcL d.name.n≤_
  unfold vcL;omega)
 have SH:Hid (sumN (lfN d) 4+vcL d.hash.n≤300000):=Hid.mk' (by
  have q0:=lnS_pos d.hash.n
  have:=SZ.out
  show sumN (lfN d) 3+1+vcL d.hash.n≤_
  unfold vcL;omega)
 replace bV:=bV.trans ((Below.refl W.heap.size W).drew.mono bV.size)
 replace k1:=k1.drew
 have D0:=Hid.mk' (h0.keep bV)
 have D1:=Hid.mk' (h1.keep bV)
 have D2:=Hid.mk' (h2.keep bV)
 have D4:=Hid.mk' (hh4.keep bV)
 have K1:=Hid.mk' k1
 clear hW h0 h1 h2 hh4 h5 k1
 go_enter Try.func60,Try.ntmps60
 go_upto_region 1 with (fail)
 rw [←HW.out]
 refine wp_region_held_drew (S:=fun u=>Below W.drew.heap.size W.drew u) (by kernel_rfl) (Below.refl _ _) (fun hS => ?_)
 clear HW
 generalize W.drew=V at *
 refine tg 0 hS (v:=pA w.heap.size 0) ?_ (hy:=by intro u _;kernel_rfl)
 (try simp only [pS])
 refine tc 1 hS (fun u hu=>(hu.cell (p:=⟨w.heap.size,0,none⟩) K1.out.lt).trans (K1.out.cell (o:=0) rfl)) ?_
 (try simp only [pS])
 refine tg 2 hS (v:=pA w.heap.size 1) ?_ (hy:=by intro u _;kernel_rfl)
 (try simp only [pS])
 refine tc 3 hS (fun u hu=>(hu.cell (p:=⟨w.heap.size,1,none⟩) K1.out.lt).trans (K1.out.cell (o:=1) rfl)) ?_
 (try simp only [pS])
 refine tg 4 hS (v:=pA w.heap.size 2) ?_ (hy:=by intro u _;kernel_rfl)
 (try simp only [pS])
 refine tc 5 hS (fun u hu=>(hu.cell (p:=⟨w.heap.size,2,none⟩) K1.out.lt).trans (K1.out.cell (o:=2) rfl)) ?_
 (try simp only [pS])
 refine tg 8 hS (v:=pA w.heap.size 3) ?_ (hy:=by intro u _;kernel_rfl)
 (try simp only [pS])
 refine tc 9 hS (fun u hu=>(hu.cell (p:=⟨w.heap.size,3,none⟩) K1.out.lt).trans (K1.out.cell (o:=3) rfl)) ?_
 (try simp only [pS])
 refine tg 10 hS (v := .int .u8 (z:Int)) ?_ (hy:=fun u _=>exec_cvt (.tmp 13) rfl hz rfl)
 (try simp only [pS])
 refine wpAnyH_ready (rs:=[6,11]) (by kernel_rfl) (by simp) ?_
 refine rG 6 (fun g => .slice (some ⟨g,0,none⟩) 3 3) ([(.slice x0 d.enc.n c0),(.slice x1 d.sig.n c1),(.slice x2 d.name.n c2)]) 22 (fun u hb=>below_next hS hb) (fun w1 g1 lr1 hb r1 => ?_) ?_
 · replace hS:=below_next hS hb
   (try simp only [pS])
   refine wpAnyH_ready (rs:=[7,11]) (by kernel_rfl) (by simp) ?_
   refine rC 7 (rJoinL g1 (.slice x0 d.enc.n c0) (.slice x1 d.sig.n c1) (.slice x2 d.name.n c2) d h.1 h.2.1 h.2.2 hk.1 hk.2.1 hk.2.2.1 w1 r1 (D0.out.keep hS) (D1.out.keep hS) (D2.out.keep hS)) (fun e w2 hr => ?_) ?_
   · obtain ⟨s1,rfl,o1,hb⟩:=hr
     replace o1:=o1.base hS.size
     replace hS:=below_next hS hb
     refine ⟨_,rfl,hS,?_⟩
     (try simp only [pS])
     replace r1:=r1.still hb
     refine wpAnyH_ready (rs:=[11]) (by kernel_rfl) (by simp) ?_
     refine rG 11 (fun g => .slice (some ⟨g,0,none⟩) 1 1) ([.int .u8 (z:Int)]) 5 (fun u hb=>below_next hS hb) (fun w3 g2 lr2 hb r2 => ?_) ?_
     · replace hS:=below_next hS hb
       (try simp only [pS])
       replace r1:=r1.still hb
       replace o1:=o1.below hb
       obtain ⟨v4,w4,hrun4,o4,b4⟩:=run_append_bytes w3 V.heap.size s1 _ _ o1 (some ⟨g2,0,none⟩) 1 1 (fun _=>z) (src_row r2) (fun h=>by cases h) (by have:=SZ.out;omega) hS.size
       have hS4:=hS.trans b4
       refine onlyV 12 (v:=v4) ?_ hS4 ?_
       · exact exec_append (.tmp 11) (.tmp 15) rfl rfl rfl rfl hrun4
       (try simp only [pS])
       refine tg 13 hS4 ?_
       (try simp only [pS])
       refine wpAnyH_done (by kernel_rfl) ?_ _
       have h3':=(hS4.cell (p:=⟨w.heap.size,3,none⟩) K1.out.lt).trans (K1.out.cell (o:=3) rfl)
       have h4':=(hS4.cell (p:=⟨w.heap.size,4,none⟩) K1.out.lt).trans (K1.out.cell (o:=4) rfl)
       replace o4:=Hid.mk' ((o4.congr (bare_c d z hs hz)).base bV.size)
       have c3:=C3.out
       obtain ⟨x4,c4,e4⟩:=o4.out.slice
       subst e4
       go_upto_region 3 with (fail)
       have cj:=rJoin1 w4.heap.size (.slice xh d.hash.n ch) d.hash.n d.hash.b h4 hk.2.2.2.1 (w4.alloc (.cells #[(.slice xh d.hash.n ch)] 22)) (RW.fresh w4 [(.slice xh d.hash.n ch)] _) ((D4.out.keep hS4).keep ((Below.refl _ _).alloc (Nat.le_refl _) _))
       have bj:Below w4.heap.size w4 (w4.alloc (.cells #[(.slice xh d.hash.n ch)] 22)):=(Below.refl _ _).alloc (Nat.le_refl _) _
       go_wp2_with (first
        | (go_at_call 61;refine cj.mono ?_;clear cj;rintro e w5 ⟨s5,rfl,o5,b5⟩;(obtain ⟨x5,c5,e5,hxn5,-,hs5⟩:=(BytesIn.of_own o5).src);subst e5;(have hsrc5:=hs5 w5 (Below.refl _ _));(have ow5:=o4.out.below (below_next bj b5)))
        | (at_builtin;refine wpList_append_bytes rfl (.tmp 20) (.tmp 24) rfl w.heap.size _ _ _ rfl ow5 x5 _ c5 _ rfl hsrc5 hxn5 (by have:=SZ.out;have:=SH.out;omega) (Nat.le_trans (below_next bV hS4).size (below_next bj b5).size) ?_;intro v6 w6 own6 grow6;have hb6:=Own.grown (below_next (below_next (below_next bV hS4) bj) b5) grow6 ow5 (Nat.le_refl _) (below_next (below_next (below_next bV hS4) bj) b5).size))
       go_ret
       refine ⟨_,rfl,?_,hb6⟩
       have e:lfN d 4=vcL d.hash.n:=if_pos hs3
       show Own w.heap.size w6 v6 (sumN (lfN d) 4+lfN d 4) (cat (sumN (lfN d) 4) (allB (lfN d) (lfB d) 4) (vcB d.hash.n d.hash.b))
       rw [e]
       exact own6
     exact AllReadyH.nil
   refine rG 11 (fun g => .slice (some ⟨g,0,none⟩) 1 1) ([.int .u8 (z:Int)]) 5 (fun u hb=>below_next hS hb) (fun w2 g2 lr2 hb r2 => ?_) ?_
   · replace hS:=below_next hS hb
     (try simp only [pS])
     replace r1:=r1.still hb
     refine wpAnyH_ready (rs:=[7]) (by kernel_rfl) (by simp) ?_
     refine rC 7 (rJoinL g1 (.slice x0 d.enc.n c0) (.slice x1 d.sig.n c1) (.slice x2 d.name.n c2) d h.1 h.2.1 h.2.2 hk.1 hk.2.1 hk.2.2.1 w2 r1 (D0.out.keep hS) (D1.out.keep hS) (D2.out.keep hS)) (fun e w3 hr => ?_) ?_
     · obtain ⟨s1,rfl,o1,hb⟩:=hr
       replace o1:=o1.base hS.size
       replace hS:=below_next hS hb
       refine ⟨_,rfl,hS,?_⟩
       (try simp only [pS])
       replace r1:=r1.still hb
       replace r2:=r2.still hb
       obtain ⟨v4,w4,hrun4,o4,b4⟩:=run_append_bytes w3 V.heap.size s1 _ _ o1 (some ⟨g2,0,none⟩) 1 1 (fun _=>z) (src_row r2) (fun h=>by cases h) (by have:=SZ.out;omega) hS.size
       have hS4:=hS.trans b4
       refine onlyV 12 (v:=v4) ?_ hS4 ?_
       · exact exec_append (.tmp 11) (.tmp 15) rfl rfl rfl rfl hrun4
       (try simp only [pS])
       refine tg 13 hS4 ?_
       (try simp only [pS])
       refine wpAnyH_done (by kernel_rfl) ?_ _
       have h3':=(hS4.cell (p:=⟨w.heap.size,3,none⟩) K1.out.lt).trans (K1.out.cell (o:=3) rfl)
       have h4':=(hS4.cell (p:=⟨w.heap.size,4,none⟩) K1.out.lt).trans (K1.out.cell (o:=4) rfl)
       replace o4:=Hid.mk' ((o4.congr (bare_c d z hs hz)).base bV.size)
       have c3:=C3.out
       obtain ⟨x4,c4,e4⟩:=o4.out.slice
       subst e4
       go_upto_region 3 with (fail)
       have cj:=rJoin1 w4.heap.size (.slice xh d.hash.n ch) d.hash.n d.hash.b h4 hk.2.2.2.1 (w4.alloc (.cells #[(.slice xh d.hash.n ch)] 22)) (RW.fresh w4 [(.slice xh d.hash.n ch)] _) ((D4.out.keep hS4).keep ((Below.refl _ _).alloc (Nat.le_refl _) _))
       have bj:Below w4.heap.size w4 (w4.alloc (.cells #[(.slice xh d.hash.n ch)] 22)):=(Below.refl _ _).alloc (Nat.le_refl _) _
       go_wp2_with (first
        | (go_at_call 61;refine cj.mono ?_;clear cj;rintro e w5 ⟨s5,rfl,o5,b5⟩;(obtain ⟨x5,c5,e5,hxn5,-,hs5⟩:=(BytesIn.of_own o5).src);subst e5;(have hsrc5:=hs5 w5 (Below.refl _ _));(have ow5:=o4.out.below (below_next bj b5)))
        | (at_builtin;refine wpList_append_bytes rfl (.tmp 20) (.tmp 24) rfl w.heap.size _ _ _ rfl ow5 x5 _ c5 _ rfl hsrc5 hxn5 (by have:=SZ.out;have:=SH.out;omega) (Nat.le_trans (below_next bV hS4).size (below_next bj b5).size) ?_;intro v6 w6 own6 grow6;have hb6:=Own.grown (below_next (below_next (below_next bV hS4) bj) b5) grow6 ow5 (Nat.le_refl _) (below_next (below_next (below_next bV hS4) bj) b5).size))
       go_ret
       refine ⟨_,rfl,?_,hb6⟩
       have e:lfN d 4=vcL d.hash.n:=if_pos hs3
       show Own w.heap.size w6 v6 (sumN (lfN d) 4+lfN d 4) (cat (sumN (lfN d) 4) (allB (lfN d) (lfB d) 4) (vcB d.hash.n d.hash.b))
       rw [e]
       exact own6
     exact AllReadyH.nil
   exact AllReadyH.nil
 refine rG 11 (fun g => .slice (some ⟨g,0,none⟩) 1 1) ([.int .u8 (z:Int)]) 5 (fun u hb=>below_next hS hb) (fun w1 g2 lr2 hb r2 => ?_) ?_
 · replace hS:=below_next hS hb
   (try simp only [pS])
   refine wpAnyH_ready (rs:=[6]) (by kernel_rfl) (by simp) ?_
   refine rG 6 (fun g => .slice (some ⟨g,0,none⟩) 3 3) ([(.slice x0 d.enc.n c0),(.slice x1 d.sig.n c1),(.slice x2 d.name.n c2)]) 22 (fun u hb=>below_next hS hb) (fun w2 g1 lr1 hb r1 => ?_) ?_
   · replace hS:=below_next hS hb
     (try simp only [pS])
     replace r2:=r2.still hb
     refine wpAnyH_ready (rs:=[7]) (by kernel_rfl) (by simp) ?_
     refine rC 7 (rJoinL g1 (.slice x0 d.enc.n c0) (.slice x1 d.sig.n c1) (.slice x2 d.name.n c2) d h.1 h.2.1 h.2.2 hk.1 hk.2.1 hk.2.2.1 w2 r1 (D0.out.keep hS) (D1.out.keep hS) (D2.out.keep hS)) (fun e w3 hr => ?_) ?_
     · obtain ⟨s1,rfl,o1,hb⟩:=hr
       replace o1:=o1.base hS.size
       replace hS:=below_next hS hb
       refine ⟨_,rfl,hS,?_⟩
       (try simp only [pS])
       replace r2:=r2.still hb
       replace r1:=r1.still hb
       obtain ⟨v4,w4,hrun4,o4,b4⟩:=run_append_bytes w3 V.heap.size s1 _ _ o1 (some ⟨g2,0,none⟩) 1 1 (fun _=>z) (src_row r2) (fun h=>by cases h) (by have:=SZ.out;omega) hS.size
       have hS4:=hS.trans b4
       refine onlyV 12 (v:=v4) ?_ hS4 ?_
       · exact exec_append (.tmp 11) (.tmp 15) rfl rfl rfl rfl hrun4
       (try simp only [pS])
       refine tg 13 hS4 ?_
       (try simp only [pS])
       refine wpAnyH_done (by kernel_rfl) ?_ _
       have h3':=(hS4.cell (p:=⟨w.heap.size,3,none⟩) K1.out.lt).trans (K1.out.cell (o:=3) rfl)
       have h4':=(hS4.cell (p:=⟨w.heap.size,4,none⟩) K1.out.lt).trans (K1.out.cell (o:=4) rfl)
       replace o4:=Hid.mk' ((o4.congr (bare_c d z hs hz)).base bV.size)
       have c3:=C3.out
       obtain ⟨x4,c4,e4⟩:=o4.out.slice
       subst e4
       go_upto_region 3 with (fail)
       have cj:=rJoin1 w4.heap.size (.slice xh d.hash.n ch) d.hash.n d.hash.b h4 hk.2.2.2.1 (w4.alloc (.cells #[(.slice xh d.hash.n ch)] 22)) (RW.fresh w4 [(.slice xh d.hash.n ch)] _) ((D4.out.keep hS4).keep ((Below.refl _ _).alloc (Nat.le_refl _) _))
       have bj:Below w4.heap.size w4 (w4.alloc (.cells #[(.slice xh d.hash.n ch)] 22)):=(Below.refl _ _).alloc (Nat.le_refl _) _
       go_wp2_with (first
        | (go_at_call 61;refine cj.mono ?_;clear cj;rintro e w5 ⟨s5,rfl,o5,b5⟩;(obtain ⟨x5,c5,e5,hxn5,-,hs5⟩:=(BytesIn.of_own o5).src);subst e5;(have hsrc5:=hs5 w5 (Below.refl _ _));(have ow5:=o4.out.below (below_next bj b5)))
        | (at_builtin;refine wpList_append_bytes rfl (.tmp 20) (.tmp 24) rfl w.heap.size _ _ _ rfl ow5 x5 _ c5 _ rfl hsrc5 hxn5 (by have:=SZ.out;have:=SH.out;omega) (Nat.le_trans (below_next bV hS4).size (below_next bj b5).size) ?_;intro v6 w6 own6 grow6;have hb6:=Own.grown (below_next (below_next (below_next bV hS4) bj) b5) grow6 ow5 (Nat.le_refl _) (below_next (below_next (below_next bV hS4) bj) b5).size))
       go_ret
       refine ⟨_,rfl,?_,hb6⟩
       have e:lfN d 4=vcL d.hash.n:=if_pos hs3
       show Own w.heap.size w6 v6 (sumN (lfN d) 4+lfN d 4) (cat (sumN (lfN d) 4) (allB (lfN d) (lfB d) 4) (vcB d.hash.n d.hash.b))
       rw [e]
       exact own6
     exact AllReadyH.nil
   exact AllReadyH.nil
 exact AllReadyH.nil
set_option maxRecDepth 20000 in
set_option maxHeartbeats 4000000 in
theorem rBare0 (cs:List Value) (d:LfD) (z:Nat) (hs:d.src=(z:Int)) (hz:z<256) (h:d.enc.n≤65536∧d.sig.n≤65536∧d.name.n≤65536) (hs3:¬d.src=3) (hk:lfK d) (w:World) (hd:LfIn w cs d):Calls Try.prog 60 #[.agg cs.toArray] w fun e w'=>∃ s,e = .returned s∧Own w.heap.size w' s (sumN (lfN d) 5) (allB (lfN d) (lfB d) 5)∧Below w.heap.size w w':=by
 obtain ⟨v0,v1,v2,v4',v5,rfl,h0,h1,h2,hh4,h5⟩:=hd
 obtain ⟨xh,ch,rfl,-⟩:=hh4.src
 obtain ⟨x0,c0,rfl,-⟩:=h0.src
 obtain ⟨x1,c1,rfl,-⟩:=h1.src
 obtain ⟨x2,c2,rfl,-⟩:=h2.src
 rw [hs]
 have k1:=RW.fresh w [(.slice x0 d.enc.n c0),(.slice x1 d.sig.n c1),(.slice x2 d.name.n c2),.int .i64 (z:Int),(.slice xh d.hash.n ch),v5] 24
 have bV:Below w.heap.size w (w.alloc (.cells #[(.slice x0 d.enc.n c0),(.slice x1 d.sig.n c1),(.slice x2 d.name.n c2),.int .i64 (z:Int),(.slice xh d.hash.n ch),v5] 24)):=(Below.refl _ _).alloc (Nat.le_refl _) _
 obtain ⟨W,hW⟩:∃ W,W=w.alloc (.cells #[(.slice x0 d.enc.n c0),(.slice x1 d.sig.n c1),(.slice x2 d.name.n c2),.int .i64 (z:Int),(.slice xh d.hash.n ch),v5] 24):=⟨_,rfl⟩
 rw [show w.alloc (.cells [(.slice x0 d.enc.n c0),(.slice x1 d.sig.n c1),(.slice x2 d.name.n c2),.int .i64 (z:Int),(.slice xh d.hash.n ch),v5].toArray 24)=W from hW.symm] at k1
 rw [←hW] at bV
 have HW:=Hid.mk' hW
 have C3:Hid (¬(z:Int)=3):=Hid.mk' (by omega)
 have SZ:Hid (sumN (lfN d) 3≤200000):=Hid.mk' (by
  have q0:=lnS_pos d.enc.n
  have q1:=lnS_pos d.sig.n
  have q2:=lnS_pos d.name.n
  show 0+vcL d.enc.n+vcL d.sig.n+vcL d.name.n≤_
  unfold vcL;omega)
 replace bV:=bV.trans ((Below.refl W.heap.size W).drew.mono bV.size)
 replace k1:=k1.drew
 have D0:=Hid.mk' (h0.keep bV)
 have D1:=Hid.mk' (h1.keep bV)
 have D2:=Hid.mk' (h2.keep bV)
 have D4:=Hid.mk' (hh4.keep bV)
 have K1:=Hid.mk' k1
 clear hW h0 h1 h2 hh4 h5 k1
 go_enter Try.func60,Try.ntmps60
 go_upto_region 1 with (fail)
 rw [←HW.out]
 refine wp_region_held_drew (S:=fun u=>Below W.drew.heap.size W.drew u) (by kernel_rfl) (Below.refl _ _) (fun hS => ?_)
 clear HW
 generalize W.drew=V at *
 refine tg 0 hS (v:=pA w.heap.size 0) ?_ (hy:=by intro u _;kernel_rfl)
 (try simp only [pS])
 refine tc 1 hS (fun u hu=>(hu.cell (p:=⟨w.heap.size,0,none⟩) K1.out.lt).trans (K1.out.cell (o:=0) rfl)) ?_
 (try simp only [pS])
 refine tg 2 hS (v:=pA w.heap.size 1) ?_ (hy:=by intro u _;kernel_rfl)
 (try simp only [pS])
 refine tc 3 hS (fun u hu=>(hu.cell (p:=⟨w.heap.size,1,none⟩) K1.out.lt).trans (K1.out.cell (o:=1) rfl)) ?_
 (try simp only [pS])
 refine tg 4 hS (v:=pA w.heap.size 2) ?_ (hy:=by intro u _;kernel_rfl)
 (try simp only [pS])
 refine tc 5 hS (fun u hu=>(hu.cell (p:=⟨w.heap.size,2,none⟩) K1.out.lt).trans (K1.out.cell (o:=2) rfl)) ?_
 (try simp only [pS])
 refine tg 8 hS (v:=pA w.heap.size 3) ?_ (hy:=by intro u _;kernel_rfl)
 (try simp only [pS])
 refine tc 9 hS (fun u hu=>(hu.cell (p:=⟨w.heap.size,3,none⟩) K1.out.lt).trans (K1.out.cell (o:=3) rfl)) ?_
 (try simp only [pS])
 refine tg 10 hS (v := .int .u8 (z:Int)) ?_ (hy:=fun u _=>exec_cvt (.tmp 13) rfl hz rfl)
 (try simp only [pS])
 refine wpAnyH_ready (rs:=[6,11]) (by kernel_rfl) (by simp) ?_
 refine rG 6 (fun g => .slice (some ⟨g,0,none⟩) 3 3) ([(.slice x0 d.enc.n c0),(.slice x1 d.sig.n c1),(.slice x2 d.name.n c2)]) 22 (fun u hb=>below_next hS hb) (fun w1 g1 lr1 hb r1 => ?_) ?_
 · replace hS:=below_next hS hb
   (try simp only [pS])
   refine wpAnyH_ready (rs:=[7,11]) (by kernel_rfl) (by simp) ?_
   refine rC 7 (rJoinL g1 (.slice x0 d.enc.n c0) (.slice x1 d.sig.n c1) (.slice x2 d.name.n c2) d h.1 h.2.1 h.2.2 hk.1 hk.2.1 hk.2.2.1 w1 r1 (D0.out.keep hS) (D1.out.keep hS) (D2.out.keep hS)) (fun e w2 hr => ?_) ?_
   · obtain ⟨s1,rfl,o1,hb⟩:=hr
     replace o1:=o1.base hS.size
     replace hS:=below_next hS hb
     refine ⟨_,rfl,hS,?_⟩
     (try simp only [pS])
     replace r1:=r1.still hb
     refine wpAnyH_ready (rs:=[11]) (by kernel_rfl) (by simp) ?_
     refine rG 11 (fun g => .slice (some ⟨g,0,none⟩) 1 1) ([.int .u8 (z:Int)]) 5 (fun u hb=>below_next hS hb) (fun w3 g2 lr2 hb r2 => ?_) ?_
     · replace hS:=below_next hS hb
       (try simp only [pS])
       replace r1:=r1.still hb
       replace o1:=o1.below hb
       obtain ⟨v4,w4,hrun4,o4,b4⟩:=run_append_bytes w3 V.heap.size s1 _ _ o1 (some ⟨g2,0,none⟩) 1 1 (fun _=>z) (src_row r2) (fun h=>by cases h) (by have:=SZ.out;omega) hS.size
       have hS4:=hS.trans b4
       refine onlyV 12 (v:=v4) ?_ hS4 ?_
       · exact exec_append (.tmp 11) (.tmp 15) rfl rfl rfl rfl hrun4
       (try simp only [pS])
       refine tg 13 hS4 ?_
       (try simp only [pS])
       refine wpAnyH_done (by kernel_rfl) ?_ _
       have h3':=(hS4.cell (p:=⟨w.heap.size,3,none⟩) K1.out.lt).trans (K1.out.cell (o:=3) rfl)
       have h4':=(hS4.cell (p:=⟨w.heap.size,4,none⟩) K1.out.lt).trans (K1.out.cell (o:=4) rfl)
       replace o4:=Hid.mk' ((o4.congr (bare_c d z hs hz)).base bV.size)
       have c3:=C3.out
       go_wp2
       go_ret
       refine ⟨_,rfl,?_,below_next bV hS4⟩
       have e:lfN d 4=0:=if_neg hs3
       show Own w.heap.size w4 v4 (sumN (lfN d) 4+lfN d 4) (cat (sumN (lfN d) 4) (allB (lfN d) (lfB d) 4) (lfB d 4))
       rw [e]
       exact o4.out.congr (fun j hj=>(cat_left hj).symm)
     exact AllReadyH.nil
   refine rG 11 (fun g => .slice (some ⟨g,0,none⟩) 1 1) ([.int .u8 (z:Int)]) 5 (fun u hb=>below_next hS hb) (fun w2 g2 lr2 hb r2 => ?_) ?_
   · replace hS:=below_next hS hb
     (try simp only [pS])
     replace r1:=r1.still hb
     refine wpAnyH_ready (rs:=[7]) (by kernel_rfl) (by simp) ?_
     refine rC 7 (rJoinL g1 (.slice x0 d.enc.n c0) (.slice x1 d.sig.n c1) (.slice x2 d.name.n c2) d h.1 h.2.1 h.2.2 hk.1 hk.2.1 hk.2.2.1 w2 r1 (D0.out.keep hS) (D1.out.keep hS) (D2.out.keep hS)) (fun e w3 hr => ?_) ?_
     · obtain ⟨s1,rfl,o1,hb⟩:=hr
       replace o1:=o1.base hS.size
       replace hS:=below_next hS hb
       refine ⟨_,rfl,hS,?_⟩
       (try simp only [pS])
       replace r1:=r1.still hb
       replace r2:=r2.still hb
       obtain ⟨v4,w4,hrun4,o4,b4⟩:=run_append_bytes w3 V.heap.size s1 _ _ o1 (some ⟨g2,0,none⟩) 1 1 (fun _=>z) (src_row r2) (fun h=>by cases h) (by have:=SZ.out;omega) hS.size
       have hS4:=hS.trans b4
       refine onlyV 12 (v:=v4) ?_ hS4 ?_
       · exact exec_append (.tmp 11) (.tmp 15) rfl rfl rfl rfl hrun4
       (try simp only [pS])
       refine tg 13 hS4 ?_
       (try simp only [pS])
       refine wpAnyH_done (by kernel_rfl) ?_ _
       have h3':=(hS4.cell (p:=⟨w.heap.size,3,none⟩) K1.out.lt).trans (K1.out.cell (o:=3) rfl)
       have h4':=(hS4.cell (p:=⟨w.heap.size,4,none⟩) K1.out.lt).trans (K1.out.cell (o:=4) rfl)
       replace o4:=Hid.mk' ((o4.congr (bare_c d z hs hz)).base bV.size)
       have c3:=C3.out
       go_wp2
       go_ret
       refine ⟨_,rfl,?_,below_next bV hS4⟩
       have e:lfN d 4=0:=if_neg hs3
       show Own w.heap.size w4 v4 (sumN (lfN d) 4+lfN d 4) (cat (sumN (lfN d) 4) (allB (lfN d) (lfB d) 4) (lfB d 4))
       rw [e]
       exact o4.out.congr (fun j hj=>(cat_left hj).symm)
     exact AllReadyH.nil
   exact AllReadyH.nil
 refine rG 11 (fun g => .slice (some ⟨g,0,none⟩) 1 1) ([.int .u8 (z:Int)]) 5 (fun u hb=>below_next hS hb) (fun w1 g2 lr2 hb r2 => ?_) ?_
 · replace hS:=below_next hS hb
   (try simp only [pS])
   refine wpAnyH_ready (rs:=[6]) (by kernel_rfl) (by simp) ?_
   refine rG 6 (fun g => .slice (some ⟨g,0,none⟩) 3 3) ([(.slice x0 d.enc.n c0),(.slice x1 d.sig.n c1),(.slice x2 d.name.n c2)]) 22 (fun u hb=>below_next hS hb) (fun w2 g1 lr1 hb r1 => ?_) ?_
   · replace hS:=below_next hS hb
     (try simp only [pS])
     replace r2:=r2.still hb
     refine wpAnyH_ready (rs:=[7]) (by kernel_rfl) (by simp) ?_
     refine rC 7 (rJoinL g1 (.slice x0 d.enc.n c0) (.slice x1 d.sig.n c1) (.slice x2 d.name.n c2) d h.1 h.2.1 h.2.2 hk.1 hk.2.1 hk.2.2.1 w2 r1 (D0.out.keep hS) (D1.out.keep hS) (D2.out.keep hS)) (fun e w3 hr => ?_) ?_
     · obtain ⟨s1,rfl,o1,hb⟩:=hr
       replace o1:=o1.base hS.size
       replace hS:=below_next hS hb
       refine ⟨_,rfl,hS,?_⟩
       (try simp only [pS])
       replace r2:=r2.still hb
       replace r1:=r1.still hb
       obtain ⟨v4,w4,hrun4,o4,b4⟩:=run_append_bytes w3 V.heap.size s1 _ _ o1 (some ⟨g2,0,none⟩) 1 1 (fun _=>z) (src_row r2) (fun h=>by cases h) (by have:=SZ.out;omega) hS.size
       have hS4:=hS.trans b4
       refine onlyV 12 (v:=v4) ?_ hS4 ?_
       · exact exec_append (.tmp 11) (.tmp 15) rfl rfl rfl rfl hrun4
       (try simp only [pS])
       refine tg 13 hS4 ?_
       (try simp only [pS])
       refine wpAnyH_done (by kernel_rfl) ?_ _
       have h3':=(hS4.cell (p:=⟨w.heap.size,3,none⟩) K1.out.lt).trans (K1.out.cell (o:=3) rfl)
       have h4':=(hS4.cell (p:=⟨w.heap.size,4,none⟩) K1.out.lt).trans (K1.out.cell (o:=4) rfl)
       replace o4:=Hid.mk' ((o4.congr (bare_c d z hs hz)).base bV.size)
       have c3:=C3.out
       go_wp2
       go_ret
       refine ⟨_,rfl,?_,below_next bV hS4⟩
       have e:lfN d 4=0:=if_neg hs3
       show Own w.heap.size w4 v4 (sumN (lfN d) 4+lfN d 4) (cat (sumN (lfN d) 4) (allB (lfN d) (lfB d) 4) (lfB d 4))
       rw [e]
       exact o4.out.congr (fun j hj=>(cat_left hj).symm)
     exact AllReadyH.nil
   exact AllReadyH.nil
 exact AllReadyH.nil
end Go.Proofs.Ytgdcmibdjiaofaa
namespace Go.Proofs.Ytgdcmibdjiaofaa
open Go.RowKit
theorem rBare_any (cs:List Value) (d:LfD) (hR:lfR d 3) (hk:lfK d) (w:World) (hd:LfIn w cs d):Calls Try.prog 60 #[.agg cs.toArray] w fun e w'=>∃ s,e = .returned s∧Own w.heap.size w' s (sumN (lfN d) 5) (allB (lfN d) (lfB d) 5)∧Below w.heap.size w w':=by
 obtain ⟨h0,h1,h2,h3,h4,h5⟩:=hR
 by_cases hs:d.src=3
 · rw [if_pos hs] at h4
   exact rBare3 cs d 3 hs (by decide) ⟨by omega,by omega,by omega⟩ hs (by omega) hk w hd
 · exact rBare0 cs d d.src.toNat (by omega) (by omega) ⟨by omega,by omega,by omega⟩ hs hk w hd
theorem tR {md:Region.Mode} {ops:Array Oper} {Q:Exit→Act→World→Prop} {S:World→Prop} {fuel:Nat} {listed:Array Bool} {a:Act} {w:World} (i:Nat) (hS:S w) {oi:Oper} {g off k:Nat} (ty:TypeId) (cs:List Value) {d:TypeDesc} (hu:Try.prog.underlying ty=some d) (hin:(Try.prog.info? ty).map (·.size)=some cs.length) (hr:∀ u,S u→u.rangeAt g off cs) (h:wpAnyH Try.prog md ops Q S fuel (listed.setIfInBounds i true) (a.put oi.dst (.agg cs.toArray)) w) (hi:ops.toList[i]? = some oi:=by rfl) (ho:oi.op = .load ty (.tmp k):=by rfl)
 (hw:Region.wanted oi (yielded ops a.tmps)=true:=by rfl) (hx:a.eval (.tmp k) = .pointer (some ⟨g,off,none⟩):=by rfl) (hd:d.isRow=true:=by rfl)
 (hQ:∀ c b w,Q (.panic c) (b.put oi.dst (.agg cs.toArray)) w→Q (.panic c) b w:=by exact fun _ _ _ h=>h) (hs:Region.noSelect ops=true:=by kernel_rfl) (hf:Region.free md ops listed i=true:=by kernel_rfl) (hrd:(Region.ready md ops listed).contains i=true:=by kernel_rfl):wpAnyH Try.prog md ops Q S (fuel+1) listed a w :=
 tkH i oi _ hS (yieldsIf_load_mid hw ty _ ho g off hx cs _ hr hu hd hin) h hQ (at_list hi) hs hf hrd
theorem infoRL:(Try.prog.info? 24).map (·.size)=some 6:=by kernel_rfl
section
variable {ops:Array Oper} {rest:List Oper} {op:Oper} {a:Act} {w:World} {Q:Exit→Act→World→Prop}
theorem ldL (x:Operand) (ho:op.op = .load 24 x) {g o:Nat} {A B C D E F:Value} (hx:a.eval x = .pointer (some ⟨g,o,none⟩)) (hc:w.rangeAt g o [A,B,C,D,E,F])
 (h:wpList Try.prog ops Q rest (a.put op.dst (.agg #[A,B,C,D,E,F])) w) (hgd:op.guard=none):wpList Try.prog ops Q (op :: rest) a w :=
 wpList_load_mid hgd 24 x ho g o hx [A,B,C,D,E,F] _ hc Try.underlying24 rfl infoRL h
end
theorem sum5_le (d:LfD) (hR:lfR d 3):sumN (lfN d) 5≤1000:=by
 obtain ⟨h0,h1,h2,h3,h4,h5⟩:=hR
 have q0:=lnS_pos d.enc.n
 have q1:=lnS_pos d.sig.n
 have q2:=lnS_pos d.name.n
 have q4:=lnS_pos d.hash.n
 show 0+vcL d.enc.n+vcL d.sig.n+vcL d.name.n+1+(if d.src=3 then vcL d.hash.n else 0)≤_
 unfold vcL
 by_cases hs:d.src=3
 · rw [if_pos hs] at h4 ⊢;omega
 · rw [if_neg hs];omega
set_option maxRecDepth 20000 in
set_option maxHeartbeats 4000000 in
theorem rLeafBytes_any (cs:List Value) (d:LfD) (hR:lfR d 3) (hk:lfK d) (w:World) (hd:LfIn w cs d):Calls Try.prog 39 #[.agg cs.toArray] w fun e w'=>∃ s,e = .returned s∧Own w.heap.size w' s (lfLen d) (lfByt d)∧Below w.heap.size w w':=by
 have SZ:=Hid.mk' (sum5_le d hR)
 have hd':=hd
 obtain ⟨v0,v1,v2,v4,v5,rfl,-,-,-,-,h5⟩:=hd
 have h5':=h5
 obtain ⟨xs,ch,rfl,-⟩:=h5.src
 have k1:=RW.fresh w [v0,v1,v2,.int .i64 d.src,v4,.slice xs d.sg.n ch] 24
 have bV:Below w.heap.size w (w.alloc (.cells #[v0,v1,v2,.int .i64 d.src,v4,.slice xs d.sg.n ch] 24)):=(Below.refl _ _).alloc (Nat.le_refl _) _
 obtain ⟨W,hW⟩:∃ W,W=w.alloc (.cells #[v0,v1,v2,.int .i64 d.src,v4,.slice xs d.sg.n ch] 24):=⟨_,rfl⟩
 rw [show w.alloc (.cells ([v0,v1,v2,.int .i64 d.src,v4,.slice xs d.sg.n ch]).toArray 24)=W from hW.symm] at k1
 rw [←hW] at bV
 have HW:=Hid.mk' hW
 replace bV:=bV.trans ((Below.refl W.heap.size W).drew.mono bV.size)
 replace k1:=k1.drew
 have DD:=Hid.mk' (hd'.keep bV)
 have D5:=Hid.mk' (h5'.keep bV)
 have K1:=Hid.mk' k1
 have HR:=Hid.mk' hR
 clear hW hd' h5 h5' k1
 go_enter Try.func39,Try.ntmps39
 go_upto_region 1 with (fail)
 rw [←HW.out]
 refine wp_region_held_drew (S:=fun u=>Below W.drew.heap.size W.drew u) (by kernel_rfl) (Below.refl _ _) (fun hS => ?_)
 clear HW
 generalize W.drew=V at *
 refine tR 0 hS 24 [v0,v1,v2,.int .i64 d.src,v4,.slice xs d.sg.n ch] Try.underlying24 infoRL (fun u hu=>(K1.out.still hu).range) ?_
 (try simp only [pS])
 refine tg 2 hS (v:=pA w.heap.size 5) ?_ (hy:=by intro u _;kernel_rfl)
 (try simp only [pS])
 refine tc 3 hS (fun u hu=>(hu.cell (p:=⟨w.heap.size,5,none⟩) K1.out.lt).trans (K1.out.cell (o:=5) rfl)) ?_
 (try simp only [pS])
 refine wpAnyH_ready (rs:=[1,4]) (by kernel_rfl) (by simp) ?_
 refine rC 1 (rBare_any _ d hR hk V (DD.out.keep hS)) (fun e w1 hr => ?_) ?_
 · obtain ⟨s1,rfl,o1,hb⟩:=hr
   replace o1:=o1.base hS.size
   replace hS:=below_next hS hb
   refine ⟨_,rfl,hS,?_⟩
   (try simp only [pS])
   refine wpAnyH_ready (rs:=[4]) (by kernel_rfl) (by simp) ?_
   refine rG 4 (fun g => .slice (some ⟨g,0,none⟩) 1 1) ([.slice xs d.sg.n ch]) 22 (fun u hb=>below_next hS hb) (fun w2 g1 lr1 hb r1 => ?_) ?_
   · replace hS:=below_next hS hb
     (try simp only [pS])
     replace o1:=o1.below hb
     refine wpAnyH_ready (rs:=[5]) (by kernel_rfl) (by simp) ?_
     refine rC 5 (rJoin1 g1 _ d.sg.n d.sg.b (by have:=hR.2.2.2.2.2;omega) hk.2.2.2.2 w2 r1 (D5.out.keep hS)) (fun e w3 hr => ?_) ?_
     · obtain ⟨s2,rfl,o2,hb⟩:=hr
       replace hS:=below_next hS hb
       refine ⟨_,rfl,hS,?_⟩
       (try simp only [pS])
       replace o1:=o1.below hb
       replace r1:=r1.still hb
       obtain ⟨x5,c5,e5,hxn5,-,hs5⟩:=(BytesIn.of_own o2).src
       subst e5
       obtain ⟨v4,w4,hrun4,o4,b4⟩:=run_append_bytes w3 V.heap.size s1 _ _ o1 x5 _ c5 _ (hs5 w3 (Below.refl _ _)) hxn5 (by have:=SZ.out;have:=lnS_pos d.sg.n;have:=HR.out.2.2.2.2.2;unfold vcL;omega) hS.size
       have hS4:=hS.trans b4
       refine onlyV 6 (v:=v4) ?_ hS4 ?_
       · exact exec_append (.tmp 4) (.tmp 8) rfl rfl rfl rfl hrun4
       (try simp only [pS])
       refine tg 7 hS4 ?_
       (try simp only [pS])
       refine wpAnyH_done (by kernel_rfl) ?_ _
       go_wp2
       go_ret
       exact ⟨_,rfl,o4.base bV.size,below_next bV hS4⟩
     exact AllReadyH.nil
   exact AllReadyH.nil
 refine rG 4 (fun g => .slice (some ⟨g,0,none⟩) 1 1) ([.slice xs d.sg.n ch]) 22 (fun u hb=>below_next hS hb) (fun w1 g1 lr1 hb r1 => ?_) ?_
 · replace hS:=below_next hS hb
   (try simp only [pS])
   refine wpAnyH_ready (rs:=[1]) (by kernel_rfl) (by simp) ?_
   refine rC 1 (rBare_any _ d hR hk w1 (DD.out.keep hS)) (fun e w2 hr => ?_) ?_
   · obtain ⟨s1,rfl,o1,hb⟩:=hr
     replace o1:=o1.base hS.size
     replace hS:=below_next hS hb
     refine ⟨_,rfl,hS,?_⟩
     (try simp only [pS])
     replace r1:=r1.still hb
     refine wpAnyH_ready (rs:=[5]) (by kernel_rfl) (by simp) ?_
     refine rC 5 (rJoin1 g1 _ d.sg.n d.sg.b (by have:=hR.2.2.2.2.2;omega) hk.2.2.2.2 w2 r1 (D5.out.keep hS)) (fun e w3 hr => ?_) ?_
     · obtain ⟨s2,rfl,o2,hb⟩:=hr
       replace hS:=below_next hS hb
       refine ⟨_,rfl,hS,?_⟩
       (try simp only [pS])
       replace r1:=r1.still hb
       replace o1:=o1.below hb
       obtain ⟨x5,c5,e5,hxn5,-,hs5⟩:=(BytesIn.of_own o2).src
       subst e5
       obtain ⟨v4,w4,hrun4,o4,b4⟩:=run_append_bytes w3 V.heap.size s1 _ _ o1 x5 _ c5 _ (hs5 w3 (Below.refl _ _)) hxn5 (by have:=SZ.out;have:=lnS_pos d.sg.n;have:=HR.out.2.2.2.2.2;unfold vcL;omega) hS.size
       have hS4:=hS.trans b4
       refine onlyV 6 (v:=v4) ?_ hS4 ?_
       · exact exec_append (.tmp 4) (.tmp 8) rfl rfl rfl rfl hrun4
       (try simp only [pS])
       refine tg 7 hS4 ?_
       (try simp only [pS])
       refine wpAnyH_done (by kernel_rfl) ?_ _
       go_wp2
       go_ret
       exact ⟨_,rfl,o4.base bV.size,below_next bV hS4⟩
     exact AllReadyH.nil
   exact AllReadyH.nil
 exact AllReadyH.nil
end Go.Proofs.Ytgdcmibdjiaofaa
namespace Go.Proofs.Ytgdcmibdjiaofaa
open Go.RowKit
def OwnZ (base:Nat) (w:World) (v:Value) (l:List Int):Prop:=w.ownsRow base 3 1 v l.length (l.map fun z => .int .i64 z)
theorem info_int:(Try.prog.info? 3).map (fun i=>(i.zero,i.size,i.bytes))=some (some (.int .i64 0),1,8):=by kernel_rfl
theorem und_ints:Try.prog.underlying 42=some (.slice 3):=by kernel_rfl
theorem OwnZ.nil (base:Nat) (w:World):OwnZ base w (.slice none 0 0) []:=World.ownsRow_nil w base _ _
theorem OwnZ.slice {base:Nat} {w:World} {v:Value} {l:List Int} (h:OwnZ base w v l):∃ x c,v = .slice x l.length c:=by
 rcases h.2 with ⟨rfl,e⟩ | ⟨g,cap,cur,rfl,_⟩
 · rw [e];exact ⟨_,_,rfl⟩
 · exact ⟨_,_,rfl⟩
theorem OwnZ.below {base:Nat} {w w':World} {v:Value} {l:List Int} (h:OwnZ base w v l) (hb:Below w.heap.size w w'):OwnZ base w' v l:=own_below h hb
def ZIn (w:World) (v:Value) (l:List Int):Prop:=∃ x c,v = .slice x l.length c∧∀ i z,l[i]? = some z→∃ g o,x=some ⟨g,o,none⟩∧g<w.heap.size∧w.cell? ⟨g,o+i,none⟩=some (.int .i64 z)
theorem ZIn.keep {w w':World} {v:Value} {l:List Int} (h:ZIn w v l) (hb:Below w.heap.size w w'):ZIn w' v l:=by
 obtain ⟨x,c,e,hc⟩:=h
 refine ⟨x,c,e,fun i z hz => ?_⟩
 obtain ⟨g,o,e1,hl,h1⟩:=hc i z hz
 exact ⟨g,o,e1,Nat.lt_of_lt_of_le hl hb.size,(hb.cell (p:=⟨g,o+i,none⟩) hl).trans h1⟩
theorem ZIn.nil (w:World):ZIn w (.slice none 0 0) []:=⟨none,0,rfl,fun i z h=>by simp at h⟩
theorem OwnZ.zin {base:Nat} {w:World} {v:Value} {l:List Int} (h:OwnZ base w v l):ZIn w v l:=by
 obtain ⟨x,c,rfl⟩:=h.slice
 refine ⟨x,c,rfl,fun i z hz => ?_⟩
 have hi:i<l.length:=(List.getElem?_eq_some_iff.1 hz).1
 have hlt:=World.ownsRow.lt h
 rcases h.2 with ⟨_,e⟩ | ⟨g,cap,cur,e,_⟩
 · omega
 · cases e
   have hc:=World.ownsRow.cellAt h i (by omega)
   refine ⟨g,0,rfl,(hlt g rfl).2,?_⟩
   rw [Nat.zero_add,hc]
   simp [hz]
end Go.Proofs.Ytgdcmibdjiaofaa
namespace Go.Proofs.Ytgdcmibdjiaofaa
open Go.RowKit
set_option maxRecDepth 20000 in
set_option maxHeartbeats 1000000 in
theorem vGet (q p o lo hi g L:Nat) (B:Nat→Nat) (lB:∀ j,B j<256) (r:Rd) (hL:L<140737488355000) (cs:List Value) (w:World) (hq:RW w q 0 [pA p o]) (hr:RW w p 0 cs) (ho:o<cs.length) (hR:RdC lo hi w g L B r) (hp:p<lo∨hi≤p) (hqp:q≠p) (hqg:q≠g) :
 Calls Try.prog 84 #[pA g 0,pA q 0] w fun e w'=>e = .returned (.tuple #[])∧∃ v,RW w' p 0 (cs.set o v)∧Own w.heap.size w' v (vecD L B r).1 (fun j=>B ((lenD L B r).2.at_+j))∧RdC lo hi w' g L B (vecD L B r).2∧Rest [p,g] w w':=by
 have hgp:p≠g:=by obtain ⟨v,rw_,hv,ha,hg,hh⟩:=hR;omega
 have c0:=hr.cell (o:=o) (List.getElem?_eq_getElem ho)
 have z0:=hr.live ho
 have q0:=hq.cell (o:=0) rfl
 have R1:Rest [p] w (w.setCell ⟨p,o,none⟩ (.slice none 0 0)):=Rest.setCell w _ (by simp)
 have hr1:=hr.set1 ho (.slice none 0 0)
 have hq1:=hq.rest R1 (by simp;exact hqp)
 have hR1:=hR.rest R1 (fun x hx=>by rw [List.mem_singleton] at hx;subst hx;exact hp)
 have cv:=cVecR_any lo hi g L B lB r hL _ hR1
 generalize hn:(vecD L B r).1=n at *
 have HR:=Hid.mk' hr1
 have HQ:=Hid.mk' hq1
 have H1:=Hid.mk' R1
 have ho':o<(cs.set o (.slice none 0 0)).length:=by simpa using ho
 clear hr1 hq1 R1 hR hR1 hn
 go_enter Try.func84,Try.ntmps84
 go_upto_region 2 with (go_at_call 85;refine cv.mono ?_;clear cv;rintro e w2 ⟨v,rfl,ow,R2,o2⟩)
 have sz:(w.setCell ⟨p,o,none⟩ (.slice none 0 0)).heap.size=w.heap.size:=by simp
 rw [sz] at ow
 have X2:Rest [p,g] w w2:=(H1.out.mono (fun x hx=>by simp at hx;simp [hx])).trans (Rest.of_out o2 (by simp))
 have hr2:=HR.out.rest (Rest.of_out (X:=[g]) o2 (by simp)) (by simpa using hgp)
 have hq2:=HQ.out.rest (Rest.of_out (X:=[g]) o2 (by simp)) (by simpa using hqg)
 clear HR HQ H1 o2 c0 z0 q0
 obtain ⟨x,c,rfl⟩:=ow.slice
 have HO:=Hid.mk' ow
 have HR2:=Hid.mk' R2
 have HX:=Hid.mk' X2
 have HN2:=Hid.mk' hr2
 have c2:=hr2.cell (o:=o) (List.getElem?_eq_getElem ho')
 have z2:=hr2.live ho'
 have q2:=hq2.cell (o:=0) rfl
 clear ow R2 X2 hr2 hq2
 by_cases h0:n=0
 · subst h0
   go_wp2
   go_end0
   exact ⟨rfl,_,HN2.out,Own.nil _ _ _,HR2.out,HX.out⟩
 · have h1:¬(n:Int)=0:=by omega
   go_wp2
   go_end0
   have R3:Rest [p] w2 (w2.setCell ⟨p,o,none⟩ (.slice x n c)):=Rest.setCell w2 _ (by simp)
   have hr3:=HN2.out.set1 ho' (.slice x n c)
   rw [List.set_set] at hr3
   refine ⟨rfl,_,hr3,own_rest HO.out R3 (fun y hy=>by rw [List.mem_singleton] at hy;subst hy;exact hr.lt),HR2.out.rest R3 (fun y hy=>by rw [List.mem_singleton] at hy;subst hy;exact hp),HX.out.trans (R3.mono (fun y hy=>by simp at hy;simp [hy]))⟩
set_option maxRecDepth 20000 in
set_option maxHeartbeats 1000000 in
theorem nGet (q1 q2 p o lo hi g L:Nat) (B:Nat→Nat) (lB:∀ j,B j<256) (r:Rd) (s:Int) (cs:List Value) (w:World) (hq1:RW w q1 0 [pA p o]) (hq2:RW w q2 0 [.int .i64 s]) (hr:RW w p 0 cs) (ho:o<cs.length) (hR:RdC lo hi w g L B r) (hp:p<lo∨hi≤p) (h1:q1≠p) (h2:q2≠p) (h3:q1≠g) (h4:q2≠g) :
 Calls Try.prog 89 #[pA g 0,pA q2 0,pA q1 0] w fun e w'=>e = .returned (.tuple #[])∧RW w' p 0 (cs.set o (.int .i64 (((numD L B s r).1:Nat):Int)))∧RdC lo hi w' g L B (numD L B s r).2∧Rest [p,g] w w':=by
 have hgp:p≠g:=by obtain ⟨v,rw_,hv,ha,hg,hh⟩:=hR;omega
 have bd:Below w.heap.size w w.drew:=(Below.refl _ _).drew
 have xd:Rest [p,g] w w.drew:=Rest.of_below bd
 replace hq1:=hq1.drew
 replace hq2:=hq2.drew
 replace hr:=hr.drew
 replace hR:=hR.still bd
 go_enter Try.func89,Try.ntmps89
 go_wp2
 refine wp_last 5 (S:=fun u=>Rest [g] w.drew u) (by kernel_rfl) (by kernel_rfl) (by kernel_rfl) (by kernel_rfl) (Rest.refl _ _) (fun hS => ?_)
 generalize w.drew=V at *
 have cv:=cNumR_any lo hi g L B lB r s V hR
 refine tc 0 hS (fun u hu=>(hu.cell hq1.lt (by simpa using h3)).trans (hq1.cell (o:=0) rfl)) ?_
 (try simp only [pS])
 refine tg 1 hS ?_
 (try simp only [pS])
 refine tc 2 hS (fun u hu=>(hu.cell hq2.lt (by simpa using h4)).trans (hq2.cell (o:=0) rfl)) ?_
 (try simp only [pS])
 refine cl 3 cv (fun e w2 hx => ?_)
 obtain ⟨rfl,R2,o2⟩:=hx
 have x2:Rest [g] V w2:=Rest.of_out o2 (by simp)
 refine ⟨_,rfl,x2,?_⟩
 (try simp only [pS])
 refine tg 4 x2 (v:=pA p o) ?_ (hy:=by intro u _;kernel_rfl)
 (try simp only [pS])
 refine wpAnyH_done (by kernel_rfl) ?_ _
 have hr2:=hr.rest x2 (by simpa using hgp)
 have c2:=hr2.cell (o:=o) (List.getElem?_eq_getElem ho)
 have z2:=hr2.live ho
 refine lastRun 5 ?_
 refine NoPanic.normal ?_
 go_wp2
 go_end0
 have R3:Rest [p] w2 (w2.setCell ⟨p,o,none⟩ (.int .i64 (((numD L B s r).1:Nat):Int))):=Rest.setCell w2 _ (by simp)
 exact ⟨rfl,hr2.set1 ho _,R2.rest R3 (fun y hy=>by rw [List.mem_singleton] at hy;subst hy;exact hp),xd.trans ((x2.mono (fun y hy=>by simp at hy;simp [hy])).trans (R3.mono (fun y hy=>by simp at hy;simp [hy])))⟩
theorem wpList_clo1 {P:Program} {w:World} {ops:Array Oper} {rest:List Oper} {o:Oper} {a:Act} {Q:Exit→Act→World→Prop} (hgd:o.guard=none) {f:FuncId} {v:Value} {c:Array Value} {R:Ending→World→Prop} (hc:Calls P f (#[v] ++ c) w R) (hf:∀ W,(callFunc f (#[v] ++ c)).run P W = .ok (.enter f (#[v] ++ c)) W)
 (x y:Operand) (ts:Array TypeId) (ho:o.op = .call { callee := .value x,args:=#[y],argTypes:=ts }) (hx:a.eval x = .func (.func f) #[] c) (hy:a.eval y=v)
 (h:∀ e w',R e w'→(∃ r,e = .returned r∧wpList P ops Q rest (a.put o.dst r) w')∨∃ ch,e = .panicked ch∧Q (.panic ch) a w'):wpList P ops Q (o :: rest) a w:=by
 refine wpList_plain hgd fun K hK => ?_
 have hrun:(execOp a.eval o).run P w = .ok (.enter f (#[v] ++ c)) w:=by
  have:=hf w
  simp [execOp,ho,resolve,Deferred.ofValue,hx,hy,invoke,this]
 unfold Oper.wp
 rw [hrun,Oper.upon_enter]
 refine hc.mono fun e w' hR => ?_
 rcases h e w' hR with ⟨r,rfl,hk⟩ | ⟨ch,rfl,hq⟩
 · exact hK _ _ hk
 · exact hq
theorem fld2' (i j k:Nat) (c d e:Array Value) (W:World):(Instr.field 102 (.agg #[clo i c,clo j d,clo k e]) 2).run Try.prog W = .ok (clo k e) W:=by kernel_rfl
set_option maxRecDepth 20000 in
set_option maxHeartbeats 1000000 in
theorem lhGet (k g:Nat) (c:Array Value) (f:Fd) (R:World→Prop) (w:World) (hk:RW w k 0 [clo 114 c]) (cK:Calls Try.prog 114 c w fun e w'=>e = .returned f.val∧Below w.heap.size w w') (h0:∀ W,(callFunc f.i2 (#[pA g 0] ++ f.c2)).run Try.prog W = .ok (.enter f.i2 (#[pA g 0] ++ f.c2)) W)
 (hal:∀ W,Below w.heap.size w W→Calls Try.prog f.i2 (#[pA g 0] ++ f.c2) W fun e w'=>e = .returned (.tuple #[])∧R w'):Calls Try.prog 117 #[pA g 0,pA k 0] w fun e w'=>e = .returned (.tuple #[])∧R w':=by
 obtain ⟨i0,c0,i1,c1,i2,c2⟩:=f
 have q:=hk.cell (o:=0) rfl
 replace cK:Calls Try.prog 114 c w fun e w'=>e = .returned (.agg #[clo i0 c0,clo i1 c1,clo i2 c2])∧Below w.heap.size w w':=cK
 have hK:∀ W,(callFunc 114 c).run Try.prog W = .ok (.enter 114 c) W:=fun W=>by kernel_rfl
 have hA:=Hid.mk' hal
 have H0:=Hid.mk' h0
 clear hal hk h0
 have hfl:=fld2' i0 i1 i2 c0 c1 c2
 go_enter Try.func117,Try.ntmps117
 go_wp2_with (first
  | (with_reducible (refine id (?_:wpList _ _ _ _ _ _));refine wpList_clo rfl cK hK _ _ rfl rfl ?_;clear cK;rintro e w1 ⟨rfl,b1⟩;refine .inl ⟨_,rfl,?_⟩;have ca:=hA.out w1 b1)
  | (with_reducible (refine id (?_:wpList _ _ _ _ _ _));refine wpList_clo1 rfl ca H0.out _ _ _ rfl rfl rfl ?_;clear ca;rintro e w2 ⟨rfl,hR⟩;refine .inl ⟨_,rfl,?_⟩))
 go_end0
 exact ⟨rfl,hR⟩
theorem wpList_append_zz {w:World} {ops:Array Oper} {rest:List Oper} {o:Oper} {a:Act} {Q:Exit→Act→World→Prop} (hgd:o.guard=none) (s x:Operand)
 (ho:o.op = .call { callee := .builtin .append,args:=#[s,x],argTypes:=#[42,42] }) (base:Nat)
 (v:Value) (l:List Int) (y:Int) (hs:a.eval s=v) (hown:OwnZ base w v l) (hx:a.eval x = .slice (some ⟨w.heap.size,0,none⟩) 1 1)
 (hl:l.length+1≤1000000) (hbase:base≤w.heap.size)
 (h:∀ v' w',OwnZ base w' v' (l ++ [y])→Below base w w'→wpList Try.prog ops Q rest (a.put o.dst v') w'):wpList Try.prog ops Q (o :: rest) a (w.alloc (.cells #[.int .i64 y] 3)):=by
 obtain ⟨i0,hi,hz0,hz1,hz2⟩:=info_parts info_int
 have hb:Below base w (w.alloc (.cells #[.int .i64 y] 3)):=(Below.refl _ _).alloc hbase _
 have hz:base≤(w.alloc (.cells #[.int .i64 y] 3)).heap.size:=by simp only [World.size_alloc];omega
 refine wpList_append_own _ hgd s x 42 ho base 3 i0 (.int .i64 0) 1 8 und_ints hi hz0 hz1 hz2 rfl (by decide) v l.length _ hs (World.ownsRow.alloc hown _) ⟨w.heap.size,0,none⟩ 1 1 [.int .i64 y] hx rfl (one_new w _ _) (one_cell _ _) (by unfold maxLen;omega) (by omega) hz (fun v' w' h2 h3 _=>h v' w' ?_ (below_grown hb h3 (World.ownsRow.alloc hown _) (Nat.le_refl _) hz))
 unfold OwnZ
 rw [List.length_append,List.map_append]
 exact h2
def lenOf:Value→Nat
 | .slice _ n _=>n
 | _=>0
def l4 (C:Nat→Nat) (k:Nat):List Int:=(List.range k).map fun i=>((nbN C (4*i) 4:Nat):Int)
theorem l4_len (C:Nat→Nat) (k:Nat):(l4 C k).length=k:=by simp [l4]
theorem l4_succ (C:Nat→Nat) (k:Nat):l4 C (k+1)=l4 C k ++ [((nbN C (4*k) 4:Nat):Int)]:=by simp [l4,List.range_succ]
theorem num4 {m:Nat} {C:Nat→Nat} {k:Nat}:numD m C 4 ⟨4*k,0⟩=if (m:Int) - (4*k:Nat)<4 then (0,⟨4*k,20⟩) else (nbN C (4*k) 4,⟨4*(k+1),0⟩):=by
 have e:szB 4=true:=rfl
 unfold numD
 simp only [ne_eq,not_true_eq_false,if_false,e,Bool.true_eq_false,show ¬((4:Int)=8) by decide,false_and]
 rfl
set_option maxRecDepth 20000 in
set_option maxHeartbeats 2000000 in
theorem nums_any (v:Value) (m:Nat) (C:Nat→Nat) (lC:∀ j,C j<256) (hm:m≤1000000) (w:World) (hv:BytesIn w v m C):Calls Try.prog 103 #[v] w fun e w'=>Below w.heap.size w w'∧if m%4=0 then ∃ u,e = .returned u∧OwnZ w.heap.size w' u (l4 C (m / 4)) else e = .panicked noE:=by
 have cN:=cNew_any v m C (by omega) w hv
 have cm:=must_t
 have cf:=must_f
 go_enter Try.func103,Try.ntmps103
 go_wp2_with (go_at_call 68;refine cN.mono ?_;clear cN;rintro e w1 ⟨g,rfl,R1,b1⟩)
 go_loopw [3] (fun t wr=>∃ k:Nat,4*k≤m∧OwnZ w1.heap.size wr t (l4 C k)∧RdC w.heap.size w1.heap.size wr g m C ⟨4*k,0⟩∧Below w.heap.size w wr∧w1.heap.size≤wr.heap.size) (fun t _=>m - (lenOf t))
 case atStart=>exact ⟨0,by omega,OwnZ.nil _ _,R1,b1,Nat.le_refl _⟩
 case round =>
  clear R1
  obtain ⟨k,hk,oz,R,b,sw⟩:=hrel
  have cL:=cLeft_any _ _ g m C _ wr R
  have cN:=cNumR_any _ _ g m C lC _ 4 wr R
  rw [num4] at cN
  obtain ⟨x,c,hx⟩:=oz.slice
  rw [l4_len] at hx
  subst hx
  have HOZ:=Hid.mk' oz
  have HRd:=Hid.mk' R
  have hg:g<w1.heap.size:=R.choose_spec.2.2.2.1.2
  have hgl:w.heap.size≤g:=R.choose_spec.2.2.2.1.1
  by_cases h0:4*k=m
  · have e0:(m:Int) - ((4*k:Nat):Int)=0:=by omega
    rw [e0] at cL
    have h4:m%4=0:=by omega
    have hq:m / 4=k:=by omega
    clear cN R oz
    go_wp2_with (go_at_call 97;refine cL.mono ?_;clear cL;rintro e w2 ⟨rfl,hw⟩;obtain rfl:=hw.symm)
    go_ret
    exact ⟨b,_,rfl,own_base HOZ.out b1.size⟩
  · by_cases h1:m<4*k+4
    · rw [if_pos (by omega)] at cN
      have h4:¬m%4=0:=by omega
      obtain ⟨z,hz⟩:∃ z:Int,z=(m:Int) - ((4*k:Nat):Int):=⟨_,rfl⟩
      have hz0:0<z:=by omega
      rw [←hz] at cL
      have hl:(l4 C k).length+1≤1000000:=by rw [l4_len];omega
      have HL:=Hid.mk' hl
      clear hl
      clear R oz hz
      go_wp2_with (first
       | (go_at_call 97;refine cL.mono ?_;clear cL;rintro e w2 ⟨rfl,hw⟩;obtain rfl:=hw.symm)
       | (go_at_call 90;refine cN.mono ?_;clear cN;rintro e w3 ⟨rfl,R3,o3⟩;(have oz3:OwnZ w1.heap.size w3 _ _:=own_rest HOZ.out (Rest.of_out (X:=[g]) o3 (by simp)) (fun y hy=>by rw [List.mem_singleton] at hy;omega));(have h3:=Nat.le_trans sw o3.size))
       | (at_builtin;refine wpList_append_zz rfl (.tmp 10) (.tmp 13) rfl w1.heap.size _ _ _ rfl oz3 rfl HL.out h3 ?_;intro v4 w4 oz4 b4;(have ce:=cErr_any _ _ g m C _ w4 (R3.keep b4)))
       | (go_at_call 96;refine ce.mono ?_;clear ce;rintro e w5 ⟨rfl,hw⟩;obtain rfl:=hw.symm)
       | (go_at_call 65;refine (cf _).mono ?_;rintro e w6 ⟨rfl,hw⟩;obtain rfl:=hw.symm))
      all_goals exact ⟨rfl,(b.trans (o3.below hgl b.size)).trans (b4.mono b1.size),rfl⟩
    · rw [if_neg (by omega)] at cN
      obtain ⟨z,hz⟩:∃ z:Int,z=(m:Int) - ((4*k:Nat):Int):=⟨_,rfl⟩
      have hz0:0<z:=by omega
      rw [←hz] at cL
      have HL:Hid ((l4 C k).length+1≤1000000):=Hid.mk' (by rw [l4_len];omega)
      have HS:=Hid.mk' (l4_succ C k)
      obtain ⟨y,hy⟩:∃ y:Int,y=((nbN C (4*k) 4:Nat):Int):=⟨_,rfl⟩
      replace cN:Calls Try.prog 90 #[.pointer (some ⟨g,0,none⟩),.int .i64 4] wr fun e w'=>e = .returned (.int .i64 y)∧RdC w.heap.size w1.heap.size w' g m C ⟨4*(k+1),0⟩∧Out g 0 2 wr w':=by rw [hy];exact cN
      rw [←hy] at HS
      clear R oz hz hy cf
      go_wp2_with (first
       | (go_at_call 97;refine cL.mono ?_;clear cL;rintro e w2 ⟨rfl,hw⟩;obtain rfl:=hw.symm)
       | (go_at_call 90;refine cN.mono ?_;clear cN;rintro e w3 ⟨rfl,R3,o3⟩;(have oz3:OwnZ w1.heap.size w3 _ _:=own_rest HOZ.out (Rest.of_out (X:=[g]) o3 (by simp)) (fun y hy=>by rw [List.mem_singleton] at hy;omega));(have h3:=Nat.le_trans sw o3.size))
       | (at_builtin;refine wpList_append_zz rfl (.tmp 10) (.tmp 13) rfl w1.heap.size _ _ _ rfl oz3 rfl HL.out h3 ?_;intro v4 w4 oz4 b4;(have ce:=cErr_any _ _ g m C _ w4 (R3.keep b4)))
       | (go_at_call 96;refine ce.mono ?_;clear ce;rintro e w5 ⟨rfl,hw⟩;obtain rfl:=hw.symm)
       | (go_at_call 65;refine (cm _).mono ?_;rintro e w6 ⟨rfl,hw⟩;obtain rfl:=hw.symm))
      obtain ⟨x4,c4,e4⟩:=oz4.slice
      rw [List.length_append,l4_len] at e4
      subst e4
      go_roundw
      case rel=>exact ⟨k+1,by omega,by rw [HS.out];exact oz4,R3.keep b4,(b.trans (o3.below hgl b.size)).trans (b4.mono b1.size),Nat.le_trans h3 b4.size⟩
      case measure=>simp [lenOf];omega
end Go.Proofs.Ytgdcmibdjiaofaa
namespace Go.Proofs.Ytgdcmibdjiaofaa
open Go.RowKit
theorem vecD_le (L:Nat) (B:Nat→Nat) (r:Rd):(vecD L B r).1≤65536:=by
 have key:∀ (n:Nat) (q:Rd),(q.e=0→n≤65536)→(if (takD L (n:Int) q).2.e≠0 then (0,(⟨r.at_,(takD L (n:Int) q).2.e⟩:Rd)) else takD L (n:Int) q).1≤65536:=fun n q hq=>by
  by_cases h:(takD L (n:Int) q).2.e≠0
  · rw [if_pos h];exact Nat.zero_le _
  · rw [if_neg h]
    unfold takD
    by_cases h1:q.e≠0
    · rw [if_pos h1];exact Nat.zero_le _
    · rw [if_neg h1]
      have:=hq (by simpa using h1)
      split
      · exact Nat.zero_le _
      · split
        · exact Nat.zero_le _
        · show (n:Int).toNat≤65536;omega
 refine key (lenD L B r).1 (if (lenD L B r).2.e=0∧65536<(lenD L B r).1 then ⟨(lenD L B r).2.at_,21⟩ else (lenD L B r).2) (fun h => ?_)
 by_cases c:(lenD L B r).2.e=0∧65536<(lenD L B r).1
 · rw [if_pos c] at h;cases h
 · rw [if_neg c] at h;omega
set_option maxRecDepth 20000 in
set_option maxHeartbeats 1000000 in
theorem lGet (q p o lo hi g L:Nat) (B:Nat→Nat) (lB:∀ j,B j<256) (r:Rd) (hL:L<140737488355000) (cs:List Value) (w:World) (hq:RW w q 0 [pA p o]) (hr:RW w p 0 cs) (ho:o<cs.length) (hR:RdC lo hi w g L B r) (hp:p<lo∨hi≤p) (hqp:q≠p) (hqg:q≠g) :
 Calls Try.prog 102 #[pA g 0,pA q 0] w fun e w'=>(e = .returned (.tuple #[])∧(vecD L B r).1%4=0∧∃ v,RW w' p 0 (cs.set o v)∧OwnZ w.heap.size w' v (l4 (fun j=>B ((lenD L B r).2.at_+j)) ((vecD L B r).1 / 4))∧RdC lo hi w' g L B (vecD L B r).2∧Rest [p,g] w w')∨(e = .panicked noE∧¬(vecD L B r).1%4=0∧RW w' p 0 cs∧Rest [p,g] w w'):=by
 have hv5:=vecD_le L B r
 have hgp:p≠g:=by obtain ⟨v,rw_,hv,ha,hg,hh⟩:=hR;omega
 have bd:Below w.heap.size w w.drew:=(Below.refl _ _).drew
 have xd:Rest [p,g] w w.drew:=Rest.of_below bd
 replace hq:=hq.drew
 replace hr:=hr.drew
 replace hR:=hR.still bd
 have zd:=bd.size
 go_enter Try.func102,Try.ntmps102
 go_wp2
 refine wp_lastP 5 (S:=fun u=>Rest [g] w.drew u) (by kernel_rfl) (by kernel_rfl) (by kernel_rfl) (by kernel_rfl) (Rest.refl _ _) (fun hS => ?_)
 generalize w.drew=V at *
 have cv:=cVecR_any lo hi g L B lB r hL V hR
 refine tc 0 hS (fun u hu=>(hu.cell hq.lt (by simpa using hqg)).trans (hq.cell (o:=0) rfl)) ?_
 (try simp only [pS])
 refine tg 1 hS ?_
 (try simp only [pS])
 refine cl 2 cv (fun e w2 hx => ?_)
 obtain ⟨v2,rfl,ow,R2,o2⟩:=hx
 have x2:Rest [g] V w2:=Rest.of_out o2 (by simp)
 refine ⟨_,rfl,x2,?_⟩
 (try simp only [pS])
 have cn:=nums_any v2 _ _ (fun j=>lB _) (by omega) w2 (BytesIn.of_own ow)
 refine clP 3 cn (fun e w3 hx => ?_)
 obtain ⟨b3,hx⟩:=hx
 have x3:Rest [p,g] w w3:=xd.trans ((x2.mono (fun y hy=>by simp at hy;simp [hy])).trans (Rest.of_below b3))
 have hr3:=(hr.rest x2 (by simpa using hgp)).still b3
 by_cases h4:(vecD L B r).1%4=0
 · rw [if_pos h4] at hx
   obtain ⟨u,rfl,oz⟩:=hx
   refine .inl ⟨_,rfl,x2.trans (Rest.of_below b3),?_⟩
   (try simp only [pS])
   refine tg 4 (x2.trans (Rest.of_below b3)) (v:=pA p o) ?_ (hy:=by intro u _;kernel_rfl)
   (try simp only [pS])
   refine wpAnyH_done (by kernel_rfl) ?_ _
   obtain ⟨xu,cu,rfl⟩:=oz.slice
   have c2:=hr3.cell (o:=o) (List.getElem?_eq_getElem ho)
   have z2:=hr3.live ho
   have HOZ:=Hid.mk' oz
   have HR3:=Hid.mk' (R2.still b3)
   have H4:=Hid.mk' h4
   clear oz ow cn cv R2 h4
   refine lastRun 5 ?_
   go_wp2
   go_end0
   generalize (l4 (fun j=>B ((lenD L B r).2.at_+j)) ((vecD L B r).1 / 4)).length=ln at *
   have R3:Rest [p] w3 (w3.setCell ⟨p,o,none⟩ (.slice xu ln cu)):=Rest.setCell w3 _ (by simp)
   have l2:w.heap.size≤w2.heap.size:=Nat.le_trans zd x2.size
   exact .inl ⟨rfl,H4.out,_,hr3.set1 ho _,own_base (own_rest HOZ.out R3 (fun y hy=>by rw [List.mem_singleton] at hy;subst hy;exact Nat.lt_of_lt_of_le hr.lt x2.size)) l2,HR3.out.rest R3 (fun y hy=>by rw [List.mem_singleton] at hy;subst hy;exact hp),x3.trans (R3.mono (fun y hy=>by simp at hy;simp [hy]))⟩
 · rw [if_neg h4] at hx
   subst hx
   refine .inr ⟨_,rfl,?_⟩
   simp only [LastQ]
   exact ⟨rfl,.inr ⟨rfl,h4,hr3,x3⟩⟩
end Go.Proofs.Ytgdcmibdjiaofaa
namespace Go.Proofs.Ytgdcmibdjiaofaa
open Go.RowKit
theorem zat_get {l:List Int} {k:Nat} (h:k<l.length):l[k]? = some (zat l k):=by simp [zat,h]
theorem risU_le {l:List Int}:∀ {k j:Nat},risU l k=true→j≤k→risU l j=true
 | 0,j,h,hj=>by obtain rfl:=Nat.le_zero.1 hj;exact h
 | k+1,j,h,hj=>by
  by_cases e:j=k+1
  · subst e;exact h
  · rw [risU,Bool.and_eq_true] at h
    exact risU_le h.1 (by omega)
theorem risU_at {l:List Int} {k j:Nat} (h:risU l k=true) (hj:j<k):(j:Int)≤zat l j∧zat l j<64:=by
 have h1:=risU_le h (show j+1≤k from hj)
 clear h
 induction j with
 | zero=>rw [risU,Bool.and_eq_true,Bool.and_eq_true,decide_eq_true_eq,decide_eq_true_eq] at h1;exact ⟨by have:=h1.2.1;simp only [lastZ] at this;omega,h1.2.2⟩
 | succ j ih =>
  have h2:=ih (by omega) (risU_le h1 (by omega))
  rw [risU,Bool.and_eq_true,Bool.and_eq_true,decide_eq_true_eq,decide_eq_true_eq] at h1
  exact ⟨by have:=h1.2.1;simp only [lastZ] at this;omega,h1.2.2⟩
theorem risU_len {l:List Int} {k:Nat} (h:risU l k=true):k≤64:=by
 cases k with
 | zero=>omega
 | succ k=>have:=risU_at h (Nat.lt_succ_self k);omega
theorem risU_false {l:List Int} {k:Nat} (h:(decide (lastZ l k<zat l k) && decide (zat l k<64))=false):∀ {n},k<n→risU l n=false
 | 0,hk=>by omega
 | n+1,hk=>by
  rw [risU]
  by_cases e:k=n
  · subst e;rw [h,Bool.and_false]
  · rw [risU_false h (by omega),Bool.false_and]
set_option maxRecDepth 20000 in
set_option maxHeartbeats 2000000 in
theorem rising_any (v:Value) (l:List Int) (w:World) (hv:ZIn w v l) (hl:l.length<140737488355000):Calls Try.prog 100 #[v] w fun e w'=>e = .returned (.bool (risU l l.length))∧w'=w:=by
 obtain ⟨x,c,rfl,hz⟩:=hv
 obtain ⟨n,hn⟩:∃ n,n=l.length:=⟨_,rfl⟩
 have Hn:=Hid.mk' hn
 have HZ:=Hid.mk' hz
 rw [←hn] at hl ⊢
 obtain ⟨B,hB⟩:∃ B,B=risU l n:=⟨_,rfl⟩
 have HB:=Hid.mk' hB
 rw [←hB]
 clear hn hz hB
 go_enter Try.func100,Try.ntmps100
 go_wp2
 go_loopw [3,8] (fun t i wr=>∃ k:Nat,k≤n∧i = .int .i64 k∧t = .int .i64 (lastZ l k)∧risU l k=true∧wr=w) (fun _ i _=>n - (intOf i).toNat)
 case atStart=>exact ⟨0,Nat.zero_le _,rfl,rfl,rfl,rfl⟩
 case round =>
  obtain ⟨k,hk,rfl,rfl,hal,rfl⟩:=hrel
  by_cases hlt:k<n
  · obtain ⟨g,o,rfl,hg,hc⟩:=HZ.out k _ (zat_get (by rw [←Hn.out];exact hlt))
    have e1:lastZ l (k+1)=zat l k:=rfl
    have E1:=Hid.mk' e1
    have E2:Hid (∀ b,(decide (lastZ l k<zat l k) && decide (zat l k<64))=b→risU l (k+1)=b):=Hid.mk' (fun b h=>by rw [risU,hal,h];rfl)
    have E3:Hid ((decide (lastZ l k<zat l k) && decide (zat l k<64))=false→B=false):=Hid.mk' (fun h=>by rw [HB.out];exact risU_false h hlt)
    clear e1 hal HB
    generalize zat l k=z at *
    generalize lastZ l k=t at *
    by_cases h1:z≤t
    · have hBf:=E3.out (by rw [decide_eq_false (by omega)];rfl)
      go_wp2
      go_ret
      exact ⟨by first | rfl | (rw [hBf];rfl),rfl⟩
    · have h1d:decide (z≤t)=false:=by simp [h1]
      by_cases h2:64≤z
      · have hBf:=E3.out (by rw [decide_eq_false (show ¬z<64 by omega),Bool.and_false])
        go_wp2
        go_ret
        exact ⟨by first | rfl | (rw [hBf];rfl),rfl⟩
      · go_wp2
        go_roundw
        case rel=>exact ⟨k+1,by omega,by go_num,by rw [E1.out],E2.out true (by rw [decide_eq_true (by omega),decide_eq_true (by omega)];rfl),by first | rfl | trivial⟩
        case measure=>simp [intOf];omega
  · obtain rfl:k=n:=by omega
    have hBt:B=true:=by rw [HB.out];exact hal
    go_wp2
    go_ret
    exact ⟨by rw [hBt];rfl,rfl⟩
theorem umL (k:Nat):sumN (fun _=>4) k=4*k:=by
 induction k with
 | zero=>rfl
 | succ k ih=>show sumN _ k+4=_;omega
set_option maxRecDepth 20000 in
theorem lAl (q p o:Nat) (v:Value) (l:List Int) (w:World) (h1:w.cell? ⟨q,0,none⟩=some (pA p o)) (hp:w.cell? ⟨p,o,none⟩=some v) (hv:ZIn w v l) (hl:l.length<140737488355000) :
 Calls Try.prog 99 #[pA q 0] w fun e w'=>e = .returned (.bool (risU l l.length))∧w'=w:=by
 have c:=rising_any v l w hv hl
 go_enter Try.func99,Try.ntmps99
 go_wp2_with (go_at_call 100;refine c.mono ?_;clear c;rintro e w1 ⟨rfl,hw⟩;obtain rfl:=hw.symm)
 go_ret
 exact ⟨rfl,rfl⟩
set_option maxRecDepth 20000 in
set_option maxHeartbeats 2000000 in
theorem lPut (q p o:Nat) (v:Value) (l:List Int) (w:World) (h1:w.cell? ⟨q,0,none⟩=some (pA p o)) (hp:w.cell? ⟨p,o,none⟩=some v) (hv:ZIn w v l) (hr:risU l l.length=true) :
 Calls Try.prog 101 #[pA q 0] w fun e w'=>∃ s,e = .returned s∧Own w.heap.size w' s (vcL (4*l.length)) (vcB (4*l.length) (umB l l.length))∧Below w.heap.size w w':=by
 have hlen:=risU_len hr
 obtain ⟨x,c,rfl,hz⟩:=hv
 obtain ⟨n,hn⟩:∃ n,n=l.length:=⟨_,rfl⟩
 have Hn:=Hid.mk' hn
 have HZ:=Hid.mk' hz
 have HR:=Hid.mk' hr
 rw [←hn] at hlen hp ⊢
 have c2:=sure_ok
 clear hn hz hr
 go_enter Try.func101,Try.ntmps101
 go_wp2
 go_loopw [2,9] (fun t i wr=>∃ k:Nat,k≤n∧i = .int .i64 k∧(∃ xa ca,t = .slice xa (4*k) ca∧Own w.heap.size wr (.slice xa (4*k) ca) (4*k) (umB l k))∧Below w.heap.size w wr) (fun _ i _=>n - (intOf i).toNat)
 case atStart=>exact ⟨0,Nat.zero_le _,rfl,⟨none,0,rfl,Own.nil _ _ _⟩,Below.refl _ _⟩
 case round =>
  obtain ⟨k,hk,rfl,⟨xa,ca,rfl,own⟩,hb⟩:=hrel
  by_cases hlt:k<n
  · obtain ⟨g,ob,rfl,hg,hc⟩:=HZ.out k _ (zat_get (by rw [←Hn.out];exact hlt))
    have hza:=risU_at HR.out (show k<l.length by rw [←Hn.out];exact hlt)
    have hcw:=(hb.cell (p:=⟨g,ob+k,none⟩) hg).trans hc
    obtain ⟨z,hzz⟩:∃ z:Nat,z=(zat l k).toNat:=⟨_,rfl⟩
    have ez:zat l k=(z:Int):=by omega
    rw [ez] at hcw
    have c1:=cNum11_good z 4 rfl (by show z<4294967296;omega) wr
    have HN:Hid (umB l (k+1)=cat (4*k) (umB l k) (beN z 4)):=Hid.mk' (by rw [hzz];show cat (sumN (fun _=>4) k) _ _=_;rw [umL];rfl)
    have h4:4*k+4≤140737488355328:=by omega
    obtain ⟨Zi,hZi⟩:∃ Zi:Int,Zi=(z:Int):=⟨_,rfl⟩
    rw [←hZi] at c1 hcw
    obtain ⟨T,hT⟩:∃ T,T=4*k:=⟨_,rfl⟩
    have HT:=Hid.mk' hT
    rw [←hT] at own h4 HN ⊢
    clear hza ez hzz hc hZi hT
    generalize umB l k=F at *
    go_wp2_with (first
     | (go_at_call 88;refine c1.mono ?_;clear c1;rintro e w1 ⟨s1,rfl,hs1,b1⟩;(obtain ⟨x1,c1',hs1',hxn1,hc1,hsrc1⟩:=hs1.src);subst hs1';have hsrc:=hsrc1 w1 (Below.refl _ _);have ownW:=own.below b1;have hbw1:=below_next hb b1)
     | (go_at_call 82;refine (c2 _ _).mono ?_;rintro e w2 ⟨rfl,hw⟩;obtain rfl:=hw.symm)
     | (at_builtin;refine wpList_append_bytes rfl (.tmp 13) (.tmp 18) rfl w.heap.size _ T F rfl ownW x1 4 c1' (beN z 4) rfl hsrc hxn1 h4 hbw1.size ?_;intro v2 w3 own2 grow2;have hbw2:=Own.grown hbw1 grow2 ownW (Nat.le_refl _) hbw1.size;(obtain ⟨x2,c3,hv2⟩:=own2.slice);subst hv2))
    go_roundw
    case rel=>exact ⟨k+1,by omega,by go_num,⟨x2,c3,by rw [HT.out];rfl,by rw [HN.out];rw [show 4*(k+1)=T+4 by rw [HT.out];omega];exact own2⟩,hbw2⟩
    case measure=>simp [intOf];omega
  · obtain rfl:k=n:=by omega
    have c1:=cVec11_good _ (4*k) _ (by omega) wr (BytesIn.of_own own)
    go_wp2_with (first
     | (go_at_call 83;refine c1.mono ?_;clear c1;rintro e w1 ⟨s1,rfl,o1,b1⟩)
     | (go_at_call 82;refine (c2 _ _).mono ?_;rintro e w2 ⟨rfl,hw⟩;obtain rfl:=hw.symm))
    go_ret
    exact ⟨_,rfl,own_base o1 hb.size,below_next hb b1⟩
theorem lnP {lo hi:Nat} {w:World} {f:Fd} {p o:Nat} (h:LnD lo hi w f p o) {v:Value} {l:List Int} (hc:w.cell? ⟨p,o,none⟩=some v) (hv:ZIn w v l) (hl:l.length<140737488355000):FieldPut w f (risU l l.length) (vcL (4*l.length)) (vcB (4*l.length) (umB l l.length)):=by
 have hp:=block_lt_of_cell hc
 obtain ⟨q,rfl,B⟩:=h
 refine ⟨fun W=>by kernel_rfl,fun W=>by kernel_rfl,fun W hb => ?_,fun ha W hb => ?_⟩
 · exact (lAl q p o v l W ((B.nth 0 hb).cell (o:=0) rfl) ((hb.cell (p:=⟨p,o,none⟩) hp).trans hc) (hv.keep hb) hl).mono fun e w' ⟨h1,h2⟩=>⟨h1,by rw [h2];exact Below.refl _ _⟩
 · exact (lPut q p o v l W ((B.nth 0 hb).cell (o:=0) rfl) ((hb.cell (p:=⟨p,o,none⟩) hp).trans hc) (hv.keep hb) ha).mono fun e w' ⟨s,h1,h2,h3⟩=>⟨s,h1,BytesIn.of_own h2,h3⟩
end Go.Proofs.Ytgdcmibdjiaofaa
