/- What the proof stands on: N3S, N3T, T4B, I2Math, I2Ref, I2Rp, I2Rb, I2Rw, I2Fl. -/
import Derived.Test.YtddkbmnkbfciaaaGreatDoorBaseM
import Derived.Test.YtddkbmnkbfciaaaGreatDoorN3PM
import Derived.Test.YtddkbmnkbfciaaaGreatDoorRFnM
import Derived.Laws.Externs
import Derived.Laws.FloatArith
namespace Go.Proofs.YtddkbmnkbfciaaaGreatDoor
open Go.RowKit
theorem fld0 (i j k:Nat) (c d e:Array Value) (W:World):(Instr.field 243 (.agg #[clo i c,clo j d,clo k e]) 0).run Tryz.prog W = .ok (clo i c) W:=by kernel_rfl
theorem fld1 (i j k:Nat) (c d e:Array Value) (W:World):(Instr.field 243 (.agg #[clo i c,clo j d,clo k e]) 1).run Tryz.prog W = .ok (clo j d) W:=by kernel_rfl
set_option maxRecDepth 20000 in
theorem lhAl (k:Nat) (c:Array Value) (f:Fd) (al:Bool) (w:World) (hk:RW w k 0 [clo 292 c]) (cK:Calls Tryz.prog 292 c w fun e w'=>e = .returned f.val∧Below w.heap.size w w') (h0:∀ W,(callFunc f.i0 f.c0).run Tryz.prog W = .ok (.enter f.i0 f.c0) W)
 (hal:∀ W,Below w.heap.size w W→Calls Tryz.prog f.i0 f.c0 W fun e w'=>e = .returned (.bool al)∧Below W.heap.size W w'):Calls Tryz.prog 293 #[pA k 0] w fun e w'=>e = .returned (.bool al)∧Below w.heap.size w w':=by
 obtain ⟨i0,c0,i1,c1,i2,c2⟩:=f
 have q:=hk.cell (o:=0) rfl
 replace cK:Calls Tryz.prog 292 c w fun e w'=>e = .returned (.agg #[clo i0 c0,clo i1 c1,clo i2 c2])∧Below w.heap.size w w':=cK
 have hK:∀ W,(callFunc 292 c).run Tryz.prog W = .ok (.enter 292 c) W:=fun W=>by kernel_rfl
 have hA:=Hid.mk' hal
 clear hal hk
 have hfl:=fld0 i0 i1 i2 c0 c1 c2
 go_enter Tryz.func293,Tryz.ntmps293
 go_wp2_with (first
  | (with_reducible (refine id (?_:wpList _ _ _ _ _ _));refine wpList_clo rfl cK hK _ _ rfl rfl ?_;clear cK;rintro e w1 ⟨rfl,b1⟩;refine .inl ⟨_,rfl,?_⟩;have ca:=hA.out w1 b1)
  | (with_reducible (refine id (?_:wpList _ _ _ _ _ _));refine wpList_clo rfl ca h0 _ _ rfl rfl ?_;clear ca;rintro e w2 ⟨rfl,b2⟩;refine .inl ⟨_,rfl,?_⟩))
 go_ret
 exact ⟨rfl,below_next b1 b2⟩
set_option maxRecDepth 20000 in
theorem lhPut (k:Nat) (c:Array Value) (f:Fd) (n:Nat) (b:Nat→Nat) (w:World) (hk:RW w k 0 [clo 292 c]) (cK:Calls Tryz.prog 292 c w fun e w'=>e = .returned f.val∧Below w.heap.size w w') (h0:∀ W,(callFunc f.i1 f.c1).run Tryz.prog W = .ok (.enter f.i1 f.c1) W)
 (hal:∀ W,Below w.heap.size w W→Calls Tryz.prog f.i1 f.c1 W fun e w'=>∃ s,e = .returned s∧BytesIn w' s n b∧Below W.heap.size W w'):Calls Tryz.prog 294 #[pA k 0] w fun e w'=>∃ s,e = .returned s∧BytesIn w' s n b∧Below w.heap.size w w':=by
 obtain ⟨i0,c0,i1,c1,i2,c2⟩:=f
 have q:=hk.cell (o:=0) rfl
 replace cK:Calls Tryz.prog 292 c w fun e w'=>e = .returned (.agg #[clo i0 c0,clo i1 c1,clo i2 c2])∧Below w.heap.size w w':=cK
 have hK:∀ W,(callFunc 292 c).run Tryz.prog W = .ok (.enter 292 c) W:=fun W=>by kernel_rfl
 have hA:=Hid.mk' hal
 clear hal hk
 have hfl:=fld1 i0 i1 i2 c0 c1 c2
 go_enter Tryz.func294,Tryz.ntmps294
 go_wp2_with (first
  | (with_reducible (refine id (?_:wpList _ _ _ _ _ _));refine wpList_clo rfl cK hK _ _ rfl rfl ?_;clear cK;rintro e w1 ⟨rfl,b1⟩;refine .inl ⟨_,rfl,?_⟩;have ca:=hA.out w1 b1)
  | (with_reducible (refine id (?_:wpList _ _ _ _ _ _));refine wpList_clo rfl ca h0 _ _ rfl rfl ?_;clear ca;rintro e w2 ⟨s,rfl,hs,b2⟩;refine .inl ⟨_,rfl,?_⟩))
 go_ret
 exact ⟨_,rfl,hs,below_next b1 b2⟩
theorem BytesIn.zero {w:World} {v:Value} {b b':Nat→Nat} (h:BytesIn w v 0 b):BytesIn w v 0 b':=by
 rcases h with h | ⟨bb,ob,cap,h1,h2,h3,h4⟩
 · exact .inl h
 · exact .inr ⟨bb,ob,cap,h1,h2,h3,fun j hj=>by omega⟩
theorem lhP {lo hi:Nat} {w:World} {f:Fd} {p o:Nat} (h:LhD lo hi w f p o) {src:Int} {v:Value} {n:Nat} {b:Nat→Nat} (h3:w.cell? ⟨p,o+3,none⟩=some (.int .i64 src)) (hc:w.cell? ⟨p,o+4,none⟩=some v) (hv:BytesIn w v n b):FieldPut w f (if src=3 then decide (n=0) || decide (n=32) else decide (n=0)) (if src=3 then vcL n else 0) (vcB n b):=by
 have hp:=block_lt_of_cell h3
 obtain ⟨q,q0,q1,s1,s2,s3,g9,g10,k,rfl,B⟩:=h
 have f9:HonD lo hi w ⟨268,#[pA q0 0],265,#[pA q1 0],267,#[pA q1 0]⟩ p (o+4):=⟨q0,q1,rfl,fun x hx=>B x (by simp at hx;rcases hx with rfl | rfl <;> simp)⟩
 have f10:VecD lo hi w ⟨264,#[pA s1 0,pA s2 0,pA s3 0],265,#[pA s1 0],267,#[pA s1 0]⟩ p (o+4) 0 0:=⟨s1,s2,s3,rfl,fun x hx=>B x (by simp at hx;rcases hx with rfl | rfl | rfl <;> simp)⟩
 have P9:=honP f9 hc hp hv
 have P10:=unwP (vecP f10 hc hp hv (by decide))
 have cK:∀ W,Below w.heap.size w W→Calls Tryz.prog 292 #[pA q 0,pA g9 0,pA g10 0] W fun e w'=>e = .returned (if src=3 then Fd.val ⟨268,#[pA q0 0],265,#[pA q1 0],267,#[pA q1 0]⟩ else Fd.val (unwD ⟨264,#[pA s1 0,pA s2 0,pA s3 0],265,#[pA s1 0],267,#[pA s1 0]⟩))∧Below W.heap.size W w':=fun W hb =>
  kind_any q g9 g10 p o src _ _ W (B.nth 0 hb) ((hb.cell (p:=⟨p,o+3,none⟩) hp).trans h3) (B.nth 6 hb) (B.nth 7 hb)
 by_cases hs:src=3
 · rw [if_pos hs,if_pos hs]
   simp only [if_pos hs] at cK
   exact ⟨fun W=>by kernel_rfl,fun W=>by kernel_rfl,fun W hb=>lhAl k _ _ _ W (B.nth 8 hb) (cK W hb) P9.h0 (fun W' hb'=>P9.allow W' (below_next hb hb')),fun ha W hb=>lhPut k _ _ _ _ W (B.nth 8 hb) (cK W hb) P9.h1 (fun W' hb'=>P9.put ha W' (below_next hb hb'))⟩
 · rw [if_neg hs,if_neg hs]
   simp only [if_neg hs] at cK
   have e:(decide ((0:Int)≤(n:Int)) && decide ((n:Int)≤0))=decide (n=0):=by rw [Bool.eq_iff_iff];simp only [Bool.and_eq_true,decide_eq_true_eq];omega
   rw [e] at P10
   exact ⟨fun W=>by kernel_rfl,fun W=>by kernel_rfl,fun W hb=>lhAl k _ _ _ W (B.nth 8 hb) (cK W hb) P10.h0 (fun W' hb'=>P10.allow W' (below_next hb hb')),fun ha W hb=>(lhPut k _ _ 0 (fun _=>0) W (B.nth 8 hb) (cK W hb) P10.h1 (fun W' hb'=>P10.put ha W' (below_next hb hb'))).mono fun e w' ⟨s,h1,h2,h3⟩=>⟨s,h1,h2.zero,h3⟩⟩
def LfIn (w:World) (cs:List Value) (d:LfD):Prop:=∃ v0 v1 v2 v4 v5,cs=[v0,v1,v2,.int .i64 d.src,v4,v5]∧BytesIn w v0 d.enc.n d.enc.b∧BytesIn w v1 d.sig.n d.sig.b∧BytesIn w v2 d.name.n d.name.b∧BytesIn w v4 d.hash.n d.hash.b∧BytesIn w v5 d.sg.n d.sg.b
theorem LfIn.keep {w w':World} {cs:List Value} {d:LfD} (h:LfIn w cs d) (hb:Below w.heap.size w w'):LfIn w' cs d:=by
 obtain ⟨v0,v1,v2,v4,v5,e,h0,h1,h2,h4,h5⟩:=h
 exact ⟨v0,v1,v2,v4,v5,e,h0.keep hb,h1.keep hb,h2.keep hb,h4.keep hb,h5.keep hb⟩
theorem leafP {lo hi:Nat} {w:World} {p o:Nat} {last:Int} {f0 f1 f2 f3 f4 f5:Fd} (h:LeafFs lo hi w p o last f0 f1 f2 f3 f4 f5) (hl:last≤3) {cs:List Value} {d:LfD} (hr:RW w p o cs) (hd:LfIn w cs d):∀ i f,[f0,f1,f2,f3,f4,f5][i]? = some f→FieldPut w f (lfA d last i) (lfN d i) (lfB d i):=by
 obtain ⟨v0,v1,v2,v4,v5,rfl,h0,h1,h2,h4,h5⟩:=hd
 have c0:w.cell? ⟨p,o,none⟩=some v0:=hr.range 0 v0 rfl
 have c1:=hr.range 1 v1 rfl
 have c2:=hr.range 2 v2 rfl
 have c3:=hr.range 3 _ rfl
 have c4:=hr.range 4 v4 rfl
 have c5:=hr.range 5 v5 rfl
 intro i f hi
 match i,hi with
 | 0,hi=>cases hi;exact vecP h.e0 c0 hr.lt h0 (by decide)
 | 1,hi=>cases hi;exact vecP h.e1 c1 hr.lt h1 (by decide)
 | 2,hi=>cases hi;exact vecP h.e2 c2 hr.lt h2 (by decide)
 | 3,hi=>cases hi;exact numP (s:=1) h.e3 c3 hr.lt (by decide) rfl (by show last<256;omega)
 | 4,hi=>cases hi;exact lhP h.e4 c3 c4 h4
 | 5,hi=>cases hi;exact vecP h.e5 c5 hr.lt h5 (by decide)
 | n+6,hi=>simp at hi
theorem lf_small {d:LfD} {last:Int}:∀ i,i<6→lfA d last i=true→lfN d i≤70000:=by
 have hv:∀ n,n≤65536→vcL n≤70000:=fun n hn=>by have:=lnS_pos n;unfold vcL;omega
 intro i hi ha
 match i with
 | 0=>simp only [lfA,Bool.and_eq_true,decide_eq_true_eq] at ha;exact hv _ (by omega)
 | 1=>simp only [lfA,Bool.and_eq_true,decide_eq_true_eq] at ha;exact hv _ (by omega)
 | 2=>simp only [lfA,Bool.and_eq_true,decide_eq_true_eq] at ha;exact hv _ (by omega)
 | 3=>show 1≤70000;omega
 | 4 =>
  show (if d.src=3 then vcL d.hash.n else 0)≤70000
  have ha':(if d.src=3 then decide (d.hash.n=0) || decide (d.hash.n=32) else decide (d.hash.n=0))=true:=ha
  split
  · rename_i hs
    rw [if_pos hs,Bool.or_eq_true,decide_eq_true_eq,decide_eq_true_eq] at ha'
    exact hv _ (by omega)
  · omega
 | 5=>simp only [lfA,Bool.and_eq_true,decide_eq_true_eq] at ha;exact hv _ (by omega)
 | n+6=>omega
def lfLen (d:LfD):Nat:=sumN (lfN d) 6
def lfByt (d:LfD):Nat→Nat:=allB (lfN d) (lfB d) 6
open Classical in
def PutA (R:Prop) (n:Nat) (b:Nat→Nat) (e:Ending) (w':World):Prop:=if R then ∃ s,e = .returned (.tuple #[s,.int .i64 0])∧BytesIn w' s n b else e = .returned (.tuple #[.slice none 0 0,.int .i64 1])
theorem PutA.keep {R:Prop} {n:Nat} {b:Nat→Nat} {e:Ending} {w w':World} (h:PutA R n b e w) (hb:Below w.heap.size w w'):PutA R n b e w':=by
 unfold PutA at *
 split
 · rename_i hR;rw [if_pos hR] at h;obtain ⟨s,h1,h2⟩:=h;exact ⟨s,h1,h2.keep hb⟩
 · rename_i hR;rw [if_neg hR] at h;exact h
theorem putA {R:Prop} {al:Nat→Bool} {n m:Nat} {b:Nat→Nat} {e:Ending} {w':World} (hi:allU al m=true↔R) (h:if allU al m=true then ∃ s,e = .returned (.tuple #[s,.int .i64 0])∧BytesIn w' s n b else e = .returned (.tuple #[.slice none 0 0,.int .i64 1])):PutA R n b e w':=by
 unfold PutA
 by_cases hR:R
 · rw [if_pos hR];rw [if_pos (hi.2 hR)] at h;exact h
 · rw [if_neg hR];rw [if_neg (fun e=>hR (hi.1 e))] at h;exact h
theorem PutA.form {R:Prop} {n:Nat} {b:Nat→Nat} {e:Ending} {w:World} (h:PutA R n b e w):∃ s z,e = .returned (.tuple #[s,.int .i64 z]):=by
 unfold PutA at h
 split at h
 · obtain ⟨s,h1,-⟩:=h;exact ⟨s,0,h1⟩
 · exact ⟨_,1,h⟩
theorem lf_any (p o:Nat) (w:World):Calls Tryz.prog 204 #[pA p o] w fun e w'=>∃ v f0 f1 f2 f3 f4 f5,e = .returned v∧FL w.heap.size w' v [f0,f1,f2,f3,f4,f5]∧LeafFs w.heap.size w'.heap.size w' p o 3 f0 f1 f2 f3 f4 f5∧Below w.heap.size w w':=by
 have c:=lft_any p o 3 w
 go_enter Tryz.func204,Tryz.ntmps204
 go_wp2_with (go_at_call 240;refine c.mono ?_;clear c;rintro e w1 ⟨v,f0,f1,f2,f3,f4,f5,rfl,h1,h2,h3⟩)
 go_ret
 exact ⟨_,f0,f1,f2,f3,f4,f5,rfl,h1,h2,h3⟩
set_option maxRecDepth 20000 in
set_option maxHeartbeats 1000000 in
theorem putLeaf_any (cs:List Value) (d:LfD) (w:World) (hd:LfIn w cs d):Calls Tryz.prog 164 #[.agg cs.toArray] w fun e w'=>Below w.heap.size w w'∧PutA (lfR d 3) (lfLen d) (lfByt d) e w':=by
 have hd':=hd
 obtain ⟨v0,v1,v2,v4,v5,rfl,-⟩:=hd
 have k1:=RW.fresh w [v0,v1,v2,.int .i64 d.src,v4,v5] 54
 have b1:Below w.heap.size w (w.alloc (.cells #[v0,v1,v2,.int .i64 d.src,v4,v5] 54)):=(Below.refl _ _).alloc (Nat.le_refl _) _
 obtain ⟨W,hW⟩:∃ W,W=w.alloc (.cells #[v0,v1,v2,.int .i64 d.src,v4,v5] 54):=⟨_,rfl⟩
 rw [show w.alloc (.cells [v0,v1,v2,.int .i64 d.src,v4,v5].toArray 54)=W from hW.symm] at k1
 rw [←hW] at b1
 have HW:=Hid.mk' hW
 have cl:=lf_any w.heap.size 0 W
 have hdW:=Hid.mk' (hd'.keep b1)
 have K1:=Hid.mk' k1
 generalize d.src=src at *
 clear hW hd' k1
 go_enter Tryz.func164,Tryz.ntmps164
 go_upto_region 1 with (fail)
 rw [←HW.out]
 go_wp2_with (first
  | (go_at_call 204;refine cl.mono ?_;clear cl;rintro e w1 ⟨v,f0,f1,f2,f3,f4,f5,rfl,g1,g2,c1⟩;(have cp:=put_any _ v _ (lfA d 3) (lfN d) (lfB d) w1 g1 (by simp) (by simp) lf_small (leafP g2 (by decide) (K1.out.still c1) (hdW.out.keep c1))))
  | (go_at_call 213;refine cp.mono ?_;clear cp;rintro e w2 ⟨c2,hA⟩;(replace hA:=Hid.mk' (putA (lf_all d 3) hA));obtain ⟨s,z,rfl⟩:=hA.out.form))
 go_ret2
 exact ⟨below_next (below_next b1 c1) c2,hA.out⟩
end Go.Proofs.YtddkbmnkbfciaaaGreatDoor
namespace Go.Proofs.YtddkbmnkbfciaaaGreatDoor
open Go.RowKit
def PrIn (w:World) (cs:List Value) (d:PrD):Prop:=∃ v0 v1 v2,cs=[v0,v1,v2]∧BytesIn w v0 d.enc.n d.enc.b∧BytesIn w v1 d.hash.n d.hash.b∧ZIn w v2 d.um
theorem PrIn.keep {w w':World} {cs:List Value} {d:PrD} (h:PrIn w cs d) (hb:Below w.heap.size w w'):PrIn w' cs d:=by
 obtain ⟨v0,v1,v2,e,h0,h1,h2⟩:=h
 exact ⟨v0,v1,v2,e,h0.keep hb,h1.keep hb,h2.keep hb⟩
def PkIn (w:World) (cs:List Value) (d:PkD):Prop:=∃ v0 l v7,cs=v0 :: (l ++ [v7])∧BytesIn w v0 d.init.n d.init.b∧LfIn w l d.leaf∧BytesIn w v7 d.sg.n d.sg.b
theorem PkIn.keep {w w':World} {cs:List Value} {d:PkD} (h:PkIn w cs d) (hb:Below w.heap.size w w'):PkIn w' cs d:=by
 obtain ⟨v0,l,v7,e,h0,h1,h2⟩:=h
 exact ⟨v0,l,v7,e,h0.keep hb,h1.keep hb,h2.keep hb⟩
theorem vcL_small {n:Nat} (h:n≤65536):vcL n≤70000:=by have:=lnS_pos n;unfold vcL;omega
theorem parP {lo hi:Nat} {w:World} {p:Nat} {f0 f1 f2:Fd} (h:ParFs lo hi w p f0 f1 f2) {cs:List Value} {d:PrD} (hr:RW w p 0 cs) (hd:PrIn w cs d) (hl:d.um.length<140737488355000):∀ i f,[f0,f1,f2][i]? = some f→FieldPut w f (prA d i) (prN d i) (prB d i):=by
 obtain ⟨v0,v1,v2,rfl,h0,h1,h2⟩:=hd
 intro i f hi
 match i,hi with
 | 0,hi=>cases hi;exact vecP h.e0 (hr.cell (o:=0) rfl) hr.lt h0 (by decide)
 | 1,hi=>cases hi;exact honP h.e1 (hr.cell (o:=1) rfl) hr.lt h1
 | 2,hi=>cases hi;exact lnP h.e2 (hr.cell (o:=2) rfl) h2 hl
 | n+3,hi=>simp at hi
theorem pr_small {d:PrD}:∀ i,i<3→prA d i=true→prN d i≤70000:=by
 intro i hi ha
 match i with
 | 0=>simp only [prA,Bool.and_eq_true,decide_eq_true_eq] at ha;exact vcL_small (by omega)
 | 1=>simp only [prA,Bool.or_eq_true,decide_eq_true_eq] at ha;exact vcL_small (by omega)
 | 2=>have:=risU_len (show risU d.um d.um.length=true from ha);exact vcL_small (by omega)
 | n+3=>omega
def prLen (d:PrD):Nat:=sumN (prN d) 3
def prByt (d:PrD):Nat→Nat:=allB (prN d) (prB d) 3
set_option maxRecDepth 20000 in
set_option maxHeartbeats 1000000 in
theorem putParent_any (cs:List Value) (d:PrD) (w:World) (hd:PrIn w cs d) (hl:d.um.length<140737488355000):Calls Tryz.prog 325 #[.agg cs.toArray] w fun e w'=>Below w.heap.size w w'∧PutA (prR d) (prLen d) (prByt d) e w':=by
 have hd':=hd
 obtain ⟨v0,v1,v2,rfl,-⟩:=hd
 have k1:=RW.fresh w [v0,v1,v2] 58
 have b1:Below w.heap.size w (w.alloc (.cells #[v0,v1,v2] 58)):=(Below.refl _ _).alloc (Nat.le_refl _) _
 obtain ⟨W,hW⟩:∃ W,W=w.alloc (.cells #[v0,v1,v2] 58):=⟨_,rfl⟩
 rw [show w.alloc (.cells [v0,v1,v2].toArray 58)=W from hW.symm] at k1
 rw [←hW] at b1
 have HW:=Hid.mk' hW
 have cl:=pf_any w.heap.size W
 have hdW:=Hid.mk' (hd'.keep b1)
 have K1:=Hid.mk' k1
 clear hW hd' k1
 go_enter Tryz.func325,Tryz.ntmps325
 go_upto_region 1 with (fail)
 rw [←HW.out]
 go_wp2_with (first
  | (go_at_call 206;refine cl.mono ?_;clear cl;rintro e w1 ⟨v,f0,f1,f2,rfl,g1,g2,c1⟩;(have cp:=put_any _ v _ (prA d) (prN d) (prB d) w1 g1 (by simp) (by simp) pr_small (parP g2 (K1.out.still c1) (hdW.out.keep c1) hl)))
  | (go_at_call 213;refine cp.mono ?_;clear cp;rintro e w2 ⟨c2,hA⟩;(replace hA:=Hid.mk' (putA (pr_all d) hA));obtain ⟨s,z,rfl⟩:=hA.out.form))
 go_ret2
 exact ⟨below_next (below_next b1 c1) c2,hA.out⟩
end Go.Proofs.YtddkbmnkbfciaaaGreatDoor
namespace Go.Proofs.YtddkbmnkbfciaaaGreatDoor
open Go.RowKit Go.Shelf
def BO (ok:Nat→Prop) (w:World) (v:Value) (n:Nat) (bs:Nat→Nat):Prop:=(∃ xo,v = .slice xo 0 0∧n=0)∨∃ bb ob cap,v = .slice (some ⟨bb,ob,none⟩) n cap∧ok bb∧bb<w.heap.size∧n≤cap∧∀ j,j<n→w.cell? ⟨bb,ob+j,none⟩=some (.int .u8 (bs j))
theorem BO.of {ok:Nat→Prop} {w:World} {v:Value} {n:Nat} {bs:Nat→Nat} (h:BO ok w v n bs):BytesIn w v n bs:=by
 rcases h with h | ⟨bb,ob,cap,h1,-,h2⟩
 · exact .inl h
 · exact .inr ⟨bb,ob,cap,h1,h2⟩
theorem BO.all {w:World} {v:Value} {n:Nat} {bs:Nat→Nat} (h:BytesIn w v n bs):BO (fun _=>True) w v n bs:=by
 rcases h with h | ⟨bb,ob,cap,h1,h2⟩
 · exact .inl h
 · exact .inr ⟨bb,ob,cap,h1,trivial,h2⟩
theorem BO.wide {ok ok':Nat→Prop} {w:World} {v:Value} {n:Nat} {bs:Nat→Nat} (h:BO ok w v n bs) (e:∀ b,b<w.heap.size→ok b→ok' b):BO ok' w v n bs:=by
 rcases h with h | ⟨bb,ob,cap,h1,h0,h2,h3⟩
 · exact .inl h
 · exact .inr ⟨bb,ob,cap,h1,e bb h2 h0,h2,h3⟩
theorem BO.same {ok:Nat→Prop} {w w':World} {v:Value} {n:Nat} {bs:Nat→Nat} (h:BO ok w v n bs) (hs:w.heap.size≤w'.heap.size) (e:∀ b,b<w.heap.size→ok b→w'.heap[b]? = w.heap[b]?):BO ok w' v n bs:=by
 rcases h with h | ⟨bb,ob,cap,h1,h0,h2,h3,h4⟩
 · exact .inl h
 · exact .inr ⟨bb,ob,cap,h1,h0,by omega,h3,fun j hj=>(World.cell?_of_block (w:=w) (e bb h2 h0)).trans (h4 j hj)⟩
theorem BO.own {base:Nat} {w:World} {v:Value} {n:Nat} {X:Nat→Nat} (h:Own base w v n X):BO (fun b=>base≤b) w v n X:=by
 rcases BI.own h with h | ⟨bb,ob,cap,h1,⟨h0,h2⟩,h3⟩
 · exact .inl h
 · exact .inr ⟨bb,ob,cap,h1,h0,h2,h3⟩
theorem BO.row {w:World} {g o n c:Nat} {X:Nat→Nat} (hc:n≤c) (h:RowAt .u8 w g o n X) (hg:g<w.heap.size):BO (fun b=>b=g) w (.slice (some ⟨g,o,none⟩) n c) n X :=
 .inr ⟨g,o,c,rfl,rfl,hg,hc,fun j hj=>(h j hj).1⟩
def ZO (ok:Nat→Prop) (w:World) (v:Value) (l:List Int):Prop:=∃ x c,v = .slice x l.length c∧l.length≤c∧(x=none→c=0)∧∀ i z,l[i]? = some z→∃ g o,x=some ⟨g,o,none⟩∧ok g∧g<w.heap.size∧w.cell? ⟨g,o+i,none⟩=some (.int .i64 z)
theorem ZO.of {ok:Nat→Prop} {w:World} {v:Value} {l:List Int} (h:ZO ok w v l):ZIn w v l:=by
 obtain ⟨x,c,h1,-,-,h2⟩:=h
 refine ⟨x,c,h1,fun i z hz => ?_⟩
 obtain ⟨g,o,e,-,h3⟩:=h2 i z hz
 exact ⟨g,o,e,h3⟩
theorem ZO.wide {ok ok':Nat→Prop} {w:World} {v:Value} {l:List Int} (h:ZO ok w v l) (e:∀ b,b<w.heap.size→ok b→ok' b):ZO ok' w v l:=by
 obtain ⟨x,c,h1,h0,h0',h2⟩:=h
 refine ⟨x,c,h1,h0,h0',fun i z hz => ?_⟩
 obtain ⟨g,o,e1,h3,h4,h5⟩:=h2 i z hz
 exact ⟨g,o,e1,e g h4 h3,h4,h5⟩
theorem ZO.same {ok:Nat→Prop} {w w':World} {v:Value} {l:List Int} (h:ZO ok w v l) (hs:w.heap.size≤w'.heap.size) (e:∀ b,b<w.heap.size→ok b→w'.heap[b]? = w.heap[b]?):ZO ok w' v l:=by
 obtain ⟨x,c,h1,h0,h0',h2⟩:=h
 refine ⟨x,c,h1,h0,h0',fun i z hz => ?_⟩
 obtain ⟨g,o,e1,h3,h4,h5⟩:=h2 i z hz
 exact ⟨g,o,e1,h3,by omega,(World.cell?_of_block (w:=w) (e g h4 h3)).trans h5⟩
theorem ZO.nil (ok:Nat→Prop) (w:World):ZO ok w (.slice none 0 0) []:=⟨none,0,rfl,Nat.le_refl _,fun _=>rfl,fun i z h=>by simp at h⟩
def LfO (ok:Nat→Prop) (w:World) (cs:List Value) (d:LfD):Prop:=∃ v0 v1 v2 v4 v5,cs=[v0,v1,v2,.int .i64 d.src,v4,v5]∧BO ok w v0 d.enc.n d.enc.b∧BO ok w v1 d.sig.n d.sig.b∧BO ok w v2 d.name.n d.name.b∧BO ok w v4 d.hash.n d.hash.b∧BO ok w v5 d.sg.n d.sg.b
def PrO (ok:Nat→Prop) (w:World) (cs:List Value) (d:PrD):Prop:=∃ v0 v1 v2,cs=[v0,v1,v2]∧BO ok w v0 d.enc.n d.enc.b∧BO ok w v1 d.hash.n d.hash.b∧ZO ok w v2 d.um
theorem LfO.of {ok:Nat→Prop} {w:World} {cs:List Value} {d:LfD} (h:LfO ok w cs d):LfIn w cs d:=by
 obtain ⟨v0,v1,v2,v4,v5,h0,h1,h2,h3,h4,h5⟩:=h
 exact ⟨v0,v1,v2,v4,v5,h0,h1.of,h2.of,h3.of,h4.of,h5.of⟩
theorem PrO.of {ok:Nat→Prop} {w:World} {cs:List Value} {d:PrD} (h:PrO ok w cs d):PrIn w cs d:=by
 obtain ⟨v0,v1,v2,h0,h1,h2,h3⟩:=h
 exact ⟨v0,v1,v2,h0,h1.of,h2.of,h3.of⟩
theorem LfO.wide {ok ok':Nat→Prop} {w:World} {cs:List Value} {d:LfD} (h:LfO ok w cs d) (e:∀ b,b<w.heap.size→ok b→ok' b):LfO ok' w cs d:=by
 obtain ⟨v0,v1,v2,v4,v5,h0,h1,h2,h3,h4,h5⟩:=h
 exact ⟨v0,v1,v2,v4,v5,h0,h1.wide e,h2.wide e,h3.wide e,h4.wide e,h5.wide e⟩
theorem PrO.wide {ok ok':Nat→Prop} {w:World} {cs:List Value} {d:PrD} (h:PrO ok w cs d) (e:∀ b,b<w.heap.size→ok b→ok' b):PrO ok' w cs d:=by
 obtain ⟨v0,v1,v2,h0,h1,h2,h3⟩:=h
 exact ⟨v0,v1,v2,h0,h1.wide e,h2.wide e,h3.wide e⟩
theorem LfO.same {ok:Nat→Prop} {w w':World} {cs:List Value} {d:LfD} (h:LfO ok w cs d) (hs:w.heap.size≤w'.heap.size) (e:∀ b,b<w.heap.size→ok b→w'.heap[b]? = w.heap[b]?):LfO ok w' cs d:=by
 obtain ⟨v0,v1,v2,v4,v5,h0,h1,h2,h3,h4,h5⟩:=h
 exact ⟨v0,v1,v2,v4,v5,h0,h1.same hs e,h2.same hs e,h3.same hs e,h4.same hs e,h5.same hs e⟩
theorem PrO.same {ok:Nat→Prop} {w w':World} {cs:List Value} {d:PrD} (h:PrO ok w cs d) (hs:w.heap.size≤w'.heap.size) (e:∀ b,b<w.heap.size→ok b→w'.heap[b]? = w.heap[b]?):PrO ok w' cs d:=by
 obtain ⟨v0,v1,v2,h0,h1,h2,h3⟩:=h
 exact ⟨v0,v1,v2,h0,h1.same hs e,h2.same hs e,h3.same hs e⟩
inductive Nd where
 | lf (d:LfD)
 | pr (d:PrD)
def NdO (ok:Nat→Prop) (w:World) (v:Value):Nd→Prop
 | .lf d=>∃ cs,v = .iface 117 (.agg cs.toArray)∧LfO ok w cs d
 | .pr d=>∃ cs,v = .iface 121 (.agg cs.toArray)∧PrO ok w cs d
theorem NdO.wide {ok ok':Nat→Prop} {w:World} {v:Value} {d:Nd} (h:NdO ok w v d) (e:∀ b,b<w.heap.size→ok b→ok' b):NdO ok' w v d:=by
 cases d with
 | lf d=>obtain ⟨cs,h1,h2⟩:=h;exact ⟨cs,h1,h2.wide e⟩
 | pr d=>obtain ⟨cs,h1,h2⟩:=h;exact ⟨cs,h1,h2.wide e⟩
theorem NdO.same {ok:Nat→Prop} {w w':World} {v:Value} {d:Nd} (h:NdO ok w v d) (hs:w.heap.size≤w'.heap.size) (e:∀ b,b<w.heap.size→ok b→w'.heap[b]? = w.heap[b]?):NdO ok w' v d:=by
 cases d with
 | lf d=>obtain ⟨cs,h1,h2⟩:=h;exact ⟨cs,h1,h2.same hs e⟩
 | pr d=>obtain ⟨cs,h1,h2⟩:=h;exact ⟨cs,h1,h2.same hs e⟩
structure Tr where
 n:Nat
 nd:Int→Option Nd
def HoldsN (ok:Nat→Prop) (w:World) (f:Int→Option Value) (F:Int→Option Nd):Prop:=∀ x,match F x with
 | none=>f x=none
 | some d=>∃ v,f x=some v∧NdO ok w v d
structure TrAt (ok:Nat→Prop) (w:World) (tb mb:Nat) (T:Tr):Prop where
 lv:w.cell? ⟨tb,0,none⟩=some (.int .i64 (T.n:Int))
 lf:w.frozen? ⟨tb,0,none⟩=false
 st:w.cell? ⟨tb,1,none⟩=some (.map (some mb))
 mp:∃ f,MpAt w mb f∧HoldsN ok w f T.nd
 ntb:¬ok tb
 nmb:¬ok mb
theorem TrAt.tlt {ok:Nat→Prop} {w:World} {tb mb:Nat} {T:Tr} (h:TrAt ok w tb mb T):tb<w.heap.size:=block_lt_of_cell h.lv
theorem TrAt.mlt {ok:Nat→Prop} {w:World} {tb mb:Nat} {T:Tr} (h:TrAt ok w tb mb T):mb<w.heap.size:=by obtain ⟨f,h,-⟩:=h.mp;exact h.lt
theorem TrAt.ne {ok:Nat→Prop} {w:World} {tb mb:Nat} {T:Tr} (h:TrAt ok w tb mb T):tb≠mb:=fun e=>by
 obtain ⟨f,hm,-⟩:=h.mp
 have:=hm.nocell 0
 rw [←e,h.lv] at this;cases this
theorem HoldsN.wide {ok ok':Nat→Prop} {w:World} {f:Int→Option Value} {F:Int→Option Nd} (h:HoldsN ok w f F) (e:∀ b,b<w.heap.size→ok b→ok' b):HoldsN ok' w f F:=fun x=>by
 have hx:=h x
 cases hF:F x with
 | none=>rw [hF] at hx;exact hx
 | some d=>rw [hF] at hx;obtain ⟨v,h1,h2⟩:=hx;exact ⟨v,h1,h2.wide e⟩
theorem HoldsN.same {ok:Nat→Prop} {w w':World} {f:Int→Option Value} {F:Int→Option Nd} (h:HoldsN ok w f F) (hs:w.heap.size≤w'.heap.size) (e:∀ b,b<w.heap.size→ok b→w'.heap[b]? = w.heap[b]?):HoldsN ok w' f F:=fun x=>by
 have hx:=h x
 cases hF:F x with
 | none=>rw [hF] at hx;exact hx
 | some d=>rw [hF] at hx;obtain ⟨v,h1,h2⟩:=hx;exact ⟨v,h1,h2.same hs e⟩
theorem TrAt.same {ok:Nat→Prop} {w w':World} {tb mb:Nat} {T:Tr} (h:TrAt ok w tb mb T) (hs:w.heap.size≤w'.heap.size) (e:∀ b,b<w.heap.size→(ok b∨b=tb∨b=mb)→w'.heap[b]? = w.heap[b]?):TrAt ok w' tb mb T:=by
 have et:=e tb h.tlt (.inr (.inl rfl))
 obtain ⟨f,h1,h2⟩:=h.mp
 exact ⟨(World.cell?_of_block (w:=w) et).trans h.lv,(World.frozen?_of_block (w:=w) et).trans h.lf,(World.cell?_of_block (w:=w) et).trans h.st,⟨f,h1.same (e mb h1.lt (.inr (.inr rfl))),h2.same hs (fun b hb ho=>e b hb (.inl ho))⟩,h.ntb,h.nmb⟩
theorem TrAt.below {ok:Nat→Prop} {w w':World} {tb mb:Nat} {T:Tr} (h:TrAt ok w tb mb T) (hb:Below w.heap.size w w'):TrAt ok w' tb mb T:=h.same hb.size (fun b hl _=>hb.block b hl)
theorem HoldsN.look {ok:Nat→Prop} {w:World} {f:Int→Option Value} {F:Int→Option Nd} (h:HoldsN ok w f F) (x:Int):(F x=none∧f x=none)∨∃ d v,F x=some d∧f x=some v∧NdO ok w v d:=by
 have hx:=h x
 cases hF:F x with
 | none=>rw [hF] at hx;exact .inl ⟨rfl,hx⟩
 | some d=>rw [hF] at hx;obtain ⟨v,h1,h2⟩:=hx;exact .inr ⟨d,v,rfl,h1,h2⟩
def upn (F:Int→Option Nd) (k:Int) (d:Option Nd):Int→Option Nd:=fun j=>if j=k then d else F j
theorem HoldsN.put {ok:Nat→Prop} {w:World} {f:Int→Option Value} {F:Int→Option Nd} (h:HoldsN ok w f F) (k:Int) {v:Value} {d:Nd} (hd:NdO ok w v d):HoldsN ok w (upm f k (some v)) (upn F k (some d)):=fun x=>by
 unfold upm upn
 by_cases e:x=k
 · simp only [e,if_true];exact ⟨v,rfl,hd⟩
 · simp only [if_neg e];exact h x
theorem HoldsN.del {ok:Nat→Prop} {w:World} {f:Int→Option Value} {F:Int→Option Nd} (h:HoldsN ok w f F) (k:Int):HoldsN ok w (upm f k none) (upn F k none):=fun x=>by
 unfold upm upn
 by_cases e:x=k
 · simp only [e,if_true]
 · simp only [if_neg e];exact h x
end Go.Proofs.YtddkbmnkbfciaaaGreatDoor
namespace Go.Proofs.YtddkbmnkbfciaaaGreatDoor
open Go.RowKit
def levF:Nat→Nat→Nat
 | 0,_=>0
 | f+1,x=>if x%2=1 then levF f (x / 2)+1 else 0
def levN (x:Nat):Nat:=levF 64 x
theorem levN_even {x:Nat} (he:¬x%2=1):levN x=0:=by
 show (if x%2=1 then levF 63 (x / 2)+1 else 0)=0
 rw [if_neg he]
def mayB (l:Int):Bool:=l == 1 || l == 2 || l == 4 || l == 8 || l == 16 || l == 32 || l == 64
theorem mayB_cases {l:Int} (h:mayB l=true):l=1∨l=2∨l=4∨l=8∨l=16∨l=32∨l=64:=by
 unfold mayB at h
 simpa [or_assoc] using h
def innB (x:Int):Bool:=decide (0≤x) && decide (x<127) && decide (x%2=1)
def lftN (x:Nat):Nat:=x - 2 ^ (levN x - 1)
def rgtN (x:Nat):Nat:=x+2 ^ (levN x - 1)
def lftA (x:Int):Int × Bool:=if innB x then ((lftN x.toNat:Int),true) else (-1,false)
def rgtA (x:Int):Int × Bool:=if innB x then ((rgtN x.toNat:Int),true) else (-1,false)
def hitB (x:Int) (y:Nat):Bool:=y%2 == 1 && ((lftN y:Int) == x || (rgtN y:Int) == x)
def parF (x:Int):Nat→Nat→Option Nat
 | _,0=>none
 | y,f+1=>if hitB x y then some y else parF x (y+1) f
def widN (l:Int):Nat:=if mayB l then (2*l - 1).toNat else 0
def parN (x l:Int):Option Nat:=parF x 0 (widN l)
def theB (i l:Int):Bool:=mayB l && decide (0≤i) && decide (i<l)
def belF:Nat→Nat→Int→Bool
 | 0,x,i=>decide ((x:Int)=2*i)
 | f+1,x,i=>if x%2=0 then decide ((x:Int)=2*i) else belF f (lftN x) i || belF f (rgtN x) i
def belB (x i:Int):Bool:=if x<0∨127≤x∨i<0∨64≤i then false else belF 7 x.toNat i
end Go.Proofs.YtddkbmnkbfciaaaGreatDoor
namespace Go.Proofs.YtddkbmnkbfciaaaGreatDoor
open Go.RowKit
theorem lev_small:∀ y,y<127→y%2=1→1≤levN y∧levN y≤6:=by
 have h:(List.range 127).all (fun y=>y%2 == 0 || (decide (1≤levN y) && decide (levN y≤6)))=true:=by kernel_rfl
 intro y hy ho
 have:=List.all_eq_true.1 h y (List.mem_range.2 hy)
 simp [ho] at this
 exact this
end Go.Proofs.YtddkbmnkbfciaaaGreatDoor
namespace Go.Proofs.YtddkbmnkbfciaaaGreatDoor
open Go.RowKit
theorem widN_le (l:Int):widN l≤127∧((if mayB l then 2*l - 1 else -1:Int)=if widN l=0 then -1 else (widN l:Int)):=by
 unfold widN
 by_cases h:mayB l=true
 · rw [if_pos h,if_pos h]
   rcases mayB_cases h with rfl | rfl | rfl | rfl | rfl | rfl | rfl <;> decide
 · rw [if_neg h,if_neg h]
   exact ⟨by decide,rfl⟩
theorem parF_some {x:Int}:∀ f y p,parF x y f=some p→y≤p∧p<y+f∧hitB x p=true
 | 0,_,_,h=>by cases h
 | f+1,y,p,h=>by
  by_cases hh:hitB x y=true
  · have h':(if hitB x y then some y else parF x (y+1) f)=some p:=h
    rw [if_pos hh] at h'
    cases h'
    exact ⟨Nat.le_refl _,by omega,hh⟩
  · have h':(if hitB x y then some y else parF x (y+1) f)=some p:=h
    rw [if_neg hh] at h'
    obtain ⟨h1,h2,h3⟩:=parF_some f (y+1) p h'
    exact ⟨by omega,by omega,h3⟩
theorem parN_some {x l:Int} {p:Nat} (h:parN x l=some p):p<widN l∧p<127∧p%2=1∧((lftN p:Int)=x∨(rgtN p:Int)=x):=by
 obtain ⟨-,h2,h3⟩:=parF_some _ _ _ h
 have hW:=(widN_le l).1
 unfold hitB at h3
 simp at h3
 exact ⟨by omega,by omega,h3.1,h3.2⟩
end Go.Proofs.YtddkbmnkbfciaaaGreatDoor
namespace Go.Proofs.YtddkbmnkbfciaaaGreatDoor
open Go.RowKit
theorem lev_parts:∀ y,y<127→y%2=1→levN (lftN y)=levN y - 1∧levN (rgtN y)=levN y - 1:=by
 have h:(List.range 127).all (fun y=>y%2 == 0 || (levN (lftN y) == levN y - 1 && levN (rgtN y) == levN y - 1))=true:=by kernel_rfl
 intro y hy ho
 have:=List.all_eq_true.1 h y (List.mem_range.2 hy)
 simp [ho] at this
 exact this
def colN (x:Nat):Nat:=x / 2 ^ (levN x+1)
end Go.Proofs.YtddkbmnkbfciaaaGreatDoor
namespace Go.Proofs.YtddkbmnkbfciaaaGreatDoor
open Go.RowKit
def upF (l:Int):Nat→Nat→List Int
 | 0,_=>[]
 | f+1,x=>match parN (x:Int) l with
  | some p=>(p:Int) :: upF l f p
  | none=>[]
def coF (l:Int):Nat→Nat→List Int
 | 0,_=>[]
 | f+1,x=>match parN (x:Int) l with
  | some p=>((lftN p:Int)+(rgtN p:Int) - (x:Int)) :: coF l f p
  | none=>[]
def pathL (i l:Int):List Int:=if theB i l then upF l 7 (2*i).toNat else []
def copathL (i l:Int):List Int:=if theB i l then coF l 7 (2*i).toNat else []
theorem lev_le6 {y:Nat} (hy:y<127):levN y≤6:=by
 by_cases ho:y%2=1
 · exact (lev_small y hy ho).2
 · rw [levN_even ho];decide
theorem par_lev {x p:Nat} {l:Int} (h:parN (x:Int) l=some p):p<127∧levN p=levN x+1:=by
 obtain ⟨-,h1,h2,h3⟩:=parN_some h
 obtain ⟨p1,p2⟩:=lev_parts p h1 h2
 have:=lev_small p h1 h2
 refine ⟨h1,?_⟩
 rcases h3 with e | e
 · have e':lftN p=x:=by omega
   rw [←e'];omega
 · have e':rgtN p=x:=by omega
   rw [←e'];omega
theorem theB_cases {i l:Int} (h:theB i l=true):mayB l=true∧0≤i∧i<l∧l≤64:=by
 unfold theB at h
 simp at h
 have:=mayB_cases h.1.1
 exact ⟨h.1.1,h.1.2,h.2,by omega⟩
end Go.Proofs.YtddkbmnkbfciaaaGreatDoor
namespace Go.Proofs.YtddkbmnkbfciaaaGreatDoor
open Go.RowKit
def FB (c:Nat):Nat:=floatOfInt .f64 (c:Int)
structure Fin0 (x:Nat):Prop where
 abs:bits BinOp.andNot .u64 (x:Int) 9223372036854775808=(x:Int)
 max:FloatKind.f64.format.order x 9218868437227405311=some .lt
 self:FloatKind.f64.format.order x x=some .eq
 neg:FloatKind.f64.format.order x 0=some .gt∨FloatKind.f64.format.order x 0=some .eq
theorem fin_tab (c:Nat) (hc:c<128):Fin0 (FB c):=by
 have h:(List.range 128).all (fun c=>bits BinOp.andNot .u64 (FB c:Int) 9223372036854775808 == (FB c:Int) && FloatKind.f64.format.order (FB c) 9218868437227405311 == some .lt && FloatKind.f64.format.order (FB c) (FB c) == some .eq && (FloatKind.f64.format.order (FB c) 0 == some .gt || FloatKind.f64.format.order (FB c) 0 == some .eq))=true:=by kernel_rfl
 have:=List.all_eq_true.1 h c (List.mem_range.2 hc)
 simp only [Bool.and_eq_true,Bool.or_eq_true,beq_iff_eq] at this
 exact ⟨this.1.1.1,this.1.1.2,this.1.2,this.2⟩
theorem bits_run (x:Nat) (W:World):(callFunc 280 #[.float .f64 x]).run Tryz.prog W = .ok (.value (.int .u64 (x:Int))) W:=by
 rw [run_callFunc_extern (e:=Extern.MathFloatBits.float64bits) Tryz.func280 (by kernel_rfl) (by kernel_rfl) (by kernel_rfl) (by kernel_rfl)]
 rfl
theorem from_run (x:Nat) (W:World):(callFunc 279 #[.int .u64 (x:Int)]).run Tryz.prog W = .ok (.value (.float .f64 x)) W:=by
 rw [run_callFunc_extern (e:=Extern.MathFloatBits.float64frombits) Tryz.func279 (by kernel_rfl) (by kernel_rfl) (by kernel_rfl) (by kernel_rfl)]
 rfl
theorem abs_any (x:Nat) (hx:Fin0 x) (w:World):Calls Tryz.prog 255 #[.float .f64 x] w fun e w'=>e = .returned (.float .f64 x)∧w=w':=by
 have h1:=bits_run x
 have h2:=from_run x
 have h3:=hx.abs
 clear hx
 go_enter Tryz.func255,Tryz.ntmps255
 go_wp2
 go_ret
 exact ⟨rfl,rfl⟩
theorem isInf_any (x:Nat) (hx:Fin0 x) (w:World):Calls Tryz.prog 252 #[.float .f64 x,.int .i64 0] w fun e w'=>e = .returned (.bool false)∧w=w':=by
 have c:=abs_any x hx w
 have h:=hx.max
 clear hx
 go_enter Tryz.func252,Tryz.ntmps252
 go_wp2_with (go_at_call 255;refine c.mono ?_;clear c;rintro e w1 ⟨rfl,hw⟩;subst hw)
 go_ret
 exact ⟨rfl,rfl⟩
theorem isNaN_any (x:Nat) (hx:Fin0 x) (w:World):Calls Tryz.prog 251 #[.float .f64 x] w fun e w'=>e = .returned (.bool false)∧w=w':=by
 have h:=hx.self
 clear hx
 go_enter Tryz.func251,Tryz.ntmps251
 go_wp2
 go_ret
 exact ⟨rfl,rfl⟩
theorem normal_any (x:Nat) (hx:Fin0 x) (hs:FloatKind.f64.format.order x 4503599627370496=some .gt) (w:World):Calls Tryz.prog 298 #[.float .f64 x] w fun e w'=>e = .returned (.tuple #[.float .f64 x,.int .i64 0])∧w=w':=by
 have c:=abs_any x hx w
 clear hx
 go_enter Tryz.func298,Tryz.ntmps298
 go_wp2_with (go_at_call 255;refine c.mono ?_;clear c;rintro e w1 ⟨rfl,hw⟩;subst hw)
 go_ret2
 exact ⟨rfl,rfl⟩
structure Fin1 (x r:Nat) (z:Int):Prop where
 fin:Fin0 x
 pos:FloatKind.f64.format.order x 0=some .gt
 nor:FloatKind.f64.format.order x 4503599627370496=some .gt
 exp:wrap64 (wrap64 (wrap64 (wrap64 (bits .and .u64 ((x:Int) / 4503599627370496) 2047) - 1023)+1))=z
 frc:bits .or .u64 (bits .andNot .u64 (x:Int) 9218868437227405312) 4602678819172646912=(r:Int)
theorem frexp_any (x r:Nat) (z:Int) (hx:Fin1 x r z) (w:World):Calls Tryz.prog 282 #[.float .f64 x] w fun e w'=>e = .returned (.tuple #[.float .f64 r,.int .i64 z])∧w=w':=by
 have c1:=isInf_any x hx.fin w
 have c2:=isNaN_any x hx.fin w
 have c3:=normal_any x hx.fin hx.nor w
 have h1:=bits_run x
 have h2:=from_run r
 have h3:=hx.pos
 have h4:=hx.exp
 have h5:=hx.frc
 clear hx
 go_enter Tryz.func282,Tryz.ntmps282
 go_wp2_with (first
  | (go_at_call 252;refine c1.mono ?_;clear c1;rintro e w1 ⟨rfl,hw⟩;subst hw)
  | (go_at_call 251;refine c2.mono ?_;clear c2;rintro e w1 ⟨rfl,hw⟩;subst hw)
  | (go_at_call 298;refine c3.mono ?_;clear c3;rintro e w1 ⟨rfl,hw⟩;subst hw))
 rw [h4]
 go_ret2
 exact ⟨rfl,rfl⟩
theorem Frexp_any (x r:Nat) (z:Int) (hx:Fin1 x r z) (w:World):Calls Tryz.prog 256 #[.float .f64 x] w fun e w'=>e = .returned (.tuple #[.float .f64 r,.int .i64 z])∧w=w':=by
 have c:=frexp_any x r z hx w
 clear hx
 go_enter Tryz.func256,Tryz.ntmps256
 go_wp2_with (go_at_call 282;refine c.mono ?_;clear c;rintro e w1 ⟨rfl,hw⟩;subst hw)
 go_ret2
 exact ⟨rfl,rfl⟩
def frB (d:Nat):Nat:=(bits .or .u64 (bits .andNot .u64 (FB d:Int) 9218868437227405312) 4602678819172646912).toNat
theorem fin1_tab (d:Nat) (h0:0<d) (hd:d<128):Fin1 (FB d) (frB d) ((Nat.log2 d+1:Nat):Int):=by
 have h:(List.range 128).all (fun d=>d == 0 || (FloatKind.f64.format.order (FB d) 0 == some .gt && FloatKind.f64.format.order (FB d) 4503599627370496 == some .gt && wrap64 (wrap64 (wrap64 (wrap64 (bits .and .u64 ((FB d:Int) / 4503599627370496) 2047) - 1023)+1)) == ((Nat.log2 d+1:Nat):Int) && bits .or .u64 (bits .andNot .u64 (FB d:Int) 9218868437227405312) 4602678819172646912 == (frB d:Int)))=true:=by kernel_rfl
 have:=List.all_eq_true.1 h d (List.mem_range.2 hd)
 simp only [Bool.and_eq_true,Bool.or_eq_true,beq_iff_eq] at this
 have:=this.resolve_left (by omega)
 exact ⟨fin_tab d hd,this.1.1.1,this.1.1.2,this.1.2,this.2⟩
theorem ldexp_at (z:Int) (hz:0≤z) (hz4:z≤4) (v:Nat) (hv:bits BinOp.or IntKind.u64 0 ((z+1+1023)*4503599627370496)=(v:Int)) (hm:∀ W,(binOp .mul 142 (.float .f64 4607182418800017408) (.float .f64 v)).run Tryz.prog W = .ok (.float .f64 v) W) (w:World):Calls Tryz.prog 284 #[.float .f64 4611686018427387904,.int .i64 z] w fun e w'=>e = .returned (.float .f64 v)∧w=w':=by
 have hx:=fin1_tab 2 (by decide) (by decide)
 rw [show FB 2=4611686018427387904 by kernel_rfl] at hx
 have c1:=isInf_any _ hx.fin w
 have c2:=isNaN_any _ hx.fin w
 have c3:=normal_any _ hx.fin hx.nor w
 have h1:∀ W,(callFunc 280 #[.float .f64 4611686018427387904]).run Tryz.prog W = .ok (.value (.int .u64 4611686018427387904)) W:=bits_run 4611686018427387904
 have h2:=from_run v
 have h3:=hx.pos
 have h4:bits BinOp.and IntKind.i64 1024 2047=1024:=by kernel_rfl
 have h5:bits BinOp.andNot IntKind.u64 4611686018427387904 9218868437227405312=0:=by kernel_rfl
 have h6:wrap64 (1024 - 1023)=1:=by kernel_rfl
 have h7:wrap64 (z+1)=z+1:=by unfold wrap64;omega
 have t1:¬z+1 < -1075:=by omega
 have t2:¬z+1 > 1023:=by omega
 have t3:¬z+1 < -1022:=by omega
 clear hx
 go_enter Tryz.func284,Tryz.ntmps284
 go_wp2_with (first
  | (go_at_call 252;refine c1.mono ?_;clear c1;rintro e w1 ⟨rfl,hw⟩;subst hw)
  | (go_at_call 251;refine c2.mono ?_;clear c2;rintro e w1 ⟨rfl,hw⟩;subst hw)
  | (go_at_call 298;refine c3.mono ?_;clear c3;rintro e w1 ⟨rfl,hw⟩;subst hw))
 go_ret
 exact ⟨rfl,rfl⟩
theorem Ldexp_any (k:Nat) (hk:k≤4) (w:World):Calls Tryz.prog 257 #[.float .f64 4611686018427387904,.int .i64 (k:Int)] w fun e w'=>e = .returned (.float .f64 (FB (2 ^ (k+1))))∧w=w':=by
 have ht:(List.range 5).all (fun k=>bits BinOp.or IntKind.u64 0 (((k:Int)+1+1023)*4503599627370496) == (FB (2 ^ (k+1)):Int) && floatBits .mul .f64 4607182418800017408 (FB (2 ^ (k+1))) == some (FB (2 ^ (k+1))))=true:=by kernel_rfl
 have h:=List.all_eq_true.1 ht k (List.mem_range.2 (by omega))
 simp only [Bool.and_eq_true,beq_iff_eq] at h
 have c:=ldexp_at (k:Int) (by omega) (by omega) (FB (2 ^ (k+1))) h.1 (fun W=>run_float_arith W .mul _ .f64 _ _ _ h.2) w
 clear h ht
 generalize FB (2 ^ (k+1))=v at *
 go_enter Tryz.func257,Tryz.ntmps257
 go_wp2_with (go_at_call 284;refine c.mono ?_;clear c;rintro e w1 ⟨rfl,hw⟩;subst hw)
 go_ret
 exact ⟨rfl,rfl⟩
end Go.Proofs.YtddkbmnkbfciaaaGreatDoor
