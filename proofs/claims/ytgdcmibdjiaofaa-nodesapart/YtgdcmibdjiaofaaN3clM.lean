/- What the proof stands on: N3cl, N3rm, N3la, N3lb. -/
import Derived.Test.YtgdcmibdjiaofaaN3gKM
namespace Go.Proofs.Ytgdcmibdjiaofaa
open Go.RowKit
structure HB (B a b:Nat) (w w':World):Prop where
 os:w'.os=w.os
 tape:w'.tape=w.tape
 output:w'.output=w.output
 size:w.heap.size≤w'.heap.size
 block:∀ k,k<B→(k<a∨b≤k)→w'.heap[k]? = w.heap[k]?
theorem HB.refl (B a b:Nat) (w:World):HB B a b w w:=⟨rfl,rfl,rfl,Nat.le_refl _,fun _ _ _=>rfl⟩
theorem HB.trans {B a b:Nat} {u v w:World} (h:HB B a b u v) (k:HB B a b v w):HB B a b u w :=
 ⟨k.os.trans h.os,k.tape.trans h.tape,k.output.trans h.output,Nat.le_trans h.size k.size,fun i hi hb=>(k.block i hi hb).trans (h.block i hi hb)⟩
theorem HB.of_below {B a b:Nat} {w w':World} (h:Below w.heap.size w w') (hB:B≤w.heap.size):HB B a b w w':=⟨h.os,h.tape,h.output,h.size,fun k hk _=>h.block k (by omega)⟩
theorem HB.of_rest {B a b g:Nat} {w w':World} (h:Rest [g] w w') (hB:B≤w.heap.size) (hg:B≤g∨(a≤g∧g<b)):HB B a b w w':=⟨h.os,h.tape,h.output,h.size,fun k hk hn=>h.block k (by omega) (by simp;omega)⟩
theorem RW.hb {B a b:Nat} {w w':World} {g o:Nat} {cs:List Value} (h:RW w g o cs) (hb:HB B a b w w') (hg:g<B) (hn:g<a∨b≤g):RW w' g o cs :=
 ⟨fun j v hv=>(World.cell?_of_block (w:=w) (hb.block g hg hn)).trans (h.range j v hv),fun j hj=>by
   rw [World.cell?_of_block (w:=w) (hb.block g hg hn),World.frozen?_of_block (w:=w) (hb.block g hg hn)];exact h.there j hj,Nat.lt_of_lt_of_le h.lt hb.size⟩
theorem FR.hb {B a b:Nat} {w w':World} {g:Nat} {fs:List Fd} (h:FR w g fs) (hb:HB B a b w w') (hg:g<B) (hn:g<a∨b≤g):FR w' g fs:=⟨Nat.lt_of_lt_of_le h.lt hb.size,fun k f hk j v hv=>(World.cell?_of_block (w:=w) (hb.block g hg hn)).trans (h.at_ k f hk j v hv)⟩
theorem Bxs.hb {B a b lo hi:Nat} {w w':World} {L:List (Nat × List Value)} (h:Bxs lo hi w L) (hb:HB B a b w w') (h1:hi≤B) (h2:hi≤a∨b≤lo):Bxs lo hi w' L:=fun x hx=>by
 obtain ⟨c1,c2,r⟩:=h x hx
 exact ⟨c1,c2,r.hb hb (by omega) (by omega)⟩
theorem HB.below {B a b C:Nat} {w w':World} (h:HB B a b w w') (h1:C≤B) (h2:C≤a):Below C w w':=⟨h.os,h.tape,h.output,h.size,fun k hk=>h.block k (by omega) (.inl (by omega))⟩
theorem FL.other {X:List Nat} {base:Nat} {w w':World} {v:Value} {fs:List Fd} {g:Nat} (h:FL base w v fs) (hv:v.ownBlock=some g) (hb:Rest X w w') (hn:g ∉ X):FL base w' v fs:=by
 have hl:=(World.ownsRow.lt h g hv).2
 obtain ⟨h1,h2⟩:=h
 refine ⟨h1,?_⟩
 rcases h2 with h2 | ⟨g',cap,cur,hv',hg,r⟩
 · exact .inl h2
 · subst hv'
   obtain rfl:g'=g:=by simpa [Value.ownBlock] using hv
   refine .inr ⟨g',cap,cur,rfl,hg,?_⟩
   rw [hb.block g' hl hn]
   exact r
def ltA (d:LfD) (g:Tx) (z:Int):Nat→Bool
 | 0=>lfA d 3 0
 | 1=>lfA d 3 1
 | 2=>lfA d 3 2
 | 3=>lfA d 3 3
 | 4=>lfA d 3 4
 | 5=>lfA d 3 5
 | 6=>decide ((0:Int)≤(g.n:Int)) && decide ((g.n:Int)≤255)
 | _=>decide (0≤z) && decide (z≤63)
def ltN (d:LfD) (g:Tx):Nat→Nat
 | 0=>lfN d 0
 | 1=>lfN d 1
 | 2=>lfN d 2
 | 3=>lfN d 3
 | 4=>lfN d 4
 | 5=>0
 | 6=>if d.src=1 then 0 else vcL g.n
 | _=>if d.src=1 then 0 else 4
def ltB (d:LfD) (g:Tx) (z:Int):Nat→Nat→Nat
 | 0=>lfB d 0
 | 1=>lfB d 1
 | 2=>lfB d 2
 | 3=>lfB d 3
 | 4=>lfB d 4
 | 5=>fun _=>0
 | 6=>if d.src=1 then fun _=>0 else vcB g.n g.b
 | _=>if d.src=1 then fun _=>0 else beN z.toNat 4
def ltR (d:LfD) (g:Tx) (z:Int):Prop:=lfR d 3∧g.n≤255∧0≤z∧z<64
theorem lt_all (d:LfD) (g:Tx) (z:Int):allU (ltA d g z) 8=true↔ltR d g z:=by
 have h:=lf_all d 3
 rw [show allU (lfA d 3) 6=((((((true && lfA d 3 0) && lfA d 3 1) && lfA d 3 2) && lfA d 3 3) && lfA d 3 4) && lfA d 3 5) from rfl] at h
 rw [show allU (ltA d g z) 8=((((((((true && lfA d 3 0) && lfA d 3 1) && lfA d 3 2) && lfA d 3 3) && lfA d 3 4) && lfA d 3 5) && (decide ((0:Int)≤(g.n:Int)) && decide ((g.n:Int)≤255))) && (decide (0≤z) && decide (z≤63))) from rfl,Bool.and_eq_true,Bool.and_eq_true,h]
 unfold ltR
 simp only [Bool.and_eq_true,decide_eq_true_eq]
 constructor
 · rintro ⟨⟨a,b⟩,c⟩;exact ⟨a,by omega,by omega,by omega⟩
 · rintro ⟨a,b,c,e⟩;exact ⟨⟨a,by omega⟩,by omega⟩
theorem lt_small {d:LfD} {g:Tx} {z:Int}:∀ i,i<8→ltA d g z i=true→ltN d g i≤70000:=by
 intro i hi ha
 match i with
 | 0=>exact lf_small (last:=3) 0 (by omega) ha
 | 1=>exact lf_small (last:=3) 1 (by omega) ha
 | 2=>exact lf_small (last:=3) 2 (by omega) ha
 | 3=>exact lf_small (last:=3) 3 (by omega) ha
 | 4=>exact lf_small (last:=3) 4 (by omega) ha
 | 5=>exact Nat.zero_le _
 | 6 =>
  have ha':(decide ((0:Int)≤(g.n:Int)) && decide ((g.n:Int)≤255))=true:=ha
  rw [Bool.and_eq_true,decide_eq_true_eq,decide_eq_true_eq] at ha'
  show (if d.src=1 then 0 else vcL g.n)≤70000
  have:=vcL_small (n:=g.n) (by omega)
  split <;> omega
 | 7=>show (if d.src=1 then 0 else 4)≤70000;split <;> omega
 | n+8=>omega
def ltLen (d:LfD) (g:Tx):Nat:=sumN (ltN d g) 8
def ltByt (d:LfD) (g:Tx) (z:Int):Nat→Nat:=allB (ltN d g) (ltB d g z) 8
def maybe (d:LfD) (f:Fd):Fd:=if d.src=1 then unwD f else f
theorem lt_put {w:World} {p lo hi lo1 hi1 lo2 hi2 q z':Nat} {f0 f1 f2 f3 f4 f5 g0 g1:Fd} (h:LeafFs lo hi w p 0 3 f0 f1 f2 f3 f4 f5) {cs:List Value} {d:LfD} (hr:RW w p 0 cs) (hd:LfIn w cs d) (e0:VecD lo1 hi1 w g0 q 0 0 255) (e1:NumD lo2 hi2 w g1 z' 0 4 0 63) {v:Value} {g:Tx} {z:Int} (rq:RW w q 0 [v]) (hv:BytesIn w v g.n g.b) (rz:RW w z' 0 [.int .i64 z]):∀ i f,[f0,f1,f2,f3,f4,unwD f5,maybe d g0,maybe d g1][i]? = some f→FieldPut w f (ltA d g z i) (ltN d g i) (ltB d g z i):=by
 have L:=leafP h (by decide) hr hd
 have P0:=vecP e0 (rq.cell (o:=0) rfl) rq.lt hv (by decide)
 have P1:=numP (s:=4) e1 (rz.cell (o:=0) rfl) rz.lt (by decide) rfl (by decide)
 intro i f hi
 match i,hi with
 | 0,hi=>cases hi;exact L 0 _ rfl
 | 1,hi=>cases hi;exact L 1 _ rfl
 | 2,hi=>cases hi;exact L 2 _ rfl
 | 3,hi=>cases hi;exact L 3 _ rfl
 | 4,hi=>cases hi;exact L 4 _ rfl
 | 5,hi=>cases hi;exact unwP (L 5 _ rfl)
 | 6,hi =>
  cases hi
  show FieldPut w (maybe d g0) _ (if d.src=1 then 0 else vcL g.n) (if d.src=1 then fun _=>0 else vcB g.n g.b)
  unfold maybe
  by_cases hs:d.src=1
  · rw [if_pos hs,if_pos hs,if_pos hs];exact unwP P0
  · rw [if_neg hs,if_neg hs,if_neg hs];exact P0
 | 7,hi =>
  cases hi
  show FieldPut w (maybe d g1) _ (if d.src=1 then 0 else 4) (if d.src=1 then fun _=>0 else beN z.toNat 4)
  unfold maybe
  by_cases hs:d.src=1
  · rw [if_pos hs,if_pos hs,if_pos hs];exact unwP P1
  · rw [if_neg hs,if_neg hs,if_neg hs];exact P1
 | n+8,hi=>simp at hi
def LTs (d:LfD) (us ex:List Fd) (B a b:Nat) (w5 wr:World) (v:Value) (k:Nat):Prop:=k≤2∧∃ gb,FL a wr v (us ++ (ex.take k).map (maybe d))∧v.ownBlock=some gb∧(B≤gb∨(a≤gb∧gb<b))∧HB B a b w5 wr
set_option maxRecDepth 20000 in
set_option maxHeartbeats 2000000 in
theorem leafText_0 (cs:List Value) (d:LfD) (x:Option Addr) (g:Tx) (cx:Nat) (z:Int) (hs:¬d.src=1) (w:World) (hd:LfIn w cs d) (hg:BytesIn w (.slice x g.n cx) g.n g.b):Calls Try.prog 31 #[.agg cs.toArray,.slice x g.n cx,.int .i64 z] w fun e w'=>Below w.heap.size w w'∧PutA (ltR d g z) (ltLen d g) (ltByt d g z) e w':=by
 have hd':=hd
 obtain ⟨v0,v1,v2,v4,v5,rfl,-⟩:=hd
 obtain ⟨src,hsrc⟩:∃ src,src=d.src:=⟨_,rfl⟩
 rw [←hsrc] at hd' ⊢
 have hs':¬src=1:=by rw [hsrc];exact hs
 have HS:=Hid.mk' hs'
 clear hs' hsrc
 obtain ⟨n,hn⟩:∃ n,n=g.n:=⟨_,rfl⟩
 have Hn:=Hid.mk' hn
 rw [←hn] at hg ⊢
 have k1:=RW.fresh w [v0,v1,v2,.int .i64 src,v4,v5] 26
 have b1:Below w.heap.size w (w.alloc (.cells #[v0,v1,v2,.int .i64 src,v4,v5] 26)):=(Below.refl _ _).alloc (Nat.le_refl _) _
 have s1:(w.alloc (.cells #[v0,v1,v2,.int .i64 src,v4,v5] 26)).heap.size=w.heap.size+1:=by simp
 obtain ⟨W1,hW1⟩:∃ W1,W1=w.alloc (.cells #[v0,v1,v2,.int .i64 src,v4,v5] 26):=⟨_,rfl⟩
 rw [show w.alloc (.cells ([v0,v1,v2,.int .i64 src,v4,v5]).toArray 26)=W1 from hW1.symm] at k1
 rw [←hW1] at b1 s1
 obtain ⟨k2,b2,s2⟩:=bx W1 (.slice x n cx) 22
 obtain ⟨W2,hW2⟩:∃ W2,W2=W1.alloc (.cells #[.slice x n cx] 22):=⟨_,rfl⟩
 rw [←hW2] at k2 b2 s2
 obtain ⟨k3,b3,s3⟩:=bx W2 (.int .i64 z) 3
 obtain ⟨W,hW⟩:∃ W,W=W2.alloc (.cells #[.int .i64 z] 3):=⟨_,rfl⟩
 rw [←hW] at k3 b3 s3
 have HW:Hid (W=((w.alloc (.cells #[v0,v1,v2,.int .i64 src,v4,v5] 26)).alloc (.cells #[.slice x n cx] 22)).alloc (.cells #[.int .i64 z] 3)):=Hid.mk' (by rw [hW,hW2,hW1])
 rw [s1] at k2 s2
 rw [s2] at k3 s3
 have K1:=Hid.mk' ((k1.still b2).still b3)
 have K2:=Hid.mk' (k2.still b3)
 have K3:=Hid.mk' k3
 have bW:=below_next (below_next b1 b2) b3
 have HD:=Hid.mk' (hd'.keep bW)
 have HG:=Hid.mk' (hg.keep bW)
 have cl:=lf_any w.heap.size 0 W
 have S3:=Hid.mk' s3
 have q3:=K1.out.cell (o:=3) rfl
 obtain ⟨Pst,hP⟩:∃ Pst:Ending→World→Prop,Pst=fun e w'=>Below w.heap.size w w'∧PutA (ltR d g z) (ltLen d g) (ltByt d g z) e w':=⟨_,rfl⟩
 have HP:=Hid.mk' hP
 rw [←hP]
 clear hW hW1 hW2 k1 k2 k3 b1 b2 b3 s1 s2 s3 hd' hg hn hP q3
 go_enter Try.func31,Try.ntmps31
 go_upto_region 1 with (fail)
 rw [←HW.out]
 go_upto_region 2 with (first
  | (go_at_call 37;refine cl.mono ?_;clear cl;rintro e w1 ⟨v,f0,f1,f2,f3,f4,f5,rfl,g1,g2,c1⟩;(have cu:=unsigned_any _ v [f0,f1,f2,f3,f4] f5 w1 g1 (by simp)))
  | (go_at_call 56;refine cu.mono ?_;clear cu;rintro e w2 ⟨v2,gb,rfl,g3,ob,lb,c2⟩))
 have cv:=vecD_any (w.heap.size+1) 0 0 255 w2
 go_upto_region 3 with (first
  | (go_at_call 57;refine cv.mono ?_;clear cv;rintro e w3 ⟨h0,rfl,d0,c3⟩;(have cn:=numD_any (w.heap.size+1+1) 0 4 0 63 w3))
  | (go_at_call 58;refine cn.mono ?_;clear cn;rintro e w4 ⟨h1,rfl,d1,c4⟩;(obtain ⟨i0,a0,i1,a1,i2,a2⟩:=h0);(obtain ⟨j0,e0,j1,e1,j2,e2⟩:=h1)))
 have b5:Below w4.heap.size w4 (w4.alloc (.cells #[clo i0 a0,clo i1 a1,clo i2 a2,clo j0 e0,clo j1 e1,clo j2 e2] 102)):=(Below.refl _ _).alloc (Nat.le_refl _) _
 have r5:=FR.of_lit w4 [⟨i0,a0,i1,a1,i2,a2⟩,⟨j0,e0,j1,e1,j2,e2⟩]
 have s5:(w4.alloc (.cells #[clo i0 a0,clo i1 a1,clo i2 a2,clo j0 e0,clo j1 e1,clo j2 e2] 102)).heap.size=w4.heap.size+1:=by simp
 obtain ⟨W5,hW5⟩:∃ W5,W5=w4.alloc (.cells #[clo i0 a0,clo i1 a1,clo i2 a2,clo j0 e0,clo j1 e1,clo j2 e2] 102):=⟨_,rfl⟩
 rw [show w4.alloc (.cells ([(⟨i0,a0,i1,a1,i2,a2⟩:Fd),⟨j0,e0,j1,e1,j2,e2⟩].flatMap Fd.cells).toArray 102)=W5 from hW5.symm] at r5
 rw [←hW5] at b5 s5 ⊢
 have gl:=(World.ownsRow.lt g3 gb ob).2
 have zz1:=c1.size
 have zz2:=c2.size
 have zz3:=c3.size
 have zz4:=c4.size
 have b25:=below_next c3 (below_next c4 b5)
 have b15:=below_next c2 b25
 have bW5:=below_next c1 b15
 have F5:=Hid.mk' (g2.map fun L h=>h.still b15)
 have D0:=Hid.mk' (d0.map fun L h=>h.still (below_next c4 b5))
 have D1:=Hid.mk' (d1.map fun L h=>h.still b5)
 have R5:=Hid.mk' r5
 have K1':=Hid.mk' (K1.out.still bW5)
 have K2':=Hid.mk' (K2.out.still bW5)
 have K3':=Hid.mk' (K3.out.still bW5)
 have ini:LTs d [f0,f1,f2,f3,f4,unwD f5] [⟨i0,a0,i1,a1,i2,a2⟩,⟨j0,e0,j1,e1,j2,e2⟩] W5.heap.size w1.heap.size w2.heap.size W5 W5 v2 0:=⟨by omega,gb,g3.still b25,ob,.inr ⟨lb,gl⟩,HB.refl _ _ _ _⟩
 have sW:=S3.out
 clear hW5 r5 d0 d1 g1 g2 g3 ob lb gl c2 c3 c4 b5 K1 K2 K3 S3 b25
 go_loopw [8,17] (fun v i wr=>∃ k:Nat,i = .int .i64 k∧LTs d [f0,f1,f2,f3,f4,unwD f5] [⟨i0,a0,i1,a1,i2,a2⟩,⟨j0,e0,j1,e1,j2,e2⟩] W5.heap.size w1.heap.size w2.heap.size W5 wr v k) (fun _ i _=>2 - (intOf i).toNat)
 case atStart=>exact ⟨0,rfl,ini⟩
 case round =>
  clear ini
  obtain ⟨k,rfl,hk,gb,fl,ob,hgb,hb⟩:=hrel
  have zb:=hb.size
  have hcase:k=0∨k=1∨k=2:=by omega
  rcases hcase with rfl | rfl | rfl
  · replace fl:FL w1.heap.size wr _ ([f0,f1,f2,f3,f4,unwD f5]):=fl
    have fr':wr.rangeAt w4.heap.size 0 [clo i0 a0,clo i1 a1,clo i2 a2]:=((R5.out.hb hb (by omega) (.inr (by omega))).at_ 0 ⟨i0,a0,i1,a1,i2,a2⟩ rfl)
    have q1:=(K1'.out.hb hb (by omega) (.inl (by omega)))
    have k6:=(RW.fresh wr [.nilFunc,.nilFunc,.nilFunc] 102).stored [clo i0 a0,clo i1 a1,clo i2 a2] rfl
    have b6:Below wr.heap.size wr ((wr.alloc (.cells #[.nilFunc,.nilFunc,.nilFunc] 102)).setCells wr.heap.size 0 [clo i0 a0,clo i1 a1,clo i2 a2]):=b3 (Below.refl _ _) (Nat.le_refl _) rfl
    obtain ⟨W6,hW6⟩:∃ W6,W6=(wr.alloc (.cells #[.nilFunc,.nilFunc,.nilFunc] 102)).setCells wr.heap.size 0 [clo i0 a0,clo i1 a1,clo i2 a2]:=⟨_,rfl⟩
    have HW6:=Hid.mk' hW6
    rw [←hW6] at k6 b6
    clear hW6
    go_upto_region 5 with (first
     | (with_reducible (refine id (?_:wpList _ _ _ _ _ _));refine ldF _ rfl rfl fr' ?_ rfl)
     | (with_reducible (refine id (?_:wpList _ _ _ _ _ _));refine stF _ _ rfl rfl rfl rfl th3 ?_ rfl))
    dsimp only [Act.put]
    rw [show (wr.alloc (.cells [.nilFunc,.nilFunc,.nilFunc].toArray 102)).setCells wr.heap.size 0 [clo i0 a0,clo i1 a1,clo i2 a2]=W6 from HW6.out.symm]
    clear fr' HW6
    have q3:=(q1.still b6).cell (o:=3) rfl
    have fl6:=fl.still b6
    have z6:=b6.size
    have hs':=HS.out
    have r8:=k6
    have fl8:=fl6
    have b8:=b6
    have em:maybe d ⟨i0,a0,i1,a1,i2,a2⟩=⟨i0,a0,i1,a1,i2,a2⟩:=if_neg hs
    clear k6 fl6
    have rr8:=r8.range
    have b9:Below W6.heap.size W6 (W6.alloc (.cells #[clo i0 a0,clo i1 a1,clo i2 a2] 102)):=(Below.refl _ _).alloc (Nat.le_refl _) _
    have fr9:FR (W6.alloc (.cells #[clo i0 a0,clo i1 a1,clo i2 a2] 102)) W6.heap.size [(⟨i0,a0,i1,a1,i2,a2⟩:Fd)]:=FR.of_lit W6 [(⟨i0,a0,i1,a1,i2,a2⟩:Fd)]
    have fl9:=fl8.still b9
    have bb9:=below_next b8 b9
    have zb9:=bb9.size
    have EM:=Hid.mk' em
    clear em
    go_upto_region 8 with (first
     | (with_reducible (refine id (?_:wpList _ _ _ _ _ _));refine ldF _ rfl rfl rr8 ?_ rfl)
     | (at_builtin;refine wpList_app_fl rfl (.tmp 26) (.tmp 28) rfl rfl rfl ob fl9 rfl rfl fr9 (by simp) (by omega) ?_;intro v10 w10 g10 fl10 rs10 ob10 dg10))
    have hb10:=(hb.trans (HB.of_below bb9 (by omega))).trans (HB.of_rest rs10 (by omega) hgb)
    go_wp2
    go_roundw
    case rel =>
     refine ⟨0+1,by go_num,by omega,g10,?_,ob10,?_,hb10⟩
     · show FL _ _ _ ([f0,f1,f2,f3,f4,unwD f5] ++ [maybe d ⟨i0,a0,i1,a1,i2,a2⟩])
       rw [EM.out]
       exact fl10
     · rcases dg10 with rfl | rfl
       · exact hgb
       · exact .inl (by omega)
    case measure=>simp [intOf]
  · replace fl:FL w1.heap.size wr _ ([f0,f1,f2,f3,f4,unwD f5,maybe d ⟨i0,a0,i1,a1,i2,a2⟩]):=fl
    have fr':wr.rangeAt w4.heap.size 3 [clo j0 e0,clo j1 e1,clo j2 e2]:=((R5.out.hb hb (by omega) (.inr (by omega))).at_ 1 ⟨j0,e0,j1,e1,j2,e2⟩ rfl)
    have q1:=(K1'.out.hb hb (by omega) (.inl (by omega)))
    have k6:=(RW.fresh wr [.nilFunc,.nilFunc,.nilFunc] 102).stored [clo j0 e0,clo j1 e1,clo j2 e2] rfl
    have b6:Below wr.heap.size wr ((wr.alloc (.cells #[.nilFunc,.nilFunc,.nilFunc] 102)).setCells wr.heap.size 0 [clo j0 e0,clo j1 e1,clo j2 e2]):=b3 (Below.refl _ _) (Nat.le_refl _) rfl
    obtain ⟨W6,hW6⟩:∃ W6,W6=(wr.alloc (.cells #[.nilFunc,.nilFunc,.nilFunc] 102)).setCells wr.heap.size 0 [clo j0 e0,clo j1 e1,clo j2 e2]:=⟨_,rfl⟩
    have HW6:=Hid.mk' hW6
    rw [←hW6] at k6 b6
    clear hW6
    go_upto_region 5 with (first
     | (with_reducible (refine id (?_:wpList _ _ _ _ _ _));refine ldF _ rfl rfl fr' ?_ rfl)
     | (with_reducible (refine id (?_:wpList _ _ _ _ _ _));refine stF _ _ rfl rfl rfl rfl th3 ?_ rfl))
    dsimp only [Act.put]
    rw [show (wr.alloc (.cells [.nilFunc,.nilFunc,.nilFunc].toArray 102)).setCells wr.heap.size 0 [clo j0 e0,clo j1 e1,clo j2 e2]=W6 from HW6.out.symm]
    clear fr' HW6
    have q3:=(q1.still b6).cell (o:=3) rfl
    have fl6:=fl.still b6
    have z6:=b6.size
    have hs':=HS.out
    have r8:=k6
    have fl8:=fl6
    have b8:=b6
    have em:maybe d ⟨j0,e0,j1,e1,j2,e2⟩=⟨j0,e0,j1,e1,j2,e2⟩:=if_neg hs
    clear k6 fl6
    have rr8:=r8.range
    have b9:Below W6.heap.size W6 (W6.alloc (.cells #[clo j0 e0,clo j1 e1,clo j2 e2] 102)):=(Below.refl _ _).alloc (Nat.le_refl _) _
    have fr9:FR (W6.alloc (.cells #[clo j0 e0,clo j1 e1,clo j2 e2] 102)) W6.heap.size [(⟨j0,e0,j1,e1,j2,e2⟩:Fd)]:=FR.of_lit W6 [(⟨j0,e0,j1,e1,j2,e2⟩:Fd)]
    have fl9:=fl8.still b9
    have bb9:=below_next b8 b9
    have zb9:=bb9.size
    have EM:=Hid.mk' em
    clear em
    go_upto_region 8 with (first
     | (with_reducible (refine id (?_:wpList _ _ _ _ _ _));refine ldF _ rfl rfl rr8 ?_ rfl)
     | (at_builtin;refine wpList_app_fl rfl (.tmp 26) (.tmp 28) rfl rfl rfl ob fl9 rfl rfl fr9 (by simp) (by omega) ?_;intro v10 w10 g10 fl10 rs10 ob10 dg10))
    have hb10:=(hb.trans (HB.of_below bb9 (by omega))).trans (HB.of_rest rs10 (by omega) hgb)
    go_wp2
    go_roundw
    case rel =>
     refine ⟨1+1,by go_num,by omega,g10,?_,ob10,?_,hb10⟩
     · show FL _ _ _ ([f0,f1,f2,f3,f4,unwD f5,maybe d ⟨i0,a0,i1,a1,i2,a2⟩] ++ [maybe d ⟨j0,e0,j1,e1,j2,e2⟩])
       rw [EM.out]
       exact fl10
     · rcases dg10 with rfl | rfl
       · exact hgb
       · exact .inl (by omega)
    case measure=>simp [intOf]
  · replace fl:FL w1.heap.size wr _ [f0,f1,f2,f3,f4,unwD f5,maybe d ⟨i0,a0,i1,a1,i2,a2⟩,maybe d ⟨j0,e0,j1,e1,j2,e2⟩]:=fl
    have bwr:Below W.heap.size W wr:=bW5.trans (hb.below (by omega) (by omega))
    have cp:=put_any _ _ _ (ltA d g z) (ltN d g) (ltB d g z) wr fl (by simp) (by simp) lt_small (lt_put (F5.out.map fun L h=>h.hb hb (by omega) (.inl (by omega))) (K1'.out.hb hb (by omega) (.inl (by omega))) (HD.out.keep bwr) (D0.out.map fun L h=>h.hb hb (by omega) (.inr (by omega))) (D1.out.map fun L h=>h.hb hb (by omega) (.inr (by omega))) (K2'.out.hb hb (by omega) (.inl (by omega))) (show BytesIn wr (.slice x n cx) g.n g.b by have:=HG.out.keep bwr;rw [←Hn.out];exact this) (K3'.out.hb hb (by omega) (.inl (by omega))))
    go_wp2_with (go_at_call 36;refine cp.mono ?_;clear cp;rintro e w9 ⟨c9,hA⟩;(replace hA:=Hid.mk' (putA (lt_all d g z) hA));obtain ⟨s9,z9,rfl⟩:=hA.out.form)
    rw [HP.out]
    exact ⟨below_next (bW.trans (bwr.mono bW.size)) c9,hA.out⟩
set_option maxRecDepth 20000 in
set_option maxHeartbeats 2000000 in
theorem leafText_1 (cs:List Value) (d:LfD) (x:Option Addr) (g:Tx) (cx:Nat) (z:Int) (hs:d.src=1) (w:World) (hd:LfIn w cs d) (hg:BytesIn w (.slice x g.n cx) g.n g.b):Calls Try.prog 31 #[.agg cs.toArray,.slice x g.n cx,.int .i64 z] w fun e w'=>Below w.heap.size w w'∧PutA (ltR d g z) (ltLen d g) (ltByt d g z) e w':=by
 have hd':=hd
 obtain ⟨v0,v1,v2,v4,v5,rfl,-⟩:=hd
 obtain ⟨src,hsrc⟩:∃ src,src=d.src:=⟨_,rfl⟩
 rw [←hsrc] at hd' ⊢
 rw [hs] at hsrc
 subst hsrc
 obtain ⟨n,hn⟩:∃ n,n=g.n:=⟨_,rfl⟩
 have Hn:=Hid.mk' hn
 rw [←hn] at hg ⊢
 have k1:=RW.fresh w [v0,v1,v2,.int .i64 1,v4,v5] 26
 have b1:Below w.heap.size w (w.alloc (.cells #[v0,v1,v2,.int .i64 1,v4,v5] 26)):=(Below.refl _ _).alloc (Nat.le_refl _) _
 have s1:(w.alloc (.cells #[v0,v1,v2,.int .i64 1,v4,v5] 26)).heap.size=w.heap.size+1:=by simp
 obtain ⟨W1,hW1⟩:∃ W1,W1=w.alloc (.cells #[v0,v1,v2,.int .i64 1,v4,v5] 26):=⟨_,rfl⟩
 rw [show w.alloc (.cells ([v0,v1,v2,.int .i64 1,v4,v5]).toArray 26)=W1 from hW1.symm] at k1
 rw [←hW1] at b1 s1
 obtain ⟨k2,b2,s2⟩:=bx W1 (.slice x n cx) 22
 obtain ⟨W2,hW2⟩:∃ W2,W2=W1.alloc (.cells #[.slice x n cx] 22):=⟨_,rfl⟩
 rw [←hW2] at k2 b2 s2
 obtain ⟨k3,b3,s3⟩:=bx W2 (.int .i64 z) 3
 obtain ⟨W,hW⟩:∃ W,W=W2.alloc (.cells #[.int .i64 z] 3):=⟨_,rfl⟩
 rw [←hW] at k3 b3 s3
 have HW:Hid (W=((w.alloc (.cells #[v0,v1,v2,.int .i64 1,v4,v5] 26)).alloc (.cells #[.slice x n cx] 22)).alloc (.cells #[.int .i64 z] 3)):=Hid.mk' (by rw [hW,hW2,hW1])
 rw [s1] at k2 s2
 rw [s2] at k3 s3
 have K1:=Hid.mk' ((k1.still b2).still b3)
 have K2:=Hid.mk' (k2.still b3)
 have K3:=Hid.mk' k3
 have bW:=below_next (below_next b1 b2) b3
 have HD:=Hid.mk' (hd'.keep bW)
 have HG:=Hid.mk' (hg.keep bW)
 have cl:=lf_any w.heap.size 0 W
 have S3:=Hid.mk' s3
 have q3:=K1.out.cell (o:=3) rfl
 obtain ⟨Pst,hP⟩:∃ Pst:Ending→World→Prop,Pst=fun e w'=>Below w.heap.size w w'∧PutA (ltR d g z) (ltLen d g) (ltByt d g z) e w':=⟨_,rfl⟩
 have HP:=Hid.mk' hP
 rw [←hP]
 clear hW hW1 hW2 k1 k2 k3 b1 b2 b3 s1 s2 s3 hd' hg hn hP q3
 go_enter Try.func31,Try.ntmps31
 go_upto_region 1 with (fail)
 rw [←HW.out]
 go_upto_region 2 with (first
  | (go_at_call 37;refine cl.mono ?_;clear cl;rintro e w1 ⟨v,f0,f1,f2,f3,f4,f5,rfl,g1,g2,c1⟩;(have cu:=unsigned_any _ v [f0,f1,f2,f3,f4] f5 w1 g1 (by simp)))
  | (go_at_call 56;refine cu.mono ?_;clear cu;rintro e w2 ⟨v2,gb,rfl,g3,ob,lb,c2⟩))
 have cv:=vecD_any (w.heap.size+1) 0 0 255 w2
 go_upto_region 3 with (first
  | (go_at_call 57;refine cv.mono ?_;clear cv;rintro e w3 ⟨h0,rfl,d0,c3⟩;(have cn:=numD_any (w.heap.size+1+1) 0 4 0 63 w3))
  | (go_at_call 58;refine cn.mono ?_;clear cn;rintro e w4 ⟨h1,rfl,d1,c4⟩;(obtain ⟨i0,a0,i1,a1,i2,a2⟩:=h0);(obtain ⟨j0,e0,j1,e1,j2,e2⟩:=h1)))
 have b5:Below w4.heap.size w4 (w4.alloc (.cells #[clo i0 a0,clo i1 a1,clo i2 a2,clo j0 e0,clo j1 e1,clo j2 e2] 102)):=(Below.refl _ _).alloc (Nat.le_refl _) _
 have r5:=FR.of_lit w4 [⟨i0,a0,i1,a1,i2,a2⟩,⟨j0,e0,j1,e1,j2,e2⟩]
 have s5:(w4.alloc (.cells #[clo i0 a0,clo i1 a1,clo i2 a2,clo j0 e0,clo j1 e1,clo j2 e2] 102)).heap.size=w4.heap.size+1:=by simp
 obtain ⟨W5,hW5⟩:∃ W5,W5=w4.alloc (.cells #[clo i0 a0,clo i1 a1,clo i2 a2,clo j0 e0,clo j1 e1,clo j2 e2] 102):=⟨_,rfl⟩
 rw [show w4.alloc (.cells ([(⟨i0,a0,i1,a1,i2,a2⟩:Fd),⟨j0,e0,j1,e1,j2,e2⟩].flatMap Fd.cells).toArray 102)=W5 from hW5.symm] at r5
 rw [←hW5] at b5 s5 ⊢
 have gl:=(World.ownsRow.lt g3 gb ob).2
 have zz1:=c1.size
 have zz2:=c2.size
 have zz3:=c3.size
 have zz4:=c4.size
 have b25:=below_next c3 (below_next c4 b5)
 have b15:=below_next c2 b25
 have bW5:=below_next c1 b15
 have F5:=Hid.mk' (g2.map fun L h=>h.still b15)
 have D0:=Hid.mk' (d0.map fun L h=>h.still (below_next c4 b5))
 have D1:=Hid.mk' (d1.map fun L h=>h.still b5)
 have R5:=Hid.mk' r5
 have K1':=Hid.mk' (K1.out.still bW5)
 have K2':=Hid.mk' (K2.out.still bW5)
 have K3':=Hid.mk' (K3.out.still bW5)
 have ini:LTs d [f0,f1,f2,f3,f4,unwD f5] [⟨i0,a0,i1,a1,i2,a2⟩,⟨j0,e0,j1,e1,j2,e2⟩] W5.heap.size w1.heap.size w2.heap.size W5 W5 v2 0:=⟨by omega,gb,g3.still b25,ob,.inr ⟨lb,gl⟩,HB.refl _ _ _ _⟩
 have sW:=S3.out
 clear hW5 r5 d0 d1 g1 g2 g3 ob lb gl c2 c3 c4 b5 K1 K2 K3 S3 b25
 go_loopw [8,17] (fun v i wr=>∃ k:Nat,i = .int .i64 k∧LTs d [f0,f1,f2,f3,f4,unwD f5] [⟨i0,a0,i1,a1,i2,a2⟩,⟨j0,e0,j1,e1,j2,e2⟩] W5.heap.size w1.heap.size w2.heap.size W5 wr v k) (fun _ i _=>2 - (intOf i).toNat)
 case atStart=>exact ⟨0,rfl,ini⟩
 case round =>
  clear ini
  obtain ⟨k,rfl,hk,gb,fl,ob,hgb,hb⟩:=hrel
  have zb:=hb.size
  have hcase:k=0∨k=1∨k=2:=by omega
  rcases hcase with rfl | rfl | rfl
  · replace fl:FL w1.heap.size wr _ ([f0,f1,f2,f3,f4,unwD f5]):=fl
    have fr':wr.rangeAt w4.heap.size 0 [clo i0 a0,clo i1 a1,clo i2 a2]:=((R5.out.hb hb (by omega) (.inr (by omega))).at_ 0 ⟨i0,a0,i1,a1,i2,a2⟩ rfl)
    have q1:=(K1'.out.hb hb (by omega) (.inl (by omega)))
    have k6:=(RW.fresh wr [.nilFunc,.nilFunc,.nilFunc] 102).stored [clo i0 a0,clo i1 a1,clo i2 a2] rfl
    have b6:Below wr.heap.size wr ((wr.alloc (.cells #[.nilFunc,.nilFunc,.nilFunc] 102)).setCells wr.heap.size 0 [clo i0 a0,clo i1 a1,clo i2 a2]):=b3 (Below.refl _ _) (Nat.le_refl _) rfl
    obtain ⟨W6,hW6⟩:∃ W6,W6=(wr.alloc (.cells #[.nilFunc,.nilFunc,.nilFunc] 102)).setCells wr.heap.size 0 [clo i0 a0,clo i1 a1,clo i2 a2]:=⟨_,rfl⟩
    have HW6:=Hid.mk' hW6
    rw [←hW6] at k6 b6
    clear hW6
    go_upto_region 5 with (first
     | (with_reducible (refine id (?_:wpList _ _ _ _ _ _));refine ldF _ rfl rfl fr' ?_ rfl)
     | (with_reducible (refine id (?_:wpList _ _ _ _ _ _));refine stF _ _ rfl rfl rfl rfl th3 ?_ rfl))
    dsimp only [Act.put]
    rw [show (wr.alloc (.cells [.nilFunc,.nilFunc,.nilFunc].toArray 102)).setCells wr.heap.size 0 [clo i0 a0,clo i1 a1,clo i2 a2]=W6 from HW6.out.symm]
    clear fr' HW6
    have q3:=(q1.still b6).cell (o:=3) rfl
    have fl6:=fl.still b6
    have z6:=b6.size
    have cu:=unw_any i0 i1 i2 a0 a1 a2 W6
    have rr6:=k6.range
    go_upto_region 7 with (first
     | (with_reducible (refine id (?_:wpList _ _ _ _ _ _));refine ldF _ rfl rfl rr6 ?_ rfl)
     | (go_at_call 59;refine cu.mono ?_;clear cu;rintro e w7 ⟨rfl,b7⟩;(have tt7:=(k6.still b7).there))
     | (with_reducible (refine id (?_:wpList _ _ _ _ _ _));refine stF _ _ rfl rfl rfl rfl tt7 ?_ rfl))
    dsimp only [Act.put]
    have x8:Rest [wr.heap.size] w7 (w7.setCells wr.heap.size 0 [clo i0 a0,clo 91 #[],clo 92 #[]]):=Rest.of_out (Out.setCells (b:=wr.heap.size) (o:=0) (n:=3) w7 _ (Nat.le_refl _) (Nat.le_refl _)) (by simp)
    have r8:=(k6.still b7).stored [clo i0 a0,clo 91 #[],clo 92 #[]] rfl
    have hgw:=(World.ownsRow.lt fl gb ob).2
    have fl8:=(fl6.still b7).other ob x8 (by simp;omega)
    have b8:Below wr.heap.size wr (w7.setCells wr.heap.size 0 [clo i0 a0,clo 91 #[],clo 92 #[]]):=(below_next b6 b7).trans (x8.below (fun x hx=>by simp at hx;omega) (below_next b6 b7).size)
    have em:maybe d ⟨i0,a0,i1,a1,i2,a2⟩=unwD ⟨i0,a0,i1,a1,i2,a2⟩:=if_pos hs
    clear q3 fl6 x8 rr6 tt7 k6 b6 b7 z6
    generalize w7.setCells wr.heap.size 0 [clo i0 a0,clo 91 #[],clo 92 #[]]=W8 at *
    have rr8:=r8.range
    have b9:Below W8.heap.size W8 (W8.alloc (.cells #[clo i0 a0,clo 91 #[],clo 92 #[]] 102)):=(Below.refl _ _).alloc (Nat.le_refl _) _
    have fr9:FR (W8.alloc (.cells #[clo i0 a0,clo 91 #[],clo 92 #[]] 102)) W8.heap.size [(unwD ⟨i0,a0,i1,a1,i2,a2⟩)]:=FR.of_lit W8 [(unwD ⟨i0,a0,i1,a1,i2,a2⟩)]
    have fl9:=fl8.still b9
    have bb9:=below_next b8 b9
    have zb9:=bb9.size
    have EM:=Hid.mk' em
    clear em
    go_upto_region 8 with (first
     | (with_reducible (refine id (?_:wpList _ _ _ _ _ _));refine ldF _ rfl rfl rr8 ?_ rfl)
     | (at_builtin;refine wpList_app_fl rfl (.tmp 26) (.tmp 28) rfl rfl rfl ob fl9 rfl rfl fr9 (by simp) (by omega) ?_;intro v10 w10 g10 fl10 rs10 ob10 dg10))
    have hb10:=(hb.trans (HB.of_below bb9 (by omega))).trans (HB.of_rest rs10 (by omega) hgb)
    go_wp2
    go_roundw
    case rel =>
     refine ⟨0+1,by go_num,by omega,g10,?_,ob10,?_,hb10⟩
     · show FL _ _ _ ([f0,f1,f2,f3,f4,unwD f5] ++ [maybe d ⟨i0,a0,i1,a1,i2,a2⟩])
       rw [EM.out]
       exact fl10
     · rcases dg10 with rfl | rfl
       · exact hgb
       · exact .inl (by omega)
    case measure=>simp [intOf]
  · replace fl:FL w1.heap.size wr _ ([f0,f1,f2,f3,f4,unwD f5,maybe d ⟨i0,a0,i1,a1,i2,a2⟩]):=fl
    have fr':wr.rangeAt w4.heap.size 3 [clo j0 e0,clo j1 e1,clo j2 e2]:=((R5.out.hb hb (by omega) (.inr (by omega))).at_ 1 ⟨j0,e0,j1,e1,j2,e2⟩ rfl)
    have q1:=(K1'.out.hb hb (by omega) (.inl (by omega)))
    have k6:=(RW.fresh wr [.nilFunc,.nilFunc,.nilFunc] 102).stored [clo j0 e0,clo j1 e1,clo j2 e2] rfl
    have b6:Below wr.heap.size wr ((wr.alloc (.cells #[.nilFunc,.nilFunc,.nilFunc] 102)).setCells wr.heap.size 0 [clo j0 e0,clo j1 e1,clo j2 e2]):=b3 (Below.refl _ _) (Nat.le_refl _) rfl
    obtain ⟨W6,hW6⟩:∃ W6,W6=(wr.alloc (.cells #[.nilFunc,.nilFunc,.nilFunc] 102)).setCells wr.heap.size 0 [clo j0 e0,clo j1 e1,clo j2 e2]:=⟨_,rfl⟩
    have HW6:=Hid.mk' hW6
    rw [←hW6] at k6 b6
    clear hW6
    go_upto_region 5 with (first
     | (with_reducible (refine id (?_:wpList _ _ _ _ _ _));refine ldF _ rfl rfl fr' ?_ rfl)
     | (with_reducible (refine id (?_:wpList _ _ _ _ _ _));refine stF _ _ rfl rfl rfl rfl th3 ?_ rfl))
    dsimp only [Act.put]
    rw [show (wr.alloc (.cells [.nilFunc,.nilFunc,.nilFunc].toArray 102)).setCells wr.heap.size 0 [clo j0 e0,clo j1 e1,clo j2 e2]=W6 from HW6.out.symm]
    clear fr' HW6
    have q3:=(q1.still b6).cell (o:=3) rfl
    have fl6:=fl.still b6
    have z6:=b6.size
    have cu:=unw_any j0 j1 j2 e0 e1 e2 W6
    have rr6:=k6.range
    go_upto_region 7 with (first
     | (with_reducible (refine id (?_:wpList _ _ _ _ _ _));refine ldF _ rfl rfl rr6 ?_ rfl)
     | (go_at_call 59;refine cu.mono ?_;clear cu;rintro e w7 ⟨rfl,b7⟩;(have tt7:=(k6.still b7).there))
     | (with_reducible (refine id (?_:wpList _ _ _ _ _ _));refine stF _ _ rfl rfl rfl rfl tt7 ?_ rfl))
    dsimp only [Act.put]
    have x8:Rest [wr.heap.size] w7 (w7.setCells wr.heap.size 0 [clo j0 e0,clo 91 #[],clo 92 #[]]):=Rest.of_out (Out.setCells (b:=wr.heap.size) (o:=0) (n:=3) w7 _ (Nat.le_refl _) (Nat.le_refl _)) (by simp)
    have r8:=(k6.still b7).stored [clo j0 e0,clo 91 #[],clo 92 #[]] rfl
    have hgw:=(World.ownsRow.lt fl gb ob).2
    have fl8:=(fl6.still b7).other ob x8 (by simp;omega)
    have b8:Below wr.heap.size wr (w7.setCells wr.heap.size 0 [clo j0 e0,clo 91 #[],clo 92 #[]]):=(below_next b6 b7).trans (x8.below (fun x hx=>by simp at hx;omega) (below_next b6 b7).size)
    have em:maybe d ⟨j0,e0,j1,e1,j2,e2⟩=unwD ⟨j0,e0,j1,e1,j2,e2⟩:=if_pos hs
    clear q3 fl6 x8 rr6 tt7 k6 b6 b7 z6
    generalize w7.setCells wr.heap.size 0 [clo j0 e0,clo 91 #[],clo 92 #[]]=W8 at *
    have rr8:=r8.range
    have b9:Below W8.heap.size W8 (W8.alloc (.cells #[clo j0 e0,clo 91 #[],clo 92 #[]] 102)):=(Below.refl _ _).alloc (Nat.le_refl _) _
    have fr9:FR (W8.alloc (.cells #[clo j0 e0,clo 91 #[],clo 92 #[]] 102)) W8.heap.size [(unwD ⟨j0,e0,j1,e1,j2,e2⟩)]:=FR.of_lit W8 [(unwD ⟨j0,e0,j1,e1,j2,e2⟩)]
    have fl9:=fl8.still b9
    have bb9:=below_next b8 b9
    have zb9:=bb9.size
    have EM:=Hid.mk' em
    clear em
    go_upto_region 8 with (first
     | (with_reducible (refine id (?_:wpList _ _ _ _ _ _));refine ldF _ rfl rfl rr8 ?_ rfl)
     | (at_builtin;refine wpList_app_fl rfl (.tmp 26) (.tmp 28) rfl rfl rfl ob fl9 rfl rfl fr9 (by simp) (by omega) ?_;intro v10 w10 g10 fl10 rs10 ob10 dg10))
    have hb10:=(hb.trans (HB.of_below bb9 (by omega))).trans (HB.of_rest rs10 (by omega) hgb)
    go_wp2
    go_roundw
    case rel =>
     refine ⟨1+1,by go_num,by omega,g10,?_,ob10,?_,hb10⟩
     · show FL _ _ _ ([f0,f1,f2,f3,f4,unwD f5,maybe d ⟨i0,a0,i1,a1,i2,a2⟩] ++ [maybe d ⟨j0,e0,j1,e1,j2,e2⟩])
       rw [EM.out]
       exact fl10
     · rcases dg10 with rfl | rfl
       · exact hgb
       · exact .inl (by omega)
    case measure=>simp [intOf]
  · replace fl:FL w1.heap.size wr _ [f0,f1,f2,f3,f4,unwD f5,maybe d ⟨i0,a0,i1,a1,i2,a2⟩,maybe d ⟨j0,e0,j1,e1,j2,e2⟩]:=fl
    have bwr:Below W.heap.size W wr:=bW5.trans (hb.below (by omega) (by omega))
    have cp:=put_any _ _ _ (ltA d g z) (ltN d g) (ltB d g z) wr fl (by simp) (by simp) lt_small (lt_put (F5.out.map fun L h=>h.hb hb (by omega) (.inl (by omega))) (K1'.out.hb hb (by omega) (.inl (by omega))) (HD.out.keep bwr) (D0.out.map fun L h=>h.hb hb (by omega) (.inr (by omega))) (D1.out.map fun L h=>h.hb hb (by omega) (.inr (by omega))) (K2'.out.hb hb (by omega) (.inl (by omega))) (show BytesIn wr (.slice x n cx) g.n g.b by have:=HG.out.keep bwr;rw [←Hn.out];exact this) (K3'.out.hb hb (by omega) (.inl (by omega))))
    go_wp2_with (go_at_call 36;refine cp.mono ?_;clear cp;rintro e w9 ⟨c9,hA⟩;(replace hA:=Hid.mk' (putA (lt_all d g z) hA));obtain ⟨s9,z9,rfl⟩:=hA.out.form)
    rw [HP.out]
    exact ⟨below_next (bW.trans (bwr.mono bW.size)) c9,hA.out⟩
theorem leafText_any (cs:List Value) (d:LfD) (v:Value) (g:Tx) (z:Int) (w:World) (hd:LfIn w cs d) (hg:BytesIn w v g.n g.b):Calls Try.prog 31 #[.agg cs.toArray,v,.int .i64 z] w fun e w'=>Below w.heap.size w w'∧PutA (ltR d g z) (ltLen d g) (ltByt d g z) e w':=by
 have hg':=hg
 obtain ⟨x,cx,rfl,-⟩:=hg.src
 by_cases hs:d.src=1
 · exact leafText_1 cs d x g cx z hs w hd hg'
 · exact leafText_0 cs d x g cx z hs w hd hg'
end Go.Proofs.Ytgdcmibdjiaofaa
namespace Go.Proofs.Ytgdcmibdjiaofaa
open Go.RowKit
set_option maxRecDepth 20000 in
set_option maxHeartbeats 1000000 in
theorem rLeafText_a (cs:List Value) (d:LfD) (x:Option Addr) (n:Nat) (cx:Nat) (z:Int) (hR:allU (lfA d 3) 6=false) (w:World)  (hd:LfIn w cs d):Calls Try.prog 32 #[.agg cs.toArray,.slice x n cx,.int .i64 z] w fun e w'=>Below w.heap.size w w'∧e = .returned (.tuple #[.slice none 0 0,.int .i64 1]):=by
 have hd':=hd
 obtain ⟨v0,v1,v2,v4,v5,rfl,-⟩:=hd
 obtain ⟨src,hsrc⟩:∃ src,src=d.src:=⟨_,rfl⟩
 rw [←hsrc] at hd' ⊢
 clear hsrc
 have k1:=RW.fresh w [v0,v1,v2,.int .i64 src,v4,v5] 24
 have b1:Below w.heap.size w (w.alloc (.cells #[v0,v1,v2,.int .i64 src,v4,v5] 24)):=(Below.refl _ _).alloc (Nat.le_refl _) _
 obtain ⟨W,hW⟩:∃ W,W=w.alloc (.cells #[v0,v1,v2,.int .i64 src,v4,v5] 24):=⟨_,rfl⟩
 rw [show w.alloc (.cells ([v0,v1,v2,.int .i64 src,v4,v5]).toArray 24)=W from hW.symm] at k1
 rw [←hW] at b1
 have HW:=Hid.mk' hW
 have HD:=Hid.mk' (hd'.keep b1)
 have cr:=rRightLeaf_any _ d W HD.out
 rw [hR] at cr
 have rr:=k1.range
 clear hW k1 hd' hR
 go_enter Try.func32,Try.ntmps32
 go_upto_region 1 with (fail)
 rw [←HW.out]
 go_wp2_with (first
  | (with_reducible (refine id (?_:wpList _ _ _ _ _ _));refine ldL _ rfl rfl rr ?_ rfl)
  | (go_at_call 38;refine cr.mono ?_;clear cr;rintro e w2 ⟨rfl,b2⟩))
 go_ret2
 exact ⟨below_next b1 b2,rfl⟩
set_option maxRecDepth 20000 in
set_option maxHeartbeats 1000000 in
theorem rLeafText_b (cs:List Value) (d:LfD) (x:Option Addr) (n:Nat) (cx:Nat) (z:Int) (hR:allU (lfA d 3) 6=true) (h1:(255:Int)<(n:Int)) (w:World)  (hd:LfIn w cs d):Calls Try.prog 32 #[.agg cs.toArray,.slice x n cx,.int .i64 z] w fun e w'=>Below w.heap.size w w'∧e = .returned (.tuple #[.slice none 0 0,.int .i64 1]):=by
 have hd':=hd
 obtain ⟨v0,v1,v2,v4,v5,rfl,-⟩:=hd
 obtain ⟨src,hsrc⟩:∃ src,src=d.src:=⟨_,rfl⟩
 rw [←hsrc] at hd' ⊢
 clear hsrc
 have k1:=RW.fresh w [v0,v1,v2,.int .i64 src,v4,v5] 24
 have b1:Below w.heap.size w (w.alloc (.cells #[v0,v1,v2,.int .i64 src,v4,v5] 24)):=(Below.refl _ _).alloc (Nat.le_refl _) _
 obtain ⟨W,hW⟩:∃ W,W=w.alloc (.cells #[v0,v1,v2,.int .i64 src,v4,v5] 24):=⟨_,rfl⟩
 rw [show w.alloc (.cells ([v0,v1,v2,.int .i64 src,v4,v5]).toArray 24)=W from hW.symm] at k1
 rw [←hW] at b1
 have HW:=Hid.mk' hW
 have HD:=Hid.mk' (hd'.keep b1)
 have cr:=rRightLeaf_any _ d W HD.out
 rw [hR] at cr
 have rr:=k1.range
 clear hW k1 hd' hR
 go_enter Try.func32,Try.ntmps32
 go_upto_region 1 with (fail)
 rw [←HW.out]
 go_wp2_with (first
  | (with_reducible (refine id (?_:wpList _ _ _ _ _ _));refine ldL _ rfl rfl rr ?_ rfl)
  | (go_at_call 38;refine cr.mono ?_;clear cr;rintro e w2 ⟨rfl,b2⟩))
 go_ret2
 exact ⟨below_next b1 b2,rfl⟩
set_option maxRecDepth 20000 in
set_option maxHeartbeats 1000000 in
theorem rLeafText_c (cs:List Value) (d:LfD) (x:Option Addr) (n:Nat) (cx:Nat) (z:Int) (hR:allU (lfA d 3) 6=true) (h1:¬(255:Int)<(n:Int)) (h2:z<0) (w:World)  (hd:LfIn w cs d):Calls Try.prog 32 #[.agg cs.toArray,.slice x n cx,.int .i64 z] w fun e w'=>Below w.heap.size w w'∧e = .returned (.tuple #[.slice none 0 0,.int .i64 1]):=by
 have hd':=hd
 obtain ⟨v0,v1,v2,v4,v5,rfl,-⟩:=hd
 obtain ⟨src,hsrc⟩:∃ src,src=d.src:=⟨_,rfl⟩
 rw [←hsrc] at hd' ⊢
 clear hsrc
 have k1:=RW.fresh w [v0,v1,v2,.int .i64 src,v4,v5] 24
 have b1:Below w.heap.size w (w.alloc (.cells #[v0,v1,v2,.int .i64 src,v4,v5] 24)):=(Below.refl _ _).alloc (Nat.le_refl _) _
 obtain ⟨W,hW⟩:∃ W,W=w.alloc (.cells #[v0,v1,v2,.int .i64 src,v4,v5] 24):=⟨_,rfl⟩
 rw [show w.alloc (.cells ([v0,v1,v2,.int .i64 src,v4,v5]).toArray 24)=W from hW.symm] at k1
 rw [←hW] at b1
 have HW:=Hid.mk' hW
 have HD:=Hid.mk' (hd'.keep b1)
 have cr:=rRightLeaf_any _ d W HD.out
 rw [hR] at cr
 have rr:=k1.range
 clear hW k1 hd' hR
 go_enter Try.func32,Try.ntmps32
 go_upto_region 1 with (fail)
 rw [←HW.out]
 go_wp2_with (first
  | (with_reducible (refine id (?_:wpList _ _ _ _ _ _));refine ldL _ rfl rfl rr ?_ rfl)
  | (go_at_call 38;refine cr.mono ?_;clear cr;rintro e w2 ⟨rfl,b2⟩))
 go_ret2
 exact ⟨below_next b1 b2,rfl⟩
set_option maxRecDepth 20000 in
set_option maxHeartbeats 1000000 in
theorem rLeafText_d (cs:List Value) (d:LfD) (x:Option Addr) (n:Nat) (cx:Nat) (z:Int) (hR:allU (lfA d 3) 6=true) (h1:¬(255:Int)<(n:Int)) (h2:¬z<0) (h3:64≤z) (w:World)  (hd:LfIn w cs d):Calls Try.prog 32 #[.agg cs.toArray,.slice x n cx,.int .i64 z] w fun e w'=>Below w.heap.size w w'∧e = .returned (.tuple #[.slice none 0 0,.int .i64 1]):=by
 have hd':=hd
 obtain ⟨v0,v1,v2,v4,v5,rfl,-⟩:=hd
 obtain ⟨src,hsrc⟩:∃ src,src=d.src:=⟨_,rfl⟩
 rw [←hsrc] at hd' ⊢
 clear hsrc
 have k1:=RW.fresh w [v0,v1,v2,.int .i64 src,v4,v5] 24
 have b1:Below w.heap.size w (w.alloc (.cells #[v0,v1,v2,.int .i64 src,v4,v5] 24)):=(Below.refl _ _).alloc (Nat.le_refl _) _
 obtain ⟨W,hW⟩:∃ W,W=w.alloc (.cells #[v0,v1,v2,.int .i64 src,v4,v5] 24):=⟨_,rfl⟩
 rw [show w.alloc (.cells ([v0,v1,v2,.int .i64 src,v4,v5]).toArray 24)=W from hW.symm] at k1
 rw [←hW] at b1
 have HW:=Hid.mk' hW
 have HD:=Hid.mk' (hd'.keep b1)
 have cr:=rRightLeaf_any _ d W HD.out
 rw [hR] at cr
 have rr:=k1.range
 clear hW k1 hd' hR
 go_enter Try.func32,Try.ntmps32
 go_upto_region 1 with (fail)
 rw [←HW.out]
 go_wp2_with (first
  | (with_reducible (refine id (?_:wpList _ _ _ _ _ _));refine ldL _ rfl rfl rr ?_ rfl)
  | (go_at_call 38;refine cr.mono ?_;clear cr;rintro e w2 ⟨rfl,b2⟩))
 go_ret2
 exact ⟨below_next b1 b2,rfl⟩
set_option maxRecDepth 20000 in
set_option maxHeartbeats 1000000 in
theorem rLeafText_e (cs:List Value) (d:LfD) (x:Option Addr) (n:Nat) (cx:Nat) (z:Int) (hR:allU (lfA d 3) 6=true) (h1:¬(255:Int)<(n:Int)) (h2:¬z<0) (h3:¬64≤z) (hs:d.src=1) (w:World) (hk:lfK d)  (hd:LfIn w cs d):Calls Try.prog 32 #[.agg cs.toArray,.slice x n cx,.int .i64 z] w fun e w'=>Below w.heap.size w w'∧∃ s,e = .returned (.tuple #[s,.int .i64 0])∧BytesIn w' s (sumN (lfN d) 5) (allB (lfN d) (lfB d) 5):=by
 have hd':=hd
 obtain ⟨v0,v1,v2,v4,v5,rfl,-⟩:=hd
 obtain ⟨src,hsrc⟩:∃ src,src=d.src:=⟨_,rfl⟩
 rw [←hsrc] at hd' ⊢
 rw [hs] at hsrc
 subst hsrc
 have k1:=RW.fresh w [v0,v1,v2,.int .i64 1,v4,v5] 24
 have b1:Below w.heap.size w (w.alloc (.cells #[v0,v1,v2,.int .i64 1,v4,v5] 24)):=(Below.refl _ _).alloc (Nat.le_refl _) _
 obtain ⟨W,hW⟩:∃ W,W=w.alloc (.cells #[v0,v1,v2,.int .i64 1,v4,v5] 24):=⟨_,rfl⟩
 rw [show w.alloc (.cells ([v0,v1,v2,.int .i64 1,v4,v5]).toArray 24)=W from hW.symm] at k1
 rw [←hW] at b1
 have HW:=Hid.mk' hW
 have HD:=Hid.mk' (hd'.keep b1)
 have cr:=rRightLeaf_any _ d W HD.out
 have HR:=Hid.mk' hR
 rw [hR] at cr
 have K1:=Hid.mk' k1
 have rr:=k1.range
 clear hW k1 hd' hR
 have cb:=fun W' hb=>rBare_any _ d ((lf_all d 3).1 HR.out) hk W' (HD.out.keep hb)
 have SZ:=Hid.mk' (sum5_le d ((lf_all d 3).1 HR.out))
 generalize sumN (lfN d) 5=m5 at *
 generalize allB (lfN d) (lfB d) 5=B5 at *
 go_enter Try.func32,Try.ntmps32
 go_upto_region 1 with (fail)
 rw [←HW.out]
 go_upto_region 4 with (first
  | (with_reducible (refine id (?_:wpList _ _ _ _ _ _));refine ldL _ rfl rfl rr ?_ rfl)
  | (go_at_call 38;refine cr.mono ?_;clear cr;rintro e w2 ⟨rfl,b2⟩;(replace rr:=(K1.out.still b2).range);(replace cb:=cb w2 b2))
  | (go_at_call 60;refine cb.mono ?_;clear cb;rintro e w3 ⟨s3,rfl,o3,b3⟩))
 have bb:=below_next b2 b3
 have q3:=(K1.out.still bb).cell (o:=3) rfl
 go_wp2
 go_ret2
 exact ⟨below_next b1 bb,_,rfl,BytesIn.of_own o3⟩
set_option maxRecDepth 20000 in
set_option maxHeartbeats 1000000 in
theorem rLeafText_f (cs:List Value) (d:LfD) (x:Option Addr) (n:Nat) (b:Nat→Nat) (cx:Nat) (z:Int) (hR:allU (lfA d 3) 6=true) (h1:¬(255:Int)<(n:Int)) (h2:¬z<0) (h3:¬64≤z) (hs:¬d.src=1) (w:World) (hk:lfK d) (lb:∀ j,b j<256) (hd:LfIn w cs d) (hg:BytesIn w (.slice x n cx) n b):Calls Try.prog 32 #[.agg cs.toArray,.slice x n cx,.int .i64 z] w fun e w'=>Below w.heap.size w w'∧∃ s,e = .returned (.tuple #[s,.int .i64 0])∧BytesIn w' s (sumN (lfN d) 5+vcL n+4) (cat (sumN (lfN d) 5+vcL n) (cat (sumN (lfN d) 5) (allB (lfN d) (lfB d) 5) (vcB n b)) (beN z.toNat 4)):=by
 have hd':=hd
 obtain ⟨v0,v1,v2,v4,v5,rfl,-⟩:=hd
 obtain ⟨src,hsrc⟩:∃ src,src=d.src:=⟨_,rfl⟩
 rw [←hsrc] at hd' ⊢
 have HS:Hid (¬src=1):=Hid.mk' (by rw [hsrc];exact hs)
 clear hsrc
 have k1:=RW.fresh w [v0,v1,v2,.int .i64 src,v4,v5] 24
 have b1:Below w.heap.size w (w.alloc (.cells #[v0,v1,v2,.int .i64 src,v4,v5] 24)):=(Below.refl _ _).alloc (Nat.le_refl _) _
 obtain ⟨W,hW⟩:∃ W,W=w.alloc (.cells #[v0,v1,v2,.int .i64 src,v4,v5] 24):=⟨_,rfl⟩
 rw [show w.alloc (.cells ([v0,v1,v2,.int .i64 src,v4,v5]).toArray 24)=W from hW.symm] at k1
 rw [←hW] at b1
 have HW:=Hid.mk' hW
 have HD:=Hid.mk' (hd'.keep b1)
 have HG:=Hid.mk' (hg.keep b1)
 have cr:=rRightLeaf_any _ d W HD.out
 have HR:=Hid.mk' hR
 rw [hR] at cr
 have K1:=Hid.mk' k1
 have rr:=k1.range
 clear hW k1 hd' hg hR
 have cb:=fun W' hb=>rBare_any _ d ((lf_all d 3).1 HR.out) hk W' (HD.out.keep hb)
 have SZ:=Hid.mk' (sum5_le d ((lf_all d 3).1 HR.out))
 generalize sumN (lfN d) 5=m5 at *
 generalize allB (lfN d) (lfB d) 5=B5 at *
 go_enter Try.func32,Try.ntmps32
 go_upto_region 1 with (fail)
 rw [←HW.out]
 go_upto_region 4 with (first
  | (with_reducible (refine id (?_:wpList _ _ _ _ _ _));refine ldL _ rfl rfl rr ?_ rfl)
  | (go_at_call 38;refine cr.mono ?_;clear cr;rintro e w2 ⟨rfl,b2⟩;(replace rr:=(K1.out.still b2).range);(replace cb:=cb w2 b2))
  | (go_at_call 60;refine cb.mono ?_;clear cb;rintro e w3 ⟨s3,rfl,o3,b3⟩))
 have bb:=below_next b2 b3
 have q3:=(K1.out.still bb).cell (o:=3) rfl
 have hs':=HS.out
 obtain ⟨x3,c3,e3⟩:=o3.slice
 subst e3
 go_upto_region 5 with (fail)
 have b4:Below w3.heap.size w3 (w3.alloc (.cells #[.slice x n cx] 22)):=(Below.refl _ _).alloc (Nat.le_refl _) _
 have cj:=rJoin1 w3.heap.size _ n b (by omega) lb _ (RW.fresh w3 [.slice x n cx] 22) ((HG.out.keep bb).keep b4)
 obtain ⟨zn,hzn⟩:∃ zn:Nat,zn=z.toNat:=⟨_,rfl⟩
 have ez:z=(zn:Int):=by omega
 have HZ:=Hid.mk' hzn
 have EZ:=Hid.mk' ez
 have hvn:vcL n≤300:=by have:=lnS_pos n;unfold vcL;omega
 have HVN:=Hid.mk' hvn
 clear hzn ez hvn
 go_wp2_with (first
  | (go_at_call 61;refine cj.mono ?_;clear cj;rintro e w5 ⟨s5,rfl,o5,b5⟩;(obtain ⟨x5,c5,e5,hxn5,-,hs5⟩:=(BytesIn.of_own o5).src);subst e5;(have hsrc5:=hs5 w5 (Below.refl _ _));(have b45:=below_next b4 b5);(have ow5:=o3.below b45);(have bw5:=below_next (below_next b2 b3) b45))
  | (at_builtin;refine wpList_append_bytes rfl (.tmp 30) (.tmp 33) rfl w2.heap.size _ m5 B5 rfl ow5 x5 _ c5 _ rfl hsrc5 hxn5 (by have:=SZ.out;have:=HVN.out;omega) (Nat.le_trans b3.size b45.size) ?_;intro v6 w6 own6 grow6;(have b56:=Own.grown (below_next b3 b45) grow6 ow5 (Nat.le_refl _) (below_next b3 b45).size);(have cby:=rbytes_any zn 4 (by decide) w6);rw [←EZ.out] at cby)
  | (go_at_call 62;refine cby.mono ?_;clear cby;rintro e w7 ⟨s7,rfl,o7,b7⟩;(obtain ⟨x7,c7,e7,hxn7,-,hs7⟩:=(BytesIn.of_own o7).src);subst e7;(have hsrc7:=hs7 w7 (Below.refl _ _));(have ow7:=own6.below b7);(have bw7:=below_next b56 b7))
  | (at_builtin;refine wpList_append_bytes rfl (.tmp 34) (.tmp 36) rfl w2.heap.size _ _ _ rfl ow7 x7 _ c7 _ rfl hsrc7 hxn7 (by have:=SZ.out;have:=HVN.out;omega) bw7.size ?_;intro v8 w8 own8 grow8;(have b78:=Own.grown bw7 grow8 ow7 (Nat.le_refl _) bw7.size)))
 go_ret2
 rw [←HZ.out]
 exact ⟨below_next (below_next b1 b2) b78,_,rfl,BytesIn.of_own own8⟩
theorem lt_same (d:LfD) (g:Tx) (z:Int):∀ i,i<5→ltN d g i=lfN d i∧ltB d g z i=lfB d i
 | 0,_=>⟨rfl,rfl⟩
 | 1,_=>⟨rfl,rfl⟩
 | 2,_=>⟨rfl,rfl⟩
 | 3,_=>⟨rfl,rfl⟩
 | 4,_=>⟨rfl,rfl⟩
 | n+5,h=>by omega
theorem lt_s5 (d:LfD) (g:Tx):sumN (ltN d g) 5=sumN (lfN d) 5:=sumN_congr fun i hi=>(lt_same d g 0 i hi).1
theorem lt_b5 (d:LfD) (g:Tx) (z:Int):allB (ltN d g) (ltB d g z) 5=allB (lfN d) (lfB d) 5:=allB_congr fun i hi=>lt_same d g z i hi
theorem lt_len1 (d:LfD) (g:Tx) (hs:d.src=1):ltLen d g=sumN (lfN d) 5:=by
 show sumN (ltN d g) 5+0+(if d.src=1 then 0 else vcL g.n)+(if d.src=1 then 0 else 4)=_
 rw [if_pos hs,if_pos hs,lt_s5]
 rfl
theorem lt_len0 (d:LfD) (g:Tx) (hs:¬d.src=1):ltLen d g=sumN (lfN d) 5+vcL g.n+4:=by
 show sumN (ltN d g) 5+0+(if d.src=1 then 0 else vcL g.n)+(if d.src=1 then 0 else 4)=_
 rw [if_neg hs,if_neg hs,lt_s5]
 rfl
theorem lt_byt1 (d:LfD) (g:Tx) (z:Int) (hs:d.src=1):∀ j,j<sumN (lfN d) 5→ltByt d g z j=allB (lfN d) (lfB d) 5 j:=fun j hj=>by
 show cat (sumN (ltN d g) 5+0+(if d.src=1 then 0 else vcL g.n)) (cat (sumN (ltN d g) 5+0) (cat (sumN (ltN d g) 5) (allB (ltN d g) (ltB d g z) 5) _) _) _ j=_
 rw [if_pos hs,lt_s5,lt_b5,Nat.add_zero,cat_left hj,cat_left hj,cat_left hj]
theorem lt_byt0 (d:LfD) (g:Tx) (z:Int) (hs:¬d.src=1):∀ j,j<sumN (lfN d) 5+vcL g.n+4→ltByt d g z j=cat (sumN (lfN d) 5+vcL g.n) (cat (sumN (lfN d) 5) (allB (lfN d) (lfB d) 5) (vcB g.n g.b)) (beN z.toNat 4) j:=fun j hj=>by
 show cat (sumN (ltN d g) 5+0+(if d.src=1 then 0 else vcL g.n)) (cat (sumN (ltN d g) 5+0) (cat (sumN (ltN d g) 5) (allB (ltN d g) (ltB d g z) 5) (fun _=>0)) (if d.src=1 then fun _=>0 else vcB g.n g.b)) (if d.src=1 then fun _=>0 else beN z.toNat 4) j=_
 rw [if_neg hs,if_neg hs,if_neg hs,lt_s5,lt_b5,Nat.add_zero]
 unfold cat
 by_cases h1:j<sumN (lfN d) 5+vcL g.n
 · rw [if_pos h1,if_pos h1]
   by_cases h2:j<sumN (lfN d) 5
   · rw [if_pos h2,if_pos h2,if_pos h2]
   · rw [if_neg h2,if_neg h2]
 · rw [if_neg h1,if_neg h1]
theorem rLeafText_any (cs:List Value) (d:LfD) (v:Value) (g:Tx) (z:Int) (w:World) (hk:lfK d) (lb:∀ j,g.b j<256) (hd:LfIn w cs d) (hg:BytesIn w v g.n g.b):Calls Try.prog 32 #[.agg cs.toArray,v,.int .i64 z] w fun e w'=>Below w.heap.size w w'∧PutA (ltR d g z) (ltLen d g) (ltByt d g z) e w':=by
 have hg':=hg
 obtain ⟨x,cx,rfl,-⟩:=hg.src
 have hno:¬ltR d g z→∀ {e w'},(Below w.heap.size w w'∧e = .returned (.tuple #[.slice none 0 0,.int .i64 1]))→(Below w.heap.size w w'∧PutA (ltR d g z) (ltLen d g) (ltByt d g z) e w'):=fun h e w' ⟨h1,h2⟩=>⟨h1,by unfold PutA;rw [if_neg h];exact h2⟩
 by_cases hR:lfR d 3
 rotate_left
 · exact (rLeafText_a cs d x g.n cx z (Bool.eq_false_iff.2 fun e=>hR ((lf_all d 3).1 e)) w hd).mono fun e w' h=>hno (fun h=>hR h.1) h
 have hB:=(lf_all d 3).2 hR
 by_cases h1:(255:Int)<(g.n:Int)
 · exact (rLeafText_b cs d x g.n cx z hB h1 w hd).mono fun e w' h=>hno (fun h=>by have:=h.2.1;omega) h
 by_cases h2:z<0
 · exact (rLeafText_c cs d x g.n cx z hB h1 h2 w hd).mono fun e w' h=>hno (fun h=>by have:=h.2.2.1;omega) h
 by_cases h3:64≤z
 · exact (rLeafText_d cs d x g.n cx z hB h1 h2 h3 w hd).mono fun e w' h=>hno (fun h=>by have:=h.2.2.2;omega) h
 have hok:ltR d g z:=⟨hR,by omega,by omega,by omega⟩
 by_cases hs:d.src=1
 · exact (rLeafText_e cs d x g.n cx z hB h1 h2 h3 hs w hk hd).mono fun e w' ⟨a,s,e1,e2⟩=>⟨a,by unfold PutA;rw [if_pos hok,lt_len1 d g hs];exact ⟨s,e1,e2.congr fun j hj=>(lt_byt1 d g z hs j hj).symm⟩⟩
 · exact (rLeafText_f cs d x g.n g.b cx z hB h1 h2 h3 hs w hk lb hd hg').mono fun e w' ⟨a,s,e1,e2⟩=>⟨a,by unfold PutA;rw [if_pos hok,lt_len0 d g hs];exact ⟨s,e1,e2.congr fun j hj=>(lt_byt0 d g z hs j hj).symm⟩⟩
end Go.Proofs.Ytgdcmibdjiaofaa
namespace Go.Proofs.Ytgdcmibdjiaofaa
open Go.RowKit
set_option maxRecDepth 20000 in
theorem copied_any (v:Value) (n:Nat) (b:Nat→Nat) (hn:n<140737488355000) (w:World) (hv:BytesIn w v n b):Calls Try.prog 35 #[v] w fun e w'=>∃ s,e = .returned s∧Own w.heap.size w' s n b∧Below w.heap.size w w':=by
 obtain ⟨x,c,rfl,hxn,-,hs⟩:=hv.src
 have b1:Below w.heap.size w (w.alloc (.cells #[] 5)):=(Below.refl _ _).alloc (Nat.le_refl _) _
 have hsrc:=hs _ b1
 clear hs hv b1
 go_enter Try.func35,Try.ntmps35
 go_wp2_with (at_builtin;refine wpList_append_empty rfl (.tmp 3) (.tmp 4) rfl w.heap.size b w.heap.size rfl rfl x n c rfl hsrc hxn (by omega) (Nat.le_refl _) ?_;intro v2 w2 o2 b2)
 go_ret
 exact ⟨_,rfl,o2,b2⟩
def ZIx (w:World) (v:Value) (l:List Int):Prop:=∃ x c,v = .slice x l.length c∧(x=none→c=0)∧∀ i z,l[i]? = some z→∃ g o,x=some ⟨g,o,none⟩∧g<w.heap.size∧w.cell? ⟨g,o+i,none⟩=some (.int .i64 z)
theorem ZIx.zin {w:World} {v:Value} {l:List Int} (h:ZIx w v l):ZIn w v l:=by obtain ⟨x,c,e,-,h⟩:=h;exact ⟨x,c,e,h⟩
theorem ZIx.keep {w w':World} {v:Value} {l:List Int} (h:ZIx w v l) (hb:Below w.heap.size w w'):ZIx w' v l:=by
 obtain ⟨x,c,e,hx,h⟩:=h
 refine ⟨x,c,e,hx,fun i z hz => ?_⟩
 obtain ⟨g,o,e2,hg,hc⟩:=h i z hz
 exact ⟨g,o,e2,Nat.lt_of_lt_of_le hg hb.size,(hb.cell (p:=⟨g,o+i,none⟩) hg).trans hc⟩
def lfL (d:LfD):Prop:=d.enc.n<140737488355000∧d.sig.n<140737488355000∧d.name.n<140737488355000∧d.hash.n<140737488355000∧d.sg.n<140737488355000
theorem infoL6:(Try.prog.info? 26).map (·.size)=some 6:=by kernel_rfl
theorem infoP3:(Try.prog.info? 45).map (·.size)=some 3:=by kernel_rfl
theorem infoK8:(Try.prog.info? 58).map (·.size)=some 8:=by kernel_rfl
theorem LfIn.form {w:World} {cs:List Value} {d:LfD} (h:LfIn w cs d):∃ x0 c0 x1 c1 x2 c2 x4 c4 x5 c5,cs=[.slice x0 d.enc.n c0,.slice x1 d.sig.n c1,.slice x2 d.name.n c2,.int .i64 d.src,.slice x4 d.hash.n c4,.slice x5 d.sg.n c5]∧BytesIn w (.slice x0 d.enc.n c0) d.enc.n d.enc.b∧BytesIn w (.slice x1 d.sig.n c1) d.sig.n d.sig.b∧BytesIn w (.slice x2 d.name.n c2) d.name.n d.name.b∧BytesIn w (.slice x4 d.hash.n c4) d.hash.n d.hash.b∧BytesIn w (.slice x5 d.sg.n c5) d.sg.n d.sg.b:=by
 obtain ⟨v0,v1,v2,v4,v5,rfl,h0,h1,h2,h4,h5⟩:=h
 obtain ⟨x0,c0,rfl,-⟩:=h0.src
 obtain ⟨x1,c1,rfl,-⟩:=h1.src
 obtain ⟨x2,c2,rfl,-⟩:=h2.src
 obtain ⟨x4,c4,rfl,-⟩:=h4.src
 obtain ⟨x5,c5,rfl,-⟩:=h5.src
 exact ⟨x0,c0,x1,c1,x2,c2,x4,c4,x5,c5,rfl,h0,h1,h2,h4,h5⟩
set_option maxRecDepth 20000 in
set_option maxHeartbeats 1000000 in
theorem mkLeafO_any (cs:List Value) (d:LfD) (hl:lfL d) (w:World) (hd:LfIn w cs d):Calls Try.prog 10 #[.agg cs.toArray] w fun e w'=>∃ y0 e0 y1 e1 y2 e2 y4 e4 y5 e5,e = .returned (.agg #[.slice y0 d.enc.n e0,.slice y1 d.sig.n e1,.slice y2 d.name.n e2,.int .i64 d.src,.slice y4 d.hash.n e4,.slice y5 d.sg.n e5])∧Own w.heap.size w' (.slice y0 d.enc.n e0) d.enc.n d.enc.b∧Own w.heap.size w' (.slice y1 d.sig.n e1) d.sig.n d.sig.b∧Own w.heap.size w' (.slice y2 d.name.n e2) d.name.n d.name.b∧Own w.heap.size w' (.slice y4 d.hash.n e4) d.hash.n d.hash.b∧Own w.heap.size w' (.slice y5 d.sg.n e5) d.sg.n d.sg.b∧Below w.heap.size w w':=by
 obtain ⟨x0,c0,x1,c1,x2,c2,x4,c4,x5,c5,rfl,h0,h1,h2,h4,h5⟩:=hd.form
 clear hd
 obtain ⟨hl0,hl1,hl2,hl4,hl5⟩:=hl
 have k1:=RW.fresh w [.slice x0 d.enc.n c0,.slice x1 d.sig.n c1,.slice x2 d.name.n c2,.int .i64 d.src,.slice x4 d.hash.n c4,.slice x5 d.sg.n c5] 24
 have b1:Below w.heap.size w (w.alloc (.cells #[.slice x0 d.enc.n c0,.slice x1 d.sig.n c1,.slice x2 d.name.n c2,.int .i64 d.src,.slice x4 d.hash.n c4,.slice x5 d.sg.n c5] 24)):=(Below.refl _ _).alloc (Nat.le_refl _) _
 have s1:(w.alloc (.cells #[.slice x0 d.enc.n c0,.slice x1 d.sig.n c1,.slice x2 d.name.n c2,.int .i64 d.src,.slice x4 d.hash.n c4,.slice x5 d.sg.n c5] 24)).heap.size=w.heap.size+1:=by simp
 obtain ⟨W1,hW1⟩:∃ W1,W1=w.alloc (.cells #[.slice x0 d.enc.n c0,.slice x1 d.sig.n c1,.slice x2 d.name.n c2,.int .i64 d.src,.slice x4 d.hash.n c4,.slice x5 d.sg.n c5] 24):=⟨_,rfl⟩
 rw [show w.alloc (.cells ([.slice x0 d.enc.n c0,.slice x1 d.sig.n c1,.slice x2 d.name.n c2,.int .i64 d.src,.slice x4 d.hash.n c4,.slice x5 d.sg.n c5]).toArray 24)=W1 from hW1.symm] at k1
 rw [←hW1] at b1 s1
 have k2:=RW.fresh W1 [.slice none 0 0,.slice none 0 0,.slice none 0 0,.int .i64 0,.slice none 0 0,.slice none 0 0] 26
 have b2:Below W1.heap.size W1 (W1.alloc (.cells #[.slice none 0 0,.slice none 0 0,.slice none 0 0,.int .i64 0,.slice none 0 0,.slice none 0 0] 26)):=(Below.refl _ _).alloc (Nat.le_refl _) _
 have s2:(W1.alloc (.cells #[.slice none 0 0,.slice none 0 0,.slice none 0 0,.int .i64 0,.slice none 0 0,.slice none 0 0] 26)).heap.size=W1.heap.size+1:=by simp
 obtain ⟨W,hW⟩:∃ W,W=W1.alloc (.cells #[.slice none 0 0,.slice none 0 0,.slice none 0 0,.int .i64 0,.slice none 0 0,.slice none 0 0] 26):=⟨_,rfl⟩
 rw [show W1.alloc (.cells [.slice none 0 0,.slice none 0 0,.slice none 0 0,.int .i64 0,.slice none 0 0,.slice none 0 0].toArray 26)=W from hW.symm] at k2
 rw [←hW] at b2 s2
 rw [s1] at k2 s2
 have HW:Hid (W=(w.alloc (.cells #[.slice x0 d.enc.n c0,.slice x1 d.sig.n c1,.slice x2 d.name.n c2,.int .i64 d.src,.slice x4 d.hash.n c4,.slice x5 d.sg.n c5] 24)).alloc (.cells #[.slice none 0 0,.slice none 0 0,.slice none 0 0,.int .i64 0,.slice none 0 0,.slice none 0 0] 26)):=Hid.mk' (by rw [hW,hW1])
 have bd:Below W.heap.size W W.drew:=(Below.refl _ _).drew
 have bV:=below_next (below_next b1 b2) bd
 have K1:=Hid.mk' ((k1.still b2).still bd)
 have K2:=Hid.mk' (k2.still bd)
 have D0:=Hid.mk' (h0.keep bV)
 have D1:=Hid.mk' (h1.keep bV)
 have D2:=Hid.mk' (h2.keep bV)
 have D4:=Hid.mk' (h4.keep bV)
 have D5:=Hid.mk' (h5.keep bV)
 have sV:W.drew.heap.size=w.heap.size+1+1:=s2
 have SV:=Hid.mk' sV
 clear hW hW1 k1 k2 b1 b2 s1 s2 h0 h1 h2 h4 h5 bd sV
 go_enter Try.func10,Try.ntmps10
 go_upto_region 1 with (fail)
 rw [←HW.out]
 refine wp_last 18 (S:=fun u=>Below W.drew.heap.size W.drew u) (by kernel_rfl) (by kernel_rfl) (by kernel_rfl) (by kernel_rfl) (Below.refl _ _) (fun hS => ?_)
 clear HW
 generalize W.drew=V at *
 refine tg 0 hS (v:=pA w.heap.size 0) ?_ (hy:=by intro u _;kernel_rfl)
 (try simp only [pS])
 refine tc 1 hS (fun u hu=>(hu.cell (p:=⟨w.heap.size,0,none⟩) K1.out.lt).trans (K1.out.cell (o:=0) rfl)) ?_
 (try simp only [pS])
 refine tg 3 hS (v:=pA w.heap.size 1) ?_ (hy:=by intro u _;kernel_rfl)
 (try simp only [pS])
 refine tc 4 hS (fun u hu=>(hu.cell (p:=⟨w.heap.size,1,none⟩) K1.out.lt).trans (K1.out.cell (o:=1) rfl)) ?_
 (try simp only [pS])
 refine tg 6 hS (v:=pA w.heap.size 2) ?_ (hy:=by intro u _;kernel_rfl)
 (try simp only [pS])
 refine tc 7 hS (fun u hu=>(hu.cell (p:=⟨w.heap.size,2,none⟩) K1.out.lt).trans (K1.out.cell (o:=2) rfl)) ?_
 (try simp only [pS])
 refine tg 9 hS (v:=pA w.heap.size 3) ?_ (hy:=by intro u _;kernel_rfl)
 (try simp only [pS])
 refine tc 10 hS (fun u hu=>(hu.cell (p:=⟨w.heap.size,3,none⟩) K1.out.lt).trans (K1.out.cell (o:=3) rfl)) ?_
 (try simp only [pS])
 refine tg 11 hS (v:=pA w.heap.size 4) ?_ (hy:=by intro u _;kernel_rfl)
 (try simp only [pS])
 refine tc 12 hS (fun u hu=>(hu.cell (p:=⟨w.heap.size,4,none⟩) K1.out.lt).trans (K1.out.cell (o:=4) rfl)) ?_
 (try simp only [pS])
 refine tg 14 hS (v:=pA w.heap.size 5) ?_ (hy:=by intro u _;kernel_rfl)
 (try simp only [pS])
 refine tc 15 hS (fun u hu=>(hu.cell (p:=⟨w.heap.size,5,none⟩) K1.out.lt).trans (K1.out.cell (o:=5) rfl)) ?_
 (try simp only [pS])
 refine cl 2 (copied_any _ d.enc.n d.enc.b hl0 V (D0.out.keep hS)) (fun e w1 hr => ?_)
 obtain ⟨s0,rfl,o0,hb⟩:=hr
 replace o0:=o0.base hS.size
 replace hS:=below_next hS hb
 obtain ⟨y0,e0,rfl⟩:=o0.slice
 refine ⟨_,rfl,hS,?_⟩
 (try simp only [pS])
 refine cl 5 (copied_any _ d.sig.n d.sig.b hl1 w1 (D1.out.keep hS)) (fun e w2 hr => ?_)
 obtain ⟨s1,rfl,o1,hb⟩:=hr
 replace o1:=o1.base hS.size
 replace hS:=below_next hS hb
 replace o0:=o0.below hb
 obtain ⟨y1,e1,rfl⟩:=o1.slice
 refine ⟨_,rfl,hS,?_⟩
 (try simp only [pS])
 refine cl 8 (copied_any _ d.name.n d.name.b hl2 w2 (D2.out.keep hS)) (fun e w3 hr => ?_)
 obtain ⟨s2,rfl,o2,hb⟩:=hr
 replace o2:=o2.base hS.size
 replace hS:=below_next hS hb
 replace o0:=o0.below hb
 replace o1:=o1.below hb
 obtain ⟨y2,e2,rfl⟩:=o2.slice
 refine ⟨_,rfl,hS,?_⟩
 (try simp only [pS])
 refine cl 13 (copied_any _ d.hash.n d.hash.b hl4 w3 (D4.out.keep hS)) (fun e w4 hr => ?_)
 obtain ⟨s4,rfl,o4,hb⟩:=hr
 replace o4:=o4.base hS.size
 replace hS:=below_next hS hb
 replace o0:=o0.below hb
 replace o1:=o1.below hb
 replace o2:=o2.below hb
 obtain ⟨y4,e4,rfl⟩:=o4.slice
 refine ⟨_,rfl,hS,?_⟩
 (try simp only [pS])
 refine cl 16 (copied_any _ d.sg.n d.sg.b hl5 w4 (D5.out.keep hS)) (fun e w5 hr => ?_)
 obtain ⟨s5,rfl,o5,hb⟩:=hr
 replace o5:=o5.base hS.size
 replace hS:=below_next hS hb
 replace o0:=o0.below hb
 replace o1:=o1.below hb
 replace o2:=o2.below hb
 replace o4:=o4.below hb
 obtain ⟨y5,e5,rfl⟩:=o5.slice
 refine ⟨_,rfl,hS,?_⟩
 (try simp only [pS])
 refine tg 17 hS (v := .agg #[.slice y0 d.enc.n e0,.slice y1 d.sig.n e1,.slice y2 d.name.n e2,.int .i64 d.src,.slice y4 d.hash.n e4,.slice y5 d.sg.n e5]) ?_ (hy:=by intro u _;kernel_rfl)
 (try simp only [pS])
 refine wpAnyH_done (by kernel_rfl) ?_ _
 have k2:=K2.out.still hS
 refine lastRow 18 26 2 20 [.slice y0 d.enc.n e0,.slice y1 d.sig.n e1,.slice y2 d.name.n e2,.int .i64 d.src,.slice y4 d.hash.n e4,.slice y5 d.sg.n e5] k2 rfl infoL6 (by simp [Value.oneCell']) (fun rr => ?_)
 refine NoPanic.normal ?_
 go_wp2
 refine bodyPost_ret (results_cell_mid Try.results10 _ _ (w.heap.size+1) 0 [.slice y0 d.enc.n e0,.slice y1 d.sig.n e1,.slice y2 d.name.n e2,.int .i64 d.src,.slice y4 d.hash.n e4,.slice y5 d.sg.n e5] _ rfl rr.range Try.underlying26 rfl infoL6) rfl ?_
 have x9:Rest [w.heap.size+1] w5 (w5.setCells (w.heap.size+1) 0 [.slice y0 d.enc.n e0,.slice y1 d.sig.n e1,.slice y2 d.name.n e2,.int .i64 d.src,.slice y4 d.hash.n e4,.slice y5 d.sg.n e5]):=Rest.of_out (Out.setCells (b:=w.heap.size+1) (o:=0) (n:=6) w5 _ (Nat.le_refl _) (Nat.le_refl _)) (by simp)
 have hx:∀ x,x∈[w.heap.size+1]→x<V.heap.size:=fun x hx=>by simp at hx;have:=SV.out;omega
 have hV:w.heap.size≤V.heap.size:=bV.size
 exact ⟨y0,e0,y1,e1,y2,e2,y4,e4,y5,e5,rfl,(o0.rest x9 hx).base hV,(o1.rest x9 hx).base hV,(o2.rest x9 hx).base hV,(o4.rest x9 hx).base hV,(o5.rest x9 hx).base hV,(below_next bV hS).trans (x9.below (fun x hx=>by simp at hx;omega) (below_next bV hS).size)⟩
theorem mkLeaf_any (cs:List Value) (d:LfD) (hl:lfL d) (w:World) (hd:LfIn w cs d):Calls Try.prog 10 #[.agg cs.toArray] w fun e w'=>∃ cs',e = .returned (.agg cs'.toArray)∧LfIn w' cs' d∧Below w.heap.size w w' :=
 (mkLeafO_any cs d hl w hd).mono fun _ _ ⟨y0,e0,y1,e1,y2,e2,y4,e4,y5,e5,h,l0,l1,l2,l4,l5,hb⟩=>⟨[.slice y0 d.enc.n e0,.slice y1 d.sig.n e1,.slice y2 d.name.n e2,.int .i64 d.src,.slice y4 d.hash.n e4,.slice y5 d.sg.n e5],h,⟨_,_,_,_,_,rfl,BytesIn.of_own l0,BytesIn.of_own l1,BytesIn.of_own l2,BytesIn.of_own l4,BytesIn.of_own l5⟩,hb⟩
end Go.Proofs.Ytgdcmibdjiaofaa
namespace Go.Proofs.Ytgdcmibdjiaofaa
open Go.RowKit
theorem rX {P:Program} {md:Region.Mode} {ops:Array Oper} {Q:Exit→Act→World→Prop} {S:World→Prop} {fuel:Nat} {listed:Array Bool} {a:Act} {w:World} (i:Nat) {rs:List Nat} {oi:Oper} (v:Value) (cs:Array Value) (t:TypeId) (hk:S (w.alloc (.cells cs t))) (h:wpAnyH P md ops Q S fuel (listed.setIfInBounds i true) (a.put oi.dst v) (w.alloc (.cells cs t))) (hs:AllReadyH P md ops Q S fuel listed a w rs)
 (hi:ops.toList[i]? = some oi:=by rfl) (hrun:(execOp a.eval oi).run P w = .ok (.value v) (w.alloc (.cells cs t)):=by kernel_rfl) (hw:Region.wanted oi (yielded ops a.tmps)=true:=by rfl):AllReadyH P md ops Q S fuel listed a w (i :: rs):=by
 refine AllReadyH.cons (at_list hi) (fun K hK => ?_) hs
 rw [if_pos hw]
 unfold Oper.wp
 rw [hrun,Oper.upon_value]
 exact hK.out _ _ hk (fun _=>h)
theorem own_unlike {w w':World} {b b' e e' s s' n n':Nat} {v v':Value} {xs xs':List Value} (h:w.ownsRow b e s v n xs) (h':w.ownsRow b' e' s' v' n' xs') (hne:e≠e') (hg:w.grownBy w' v'.ownBlock):w'.ownsRow b e s v n xs:=by
 obtain ⟨h1,h2⟩:=h
 refine ⟨h1,?_⟩
 rcases h2 with h2 | ⟨g,cap,cur,hv,hb,hc,hr⟩
 · exact .inl h2
 · refine .inr ⟨g,cap,cur,hv,hb,?_,hr⟩
   rw [hg.block g (World.ownsRow.lt (w:=w) (base:=b) (e:=e) (size:=s) (v:=v) (n:=n) (xs:=xs) ⟨h1,.inr ⟨g,cap,cur,hv,hb,hc,hr⟩⟩ g (by rw [hv];rfl)).2 (fun ho => ?_)]
   · exact hc
   · rcases h'.2 with ⟨hn,-⟩ | ⟨g',cap',cur',hv',-,hc',-⟩
     · rw [hn] at ho;cases ho
     · rw [hv'] at ho
       obtain rfl:g=g':=by simpa [Value.ownBlock] using ho
       rw [hc] at hc'
       simp at hc'
       exact hne hc'.2
theorem run_append_ints' (w:World) (base:Nat) (v:Value) (l m:List Int) (u:Value) (hown:OwnZ base w v l) (hu:ZIx w u m) (hl:(l.length+m.length)*8≤140737488355328) (hbase:base≤w.heap.size) :
 ∃ v' w',(Builtin.append_ #[42,42] 42 #[v,u]).run Try.prog w = .ok v' w'∧OwnZ base w' v' (l ++ m)∧Below base w w'∧w.grownBy w' v.ownBlock:=by
 obtain ⟨x,c,rfl,hxn,hz⟩:=hu
 obtain ⟨i0,hi,hz0,hz1,hz2⟩:=info_parts info_int
 cases x with
 | none =>
  have hm:m=[]:=by
   cases m with
   | nil=>rfl
   | cons a m=>obtain ⟨g,o,h,-⟩:=hz 0 a rfl;cases h
  subst hm
  obtain rfl:=hxn rfl
  refine ⟨v,w,?_,by rw [List.append_nil];exact hown,Below.refl _ _,⟨rfl,rfl,rfl,Nat.le_refl _,fun _ _ _=>rfl⟩⟩
  rcases hown.2 with ⟨rfl,_⟩ | ⟨g,cap,cur,rfl,_,_,hnc,_⟩
  · exact run_append_nothing w 42 42 42 3 i0 und_ints hi none 0 0 (Nat.le_refl _) _ ⟨.inl ⟨_,und_ints⟩,fun _=>rfl,rfl,rfl,by simp,fun _ h=>by cases h⟩
  · exact run_append_nothing w 42 42 42 3 i0 und_ints hi _ l.length cap hnc _ ⟨.inl ⟨_,und_ints⟩,fun _=>rfl,rfl,rfl,by simp,fun _ h=>by cases h⟩
 | some ad =>
  have hnews:∀ j u,(m.map fun z=>Value.int .i64 z)[j]? = some u→w.cell? (ad.add j)=some u:=fun j u hu=>by
   rw [List.getElem?_map] at hu
   cases hj:m[j]? with
   | none=>rw [hj] at hu;cases hu
   | some z =>
    rw [hj] at hu
    obtain ⟨g,o,h,-,hc⟩:=hz j z hj
    cases h
    rw [Addr.add_mid,←(Option.some.inj hu:Value.int .i64 z=u)]
    exact hc
  obtain ⟨v',w',h1,h2,h3,-,-⟩:=run_append_own_at (P:=Try.prog) w base 42 42 3 i0 (.int .i64 0) 1 8 und_ints hi hz0 hz1 hz2 rfl (by decide) v l.length _ hown ad m.length c (m.map fun z => .int .i64 z) (by simp) hnews (fun u hu=>by simp at hu;obtain ⟨a,-,rfl⟩:=hu;rfl) (by unfold maxLen;omega) hl hbase
  refine ⟨v',w',h1,?_,below_grown (Below.refl _ _) h3 hown (Nat.le_refl _) hbase,h3⟩
  unfold OwnZ
  rw [List.length_append,List.map_append]
  exact h2
def PrIx (w:World) (cs:List Value) (d:PrD):Prop:=∃ v0 v1 v2,cs=[v0,v1,v2]∧BytesIn w v0 d.enc.n d.enc.b∧BytesIn w v1 d.hash.n d.hash.b∧ZIx w v2 d.um
theorem PrIx.prin {w:World} {cs:List Value} {d:PrD} (h:PrIx w cs d):PrIn w cs d:=by
 obtain ⟨v0,v1,v2,e,h0,h1,h2⟩:=h
 exact ⟨v0,v1,v2,e,h0,h1,h2.zin⟩
theorem PrIx.keep {w w':World} {cs:List Value} {d:PrD} (h:PrIx w cs d) (hb:Below w.heap.size w w'):PrIx w' cs d:=by
 obtain ⟨v0,v1,v2,e,h0,h1,h2⟩:=h
 exact ⟨v0,v1,v2,e,h0.keep hb,h1.keep hb,h2.keep hb⟩
def prL (d:PrD):Prop:=d.enc.n<140737488355000∧d.hash.n<140737488355000∧d.um.length*8≤140737488355000
set_option maxRecDepth 20000 in
set_option maxHeartbeats 1000000 in
theorem mkParent_any (cs:List Value) (d:PrD) (hl:prL d) (w:World) (hd:PrIx w cs d):Calls Try.prog 19 #[.agg cs.toArray] w fun e w'=>∃ cs',e = .returned (.agg cs'.toArray)∧PrIn w' cs' d∧Below w.heap.size w w':=by
 obtain ⟨v0,v1,v2,rfl,h0,h1,h2⟩:=hd
 have h2':=h2
 obtain ⟨x0,c0,rfl,-⟩:=h0.src
 obtain ⟨x1,c1,rfl,-⟩:=h1.src
 obtain ⟨x2,c2,rfl,-⟩:=h2
 have k1:=RW.fresh w [.slice x0 d.enc.n c0,.slice x1 d.hash.n c1,.slice x2 d.um.length c2] 44
 have b1:Below w.heap.size w (w.alloc (.cells #[.slice x0 d.enc.n c0,.slice x1 d.hash.n c1,.slice x2 d.um.length c2] 44)):=(Below.refl _ _).alloc (Nat.le_refl _) _
 have s1:(w.alloc (.cells #[.slice x0 d.enc.n c0,.slice x1 d.hash.n c1,.slice x2 d.um.length c2] 44)).heap.size=w.heap.size+1:=by simp
 obtain ⟨W1,hW1⟩:∃ W1,W1=w.alloc (.cells #[.slice x0 d.enc.n c0,.slice x1 d.hash.n c1,.slice x2 d.um.length c2] 44):=⟨_,rfl⟩
 rw [show w.alloc (.cells ([.slice x0 d.enc.n c0,.slice x1 d.hash.n c1,.slice x2 d.um.length c2]).toArray 44)=W1 from hW1.symm] at k1
 rw [←hW1] at b1 s1
 have k2:=RW.fresh W1 [.slice none 0 0,.slice none 0 0,.slice none 0 0] 45
 have b2:Below W1.heap.size W1 (W1.alloc (.cells #[.slice none 0 0,.slice none 0 0,.slice none 0 0] 45)):=(Below.refl _ _).alloc (Nat.le_refl _) _
 have s2:(W1.alloc (.cells #[.slice none 0 0,.slice none 0 0,.slice none 0 0] 45)).heap.size=W1.heap.size+1:=by simp
 obtain ⟨W,hW⟩:∃ W,W=W1.alloc (.cells #[.slice none 0 0,.slice none 0 0,.slice none 0 0] 45):=⟨_,rfl⟩
 rw [show W1.alloc (.cells [.slice none 0 0,.slice none 0 0,.slice none 0 0].toArray 45)=W from hW.symm] at k2
 rw [←hW] at b2 s2
 rw [s1] at k2 s2
 have HW:Hid (W=(w.alloc (.cells #[.slice x0 d.enc.n c0,.slice x1 d.hash.n c1,.slice x2 d.um.length c2] 44)).alloc (.cells #[.slice none 0 0,.slice none 0 0,.slice none 0 0] 45)):=Hid.mk' (by rw [hW,hW1])
 have bd:Below W.heap.size W W.drew:=(Below.refl _ _).drew
 have bV:=below_next (below_next b1 b2) bd
 have K1:=Hid.mk' ((k1.still b2).still bd)
 have K2:=Hid.mk' (k2.still bd)
 have D0:=Hid.mk' (h0.keep bV)
 have D1:=Hid.mk' (h1.keep bV)
 have D2:=Hid.mk' (h2'.keep bV)
 have sV:W.drew.heap.size=w.heap.size+1+1:=s2
 have SV:=Hid.mk' sV
 clear hW hW1 k1 k2 b1 b2 s1 s2 bd sV h0 h1 h2'
 go_enter Try.func19,Try.ntmps19
 go_upto_region 1 with (fail)
 rw [←HW.out]
 refine wp_last 11 (S:=fun u=>Below W.drew.heap.size W.drew u) (by kernel_rfl) (by kernel_rfl) (by kernel_rfl) (by kernel_rfl) (Below.refl _ _) (fun hS => ?_)
 clear HW
 generalize W.drew=V at *
 refine tg 0 hS (v:=pA w.heap.size 0) ?_ (hy:=by intro u _;kernel_rfl)
 (try simp only [pS])
 refine tc 1 hS (fun u hu=>(hu.cell (p:=⟨w.heap.size,0,none⟩) K1.out.lt).trans (K1.out.cell (o:=0) rfl)) ?_
 (try simp only [pS])
 refine tg 3 hS (v:=pA w.heap.size 1) ?_ (hy:=by intro u _;kernel_rfl)
 (try simp only [pS])
 refine tc 4 hS (fun u hu=>(hu.cell (p:=⟨w.heap.size,1,none⟩) K1.out.lt).trans (K1.out.cell (o:=1) rfl)) ?_
 (try simp only [pS])
 refine tg 7 hS (v:=pA w.heap.size 2) ?_ (hy:=by intro u _;kernel_rfl)
 (try simp only [pS])
 refine tc 8 hS (fun u hu=>(hu.cell (p:=⟨w.heap.size,2,none⟩) K1.out.lt).trans (K1.out.cell (o:=2) rfl)) ?_
 (try simp only [pS])
 refine wpAnyH_ready (rs:=[2,6]) (by kernel_rfl) (by simp) ?_
 refine rC 2 (copied_any _ d.enc.n d.enc.b hl.1 V (D0.out.keep hS)) (fun e w1 hr => ?_) ?_
 · obtain ⟨s0,rfl,o0,hb⟩:=hr
   replace o0:=o0.base hS.size
   replace hS:=below_next hS hb
   refine ⟨_,rfl,hS,?_⟩
   (try simp only [pS])
   refine wpAnyH_ready (rs:=[5,6]) (by kernel_rfl) (by simp) ?_
   refine rC 5 (copied_any _ d.hash.n d.hash.b hl.2.1 w1 (D1.out.keep hS)) (fun e w2 hr => ?_) ?_
   · obtain ⟨s1,rfl,o1,hb⟩:=hr
     replace o1:=o1.base hS.size
     replace hS:=below_next hS hb
     refine ⟨_,rfl,hS,?_⟩
     (try simp only [pS])
     replace o0:=o0.below hb
     refine wpAnyH_ready (rs:=[6]) (by kernel_rfl) (by simp) ?_
     refine rX 6 (.slice (some ⟨w2.heap.size,0,none⟩) 0 0) #[] 3 (below_next hS ((Below.refl _ _).alloc (Nat.le_refl _) _)) ?_ ?_
     · have hb:Below w2.heap.size w2 (w2.alloc (.cells #[] 3)):=(Below.refl _ _).alloc (Nat.le_refl _) _
       have oz:=(show OwnZ V.heap.size (w2.alloc (.cells #[] 3)) (.slice (some ⟨w2.heap.size,0,none⟩) 0 0) [] from World.ownsRow_lit w2 #[] 0 hS.size (by decide) rfl)
       replace hS:=below_next hS hb
       generalize w2.alloc (.cells #[] 3)=w3 at *
       (try simp only [pS])
       replace o0:=o0.below hb
       replace o1:=o1.below hb
       obtain ⟨v4,w4,hrun4,oz4,b4,gr4⟩:=run_append_ints' w3 V.heap.size _ [] d.um _ oz (D2.out.keep hS) (by have:=hl.2.2;simp;omega) hS.size
       have o0':Own V.heap.size w4 _ d.enc.n d.enc.b:=own_unlike o0 oz (by decide) gr4
       have o1':Own V.heap.size w4 _ d.hash.n d.hash.b:=own_unlike o1 oz (by decide) gr4
       obtain ⟨y0,e0,ey0⟩:=o0'.slice
       obtain ⟨y1,e1,ey1⟩:=o1'.slice
       obtain ⟨y2,e2,ey2⟩:=oz4.slice
       rw [List.nil_append] at ey2
       subst ey0 ey1 ey2
       have hS4:=hS.trans b4
       refine onlyV 9 (v := .slice y2 d.um.length e2) ?_ hS4 ?_
       · exact exec_appZ (.tmp 9) (.tmp 11) rfl rfl rfl rfl hrun4
       (try simp only [pS])
       refine tg 10 hS4 (v := .agg #[.slice y0 d.enc.n e0,.slice y1 d.hash.n e1,.slice y2 d.um.length e2]) ?_ (hy:=by intro u _;kernel_rfl)
       (try simp only [pS])
       refine wpAnyH_done (by kernel_rfl) ?_ _
       have k2:=K2.out.still hS4
       refine lastRow 11 45 2 13 [.slice y0 d.enc.n e0,.slice y1 d.hash.n e1,.slice y2 d.um.length e2] k2 rfl infoP3 (by simp [Value.oneCell']) (fun rr => ?_)
       refine NoPanic.normal ?_
       go_wp2
       refine bodyPost_ret (results_cell_mid Try.results19 _ _ (w.heap.size+1) 0 [.slice y0 d.enc.n e0,.slice y1 d.hash.n e1,.slice y2 d.um.length e2] _ rfl rr.range Try.underlying45 rfl infoP3) rfl ?_
       have x9:Rest [w.heap.size+1] w4 (w4.setCells (w.heap.size+1) 0 [.slice y0 d.enc.n e0,.slice y1 d.hash.n e1,.slice y2 d.um.length e2]):=Rest.of_out (Out.setCells (b:=w.heap.size+1) (o:=0) (n:=3) w4 _ (Nat.le_refl _) (Nat.le_refl _)) (by simp)
       have hx:∀ x,x∈[w.heap.size+1]→x<V.heap.size:=fun x hx=>by simp at hx;have:=SV.out;omega
       exact ⟨[.slice y0 d.enc.n e0,.slice y1 d.hash.n e1,.slice y2 d.um.length e2],rfl,⟨_,_,_,rfl,BytesIn.of_own (o0'.rest x9 hx),BytesIn.of_own (o1'.rest x9 hx),(OwnZ.rest oz4 x9 hx).zin⟩,(below_next bV hS4).trans (x9.below (fun x hx=>by simp at hx;omega) (below_next bV hS4).size)⟩
     exact AllReadyH.nil
   refine rX 6 (.slice (some ⟨w1.heap.size,0,none⟩) 0 0) #[] 3 (below_next hS ((Below.refl _ _).alloc (Nat.le_refl _) _)) ?_ ?_
   · have hb:Below w1.heap.size w1 (w1.alloc (.cells #[] 3)):=(Below.refl _ _).alloc (Nat.le_refl _) _
     have oz:=(show OwnZ V.heap.size (w1.alloc (.cells #[] 3)) (.slice (some ⟨w1.heap.size,0,none⟩) 0 0) [] from World.ownsRow_lit w1 #[] 0 hS.size (by decide) rfl)
     replace hS:=below_next hS hb
     generalize w1.alloc (.cells #[] 3)=w2 at *
     (try simp only [pS])
     replace o0:=o0.below hb
     refine wpAnyH_ready (rs:=[5]) (by kernel_rfl) (by simp) ?_
     refine rC 5 (copied_any _ d.hash.n d.hash.b hl.2.1 w2 (D1.out.keep hS)) (fun e w3 hr => ?_) ?_
     · obtain ⟨s1,rfl,o1,hb⟩:=hr
       replace o1:=o1.base hS.size
       replace hS:=below_next hS hb
       refine ⟨_,rfl,hS,?_⟩
       (try simp only [pS])
       replace o0:=o0.below hb
       replace oz:=oz.below hb
       obtain ⟨v4,w4,hrun4,oz4,b4,gr4⟩:=run_append_ints' w3 V.heap.size _ [] d.um _ oz (D2.out.keep hS) (by have:=hl.2.2;simp;omega) hS.size
       have o0':Own V.heap.size w4 _ d.enc.n d.enc.b:=own_unlike o0 oz (by decide) gr4
       have o1':Own V.heap.size w4 _ d.hash.n d.hash.b:=own_unlike o1 oz (by decide) gr4
       obtain ⟨y0,e0,ey0⟩:=o0'.slice
       obtain ⟨y1,e1,ey1⟩:=o1'.slice
       obtain ⟨y2,e2,ey2⟩:=oz4.slice
       rw [List.nil_append] at ey2
       subst ey0 ey1 ey2
       have hS4:=hS.trans b4
       refine onlyV 9 (v := .slice y2 d.um.length e2) ?_ hS4 ?_
       · exact exec_appZ (.tmp 9) (.tmp 11) rfl rfl rfl rfl hrun4
       (try simp only [pS])
       refine tg 10 hS4 (v := .agg #[.slice y0 d.enc.n e0,.slice y1 d.hash.n e1,.slice y2 d.um.length e2]) ?_ (hy:=by intro u _;kernel_rfl)
       (try simp only [pS])
       refine wpAnyH_done (by kernel_rfl) ?_ _
       have k2:=K2.out.still hS4
       refine lastRow 11 45 2 13 [.slice y0 d.enc.n e0,.slice y1 d.hash.n e1,.slice y2 d.um.length e2] k2 rfl infoP3 (by simp [Value.oneCell']) (fun rr => ?_)
       refine NoPanic.normal ?_
       go_wp2
       refine bodyPost_ret (results_cell_mid Try.results19 _ _ (w.heap.size+1) 0 [.slice y0 d.enc.n e0,.slice y1 d.hash.n e1,.slice y2 d.um.length e2] _ rfl rr.range Try.underlying45 rfl infoP3) rfl ?_
       have x9:Rest [w.heap.size+1] w4 (w4.setCells (w.heap.size+1) 0 [.slice y0 d.enc.n e0,.slice y1 d.hash.n e1,.slice y2 d.um.length e2]):=Rest.of_out (Out.setCells (b:=w.heap.size+1) (o:=0) (n:=3) w4 _ (Nat.le_refl _) (Nat.le_refl _)) (by simp)
       have hx:∀ x,x∈[w.heap.size+1]→x<V.heap.size:=fun x hx=>by simp at hx;have:=SV.out;omega
       exact ⟨[.slice y0 d.enc.n e0,.slice y1 d.hash.n e1,.slice y2 d.um.length e2],rfl,⟨_,_,_,rfl,BytesIn.of_own (o0'.rest x9 hx),BytesIn.of_own (o1'.rest x9 hx),(OwnZ.rest oz4 x9 hx).zin⟩,(below_next bV hS4).trans (x9.below (fun x hx=>by simp at hx;omega) (below_next bV hS4).size)⟩
     exact AllReadyH.nil
   exact AllReadyH.nil
 refine rX 6 (.slice (some ⟨V.heap.size,0,none⟩) 0 0) #[] 3 (below_next hS ((Below.refl _ _).alloc (Nat.le_refl _) _)) ?_ ?_
 · have hb:Below V.heap.size V (V.alloc (.cells #[] 3)):=(Below.refl _ _).alloc (Nat.le_refl _) _
   have oz:=(show OwnZ V.heap.size (V.alloc (.cells #[] 3)) (.slice (some ⟨V.heap.size,0,none⟩) 0 0) [] from World.ownsRow_lit V #[] 0 hS.size (by decide) rfl)
   replace hS:=below_next hS hb
   generalize V.alloc (.cells #[] 3)=w1 at *
   (try simp only [pS])
   refine wpAnyH_ready (rs:=[2]) (by kernel_rfl) (by simp) ?_
   refine rC 2 (copied_any _ d.enc.n d.enc.b hl.1 w1 (D0.out.keep hS)) (fun e w2 hr => ?_) ?_
   · obtain ⟨s0,rfl,o0,hb⟩:=hr
     replace o0:=o0.base hS.size
     replace hS:=below_next hS hb
     refine ⟨_,rfl,hS,?_⟩
     (try simp only [pS])
     replace oz:=oz.below hb
     refine wpAnyH_ready (rs:=[5]) (by kernel_rfl) (by simp) ?_
     refine rC 5 (copied_any _ d.hash.n d.hash.b hl.2.1 w2 (D1.out.keep hS)) (fun e w3 hr => ?_) ?_
     · obtain ⟨s1,rfl,o1,hb⟩:=hr
       replace o1:=o1.base hS.size
       replace hS:=below_next hS hb
       refine ⟨_,rfl,hS,?_⟩
       (try simp only [pS])
       replace oz:=oz.below hb
       replace o0:=o0.below hb
       obtain ⟨v4,w4,hrun4,oz4,b4,gr4⟩:=run_append_ints' w3 V.heap.size _ [] d.um _ oz (D2.out.keep hS) (by have:=hl.2.2;simp;omega) hS.size
       have o0':Own V.heap.size w4 _ d.enc.n d.enc.b:=own_unlike o0 oz (by decide) gr4
       have o1':Own V.heap.size w4 _ d.hash.n d.hash.b:=own_unlike o1 oz (by decide) gr4
       obtain ⟨y0,e0,ey0⟩:=o0'.slice
       obtain ⟨y1,e1,ey1⟩:=o1'.slice
       obtain ⟨y2,e2,ey2⟩:=oz4.slice
       rw [List.nil_append] at ey2
       subst ey0 ey1 ey2
       have hS4:=hS.trans b4
       refine onlyV 9 (v := .slice y2 d.um.length e2) ?_ hS4 ?_
       · exact exec_appZ (.tmp 9) (.tmp 11) rfl rfl rfl rfl hrun4
       (try simp only [pS])
       refine tg 10 hS4 (v := .agg #[.slice y0 d.enc.n e0,.slice y1 d.hash.n e1,.slice y2 d.um.length e2]) ?_ (hy:=by intro u _;kernel_rfl)
       (try simp only [pS])
       refine wpAnyH_done (by kernel_rfl) ?_ _
       have k2:=K2.out.still hS4
       refine lastRow 11 45 2 13 [.slice y0 d.enc.n e0,.slice y1 d.hash.n e1,.slice y2 d.um.length e2] k2 rfl infoP3 (by simp [Value.oneCell']) (fun rr => ?_)
       refine NoPanic.normal ?_
       go_wp2
       refine bodyPost_ret (results_cell_mid Try.results19 _ _ (w.heap.size+1) 0 [.slice y0 d.enc.n e0,.slice y1 d.hash.n e1,.slice y2 d.um.length e2] _ rfl rr.range Try.underlying45 rfl infoP3) rfl ?_
       have x9:Rest [w.heap.size+1] w4 (w4.setCells (w.heap.size+1) 0 [.slice y0 d.enc.n e0,.slice y1 d.hash.n e1,.slice y2 d.um.length e2]):=Rest.of_out (Out.setCells (b:=w.heap.size+1) (o:=0) (n:=3) w4 _ (Nat.le_refl _) (Nat.le_refl _)) (by simp)
       have hx:∀ x,x∈[w.heap.size+1]→x<V.heap.size:=fun x hx=>by simp at hx;have:=SV.out;omega
       exact ⟨[.slice y0 d.enc.n e0,.slice y1 d.hash.n e1,.slice y2 d.um.length e2],rfl,⟨_,_,_,rfl,BytesIn.of_own (o0'.rest x9 hx),BytesIn.of_own (o1'.rest x9 hx),(OwnZ.rest oz4 x9 hx).zin⟩,(below_next bV hS4).trans (x9.below (fun x hx=>by simp at hx;omega) (below_next bV hS4).size)⟩
     exact AllReadyH.nil
   exact AllReadyH.nil
 exact AllReadyH.nil
def pkL (d:PkD):Prop:=d.init.n<140737488355000∧lfL d.leaf∧d.sg.n<140737488355000
set_option maxRecDepth 20000 in
set_option maxHeartbeats 1000000 in
theorem mkPackage_any (cs:List Value) (d:PkD) (hl:pkL d) (w:World) (hd:PkIn w cs d):Calls Try.prog 25 #[.agg cs.toArray] w fun e w'=>∃ cs',e = .returned (.agg cs'.toArray)∧PkIn w' cs' d∧Below w.heap.size w w':=by
 obtain ⟨x0,c0,u0,u1,u2,u4,u5,x7,c7,rfl,h0,hlf,h7⟩:=hd.form
 clear hd
 have hlf':=hlf
 obtain ⟨y0,e0,y1,e1,y2,e2,y4,e4,y5,e5,hu,-⟩:=hlf.form
 clear hlf
 cases hu
 have k1:=RW.fresh w [.slice x0 d.init.n c0,.slice y0 d.leaf.enc.n e0,.slice y1 d.leaf.sig.n e1,.slice y2 d.leaf.name.n e2,.int .i64 d.leaf.src,.slice y4 d.leaf.hash.n e4,.slice y5 d.leaf.sg.n e5,.slice x7 d.sg.n c7] 56
 have b1:Below w.heap.size w (w.alloc (.cells #[.slice x0 d.init.n c0,.slice y0 d.leaf.enc.n e0,.slice y1 d.leaf.sig.n e1,.slice y2 d.leaf.name.n e2,.int .i64 d.leaf.src,.slice y4 d.leaf.hash.n e4,.slice y5 d.leaf.sg.n e5,.slice x7 d.sg.n c7] 56)):=(Below.refl _ _).alloc (Nat.le_refl _) _
 have s1:(w.alloc (.cells #[.slice x0 d.init.n c0,.slice y0 d.leaf.enc.n e0,.slice y1 d.leaf.sig.n e1,.slice y2 d.leaf.name.n e2,.int .i64 d.leaf.src,.slice y4 d.leaf.hash.n e4,.slice y5 d.leaf.sg.n e5,.slice x7 d.sg.n c7] 56)).heap.size=w.heap.size+1:=by simp
 obtain ⟨W1,hW1⟩:∃ W1,W1=w.alloc (.cells #[.slice x0 d.init.n c0,.slice y0 d.leaf.enc.n e0,.slice y1 d.leaf.sig.n e1,.slice y2 d.leaf.name.n e2,.int .i64 d.leaf.src,.slice y4 d.leaf.hash.n e4,.slice y5 d.leaf.sg.n e5,.slice x7 d.sg.n c7] 56):=⟨_,rfl⟩
 rw [show w.alloc (.cells ([.slice x0 d.init.n c0,.slice y0 d.leaf.enc.n e0,.slice y1 d.leaf.sig.n e1,.slice y2 d.leaf.name.n e2,.int .i64 d.leaf.src,.slice y4 d.leaf.hash.n e4,.slice y5 d.leaf.sg.n e5,.slice x7 d.sg.n c7]).toArray 56)=W1 from hW1.symm] at k1
 rw [←hW1] at b1 s1
 have k2:=RW.fresh W1 [.slice none 0 0,.slice none 0 0,.slice none 0 0,.slice none 0 0,.int .i64 0,.slice none 0 0,.slice none 0 0,.slice none 0 0] 58
 have b2:Below W1.heap.size W1 (W1.alloc (.cells #[.slice none 0 0,.slice none 0 0,.slice none 0 0,.slice none 0 0,.int .i64 0,.slice none 0 0,.slice none 0 0,.slice none 0 0] 58)):=(Below.refl _ _).alloc (Nat.le_refl _) _
 have s2:(W1.alloc (.cells #[.slice none 0 0,.slice none 0 0,.slice none 0 0,.slice none 0 0,.int .i64 0,.slice none 0 0,.slice none 0 0,.slice none 0 0] 58)).heap.size=W1.heap.size+1:=by simp
 obtain ⟨W,hW⟩:∃ W,W=W1.alloc (.cells #[.slice none 0 0,.slice none 0 0,.slice none 0 0,.slice none 0 0,.int .i64 0,.slice none 0 0,.slice none 0 0,.slice none 0 0] 58):=⟨_,rfl⟩
 rw [show W1.alloc (.cells [.slice none 0 0,.slice none 0 0,.slice none 0 0,.slice none 0 0,.int .i64 0,.slice none 0 0,.slice none 0 0,.slice none 0 0].toArray 58)=W from hW.symm] at k2
 rw [←hW] at b2 s2
 rw [s1] at k2 s2
 have HW:Hid (W=(w.alloc (.cells #[.slice x0 d.init.n c0,.slice y0 d.leaf.enc.n e0,.slice y1 d.leaf.sig.n e1,.slice y2 d.leaf.name.n e2,.int .i64 d.leaf.src,.slice y4 d.leaf.hash.n e4,.slice y5 d.leaf.sg.n e5,.slice x7 d.sg.n c7] 56)).alloc (.cells #[.slice none 0 0,.slice none 0 0,.slice none 0 0,.slice none 0 0,.int .i64 0,.slice none 0 0,.slice none 0 0,.slice none 0 0] 58)):=Hid.mk' (by rw [hW,hW1])
 have bd:Below W.heap.size W W.drew:=(Below.refl _ _).drew
 have bV:=below_next (below_next b1 b2) bd
 have K1:=Hid.mk' ((k1.still b2).still bd)
 have K2:=Hid.mk' (k2.still bd)
 have D0:=Hid.mk' (h0.keep bV)
 have D1:=Hid.mk' (hlf'.keep bV)
 have D7:=Hid.mk' (h7.keep bV)
 have sV:W.drew.heap.size=w.heap.size+1+1:=s2
 have SV:=Hid.mk' sV
 clear hW hW1 k1 k2 b1 b2 s1 s2 bd sV h0 hlf' h7
 go_enter Try.func25,Try.ntmps25
 go_upto_region 1 with (fail)
 rw [←HW.out]
 refine wp_last 10 (S:=fun u=>Below W.drew.heap.size W.drew u) (by kernel_rfl) (by kernel_rfl) (by kernel_rfl) (by kernel_rfl) (Below.refl _ _) (fun hS => ?_)
 clear HW
 generalize W.drew=V at *
 refine tg 0 hS (v:=pA w.heap.size 0) ?_ (hy:=by intro u _;kernel_rfl)
 (try simp only [pS])
 refine tc 1 hS (fun u hu=>(hu.cell (p:=⟨w.heap.size,0,none⟩) K1.out.lt).trans (K1.out.cell (o:=0) rfl)) ?_
 (try simp only [pS])
 refine tg 3 hS (v:=pA w.heap.size 1) ?_ (hy:=by intro u _;kernel_rfl)
 (try simp only [pS])
 refine tR 4 hS 24 [.slice y0 d.leaf.enc.n e0,.slice y1 d.leaf.sig.n e1,.slice y2 d.leaf.name.n e2,.int .i64 d.leaf.src,.slice y4 d.leaf.hash.n e4,.slice y5 d.leaf.sg.n e5] Try.underlying24 infoRL (fun u hu=>(row_mid (K1.out.still hu)).range) ?_
 (try simp only [pS])
 refine tg 6 hS (v:=pA w.heap.size 7) ?_ (hy:=by intro u _;kernel_rfl)
 (try simp only [pS])
 refine tc 7 hS (fun u hu=>(hu.cell (p:=⟨w.heap.size,7,none⟩) K1.out.lt).trans (K1.out.cell (o:=7) rfl)) ?_
 (try simp only [pS])
 refine cl 2 (copied_any _ d.init.n d.init.b hl.1 V (D0.out.keep hS)) (fun e w1 hr => ?_)
 obtain ⟨s0,rfl,o0,hb⟩:=hr
 replace o0:=o0.base hS.size
 replace hS:=below_next hS hb
 obtain ⟨z0,f0,rfl⟩:=o0.slice
 refine ⟨_,rfl,hS,?_⟩
 (try simp only [pS])
 refine cl 5 (mkLeafO_any _ d.leaf hl.2.1 w1 (D1.out.keep hS)) (fun e w2 hr => ?_)
 obtain ⟨q0,g0,q1,g1,q2,g2,q4,g4,q5,g5,rfl,l0,l1,l2,l4,l5,hb⟩:=hr
 replace l0:=l0.base hS.size
 replace l1:=l1.base hS.size
 replace l2:=l2.base hS.size
 replace l4:=l4.base hS.size
 replace l5:=l5.base hS.size
 replace hS:=below_next hS hb
 replace o0:=o0.below hb
 refine ⟨_,rfl,hS,?_⟩
 (try simp only [pS])
 refine cl 8 (copied_any _ d.sg.n d.sg.b hl.2.2 w2 (D7.out.keep hS)) (fun e w3 hr => ?_)
 obtain ⟨s7,rfl,o7,hb⟩:=hr
 replace o7:=o7.base hS.size
 replace hS:=below_next hS hb
 replace o0:=o0.below hb
 replace l0:=l0.below hb
 replace l1:=l1.below hb
 replace l2:=l2.below hb
 replace l4:=l4.below hb
 replace l5:=l5.below hb
 obtain ⟨z7,f7,rfl⟩:=o7.slice
 refine ⟨_,rfl,hS,?_⟩
 (try simp only [pS])
 refine tg 9 hS (v := .agg #[.slice z0 d.init.n f0,.slice q0 d.leaf.enc.n g0,.slice q1 d.leaf.sig.n g1,.slice q2 d.leaf.name.n g2,.int .i64 d.leaf.src,.slice q4 d.leaf.hash.n g4,.slice q5 d.leaf.sg.n g5,.slice z7 d.sg.n f7]) ?_ (hy:=by intro u _;kernel_rfl)
 (try simp only [pS])
 refine wpAnyH_done (by kernel_rfl) ?_ _
 have k2:=K2.out.still hS
 refine lastRow 10 58 2 12 [.slice z0 d.init.n f0,.slice q0 d.leaf.enc.n g0,.slice q1 d.leaf.sig.n g1,.slice q2 d.leaf.name.n g2,.int .i64 d.leaf.src,.slice q4 d.leaf.hash.n g4,.slice q5 d.leaf.sg.n g5,.slice z7 d.sg.n f7] k2 rfl infoK8 (by simp [Value.oneCell']) (fun rr => ?_)
 refine NoPanic.normal ?_
 go_wp2
 refine bodyPost_ret (results_cell_mid Try.results25 _ _ (w.heap.size+1) 0 [.slice z0 d.init.n f0,.slice q0 d.leaf.enc.n g0,.slice q1 d.leaf.sig.n g1,.slice q2 d.leaf.name.n g2,.int .i64 d.leaf.src,.slice q4 d.leaf.hash.n g4,.slice q5 d.leaf.sg.n g5,.slice z7 d.sg.n f7] _ rfl rr.range Try.underlying58 rfl infoK8) rfl ?_
 have x9:Rest [w.heap.size+1] w3 (w3.setCells (w.heap.size+1) 0 [.slice z0 d.init.n f0,.slice q0 d.leaf.enc.n g0,.slice q1 d.leaf.sig.n g1,.slice q2 d.leaf.name.n g2,.int .i64 d.leaf.src,.slice q4 d.leaf.hash.n g4,.slice q5 d.leaf.sg.n g5,.slice z7 d.sg.n f7]):=Rest.of_out (Out.setCells (b:=w.heap.size+1) (o:=0) (n:=8) w3 _ (Nat.le_refl _) (Nat.le_refl _)) (by simp)
 have hx:∀ x,x∈[w.heap.size+1]→x<V.heap.size:=fun x hx=>by simp at hx;have:=SV.out;omega
 exact ⟨[.slice z0 d.init.n f0,.slice q0 d.leaf.enc.n g0,.slice q1 d.leaf.sig.n g1,.slice q2 d.leaf.name.n g2,.int .i64 d.leaf.src,.slice q4 d.leaf.hash.n g4,.slice q5 d.leaf.sg.n g5,.slice z7 d.sg.n f7],rfl,⟨_,[.slice q0 d.leaf.enc.n g0,.slice q1 d.leaf.sig.n g1,.slice q2 d.leaf.name.n g2,.int .i64 d.leaf.src,.slice q4 d.leaf.hash.n g4,.slice q5 d.leaf.sg.n g5],_,rfl,BytesIn.of_own (o0.rest x9 hx),⟨_,_,_,_,_,rfl,BytesIn.of_own (l0.rest x9 hx),BytesIn.of_own (l1.rest x9 hx),BytesIn.of_own (l2.rest x9 hx),BytesIn.of_own (l4.rest x9 hx),BytesIn.of_own (l5.rest x9 hx)⟩,BytesIn.of_own (o7.rest x9 hx)⟩,(below_next bV hS).trans (x9.below (fun x hx=>by simp at hx;omega) (below_next bV hS).size)⟩
end Go.Proofs.Ytgdcmibdjiaofaa
