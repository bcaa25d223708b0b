/- What the proof stands on: N3rj, N3rk, N3rl, N3ct, N3cl. -/
import Derived.Test.YtgdcmibdjiaofaaN3rfM
namespace Go.Proofs.Ytgdcmibdjiaofaa
open Go.RowKit
theorem infoRK:(Try.prog.info? 56).map (·.size)=some 8:=by kernel_rfl
section
variable {ops:Array Oper} {rest:List Oper} {op:Oper} {a:Act} {w:World} {Q:Exit→Act→World→Prop}
theorem ldK (x:Operand) (ho:op.op = .load 56 x) {g o:Nat} {A B C D E F G H:Value} (hx:a.eval x = .pointer (some ⟨g,o,none⟩)) (hc:w.rangeAt g o [A,B,C,D,E,F,G,H])
 (h:wpList Try.prog ops Q rest (a.put op.dst (.agg #[A,B,C,D,E,F,G,H])) w) (hgd:op.guard=none):wpList Try.prog ops Q (op :: rest) a w :=
 wpList_load_mid hgd 56 x ho g o hx [A,B,C,D,E,F,G,H] _ hc Try.underlying56 rfl infoRK h
theorem ldKg (x:Operand) (ho:op.op = .load 56 x) {g o:Nat} {A B C D E F G H:Value} (hx:a.eval x = .pointer (some ⟨g,o,none⟩)) (hc:w.rangeAt g o [A,B,C,D,E,F,G,H])
 (h:wpList Try.prog ops Q rest (a.put op.dst (.agg #[A,B,C,D,E,F,G,H])) w) (hw:Region.wanted op (yielded ops a.tmps)=true):wpList Try.prog ops Q (op :: rest) a w :=
 wpList_load_on hw 56 x ho g o hx [A,B,C,D,E,F,G,H] _ hc Try.underlying56 rfl infoRK h
theorem stK (x y:Operand) (ho:op.op = .store 56 x y) {g o:Nat} {A B C D E F G H:Value} (hx:a.eval x = .pointer (some ⟨g,o,none⟩)) (hy:a.eval y = .agg #[A,B,C,D,E,F,G,H])
 (h1:[A,B,C,D,E,F,G,H].all (·.oneCell')=true) (ht:w.there g o 8) (h:wpList Try.prog ops Q rest (a.put op.dst undef) (w.setCells g o [A,B,C,D,E,F,G,H])) (hgd:op.guard=none):wpList Try.prog ops Q (op :: rest) a w :=
 wpList_store_mid hgd 56 x y ho g o #[A,B,C,D,E,F,G,H] hx hy ht infoRK (by simpa using h1) h
end
theorem row_mid {w:World} {g:Nat} {A B C D E F G H:Value} (r:RW w g 0 [A,B,C,D,E,F,G,H]):RW w g 1 [B,C,D,E,F,G]:=((show RW w g 0 ([A] ++ ([B,C,D,E,F,G] ++ [H])) from r).right).left
def pkK (d:PkD):Prop:=(∀ j,d.init.b j<256)∧lfK d.leaf∧∀ j,d.sg.b j<256
theorem PkIn.form {w:World} {cs:List Value} {d:PkD} (h:PkIn w cs d):∃ x0 c0 u0 u1 u2 u4 u5 x7 c7,cs=[.slice x0 d.init.n c0,u0,u1,u2,.int .i64 d.leaf.src,u4,u5,.slice x7 d.sg.n c7]∧BytesIn w (.slice x0 d.init.n c0) d.init.n d.init.b∧LfIn w [u0,u1,u2,.int .i64 d.leaf.src,u4,u5] d.leaf∧BytesIn w (.slice x7 d.sg.n c7) d.sg.n d.sg.b:=by
 obtain ⟨v0,l,v7,rfl,h0,hl,h7⟩:=h
 obtain ⟨x0,c0,rfl,-⟩:=h0.src
 obtain ⟨x7,c7,rfl,-⟩:=h7.src
 have hl':=hl
 obtain ⟨u0,u1,u2,u4,u5,rfl,-⟩:=hl
 exact ⟨x0,c0,u0,u1,u2,u4,u5,x7,c7,rfl,h0,hl',h7⟩
set_option maxRecDepth 20000 in
set_option maxHeartbeats 1000000 in
theorem rRK_a (x0 x7:Option Addr) (n0 n7 c0 c7:Nat) (u0 u1 u2 u4 u5:Value) (s:Int) (_h0:¬(n0:Int)=32) (w:World):Calls Try.prog 51 #[.agg #[.slice x0 n0 c0,u0,u1,u2,.int .i64 s,u4,u5,.slice x7 n7 c7]] w fun e w'=>e = .returned (.bool false)∧Below w.heap.size w w':=by
 have k1:=RW.fresh w [.slice x0 n0 c0,u0,u1,u2,.int .i64 s,u4,u5,.slice x7 n7 c7] 56
 have bV:Below w.heap.size w (w.alloc (.cells #[.slice x0 n0 c0,u0,u1,u2,.int .i64 s,u4,u5,.slice x7 n7 c7] 56)):=(Below.refl _ _).alloc (Nat.le_refl _) _
 obtain ⟨W,hW⟩:∃ W,W=w.alloc (.cells #[.slice x0 n0 c0,u0,u1,u2,.int .i64 s,u4,u5,.slice x7 n7 c7] 56):=⟨_,rfl⟩
 rw [show w.alloc (.cells ([.slice x0 n0 c0,u0,u1,u2,.int .i64 s,u4,u5,.slice x7 n7 c7]).toArray 56)=W from hW.symm] at k1
 rw [←hW] at bV
 have HW:=Hid.mk' hW
 have K1:=Hid.mk' k1
 have q0:=k1.cell (o:=0) rfl
 have rr:=(row_mid k1).range
 clear hW k1
 go_enter Try.func51,Try.ntmps51
 go_upto_region 1 with (fail)
 rw [←HW.out]
 clear rr
 go_wp2
 go_ret
 exact ⟨by first | rfl | (show Ending.returned (.bool ((n0:Int) == 32))=_;rw [show ((n0:Int) == 32)=false from by simpa using _h0]),bV⟩
set_option maxRecDepth 20000 in
set_option maxHeartbeats 1000000 in
theorem rRK_b (x0 x7:Option Addr) (n0 n7 c0 c7:Nat) (u0 u1 u2 u4 u5:Value) (s:Int) (_h0:(n0:Int)=32) (w:World) (_cr:∀ W,Below w.heap.size w W→Calls Try.prog 38 #[.agg #[u0,u1,u2,.int .i64 s,u4,u5]] W fun e w'=>e = .returned (.bool false)∧Below W.heap.size W w'):Calls Try.prog 51 #[.agg #[.slice x0 n0 c0,u0,u1,u2,.int .i64 s,u4,u5,.slice x7 n7 c7]] w fun e w'=>e = .returned (.bool false)∧Below w.heap.size w w':=by
 have k1:=RW.fresh w [.slice x0 n0 c0,u0,u1,u2,.int .i64 s,u4,u5,.slice x7 n7 c7] 56
 have bV:Below w.heap.size w (w.alloc (.cells #[.slice x0 n0 c0,u0,u1,u2,.int .i64 s,u4,u5,.slice x7 n7 c7] 56)):=(Below.refl _ _).alloc (Nat.le_refl _) _
 obtain ⟨W,hW⟩:∃ W,W=w.alloc (.cells #[.slice x0 n0 c0,u0,u1,u2,.int .i64 s,u4,u5,.slice x7 n7 c7] 56):=⟨_,rfl⟩
 rw [show w.alloc (.cells ([.slice x0 n0 c0,u0,u1,u2,.int .i64 s,u4,u5,.slice x7 n7 c7]).toArray 56)=W from hW.symm] at k1
 rw [←hW] at bV
 have HW:=Hid.mk' hW
 have K1:=Hid.mk' k1
 have q0:=k1.cell (o:=0) rfl
 have rr:=(row_mid k1).range
 have cr:=_cr W bV
 clear hW k1 _cr
 go_enter Try.func51,Try.ntmps51
 go_upto_region 1 with (fail)
 rw [←HW.out]
 go_wp2_with (first
  | (with_reducible (refine id (?_:wpList _ _ _ _ _ _));refine ldLg _ rfl rfl rr ?_ rfl)
  | (go_at_call 38;refine cr.mono ?_;clear cr;rintro e w2 ⟨rfl,b2⟩;(have q4:=(K1.out.still b2).cell (o:=4) rfl);(have q7:=(K1.out.still b2).cell (o:=7) rfl)))
 go_ret
 exact ⟨rfl,below_next bV b2⟩
set_option maxRecDepth 20000 in
set_option maxHeartbeats 1000000 in
theorem rRK_c (x0 x7:Option Addr) (n0 n7 c0 c7:Nat) (u0 u1 u2 u4 u5:Value) (s:Int) (_h0:(n0:Int)=32) (_h1:¬s=1) (w:World) (_cr:∀ W,Below w.heap.size w W→Calls Try.prog 38 #[.agg #[u0,u1,u2,.int .i64 s,u4,u5]] W fun e w'=>e = .returned (.bool true)∧Below W.heap.size W w'):Calls Try.prog 51 #[.agg #[.slice x0 n0 c0,u0,u1,u2,.int .i64 s,u4,u5,.slice x7 n7 c7]] w fun e w'=>e = .returned (.bool false)∧Below w.heap.size w w':=by
 have k1:=RW.fresh w [.slice x0 n0 c0,u0,u1,u2,.int .i64 s,u4,u5,.slice x7 n7 c7] 56
 have bV:Below w.heap.size w (w.alloc (.cells #[.slice x0 n0 c0,u0,u1,u2,.int .i64 s,u4,u5,.slice x7 n7 c7] 56)):=(Below.refl _ _).alloc (Nat.le_refl _) _
 obtain ⟨W,hW⟩:∃ W,W=w.alloc (.cells #[.slice x0 n0 c0,u0,u1,u2,.int .i64 s,u4,u5,.slice x7 n7 c7] 56):=⟨_,rfl⟩
 rw [show w.alloc (.cells ([.slice x0 n0 c0,u0,u1,u2,.int .i64 s,u4,u5,.slice x7 n7 c7]).toArray 56)=W from hW.symm] at k1
 rw [←hW] at bV
 have HW:=Hid.mk' hW
 have K1:=Hid.mk' k1
 have q0:=k1.cell (o:=0) rfl
 have rr:=(row_mid k1).range
 have cr:=_cr W bV
 clear hW k1 _cr
 go_enter Try.func51,Try.ntmps51
 go_upto_region 1 with (fail)
 rw [←HW.out]
 go_wp2_with (first
  | (with_reducible (refine id (?_:wpList _ _ _ _ _ _));refine ldLg _ rfl rfl rr ?_ rfl)
  | (go_at_call 38;refine cr.mono ?_;clear cr;rintro e w2 ⟨rfl,b2⟩;(have q4:=(K1.out.still b2).cell (o:=4) rfl);(have q7:=(K1.out.still b2).cell (o:=7) rfl)))
 go_ret
 exact ⟨by first | rfl | (show Ending.returned (.bool (s == 1))=_;rw [show (s == 1)=false from by simpa using _h1]),below_next bV b2⟩
set_option maxRecDepth 20000 in
set_option maxHeartbeats 1000000 in
theorem rRK_d (x0 x7:Option Addr) (n0 n7 c0 c7:Nat) (u0 u1 u2 u4 u5:Value) (_h0:(n0:Int)=32) (w:World) (_cr:∀ W,Below w.heap.size w W→Calls Try.prog 38 #[.agg #[u0,u1,u2,.int .i64 1,u4,u5]] W fun e w'=>e = .returned (.bool true)∧Below W.heap.size W w'):Calls Try.prog 51 #[.agg #[.slice x0 n0 c0,u0,u1,u2,.int .i64 1,u4,u5,.slice x7 n7 c7]] w fun e w'=>e = .returned (.bool ((n7:Int) == 64))∧Below w.heap.size w w':=by
 have k1:=RW.fresh w [.slice x0 n0 c0,u0,u1,u2,.int .i64 1,u4,u5,.slice x7 n7 c7] 56
 have bV:Below w.heap.size w (w.alloc (.cells #[.slice x0 n0 c0,u0,u1,u2,.int .i64 1,u4,u5,.slice x7 n7 c7] 56)):=(Below.refl _ _).alloc (Nat.le_refl _) _
 obtain ⟨W,hW⟩:∃ W,W=w.alloc (.cells #[.slice x0 n0 c0,u0,u1,u2,.int .i64 1,u4,u5,.slice x7 n7 c7] 56):=⟨_,rfl⟩
 rw [show w.alloc (.cells ([.slice x0 n0 c0,u0,u1,u2,.int .i64 1,u4,u5,.slice x7 n7 c7]).toArray 56)=W from hW.symm] at k1
 rw [←hW] at bV
 have HW:=Hid.mk' hW
 have K1:=Hid.mk' k1
 have q0:=k1.cell (o:=0) rfl
 have rr:=(row_mid k1).range
 have cr:=_cr W bV
 clear hW k1 _cr
 go_enter Try.func51,Try.ntmps51
 go_upto_region 1 with (fail)
 rw [←HW.out]
 go_wp2_with (first
  | (with_reducible (refine id (?_:wpList _ _ _ _ _ _));refine ldLg _ rfl rfl rr ?_ rfl)
  | (go_at_call 38;refine cr.mono ?_;clear cr;rintro e w2 ⟨rfl,b2⟩;(have q4:=(K1.out.still b2).cell (o:=4) rfl);(have q7:=(K1.out.still b2).cell (o:=7) rfl)))
 go_ret
 exact ⟨rfl,below_next bV b2⟩
theorem rRightPackage_any (cs:List Value) (d:PkD) (w:World) (hd:PkIn w cs d):Calls Try.prog 51 #[.agg cs.toArray] w fun e w'=>e = .returned (.bool (allU (pkA d) 10))∧Below w.heap.size w w':=by
 obtain ⟨x0,c0,u0,u1,u2,u4,u5,x7,c7,rfl,-,hl,-⟩:=hd.form
 have cr:=fun W hb=>rRightLeaf_any _ d.leaf W (hl.keep (w':=W) hb)
 have hF:¬pkR d→allU (pkA d) 10=false:=fun h=>Bool.eq_false_iff.2 (fun e=>h ((pk_all d).1 e))
 have h13:lfR d.leaf 1↔lfR d.leaf 3∧d.leaf.src=1:=by
  unfold lfR
  constructor
  · rintro ⟨a,b,c,e,f,g⟩;exact ⟨⟨a,b,c,by omega,f,g⟩,by omega⟩
  · rintro ⟨⟨a,b,c,e,f,g⟩,h⟩;exact ⟨a,b,c,by omega,f,g⟩
 by_cases g0:(d.init.n:Int)=32
 rotate_left
 · rw [hF (fun h=>by have:=h.1;omega)]
   exact rRK_a x0 x7 _ _ c0 c7 u0 u1 u2 u4 u5 _ g0 w
 by_cases g1:lfR d.leaf 3
 rotate_left
 · rw [hF (fun h=>g1 (h13.1 h.2.1).1)]
   rw [Bool.eq_false_iff.2 (fun e=>g1 ((lf_all d.leaf 3).1 e))] at cr
   exact rRK_b x0 x7 _ _ c0 c7 u0 u1 u2 u4 u5 _ g0 w cr
 rw [(lf_all d.leaf 3).2 g1] at cr
 by_cases g2:d.leaf.src=1
 rotate_left
 · rw [hF (fun h=>g2 (h13.1 h.2.1).2)]
   exact rRK_c x0 x7 _ _ c0 c7 u0 u1 u2 u4 u5 _ g0 g2 w cr
 have e:allU (pkA d) 10=((d.sg.n:Int) == 64):=by
  rw [Bool.eq_iff_iff,pk_all]
  unfold pkR
  rw [h13]
  simp only [beq_iff_eq]
  constructor
  · intro h;have:=h.2.2;omega
  · intro h;exact ⟨by omega,⟨g1,g2⟩,by omega⟩
 rw [e]
 rw [g2] at cr ⊢
 exact rRK_d x0 x7 _ _ c0 c7 u0 u1 u2 u4 u5 g0 w cr
end Go.Proofs.Ytgdcmibdjiaofaa
namespace Go.Proofs.Ytgdcmibdjiaofaa
open Go.RowKit
theorem sumN_congr {pn qn:Nat→Nat}:∀ {k},(∀ i,i<k→pn i=qn i)→sumN pn k=sumN qn k
 | 0,_=>rfl
 | k+1,h=>by show sumN pn k+pn k=sumN qn k+qn k;rw [sumN_congr (k:=k) fun i hi=>h i (by omega),h k (by omega)]
theorem allB_congr {pn qn:Nat→Nat} {pb qb:Nat→Nat→Nat}:∀ {k},(∀ i,i<k→pn i=qn i∧pb i=qb i)→allB pn pb k=allB qn qb k
 | 0,_=>rfl
 | k+1,h=>by show cat (sumN pn k) (allB pn pb k) (pb k)=cat (sumN qn k) (allB qn qb k) (qb k);rw [sumN_congr (k:=k) fun i hi=>(h i (by omega)).1,allB_congr (k:=k) fun i hi=>h i (by omega),(h k (by omega)).2]
theorem sumN_shift (pn:Nat→Nat) (a:Nat):∀ k,sumN pn (a+k)=sumN pn a+sumN (fun i=>pn (a+i)) k
 | 0=>rfl
 | k+1=>by show sumN pn (a+k)+pn (a+k)=sumN pn a+(sumN _ k+pn (a+k));rw [sumN_shift pn a k];omega
theorem cat_assoc (n m:Nat) (a b c:Nat→Nat):cat (n+m) (cat n a b) c=cat n a (cat m b c):=by
 funext j
 by_cases h1:j<n
 · simp [cat,h1,show j<n+m by omega]
 · by_cases h2:j<n+m
   · simp [cat,h1,h2,show j - n<m by omega]
   · simp [cat,h1,h2,show ¬(j - n<m) by omega,Nat.sub_sub]
theorem allB_shift (pn:Nat→Nat) (pb:Nat→Nat→Nat) (a:Nat):∀ k j,j<sumN pn (a+k)→allB pn pb (a+k) j=cat (sumN pn a) (allB pn pb a) (allB (fun i=>pn (a+i)) (fun i=>pb (a+i)) k) j
 | 0,j,hj=>(cat_left hj).symm
 | k+1,j,hj=>by
  have hs:sumN pn (a+(k+1))=sumN pn (a+k)+pn (a+k):=rfl
  show cat (sumN pn (a+k)) (allB pn pb (a+k)) (pb (a+k)) j=cat (sumN pn a) (allB pn pb a) (cat (sumN (fun i=>pn (a+i)) k) (allB (fun i=>pn (a+i)) (fun i=>pb (a+i)) k) (pb (a+k))) j
  rw [←cat_assoc,sumN_shift pn a k]
  by_cases h:j<sumN pn (a+k)
  · rw [sumN_shift] at h
    rw [cat_left h,cat_left h]
    exact allB_shift pn pb a k j (by rw [sumN_shift];exact h)
  · rw [sumN_shift] at h
    unfold cat
    rw [if_neg h,if_neg h]
theorem pk_leaf (d:PkD):∀ i,i<6→(fun i=>pkN d (3+i)) i=lfN d.leaf i∧(fun i=>pkB d (3+i)) i=lfB d.leaf i
 | 0,_=>⟨rfl,rfl⟩
 | 1,_=>⟨rfl,rfl⟩
 | 2,_=>⟨rfl,rfl⟩
 | 3,_=>⟨rfl,rfl⟩
 | 4,_=>⟨rfl,rfl⟩
 | 5,_=>⟨rfl,rfl⟩
 | n+6,h=>by omega
theorem pk_sum9 (d:PkD):sumN (pkN d) 9=sumN (pkN d) 3+lfLen d.leaf:=by
 rw [show (9:Nat)=3+6 from rfl,sumN_shift]
 exact congrArg _ (sumN_congr fun i hi=>(pk_leaf d i hi).1)
theorem pk_all9 (d:PkD):∀ j,j<sumN (pkN d) 3+lfLen d.leaf→cat (sumN (pkN d) 3) (allB (pkN d) (pkB d) 3) (lfByt d.leaf) j=allB (pkN d) (pkB d) 9 j:=by
 intro j hj
 rw [←pk_sum9] at hj
 rw [show (9:Nat)=3+6 from rfl,allB_shift _ _ _ _ _ hj,allB_congr (fun i hi=>pk_leaf d i hi)]
 rfl
def hd4 (j:Nat):Nat:=if j%2=0 then 0 else 1
theorem hd4_own (base:Nat) (w:World) (hb:base≤w.heap.size):Own base (w.alloc (.cells #[.int .u8 0,.int .u8 1,.int .u8 0,.int .u8 1] 5)) (.slice (some ⟨w.heap.size,0,none⟩) 4 4) 4 hd4:=World.ownsRow_lit w #[.int .u8 0,.int .u8 1,.int .u8 0,.int .u8 1] 4 hb (by decide) rfl
theorem hd4_all (d:PkD):∀ j,j<4→hd4 j=allB (pkN d) (pkB d) 2 j
 | 0,_=>by show hd4 0=beN 1 2 0;decide
 | 1,_=>by show hd4 1=beN 1 2 1;decide
 | 2,_=>by show hd4 2=beN 1 2 0;decide
 | 3,_=>by show hd4 3=beN 1 2 1;decide
 | n+4,h=>by omega
theorem pk_s3 (d:PkD) (h:d.init.n=32):sumN (pkN d) 3=37:=by show 0+2+2+vcL d.init.n=37;rw [h];rfl
theorem lf_len (d:LfD) (hR:lfR d 3):lfLen d≤2000:=by
 have h5:=sum5_le d hR
 have q0:=lnS_pos d.sg.n
 have:=hR.2.2.2.2.2
 show sumN (lfN d) 5+vcL d.sg.n≤_
 unfold vcL
 omega
theorem lf13 {d:LfD} (h:lfR d 1):lfR d 3:=⟨h.1,h.2.1,h.2.2.1,by have:=h.2.2.2.1;omega,h.2.2.2.2.1,h.2.2.2.2.2⟩
set_option maxRecDepth 20000 in
set_option maxHeartbeats 1000000 in
theorem rOffer_any (cs:List Value) (d:PkD) (hR:pkR d) (hk:pkK d) (w:World) (hd:PkIn w cs d):Calls Try.prog 63 #[.agg cs.toArray] w fun e w'=>∃ s,e = .returned s∧Own w.heap.size w' s (sumN (pkN d) 9) (allB (pkN d) (pkB d) 9)∧Below w.heap.size w w':=by
 obtain ⟨x0,c0,u0,u1,u2,u4,u5,x7,c7,rfl,h0,hl,-⟩:=hd.form
 clear hd
 obtain ⟨s,hs⟩:∃ s,s=d.leaf.src:=⟨_,rfl⟩
 rw [←hs] at hl ⊢
 clear hs
 have k1:=RW.fresh w [.slice x0 d.init.n c0,u0,u1,u2,.int .i64 s,u4,u5,.slice x7 d.sg.n c7] 56
 have bV:Below w.heap.size w (w.alloc (.cells #[.slice x0 d.init.n c0,u0,u1,u2,.int .i64 s,u4,u5,.slice x7 d.sg.n c7] 56)):=(Below.refl _ _).alloc (Nat.le_refl _) _
 obtain ⟨W,hW⟩:∃ W,W=w.alloc (.cells #[.slice x0 d.init.n c0,u0,u1,u2,.int .i64 s,u4,u5,.slice x7 d.sg.n c7] 56):=⟨_,rfl⟩
 rw [show w.alloc (.cells ([.slice x0 d.init.n c0,u0,u1,u2,.int .i64 s,u4,u5,.slice x7 d.sg.n c7]).toArray 56)=W from hW.symm] at k1
 rw [←hW] at bV
 have HW:=Hid.mk' hW
 have K1:=Hid.mk' k1
 have h32:=hR.1
 have l3:=pk_s3 d h32
 have hlen:=lf_len d.leaf (lf13 hR.2.1)
 have HS9:=Hid.mk' (pk_sum9 d)
 have q0:=((Below.refl W.heap.size W).alloc (Nat.le_refl _) (.cells #[.int .u8 0,.int .u8 1,.int .u8 0,.int .u8 1] 5))
 have o1:=hd4_own W.heap.size W (Nat.le_refl _)
 have s1:(W.alloc (.cells #[.int .u8 0,.int .u8 1,.int .u8 0,.int .u8 1] 5)).heap.size=W.heap.size+1:=by simp
 obtain ⟨X,hX⟩:∃ X,X=W.alloc (.cells #[.int .u8 0,.int .u8 1,.int .u8 0,.int .u8 1] 5):=⟨_,rfl⟩
 rw [←hX] at q0 o1 s1
 have HX:=Hid.mk' hX
 have b1:Below X.heap.size X (X.alloc (.cells #[.slice x0 d.init.n c0] 22)):=(Below.refl _ _).alloc (Nat.le_refl _) _
 have cj:=rJoin1 X.heap.size _ d.init.n d.init.b (by omega) hk.1 _ (RW.fresh X [.slice x0 d.init.n c0] 22) (((h0.keep bV).keep q0).keep b1)
 have HL:=Hid.mk' (hl.keep bV)
 have cb:=fun W' hb=>rLeafBytes_any _ d.leaf (lf13 hR.2.1) hk.2.1 W' (HL.out.keep hb)
 have CB:=Hid.mk' cb
 have hv32:vcL d.init.n=33:=by rw [h32];rfl
 have H9:=Hid.mk' (pk_all9 d)
 have O1:=Hid.mk' (o1.congr (hd4_all d))
 have HV:=Hid.mk' hv32
 have HL3:=Hid.mk' l3
 obtain ⟨n0,hn0⟩:∃ n0,n0=d.init.n:=⟨_,rfl⟩
 rw [←hn0] at HW K1 b1 cj HV ⊢
 have HN0:=Hid.mk' hn0
 have HLN:=Hid.mk' hlen
 clear hW k1 hX cb hl h0 hR h32 o1 l3 hlen hv32 hn0
 go_enter Try.func63,Try.ntmps63
 go_upto_region 1 with (fail)
 rw [←HW.out]
 have q0':=(K1.out.still q0).cell (o:=0) rfl
 rw [HX.out] at q0'
 rw [s1,HX.out] at cj
 go_upto_region 2 with (first
  | (go_at_call 61;refine cj.mono ?_;clear cj;rw [←HX.out];rintro e w5 ⟨s5,rfl,o5,b5⟩;(obtain ⟨x5,c5,e5,hxn5,-,hs5⟩:=(BytesIn.of_own o5).src);subst e5;(have hsrc5:=hs5 w5 (Below.refl _ _));(have b15:=below_next b1 b5);(have ow5:=O1.out.below b15);(have bw5:=below_next q0 b15))
  | (at_builtin;refine wpList_append_bytes rfl (.tmp 4) (.tmp 8) rfl W.heap.size _ 4 _ rfl ow5 x5 _ c5 _ rfl hsrc5 hxn5 (by have:=HV.out;omega) bw5.size ?_;intro v6 w6 own6 grow6;have hb6:=Own.grown bw5 grow6 ow5 (Nat.le_refl _) bw5.size))
 have O6:Own W.heap.size w6 v6 (sumN (pkN d) 3) (allB (pkN d) (pkB d) 3):=by
  rw [HN0.out] at own6
  exact own6
 clear own6 grow6
 have rr:=(row_mid (K1.out.still hb6)).range
 have cb:=CB.out w6 hb6
 generalize sumN (pkN d) 3=m3 at *
 generalize allB (pkN d) (pkB d) 3=X3 at *
 obtain ⟨x6,c6,e6⟩:=O6.slice
 subst e6
 clear q0' CB HX O1 ow5 hsrc5 hs5 o5
 go_wp2_with (first
  | (with_reducible (refine id (?_:wpList _ _ _ _ _ _));refine ldL _ rfl rfl rr ?_ rfl)
  | (go_at_call 39;refine cb.mono ?_;clear cb;rintro e w7 ⟨s7,rfl,o7,b7⟩;(obtain ⟨x7',c7',e7,hxn7,-,hs7⟩:=(BytesIn.of_own o7).src);subst e7;(have hsrc7:=hs7 w7 (Below.refl _ _));(have ow7:=O6.below b7);(have bw7:=below_next hb6 b7))
  | (at_builtin;refine wpList_append_bytes rfl (.tmp 10) (.tmp 13) rfl W.heap.size _ m3 _ rfl ow7 x7' _ c7' _ rfl hsrc7 hxn7 (by have:=HL3.out;have:=HLN.out;omega) bw7.size ?_;intro v8 w8 own8 grow8;have hb8:=Own.grown bw7 grow8 ow7 (Nat.le_refl _) bw7.size))
 go_ret
 rw [HS9.out]
 exact ⟨_,rfl,(own8.congr H9.out).base bV.size,below_next bV hb8⟩
theorem pk_s9 (d:PkD) (hR:pkR d):sumN (pkN d) 9≤3000:=by
 have h1:=pk_s3 d hR.1
 have h2:=lf_len d.leaf (lf13 hR.2.1)
 rw [pk_sum9]
 omega
set_option maxRecDepth 20000 in
set_option maxHeartbeats 1000000 in
theorem rPackageBytes_any (cs:List Value) (d:PkD) (hR:pkR d) (hk:pkK d) (w:World) (hd:PkIn w cs d):Calls Try.prog 52 #[.agg cs.toArray] w fun e w'=>∃ s,e = .returned s∧Own w.heap.size w' s (pkLen d) (pkByt d)∧Below w.heap.size w w':=by
 have SZ:=Hid.mk' (pk_s9 d hR)
 have hd':=hd
 obtain ⟨x0,c0,u0,u1,u2,u4,u5,x7,c7,rfl,-,-,h7⟩:=hd.form
 obtain ⟨s,hs⟩:∃ s,s=d.leaf.src:=⟨_,rfl⟩
 rw [←hs] at hd' ⊢
 clear hs hd
 have k1:=RW.fresh w [.slice x0 d.init.n c0,u0,u1,u2,.int .i64 s,u4,u5,.slice x7 d.sg.n c7] 56
 have bV:Below w.heap.size w (w.alloc (.cells #[.slice x0 d.init.n c0,u0,u1,u2,.int .i64 s,u4,u5,.slice x7 d.sg.n c7] 56)):=(Below.refl _ _).alloc (Nat.le_refl _) _
 obtain ⟨W,hW⟩:∃ W,W=w.alloc (.cells #[.slice x0 d.init.n c0,u0,u1,u2,.int .i64 s,u4,u5,.slice x7 d.sg.n c7] 56):=⟨_,rfl⟩
 rw [show w.alloc (.cells ([.slice x0 d.init.n c0,u0,u1,u2,.int .i64 s,u4,u5,.slice x7 d.sg.n c7]).toArray 56)=W from hW.symm] at k1
 rw [←hW] at bV
 have HW:=Hid.mk' hW
 replace bV:=bV.trans ((Below.refl W.heap.size W).drew.mono bV.size)
 replace k1:=k1.drew
 have DD:=Hid.mk' (hd'.keep bV)
 have D5:=Hid.mk' (h7.keep bV)
 have K1:=Hid.mk' k1
 have HR:=Hid.mk' hR
 clear hW hd' h7 k1 hR
 go_enter Try.func52,Try.ntmps52
 go_upto_region 1 with (fail)
 rw [←HW.out]
 refine wp_region_held_drew (S:=fun u=>Below W.drew.heap.size W.drew u) (by kernel_rfl) (Below.refl _ _) (fun hS => ?_)
 clear HW
 generalize W.drew=V at *
 refine tR 0 hS 56 [.slice x0 d.init.n c0,u0,u1,u2,.int .i64 s,u4,u5,.slice x7 d.sg.n c7] Try.underlying56 infoRK (fun u hu=>(K1.out.still hu).range) ?_
 (try simp only [pS])
 refine tg 2 hS (v:=pA w.heap.size 7) ?_ (hy:=by intro u _;kernel_rfl)
 (try simp only [pS])
 refine tc 3 hS (fun u hu=>(hu.cell (p:=⟨w.heap.size,7,none⟩) K1.out.lt).trans (K1.out.cell (o:=7) rfl)) ?_
 (try simp only [pS])
 refine wpAnyH_ready (rs:=[1,4]) (by kernel_rfl) (by simp) ?_
 refine rC 1 (rOffer_any _ d HR.out hk V (DD.out.keep hS)) (fun e w1 hr => ?_) ?_
 · obtain ⟨s1,rfl,o1,hb⟩:=hr
   replace o1:=o1.base hS.size
   replace hS:=below_next hS hb
   refine ⟨_,rfl,hS,?_⟩
   (try simp only [pS])
   refine wpAnyH_ready (rs:=[4]) (by kernel_rfl) (by simp) ?_
   refine rG 4 (fun g => .slice (some ⟨g,0,none⟩) 1 1) ([.slice x7 d.sg.n c7]) 22 (fun u hb=>below_next hS hb) (fun w2 g1 lr1 hb r1 => ?_) ?_
   · replace hS:=below_next hS hb
     (try simp only [pS])
     replace o1:=o1.below hb
     refine wpAnyH_ready (rs:=[5]) (by kernel_rfl) (by simp) ?_
     refine rC 5 (rJoin1 g1 _ d.sg.n d.sg.b (by have:=HR.out.2.2;omega) hk.2.2 w2 r1 (D5.out.keep hS)) (fun e w3 hr => ?_) ?_
     · obtain ⟨s2,rfl,o2,hb⟩:=hr
       replace hS:=below_next hS hb
       refine ⟨_,rfl,hS,?_⟩
       (try simp only [pS])
       replace o1:=o1.below hb
       replace r1:=r1.still hb
       obtain ⟨x5,c5,e5,hxn5,-,hs5⟩:=(BytesIn.of_own o2).src
       subst e5
       obtain ⟨v4,w4,hrun4,o4,b4⟩:=run_append_bytes w3 V.heap.size s1 _ _ o1 x5 _ c5 _ (hs5 w3 (Below.refl _ _)) hxn5 (by have:=SZ.out;have:=lnS_pos d.sg.n;have:=HR.out.2.2;unfold vcL;omega) hS.size
       have hS4:=hS.trans b4
       refine onlyV 6 (v:=v4) ?_ hS4 ?_
       · exact exec_append (.tmp 4) (.tmp 8) rfl rfl rfl rfl hrun4
       (try simp only [pS])
       refine tg 7 hS4 ?_
       (try simp only [pS])
       refine wpAnyH_done (by kernel_rfl) ?_ _
       go_wp2
       go_ret
       exact ⟨_,rfl,o4.base bV.size,below_next bV hS4⟩
     exact AllReadyH.nil
   exact AllReadyH.nil
 refine rG 4 (fun g => .slice (some ⟨g,0,none⟩) 1 1) ([.slice x7 d.sg.n c7]) 22 (fun u hb=>below_next hS hb) (fun w1 g1 lr1 hb r1 => ?_) ?_
 · replace hS:=below_next hS hb
   (try simp only [pS])
   refine wpAnyH_ready (rs:=[1]) (by kernel_rfl) (by simp) ?_
   refine rC 1 (rOffer_any _ d HR.out hk w1 (DD.out.keep hS)) (fun e w2 hr => ?_) ?_
   · obtain ⟨s1,rfl,o1,hb⟩:=hr
     replace o1:=o1.base hS.size
     replace hS:=below_next hS hb
     refine ⟨_,rfl,hS,?_⟩
     (try simp only [pS])
     replace r1:=r1.still hb
     refine wpAnyH_ready (rs:=[5]) (by kernel_rfl) (by simp) ?_
     refine rC 5 (rJoin1 g1 _ d.sg.n d.sg.b (by have:=HR.out.2.2;omega) hk.2.2 w2 r1 (D5.out.keep hS)) (fun e w3 hr => ?_) ?_
     · obtain ⟨s2,rfl,o2,hb⟩:=hr
       replace hS:=below_next hS hb
       refine ⟨_,rfl,hS,?_⟩
       (try simp only [pS])
       replace r1:=r1.still hb
       replace o1:=o1.below hb
       obtain ⟨x5,c5,e5,hxn5,-,hs5⟩:=(BytesIn.of_own o2).src
       subst e5
       obtain ⟨v4,w4,hrun4,o4,b4⟩:=run_append_bytes w3 V.heap.size s1 _ _ o1 x5 _ c5 _ (hs5 w3 (Below.refl _ _)) hxn5 (by have:=SZ.out;have:=lnS_pos d.sg.n;have:=HR.out.2.2;unfold vcL;omega) hS.size
       have hS4:=hS.trans b4
       refine onlyV 6 (v:=v4) ?_ hS4 ?_
       · exact exec_append (.tmp 4) (.tmp 8) rfl rfl rfl rfl hrun4
       (try simp only [pS])
       refine tg 7 hS4 ?_
       (try simp only [pS])
       refine wpAnyH_done (by kernel_rfl) ?_ _
       go_wp2
       go_ret
       exact ⟨_,rfl,o4.base bV.size,below_next bV hS4⟩
     exact AllReadyH.nil
   exact AllReadyH.nil
 exact AllReadyH.nil
set_option maxRecDepth 20000 in
set_option maxHeartbeats 1000000 in
theorem rPutPackage_any (cs:List Value) (d:PkD) (hk:pkK d) (w:World) (hd:PkIn w cs d):Calls Try.prog 27 #[.agg cs.toArray] w fun e w'=>Below w.heap.size w w'∧PutA (pkR d) (pkLen d) (pkByt d) e w':=by
 have hd':=hd
 obtain ⟨x0,c0,u0,u1,u2,u4,u5,x7,c7,rfl,-⟩:=hd.form
 obtain ⟨s,hs⟩:∃ s,s=d.leaf.src:=⟨_,rfl⟩
 rw [←hs] at hd' ⊢
 clear hs hd
 have k1:=RW.fresh w [.slice x0 d.init.n c0,u0,u1,u2,.int .i64 s,u4,u5,.slice x7 d.sg.n c7] 56
 have bV:Below w.heap.size w (w.alloc (.cells #[.slice x0 d.init.n c0,u0,u1,u2,.int .i64 s,u4,u5,.slice x7 d.sg.n c7] 56)):=(Below.refl _ _).alloc (Nat.le_refl _) _
 obtain ⟨W,hW⟩:∃ W,W=w.alloc (.cells #[.slice x0 d.init.n c0,u0,u1,u2,.int .i64 s,u4,u5,.slice x7 d.sg.n c7] 56):=⟨_,rfl⟩
 rw [show w.alloc (.cells ([.slice x0 d.init.n c0,u0,u1,u2,.int .i64 s,u4,u5,.slice x7 d.sg.n c7]).toArray 56)=W from hW.symm] at k1
 rw [←hW] at bV
 have HW:=Hid.mk' hW
 have cr:=rRightPackage_any _ d W (hd'.keep bV)
 have cb:=fun hR W' hb=>rPackageBytes_any _ d hR hk W' ((hd'.keep bV).keep hb)
 have rr:=k1.range
 have K1:=Hid.mk' k1
 clear hW hd' k1
 by_cases hR:pkR d
 · rw [(pk_all d).2 hR] at cr
   have HR:=Hid.mk' hR
   replace cb:=Hid.mk' (cb hR)
   clear hR
   go_enter Try.func27,Try.ntmps27
   go_upto_region 1 with (fail)
   rw [←HW.out]
   go_wp2_with (first
    | (with_reducible (refine id (?_:wpList _ _ _ _ _ _));refine ldK _ rfl rfl rr ?_ rfl)
    | (go_at_call 51;refine cr.mono ?_;clear cr;rintro e w2 ⟨rfl,b2⟩;(replace rr:=(K1.out.still b2).range);(have cb2:=cb.out w2 b2))
    | (go_at_call 52;refine cb2.mono ?_;clear cb2;rintro e w3 ⟨s3,rfl,o3,b3⟩))
   go_ret2
   exact ⟨below_next (below_next bV b2) b3,by unfold PutA;rw [if_pos HR.out];exact ⟨_,rfl,BytesIn.of_own o3⟩⟩
 · rw [Bool.eq_false_iff.2 (fun e=>hR ((pk_all d).1 e))] at cr
   have HR:=Hid.mk' hR
   clear cb hR
   go_enter Try.func27,Try.ntmps27
   go_upto_region 1 with (fail)
   rw [←HW.out]
   go_wp2_with (first
    | (with_reducible (refine id (?_:wpList _ _ _ _ _ _));refine ldK _ rfl rfl rr ?_ rfl)
    | (go_at_call 51;refine cr.mono ?_;clear cr;rintro e w2 ⟨rfl,b2⟩))
   go_ret2
   exact ⟨below_next bV b2,by unfold PutA;rw [if_neg HR.out];rfl⟩
end Go.Proofs.Ytgdcmibdjiaofaa
namespace Go.Proofs.Ytgdcmibdjiaofaa
open Go.RowKit
theorem row_midset {w:World} {g:Nat} {A B C D E F G H:Value} (r:RW w g 0 [A,B,C,D,E,F,G,H]) (ds:List Value) (hl:ds.length=6):RW (w.setCells g 1 ds) g 0 (A :: (ds ++ [H])):=by
 have m:=(row_mid r).stored ds hl
 refine ⟨fun j v hv => ?_,fun j hj=>World.there_setCells r.there g 1 ds j (by simp [hl] at hj;simpa using hj),by simpa [(setCells_same g ds 1 w).2.2.2] using r.lt⟩
 rw [Nat.zero_add]
 match j,hv with
 | 0,hv =>
  rw [World.cell?_setCells_out g ds 1 w _ (fun _ _ => .inl (show 0<1 by omega))]
  exact (r.cell (o:=0) rfl).trans hv
 | j+1,hv =>
  rw [List.getElem?_cons_succ] at hv
  by_cases h6:j<6
  · rw [List.getElem?_append_left (by omega)] at hv
    have:=m.range j v hv
    rwa [Nat.add_comm 1 j] at this
  · have hj:=(List.getElem?_eq_some_iff.1 hv).1
    simp [hl] at hj
    obtain rfl:j=6:=by omega
    rw [List.getElem?_append_right (by omega),hl] at hv
    rw [World.cell?_setCells_out g ds 1 w _ (fun _ _ => .inr (show 1+ds.length≤6+1 by omega))]
    exact (r.cell (o:=7) rfl).trans hv
set_option maxRecDepth 20000 in
set_option maxHeartbeats 1000000 in
theorem rGetPackage_e (v:Value) (L:Nat) (B:Nat→Nat) (lB:∀ j,B j<256) (d:PkD) (hdd:d=kpk L B ⟨0,0⟩) (rn:Rd) (hrn:rn=kr10 L B ⟨0,0⟩) (z1 z2:Int) (hL:L<140737488355000) (hz1:(((numD L B 2 ⟨0,0⟩).1:Nat):Int)=z1) (hz2:(((numD L B 2 (kr1 L B ⟨0,0⟩)).1:Nat):Int)=z2) (he:¬endD L rn=0) (w:World) (hv:BytesIn w v L B):Calls Try.prog 29 #[v] w fun e w'=>Below w.heap.size w w'∧e = .returned (.tuple #[.agg zeroK.toArray,.int .i64 21]):=by
 have bV:Below w.heap.size w (w.alloc (.cells #[.slice none 0 0,.slice none 0 0,.slice none 0 0,.slice none 0 0,.int .i64 0,.slice none 0 0,.slice none 0 0,.slice none 0 0] 56)):=(Below.refl _ _).alloc (Nat.le_refl _) _
 have k2:=RW.fresh w [.slice none 0 0,.slice none 0 0,.slice none 0 0,.slice none 0 0,.int .i64 0,.slice none 0 0,.slice none 0 0,.slice none 0 0] 56
 have s2:(w.alloc (.cells #[.slice none 0 0,.slice none 0 0,.slice none 0 0,.slice none 0 0,.int .i64 0,.slice none 0 0,.slice none 0 0,.slice none 0 0] 56)).heap.size=w.heap.size+1:=by simp
 obtain ⟨V,hV⟩:∃ V,V=w.alloc (.cells #[.slice none 0 0,.slice none 0 0,.slice none 0 0,.slice none 0 0,.int .i64 0,.slice none 0 0,.slice none 0 0,.slice none 0 0] 56):=⟨_,rfl⟩
 rw [show w.alloc (.cells [.slice none 0 0,.slice none 0 0,.slice none 0 0,.slice none 0 0,.int .i64 0,.slice none 0 0,.slice none 0 0,.slice none 0 0].toArray 56)=V from hV.symm] at k2
 rw [←hV] at bV s2
 have HV:=Hid.mk' hV
 have cN:=rNewB_any v L B hL V (hv.keep bV)
 have S2:=Hid.mk' s2
 have K2:=Hid.mk' k2
 have c1:=fun lo hi g w=>rNumB_any lo hi g L B lB ⟨0,0⟩ 2 hL w
 rw [hz1] at c1
 have c2:=fun lo hi g w=>rNumB_any lo hi g L B lB (kr1 L B ⟨0,0⟩) 2 hL w
 rw [hz2] at c2
 have C1:=Hid.mk' c1
 have C2:=Hid.mk' c2
 have HD:=Hid.mk' hdd
 have HRN:=Hid.mk' hrn
 clear hV s2 k2 hv c1 c2 hz1 hz2 hdd hrn
 go_enter Try.func29,Try.ntmps29
 go_upto_region 1 with (fail)
 rw [←HV.out]
 go_upto_region 3 with (first
  | (go_at_call 41;refine cN.mono ?_;clear cN;rintro e w1 ⟨g,rfl,R1,b1⟩;(have cr:=C1.out _ _ g w1 R1);(have hg1:=R1.ge);(have hg2:=R1.lt);clear R1)
  | (go_at_call 54;refine cr.mono ?_;clear cr;rintro e w2 ⟨rfl,R2,x2⟩))
 have cr:=C2.out _ _ g w2 R2
 go_upto_region 4 with (go_at_call 54;refine cr.mono ?_;clear cr;rintro e w3 ⟨rfl,R3,x3⟩)
 have cv:=rVecB_any _ _ g L B lB (kr2 L B ⟨0,0⟩) hL w3 R3
 go_upto_region 5 with (go_at_call 55;refine cv.mono ?_;clear cv;rintro e w4 ⟨s4,rfl,o4,R4,x4⟩;obtain ⟨y0,c0,rfl⟩:=o4.slice)
 have X4:Rest [g] V w4:=(Rest.of_below b1).trans ((Rest.of_out x2 (by simp)).trans ((Rest.of_out x3 (by simp)).trans (Rest.of_out x4 (by simp))))
 have z23:=x2.size
 have z34:=x3.size
 have z45:=x4.size
 generalize hn0:(vecD L B (kr2 L B ⟨0,0⟩)).1=n0 at *
 have HN0:=Hid.mk' hn0
 clear hn0
 obtain ⟨p,hp⟩:∃ p,p=w4.heap.size:=⟨_,rfl⟩
 have k3:=RW.fresh w4 [.slice y0 n0 c0,.slice none 0 0,.slice none 0 0,.slice none 0 0,.int .i64 0,.slice none 0 0,.slice none 0 0,.slice none 0 0] 56
 have b3:Below w4.heap.size w4 (w4.alloc (.cells #[.slice y0 n0 c0,.slice none 0 0,.slice none 0 0,.slice none 0 0,.int .i64 0,.slice none 0 0,.slice none 0 0,.slice none 0 0] 56)):=(Below.refl _ _).alloc (Nat.le_refl _) _
 have s3:(w4.alloc (.cells #[.slice y0 n0 c0,.slice none 0 0,.slice none 0 0,.slice none 0 0,.int .i64 0,.slice none 0 0,.slice none 0 0,.slice none 0 0] 56)).heap.size=w4.heap.size+1:=by simp
 obtain ⟨W,hW⟩:∃ W,W=w4.alloc (.cells #[.slice y0 n0 c0,.slice none 0 0,.slice none 0 0,.slice none 0 0,.int .i64 0,.slice none 0 0,.slice none 0 0,.slice none 0 0] 56):=⟨_,rfl⟩
 rw [show w4.alloc (.cells [.slice y0 n0 c0,.slice none 0 0,.slice none 0 0,.slice none 0 0,.int .i64 0,.slice none 0 0,.slice none 0 0,.slice none 0 0].toArray 56)=W from hW.symm] at k3
 rw [←hW] at b3 s3 ⊢
 rw [←hp] at k3 s3 ⊢
 have R5:=R4.keep b3
 have X0:Rest [g] w4 W:=Rest.of_below b3
 have O0:=Hid.mk' o4
 have XV:=Hid.mk' (X4.trans X0)
 have HP:=Hid.mk' hp
 have hpg:¬p=g:=by omega
 have hpw:w.heap.size<p:=by have:=S2.out;omega
 have hgW:g<W.heap.size:=by omega
 have hpW:p<W.heap.size:=by omega
 have hVp:V.heap.size≤p:=by omega
 have hw1p:w1.heap.size≤p:=by omega
 clear hW o4 R4 R3 R2 hp
 have cl:=rReadLeaf_any _ _ g L B lB (kr3 L B ⟨0,0⟩) hL W R5
 rw [show (rl L B (kr3 L B ⟨0,0⟩) 6).1=d.leaf by rw [HD.out];rfl] at cl
 have t5:=fun w' (h:Rest [g] W w')=>k3.rest h (by simpa using hpg)
 have K3:=Hid.mk' k3
 clear k3
 go_upto_region 6 with (first
  | (go_at_call 42;refine cl.mono ?_;clear cl;rintro e w5 ⟨cs,rfl,hlen,⟨q0,q1,q2,q4,q5,hA⟩,R6,xr5⟩;(obtain rfl:=hA.eq hlen);(obtain ⟨f0,a0,rfl⟩:=hA.o0.slice);(obtain ⟨f1,a1,rfl⟩:=hA.o1.slice);(obtain ⟨f2,a2,rfl⟩:=hA.o2.slice);(obtain ⟨f4,a4,rfl⟩:=hA.o4.slice);(obtain ⟨f5,a5,rfl⟩:=hA.o5.slice);(have tt:=(row_mid (t5 w5 xr5)).there))
  | (with_reducible (refine id (?_:wpList _ _ _ _ _ _));refine stL _ _ rfl rfl rfl rfl tt ?_ rfl))
 dsimp only [Act.put]
 have x5':Rest [p] w5 (w5.setCells p 1 [.slice f0 d.leaf.enc.n a0,.slice f1 d.leaf.sig.n a1,.slice f2 d.leaf.name.n a2,.int .i64 d.leaf.src,.slice f4 d.leaf.hash.n a4,.slice f5 d.leaf.sg.n a5]):=Rest.of_out (Out.setCells (b:=p) (o:=1) (n:=6) w5 _ (Nat.le_refl _) (Nat.le_refl _)) (by simp)
 have r5:RW (w5.setCells p 1 [.slice f0 d.leaf.enc.n a0,.slice f1 d.leaf.sig.n a1,.slice f2 d.leaf.name.n a2,.int .i64 d.leaf.src,.slice f4 d.leaf.hash.n a4,.slice f5 d.leaf.sg.n a5]) p 0 [.slice y0 n0 c0,.slice f0 d.leaf.enc.n a0,.slice f1 d.leaf.sig.n a1,.slice f2 d.leaf.name.n a2,.int .i64 d.leaf.src,.slice f4 d.leaf.hash.n a4,.slice f5 d.leaf.sg.n a5,.slice none 0 0]:=row_midset (t5 w5 xr5) [.slice f0 d.leaf.enc.n a0,.slice f1 d.leaf.sig.n a1,.slice f2 d.leaf.name.n a2,.int .i64 d.leaf.src,.slice f4 d.leaf.hash.n a4,.slice f5 d.leaf.sg.n a5] rfl
 have R7:=R6.rest x5' (fun x hx=>by rw [List.mem_singleton] at hx;subst hx;exact .inr hw1p)
 have A5:Rest [p,g] W (w5.setCells p 1 [.slice f0 d.leaf.enc.n a0,.slice f1 d.leaf.sig.n a1,.slice f2 d.leaf.name.n a2,.int .i64 d.leaf.src,.slice f4 d.leaf.hash.n a4,.slice f5 d.leaf.sg.n a5]):=(xr5.mono (fun x hx=>by simp at hx;simp [hx])).trans (x5'.mono (fun x hx=>by simp at hx;simp [hx]))
 have lf5:=hA.rest x5' (fun x hx=>by simp at hx;omega)
 have z56:=A5.size
 clear hA hlen tt t5 x5' R6
 generalize w5.setCells p 1 [.slice f0 d.leaf.enc.n a0,.slice f1 d.leaf.sig.n a1,.slice f2 d.leaf.name.n a2,.int .i64 d.leaf.src,.slice f4 d.leaf.hash.n a4,.slice f5 d.leaf.sg.n a5]=u5 at *
 have cv:=rVecB_any _ _ g L B lB (kr9 L B ⟨0,0⟩) hL u5 R7
 rw [show (vecD L B (kr9 L B ⟨0,0⟩)).1=d.sg.n by rw [HD.out];rfl,show (vecD L B (kr9 L B ⟨0,0⟩)).2=rn by rw [HRN.out];rfl] at cv
 go_upto_region 7 with (go_at_call 55;refine cv.mono ?_;clear cv;rintro e w6 ⟨s7,rfl,o7,R8,x7⟩;(obtain ⟨y7,c7,rfl⟩:=o7.slice);(have t7:=r5.rest (Rest.of_out (X:=[g]) x7 (by simp)) (by simpa using hpg));(have q7:=t7.cell (o:=7) rfl);(have z7:=t7.live (o:=7) (by simp));clear r5)
 have x8:Rest [p] w6 (w6.setCell ⟨p,7,none⟩ (.slice y7 d.sg.n c7)):=Rest.setCell w6 _ (by simp)
 have r8:RW (w6.setCell ⟨p,7,none⟩ (.slice y7 d.sg.n c7)) p 0 [.slice y0 n0 c0,.slice f0 d.leaf.enc.n a0,.slice f1 d.leaf.sig.n a1,.slice f2 d.leaf.name.n a2,.int .i64 d.leaf.src,.slice f4 d.leaf.hash.n a4,.slice f5 d.leaf.sg.n a5,.slice y7 d.sg.n c7]:=t7.set1 (o:=7) (by simp) _
 have Y8:Rest [p,g] u5 (w6.setCell ⟨p,7,none⟩ (.slice y7 d.sg.n c7)):=(Rest.of_out x7 (by simp)).trans (x8.mono (fun x hx=>by simp at hx;simp [hx]))
 have A8:=A5.trans Y8
 have R9:=R8.rest x8 (fun x hx=>by rw [List.mem_singleton] at hx;subst hx;exact .inr hw1p)
 have lf8:=lf5.rest Y8 (fun x hx=>by simp at hx;omega)
 have o8:=(o7.rest x8 (fun x hx=>by simp at hx;omega)).base (show V.heap.size≤u5.heap.size by omega)
 have XF:Rest [g] w4 (w6.setCell ⟨p,7,none⟩ (.slice y7 d.sg.n c7)):=X0.cut (p:=p) A8 (by rw [HP.out];exact Nat.le_refl _)
 have o0:=(O0.out.rest XF (fun x hx=>by simp at hx;omega)).base (show V.heap.size≤w3.heap.size by have:=b1.size;omega)
 have XG:Rest [g] V (w6.setCell ⟨p,7,none⟩ (.slice y7 d.sg.n c7)):=X4.trans XF
 have e8:d.sg.b=fun j=>B ((lenD L B (kr9 L B ⟨0,0⟩)).2.at_+j):=by rw [HD.out];rfl
 have e0:d.init.b=fun j=>B ((lenD L B (kr2 L B ⟨0,0⟩)).2.at_+j):=by rw [HD.out];rfl
 have en:d.init.n=n0:=by rw [←HN0.out,HD.out];rfl
 rw [←e8] at o8
 rw [←e0] at o0
 have oK:PkAt V.heap.size (w6.setCell ⟨p,7,none⟩ (.slice y7 d.sg.n c7)) [.slice y0 n0 c0,.slice f0 d.leaf.enc.n a0,.slice f1 d.leaf.sig.n a1,.slice f2 d.leaf.name.n a2,.int .i64 d.leaf.src,.slice f4 d.leaf.hash.n a4,.slice f5 d.leaf.sg.n a5,.slice y7 d.sg.n c7] d (.slice y0 n0 c0) (.slice f0 d.leaf.enc.n a0) (.slice f1 d.leaf.sig.n a1) (.slice f2 d.leaf.name.n a2) (.slice f4 d.leaf.hash.n a4) (.slice f5 d.leaf.sg.n a5) (.slice y7 d.sg.n c7):=by
  have hb:V.heap.size≤W.heap.size:=by omega
  exact ⟨rfl,rfl,rfl,⟨rfl,rfl,rfl,rfl,rfl,rfl,lf8.o0.base hb,lf8.o1.base hb,lf8.o2.base hb,lf8.o4.base hb,lf8.o5.base hb⟩,by rw [en];exact o0,o8⟩
 clear q7 z7 t7 x8 Y8 R8 lf8 o8 o0 lf5 e8 e0 en o7
 generalize w6.setCell ⟨p,7,none⟩ (.slice y7 d.sg.n c7)=W' at *
 have r2:=K2.out.rest XG (by simp;have:=S2.out;omega)
 have bW:Below w.heap.size w W':=bV.trans (XG.below (fun x hx=>by simp at hx;have:=S2.out;omega) bV.size)
 have ce:=rEndR_any g L B rn hL W' R9.of
 have HK:=Hid.mk' oK
 have cr:=fun W'' hb=>rRightPackage_any _ d W'' (oK.pkin.keep (w':=W'') hb)
 generalize hq0:d.leaf.enc.n=m0 at *
 generalize hq1:d.leaf.sig.n=m1 at *
 generalize hq2:d.leaf.name.n=m2 at *
 generalize hq3:d.leaf.src=src at *
 generalize hq4:d.leaf.hash.n=m4 at *
 generalize hq5:d.leaf.sg.n=m5 at *
 generalize hq7:d.sg.n=n7 at *
 clear hq0 hq1 hq2 hq3 hq4 hq5 hq7 oK
 generalize endD L rn=en at *
 have tt:=fun w' (hb:Below W'.heap.size W' w')=>(r2.still hb).there
 have R2':=Hid.mk' r2
 clear cr r2 R9 HK r8
 go_wp2_with (first
  | (go_at_call 43;refine ce.mono ?_;clear ce;rintro e wf ⟨rfl,bf⟩;(replace tt:=tt wf bf))
  | (with_reducible (refine id (?_:wpList _ _ _ _ _ _));refine stK _ _ rfl rfl rfl rfl tt ?_ rfl))
 have r4:=(R2'.out.still bf).stored [.slice none 0 0,.slice none 0 0,.slice none 0 0,.slice none 0 0,.int .i64 0,.slice none 0 0,.slice none 0 0,.slice none 0 0] rfl
 refine bodyPost_ret (results_ct Try.results29 _ _ w.heap.size [.slice none 0 0,.slice none 0 0,.slice none 0 0,.slice none 0 0,.int .i64 0,.slice none 0 0,.slice none 0 0,.slice none 0 0] _ _ rfl rfl r4.range Try.underlying56 rfl infoRK) rfl ?_
 exact ⟨below_setCells (Nat.le_refl _) _ _ _ (below_next bW bf),rfl⟩
set_option maxRecDepth 20000 in
set_option maxHeartbeats 1000000 in
theorem rGetPackage_v (v:Value) (L:Nat) (B:Nat→Nat) (lB:∀ j,B j<256) (d:PkD) (hdd:d=kpk L B ⟨0,0⟩) (rn:Rd) (hrn:rn=kr10 L B ⟨0,0⟩) (z1 z2:Int) (hL:L<140737488355000) (hz1:(((numD L B 2 ⟨0,0⟩).1:Nat):Int)=z1) (hz2:(((numD L B 2 (kr1 L B ⟨0,0⟩)).1:Nat):Int)=z2) (he:endD L rn=0) (h1:¬z1=1) (w:World) (hv:BytesIn w v L B):Calls Try.prog 29 #[v] w fun e w'=>Below w.heap.size w w'∧e = .returned (.tuple #[.agg zeroK.toArray,.int .i64 21]):=by
 have bV:Below w.heap.size w (w.alloc (.cells #[.slice none 0 0,.slice none 0 0,.slice none 0 0,.slice none 0 0,.int .i64 0,.slice none 0 0,.slice none 0 0,.slice none 0 0] 56)):=(Below.refl _ _).alloc (Nat.le_refl _) _
 have k2:=RW.fresh w [.slice none 0 0,.slice none 0 0,.slice none 0 0,.slice none 0 0,.int .i64 0,.slice none 0 0,.slice none 0 0,.slice none 0 0] 56
 have s2:(w.alloc (.cells #[.slice none 0 0,.slice none 0 0,.slice none 0 0,.slice none 0 0,.int .i64 0,.slice none 0 0,.slice none 0 0,.slice none 0 0] 56)).heap.size=w.heap.size+1:=by simp
 obtain ⟨V,hV⟩:∃ V,V=w.alloc (.cells #[.slice none 0 0,.slice none 0 0,.slice none 0 0,.slice none 0 0,.int .i64 0,.slice none 0 0,.slice none 0 0,.slice none 0 0] 56):=⟨_,rfl⟩
 rw [show w.alloc (.cells [.slice none 0 0,.slice none 0 0,.slice none 0 0,.slice none 0 0,.int .i64 0,.slice none 0 0,.slice none 0 0,.slice none 0 0].toArray 56)=V from hV.symm] at k2
 rw [←hV] at bV s2
 have HV:=Hid.mk' hV
 have cN:=rNewB_any v L B hL V (hv.keep bV)
 have S2:=Hid.mk' s2
 have K2:=Hid.mk' k2
 have c1:=fun lo hi g w=>rNumB_any lo hi g L B lB ⟨0,0⟩ 2 hL w
 rw [hz1] at c1
 have c2:=fun lo hi g w=>rNumB_any lo hi g L B lB (kr1 L B ⟨0,0⟩) 2 hL w
 rw [hz2] at c2
 have C1:=Hid.mk' c1
 have C2:=Hid.mk' c2
 have HD:=Hid.mk' hdd
 have HRN:=Hid.mk' hrn
 clear hV s2 k2 hv c1 c2 hz1 hz2 hdd hrn
 go_enter Try.func29,Try.ntmps29
 go_upto_region 1 with (fail)
 rw [←HV.out]
 go_upto_region 3 with (first
  | (go_at_call 41;refine cN.mono ?_;clear cN;rintro e w1 ⟨g,rfl,R1,b1⟩;(have cr:=C1.out _ _ g w1 R1);(have hg1:=R1.ge);(have hg2:=R1.lt);clear R1)
  | (go_at_call 54;refine cr.mono ?_;clear cr;rintro e w2 ⟨rfl,R2,x2⟩))
 have cr:=C2.out _ _ g w2 R2
 go_upto_region 4 with (go_at_call 54;refine cr.mono ?_;clear cr;rintro e w3 ⟨rfl,R3,x3⟩)
 have cv:=rVecB_any _ _ g L B lB (kr2 L B ⟨0,0⟩) hL w3 R3
 go_upto_region 5 with (go_at_call 55;refine cv.mono ?_;clear cv;rintro e w4 ⟨s4,rfl,o4,R4,x4⟩;obtain ⟨y0,c0,rfl⟩:=o4.slice)
 have X4:Rest [g] V w4:=(Rest.of_below b1).trans ((Rest.of_out x2 (by simp)).trans ((Rest.of_out x3 (by simp)).trans (Rest.of_out x4 (by simp))))
 have z23:=x2.size
 have z34:=x3.size
 have z45:=x4.size
 generalize hn0:(vecD L B (kr2 L B ⟨0,0⟩)).1=n0 at *
 have HN0:=Hid.mk' hn0
 clear hn0
 obtain ⟨p,hp⟩:∃ p,p=w4.heap.size:=⟨_,rfl⟩
 have k3:=RW.fresh w4 [.slice y0 n0 c0,.slice none 0 0,.slice none 0 0,.slice none 0 0,.int .i64 0,.slice none 0 0,.slice none 0 0,.slice none 0 0] 56
 have b3:Below w4.heap.size w4 (w4.alloc (.cells #[.slice y0 n0 c0,.slice none 0 0,.slice none 0 0,.slice none 0 0,.int .i64 0,.slice none 0 0,.slice none 0 0,.slice none 0 0] 56)):=(Below.refl _ _).alloc (Nat.le_refl _) _
 have s3:(w4.alloc (.cells #[.slice y0 n0 c0,.slice none 0 0,.slice none 0 0,.slice none 0 0,.int .i64 0,.slice none 0 0,.slice none 0 0,.slice none 0 0] 56)).heap.size=w4.heap.size+1:=by simp
 obtain ⟨W,hW⟩:∃ W,W=w4.alloc (.cells #[.slice y0 n0 c0,.slice none 0 0,.slice none 0 0,.slice none 0 0,.int .i64 0,.slice none 0 0,.slice none 0 0,.slice none 0 0] 56):=⟨_,rfl⟩
 rw [show w4.alloc (.cells [.slice y0 n0 c0,.slice none 0 0,.slice none 0 0,.slice none 0 0,.int .i64 0,.slice none 0 0,.slice none 0 0,.slice none 0 0].toArray 56)=W from hW.symm] at k3
 rw [←hW] at b3 s3 ⊢
 rw [←hp] at k3 s3 ⊢
 have R5:=R4.keep b3
 have X0:Rest [g] w4 W:=Rest.of_below b3
 have O0:=Hid.mk' o4
 have XV:=Hid.mk' (X4.trans X0)
 have HP:=Hid.mk' hp
 have hpg:¬p=g:=by omega
 have hpw:w.heap.size<p:=by have:=S2.out;omega
 have hgW:g<W.heap.size:=by omega
 have hpW:p<W.heap.size:=by omega
 have hVp:V.heap.size≤p:=by omega
 have hw1p:w1.heap.size≤p:=by omega
 clear hW o4 R4 R3 R2 hp
 have cl:=rReadLeaf_any _ _ g L B lB (kr3 L B ⟨0,0⟩) hL W R5
 rw [show (rl L B (kr3 L B ⟨0,0⟩) 6).1=d.leaf by rw [HD.out];rfl] at cl
 have t5:=fun w' (h:Rest [g] W w')=>k3.rest h (by simpa using hpg)
 have K3:=Hid.mk' k3
 clear k3
 go_upto_region 6 with (first
  | (go_at_call 42;refine cl.mono ?_;clear cl;rintro e w5 ⟨cs,rfl,hlen,⟨q0,q1,q2,q4,q5,hA⟩,R6,xr5⟩;(obtain rfl:=hA.eq hlen);(obtain ⟨f0,a0,rfl⟩:=hA.o0.slice);(obtain ⟨f1,a1,rfl⟩:=hA.o1.slice);(obtain ⟨f2,a2,rfl⟩:=hA.o2.slice);(obtain ⟨f4,a4,rfl⟩:=hA.o4.slice);(obtain ⟨f5,a5,rfl⟩:=hA.o5.slice);(have tt:=(row_mid (t5 w5 xr5)).there))
  | (with_reducible (refine id (?_:wpList _ _ _ _ _ _));refine stL _ _ rfl rfl rfl rfl tt ?_ rfl))
 dsimp only [Act.put]
 have x5':Rest [p] w5 (w5.setCells p 1 [.slice f0 d.leaf.enc.n a0,.slice f1 d.leaf.sig.n a1,.slice f2 d.leaf.name.n a2,.int .i64 d.leaf.src,.slice f4 d.leaf.hash.n a4,.slice f5 d.leaf.sg.n a5]):=Rest.of_out (Out.setCells (b:=p) (o:=1) (n:=6) w5 _ (Nat.le_refl _) (Nat.le_refl _)) (by simp)
 have r5:RW (w5.setCells p 1 [.slice f0 d.leaf.enc.n a0,.slice f1 d.leaf.sig.n a1,.slice f2 d.leaf.name.n a2,.int .i64 d.leaf.src,.slice f4 d.leaf.hash.n a4,.slice f5 d.leaf.sg.n a5]) p 0 [.slice y0 n0 c0,.slice f0 d.leaf.enc.n a0,.slice f1 d.leaf.sig.n a1,.slice f2 d.leaf.name.n a2,.int .i64 d.leaf.src,.slice f4 d.leaf.hash.n a4,.slice f5 d.leaf.sg.n a5,.slice none 0 0]:=row_midset (t5 w5 xr5) [.slice f0 d.leaf.enc.n a0,.slice f1 d.leaf.sig.n a1,.slice f2 d.leaf.name.n a2,.int .i64 d.leaf.src,.slice f4 d.leaf.hash.n a4,.slice f5 d.leaf.sg.n a5] rfl
 have R7:=R6.rest x5' (fun x hx=>by rw [List.mem_singleton] at hx;subst hx;exact .inr hw1p)
 have A5:Rest [p,g] W (w5.setCells p 1 [.slice f0 d.leaf.enc.n a0,.slice f1 d.leaf.sig.n a1,.slice f2 d.leaf.name.n a2,.int .i64 d.leaf.src,.slice f4 d.leaf.hash.n a4,.slice f5 d.leaf.sg.n a5]):=(xr5.mono (fun x hx=>by simp at hx;simp [hx])).trans (x5'.mono (fun x hx=>by simp at hx;simp [hx]))
 have lf5:=hA.rest x5' (fun x hx=>by simp at hx;omega)
 have z56:=A5.size
 clear hA hlen tt t5 x5' R6
 generalize w5.setCells p 1 [.slice f0 d.leaf.enc.n a0,.slice f1 d.leaf.sig.n a1,.slice f2 d.leaf.name.n a2,.int .i64 d.leaf.src,.slice f4 d.leaf.hash.n a4,.slice f5 d.leaf.sg.n a5]=u5 at *
 have cv:=rVecB_any _ _ g L B lB (kr9 L B ⟨0,0⟩) hL u5 R7
 rw [show (vecD L B (kr9 L B ⟨0,0⟩)).1=d.sg.n by rw [HD.out];rfl,show (vecD L B (kr9 L B ⟨0,0⟩)).2=rn by rw [HRN.out];rfl] at cv
 go_upto_region 7 with (go_at_call 55;refine cv.mono ?_;clear cv;rintro e w6 ⟨s7,rfl,o7,R8,x7⟩;(obtain ⟨y7,c7,rfl⟩:=o7.slice);(have t7:=r5.rest (Rest.of_out (X:=[g]) x7 (by simp)) (by simpa using hpg));(have q7:=t7.cell (o:=7) rfl);(have z7:=t7.live (o:=7) (by simp));clear r5)
 have x8:Rest [p] w6 (w6.setCell ⟨p,7,none⟩ (.slice y7 d.sg.n c7)):=Rest.setCell w6 _ (by simp)
 have r8:RW (w6.setCell ⟨p,7,none⟩ (.slice y7 d.sg.n c7)) p 0 [.slice y0 n0 c0,.slice f0 d.leaf.enc.n a0,.slice f1 d.leaf.sig.n a1,.slice f2 d.leaf.name.n a2,.int .i64 d.leaf.src,.slice f4 d.leaf.hash.n a4,.slice f5 d.leaf.sg.n a5,.slice y7 d.sg.n c7]:=t7.set1 (o:=7) (by simp) _
 have Y8:Rest [p,g] u5 (w6.setCell ⟨p,7,none⟩ (.slice y7 d.sg.n c7)):=(Rest.of_out x7 (by simp)).trans (x8.mono (fun x hx=>by simp at hx;simp [hx]))
 have A8:=A5.trans Y8
 have R9:=R8.rest x8 (fun x hx=>by rw [List.mem_singleton] at hx;subst hx;exact .inr hw1p)
 have lf8:=lf5.rest Y8 (fun x hx=>by simp at hx;omega)
 have o8:=(o7.rest x8 (fun x hx=>by simp at hx;omega)).base (show V.heap.size≤u5.heap.size by omega)
 have XF:Rest [g] w4 (w6.setCell ⟨p,7,none⟩ (.slice y7 d.sg.n c7)):=X0.cut (p:=p) A8 (by rw [HP.out];exact Nat.le_refl _)
 have o0:=(O0.out.rest XF (fun x hx=>by simp at hx;omega)).base (show V.heap.size≤w3.heap.size by have:=b1.size;omega)
 have XG:Rest [g] V (w6.setCell ⟨p,7,none⟩ (.slice y7 d.sg.n c7)):=X4.trans XF
 have e8:d.sg.b=fun j=>B ((lenD L B (kr9 L B ⟨0,0⟩)).2.at_+j):=by rw [HD.out];rfl
 have e0:d.init.b=fun j=>B ((lenD L B (kr2 L B ⟨0,0⟩)).2.at_+j):=by rw [HD.out];rfl
 have en:d.init.n=n0:=by rw [←HN0.out,HD.out];rfl
 rw [←e8] at o8
 rw [←e0] at o0
 have oK:PkAt V.heap.size (w6.setCell ⟨p,7,none⟩ (.slice y7 d.sg.n c7)) [.slice y0 n0 c0,.slice f0 d.leaf.enc.n a0,.slice f1 d.leaf.sig.n a1,.slice f2 d.leaf.name.n a2,.int .i64 d.leaf.src,.slice f4 d.leaf.hash.n a4,.slice f5 d.leaf.sg.n a5,.slice y7 d.sg.n c7] d (.slice y0 n0 c0) (.slice f0 d.leaf.enc.n a0) (.slice f1 d.leaf.sig.n a1) (.slice f2 d.leaf.name.n a2) (.slice f4 d.leaf.hash.n a4) (.slice f5 d.leaf.sg.n a5) (.slice y7 d.sg.n c7):=by
  have hb:V.heap.size≤W.heap.size:=by omega
  exact ⟨rfl,rfl,rfl,⟨rfl,rfl,rfl,rfl,rfl,rfl,lf8.o0.base hb,lf8.o1.base hb,lf8.o2.base hb,lf8.o4.base hb,lf8.o5.base hb⟩,by rw [en];exact o0,o8⟩
 clear q7 z7 t7 x8 Y8 R8 lf8 o8 o0 lf5 e8 e0 en o7
 generalize w6.setCell ⟨p,7,none⟩ (.slice y7 d.sg.n c7)=W' at *
 have r2:=K2.out.rest XG (by simp;have:=S2.out;omega)
 have bW:Below w.heap.size w W':=bV.trans (XG.below (fun x hx=>by simp at hx;have:=S2.out;omega) bV.size)
 have ce:=rEndR_any g L B rn hL W' R9.of
 have HK:=Hid.mk' oK
 have cr:=fun W'' hb=>rRightPackage_any _ d W'' (oK.pkin.keep (w':=W'') hb)
 generalize hq0:d.leaf.enc.n=m0 at *
 generalize hq1:d.leaf.sig.n=m1 at *
 generalize hq2:d.leaf.name.n=m2 at *
 generalize hq3:d.leaf.src=src at *
 generalize hq4:d.leaf.hash.n=m4 at *
 generalize hq5:d.leaf.sg.n=m5 at *
 generalize hq7:d.sg.n=n7 at *
 clear hq0 hq1 hq2 hq3 hq4 hq5 hq7 oK
 rw [he] at ce
 have tt:=fun w' (hb:Below W'.heap.size W' w')=>(r2.still hb).there
 have R2':=Hid.mk' r2
 clear cr r2 R9 HK r8
 go_wp2_with (first
  | (go_at_call 43;refine ce.mono ?_;clear ce;rintro e wf ⟨rfl,bf⟩;(replace tt:=tt wf bf))
  | (with_reducible (refine id (?_:wpList _ _ _ _ _ _));refine stK _ _ rfl rfl rfl rfl tt ?_ rfl))
 have r4:=(R2'.out.still bf).stored [.slice none 0 0,.slice none 0 0,.slice none 0 0,.slice none 0 0,.int .i64 0,.slice none 0 0,.slice none 0 0,.slice none 0 0] rfl
 refine bodyPost_ret (results_ct Try.results29 _ _ w.heap.size [.slice none 0 0,.slice none 0 0,.slice none 0 0,.slice none 0 0,.int .i64 0,.slice none 0 0,.slice none 0 0,.slice none 0 0] _ _ rfl rfl r4.range Try.underlying56 rfl infoRK) rfl ?_
 exact ⟨below_setCells (Nat.le_refl _) _ _ _ (below_next bW bf),rfl⟩
set_option maxRecDepth 20000 in
set_option maxHeartbeats 1000000 in
theorem rGetPackage_s (v:Value) (L:Nat) (B:Nat→Nat) (lB:∀ j,B j<256) (d:PkD) (hdd:d=kpk L B ⟨0,0⟩) (rn:Rd) (hrn:rn=kr10 L B ⟨0,0⟩) (z2:Int) (hL:L<140737488355000) (hz1:(((numD L B 2 ⟨0,0⟩).1:Nat):Int)=1) (hz2:(((numD L B 2 (kr1 L B ⟨0,0⟩)).1:Nat):Int)=z2) (he:endD L rn=0) (h2:¬z2=1) (w:World) (hv:BytesIn w v L B):Calls Try.prog 29 #[v] w fun e w'=>Below w.heap.size w w'∧e = .returned (.tuple #[.agg zeroK.toArray,.int .i64 21]):=by
 have bV:Below w.heap.size w (w.alloc (.cells #[.slice none 0 0,.slice none 0 0,.slice none 0 0,.slice none 0 0,.int .i64 0,.slice none 0 0,.slice none 0 0,.slice none 0 0] 56)):=(Below.refl _ _).alloc (Nat.le_refl _) _
 have k2:=RW.fresh w [.slice none 0 0,.slice none 0 0,.slice none 0 0,.slice none 0 0,.int .i64 0,.slice none 0 0,.slice none 0 0,.slice none 0 0] 56
 have s2:(w.alloc (.cells #[.slice none 0 0,.slice none 0 0,.slice none 0 0,.slice none 0 0,.int .i64 0,.slice none 0 0,.slice none 0 0,.slice none 0 0] 56)).heap.size=w.heap.size+1:=by simp
 obtain ⟨V,hV⟩:∃ V,V=w.alloc (.cells #[.slice none 0 0,.slice none 0 0,.slice none 0 0,.slice none 0 0,.int .i64 0,.slice none 0 0,.slice none 0 0,.slice none 0 0] 56):=⟨_,rfl⟩
 rw [show w.alloc (.cells [.slice none 0 0,.slice none 0 0,.slice none 0 0,.slice none 0 0,.int .i64 0,.slice none 0 0,.slice none 0 0,.slice none 0 0].toArray 56)=V from hV.symm] at k2
 rw [←hV] at bV s2
 have HV:=Hid.mk' hV
 have cN:=rNewB_any v L B hL V (hv.keep bV)
 have S2:=Hid.mk' s2
 have K2:=Hid.mk' k2
 have c1:=fun lo hi g w=>rNumB_any lo hi g L B lB ⟨0,0⟩ 2 hL w
 rw [hz1] at c1
 have c2:=fun lo hi g w=>rNumB_any lo hi g L B lB (kr1 L B ⟨0,0⟩) 2 hL w
 rw [hz2] at c2
 have C1:=Hid.mk' c1
 have C2:=Hid.mk' c2
 have HD:=Hid.mk' hdd
 have HRN:=Hid.mk' hrn
 clear hV s2 k2 hv c1 c2 hz1 hz2 hdd hrn
 go_enter Try.func29,Try.ntmps29
 go_upto_region 1 with (fail)
 rw [←HV.out]
 go_upto_region 3 with (first
  | (go_at_call 41;refine cN.mono ?_;clear cN;rintro e w1 ⟨g,rfl,R1,b1⟩;(have cr:=C1.out _ _ g w1 R1);(have hg1:=R1.ge);(have hg2:=R1.lt);clear R1)
  | (go_at_call 54;refine cr.mono ?_;clear cr;rintro e w2 ⟨rfl,R2,x2⟩))
 have cr:=C2.out _ _ g w2 R2
 go_upto_region 4 with (go_at_call 54;refine cr.mono ?_;clear cr;rintro e w3 ⟨rfl,R3,x3⟩)
 have cv:=rVecB_any _ _ g L B lB (kr2 L B ⟨0,0⟩) hL w3 R3
 go_upto_region 5 with (go_at_call 55;refine cv.mono ?_;clear cv;rintro e w4 ⟨s4,rfl,o4,R4,x4⟩;obtain ⟨y0,c0,rfl⟩:=o4.slice)
 have X4:Rest [g] V w4:=(Rest.of_below b1).trans ((Rest.of_out x2 (by simp)).trans ((Rest.of_out x3 (by simp)).trans (Rest.of_out x4 (by simp))))
 have z23:=x2.size
 have z34:=x3.size
 have z45:=x4.size
 generalize hn0:(vecD L B (kr2 L B ⟨0,0⟩)).1=n0 at *
 have HN0:=Hid.mk' hn0
 clear hn0
 obtain ⟨p,hp⟩:∃ p,p=w4.heap.size:=⟨_,rfl⟩
 have k3:=RW.fresh w4 [.slice y0 n0 c0,.slice none 0 0,.slice none 0 0,.slice none 0 0,.int .i64 0,.slice none 0 0,.slice none 0 0,.slice none 0 0] 56
 have b3:Below w4.heap.size w4 (w4.alloc (.cells #[.slice y0 n0 c0,.slice none 0 0,.slice none 0 0,.slice none 0 0,.int .i64 0,.slice none 0 0,.slice none 0 0,.slice none 0 0] 56)):=(Below.refl _ _).alloc (Nat.le_refl _) _
 have s3:(w4.alloc (.cells #[.slice y0 n0 c0,.slice none 0 0,.slice none 0 0,.slice none 0 0,.int .i64 0,.slice none 0 0,.slice none 0 0,.slice none 0 0] 56)).heap.size=w4.heap.size+1:=by simp
 obtain ⟨W,hW⟩:∃ W,W=w4.alloc (.cells #[.slice y0 n0 c0,.slice none 0 0,.slice none 0 0,.slice none 0 0,.int .i64 0,.slice none 0 0,.slice none 0 0,.slice none 0 0] 56):=⟨_,rfl⟩
 rw [show w4.alloc (.cells [.slice y0 n0 c0,.slice none 0 0,.slice none 0 0,.slice none 0 0,.int .i64 0,.slice none 0 0,.slice none 0 0,.slice none 0 0].toArray 56)=W from hW.symm] at k3
 rw [←hW] at b3 s3 ⊢
 rw [←hp] at k3 s3 ⊢
 have R5:=R4.keep b3
 have X0:Rest [g] w4 W:=Rest.of_below b3
 have O0:=Hid.mk' o4
 have XV:=Hid.mk' (X4.trans X0)
 have HP:=Hid.mk' hp
 have hpg:¬p=g:=by omega
 have hpw:w.heap.size<p:=by have:=S2.out;omega
 have hgW:g<W.heap.size:=by omega
 have hpW:p<W.heap.size:=by omega
 have hVp:V.heap.size≤p:=by omega
 have hw1p:w1.heap.size≤p:=by omega
 clear hW o4 R4 R3 R2 hp
 have cl:=rReadLeaf_any _ _ g L B lB (kr3 L B ⟨0,0⟩) hL W R5
 rw [show (rl L B (kr3 L B ⟨0,0⟩) 6).1=d.leaf by rw [HD.out];rfl] at cl
 have t5:=fun w' (h:Rest [g] W w')=>k3.rest h (by simpa using hpg)
 have K3:=Hid.mk' k3
 clear k3
 go_upto_region 6 with (first
  | (go_at_call 42;refine cl.mono ?_;clear cl;rintro e w5 ⟨cs,rfl,hlen,⟨q0,q1,q2,q4,q5,hA⟩,R6,xr5⟩;(obtain rfl:=hA.eq hlen);(obtain ⟨f0,a0,rfl⟩:=hA.o0.slice);(obtain ⟨f1,a1,rfl⟩:=hA.o1.slice);(obtain ⟨f2,a2,rfl⟩:=hA.o2.slice);(obtain ⟨f4,a4,rfl⟩:=hA.o4.slice);(obtain ⟨f5,a5,rfl⟩:=hA.o5.slice);(have tt:=(row_mid (t5 w5 xr5)).there))
  | (with_reducible (refine id (?_:wpList _ _ _ _ _ _));refine stL _ _ rfl rfl rfl rfl tt ?_ rfl))
 dsimp only [Act.put]
 have x5':Rest [p] w5 (w5.setCells p 1 [.slice f0 d.leaf.enc.n a0,.slice f1 d.leaf.sig.n a1,.slice f2 d.leaf.name.n a2,.int .i64 d.leaf.src,.slice f4 d.leaf.hash.n a4,.slice f5 d.leaf.sg.n a5]):=Rest.of_out (Out.setCells (b:=p) (o:=1) (n:=6) w5 _ (Nat.le_refl _) (Nat.le_refl _)) (by simp)
 have r5:RW (w5.setCells p 1 [.slice f0 d.leaf.enc.n a0,.slice f1 d.leaf.sig.n a1,.slice f2 d.leaf.name.n a2,.int .i64 d.leaf.src,.slice f4 d.leaf.hash.n a4,.slice f5 d.leaf.sg.n a5]) p 0 [.slice y0 n0 c0,.slice f0 d.leaf.enc.n a0,.slice f1 d.leaf.sig.n a1,.slice f2 d.leaf.name.n a2,.int .i64 d.leaf.src,.slice f4 d.leaf.hash.n a4,.slice f5 d.leaf.sg.n a5,.slice none 0 0]:=row_midset (t5 w5 xr5) [.slice f0 d.leaf.enc.n a0,.slice f1 d.leaf.sig.n a1,.slice f2 d.leaf.name.n a2,.int .i64 d.leaf.src,.slice f4 d.leaf.hash.n a4,.slice f5 d.leaf.sg.n a5] rfl
 have R7:=R6.rest x5' (fun x hx=>by rw [List.mem_singleton] at hx;subst hx;exact .inr hw1p)
 have A5:Rest [p,g] W (w5.setCells p 1 [.slice f0 d.leaf.enc.n a0,.slice f1 d.leaf.sig.n a1,.slice f2 d.leaf.name.n a2,.int .i64 d.leaf.src,.slice f4 d.leaf.hash.n a4,.slice f5 d.leaf.sg.n a5]):=(xr5.mono (fun x hx=>by simp at hx;simp [hx])).trans (x5'.mono (fun x hx=>by simp at hx;simp [hx]))
 have lf5:=hA.rest x5' (fun x hx=>by simp at hx;omega)
 have z56:=A5.size
 clear hA hlen tt t5 x5' R6
 generalize w5.setCells p 1 [.slice f0 d.leaf.enc.n a0,.slice f1 d.leaf.sig.n a1,.slice f2 d.leaf.name.n a2,.int .i64 d.leaf.src,.slice f4 d.leaf.hash.n a4,.slice f5 d.leaf.sg.n a5]=u5 at *
 have cv:=rVecB_any _ _ g L B lB (kr9 L B ⟨0,0⟩) hL u5 R7
 rw [show (vecD L B (kr9 L B ⟨0,0⟩)).1=d.sg.n by rw [HD.out];rfl,show (vecD L B (kr9 L B ⟨0,0⟩)).2=rn by rw [HRN.out];rfl] at cv
 go_upto_region 7 with (go_at_call 55;refine cv.mono ?_;clear cv;rintro e w6 ⟨s7,rfl,o7,R8,x7⟩;(obtain ⟨y7,c7,rfl⟩:=o7.slice);(have t7:=r5.rest (Rest.of_out (X:=[g]) x7 (by simp)) (by simpa using hpg));(have q7:=t7.cell (o:=7) rfl);(have z7:=t7.live (o:=7) (by simp));clear r5)
 have x8:Rest [p] w6 (w6.setCell ⟨p,7,none⟩ (.slice y7 d.sg.n c7)):=Rest.setCell w6 _ (by simp)
 have r8:RW (w6.setCell ⟨p,7,none⟩ (.slice y7 d.sg.n c7)) p 0 [.slice y0 n0 c0,.slice f0 d.leaf.enc.n a0,.slice f1 d.leaf.sig.n a1,.slice f2 d.leaf.name.n a2,.int .i64 d.leaf.src,.slice f4 d.leaf.hash.n a4,.slice f5 d.leaf.sg.n a5,.slice y7 d.sg.n c7]:=t7.set1 (o:=7) (by simp) _
 have Y8:Rest [p,g] u5 (w6.setCell ⟨p,7,none⟩ (.slice y7 d.sg.n c7)):=(Rest.of_out x7 (by simp)).trans (x8.mono (fun x hx=>by simp at hx;simp [hx]))
 have A8:=A5.trans Y8
 have R9:=R8.rest x8 (fun x hx=>by rw [List.mem_singleton] at hx;subst hx;exact .inr hw1p)
 have lf8:=lf5.rest Y8 (fun x hx=>by simp at hx;omega)
 have o8:=(o7.rest x8 (fun x hx=>by simp at hx;omega)).base (show V.heap.size≤u5.heap.size by omega)
 have XF:Rest [g] w4 (w6.setCell ⟨p,7,none⟩ (.slice y7 d.sg.n c7)):=X0.cut (p:=p) A8 (by rw [HP.out];exact Nat.le_refl _)
 have o0:=(O0.out.rest XF (fun x hx=>by simp at hx;omega)).base (show V.heap.size≤w3.heap.size by have:=b1.size;omega)
 have XG:Rest [g] V (w6.setCell ⟨p,7,none⟩ (.slice y7 d.sg.n c7)):=X4.trans XF
 have e8:d.sg.b=fun j=>B ((lenD L B (kr9 L B ⟨0,0⟩)).2.at_+j):=by rw [HD.out];rfl
 have e0:d.init.b=fun j=>B ((lenD L B (kr2 L B ⟨0,0⟩)).2.at_+j):=by rw [HD.out];rfl
 have en:d.init.n=n0:=by rw [←HN0.out,HD.out];rfl
 rw [←e8] at o8
 rw [←e0] at o0
 have oK:PkAt V.heap.size (w6.setCell ⟨p,7,none⟩ (.slice y7 d.sg.n c7)) [.slice y0 n0 c0,.slice f0 d.leaf.enc.n a0,.slice f1 d.leaf.sig.n a1,.slice f2 d.leaf.name.n a2,.int .i64 d.leaf.src,.slice f4 d.leaf.hash.n a4,.slice f5 d.leaf.sg.n a5,.slice y7 d.sg.n c7] d (.slice y0 n0 c0) (.slice f0 d.leaf.enc.n a0) (.slice f1 d.leaf.sig.n a1) (.slice f2 d.leaf.name.n a2) (.slice f4 d.leaf.hash.n a4) (.slice f5 d.leaf.sg.n a5) (.slice y7 d.sg.n c7):=by
  have hb:V.heap.size≤W.heap.size:=by omega
  exact ⟨rfl,rfl,rfl,⟨rfl,rfl,rfl,rfl,rfl,rfl,lf8.o0.base hb,lf8.o1.base hb,lf8.o2.base hb,lf8.o4.base hb,lf8.o5.base hb⟩,by rw [en];exact o0,o8⟩
 clear q7 z7 t7 x8 Y8 R8 lf8 o8 o0 lf5 e8 e0 en o7
 generalize w6.setCell ⟨p,7,none⟩ (.slice y7 d.sg.n c7)=W' at *
 have r2:=K2.out.rest XG (by simp;have:=S2.out;omega)
 have bW:Below w.heap.size w W':=bV.trans (XG.below (fun x hx=>by simp at hx;have:=S2.out;omega) bV.size)
 have ce:=rEndR_any g L B rn hL W' R9.of
 have HK:=Hid.mk' oK
 have cr:=fun W'' hb=>rRightPackage_any _ d W'' (oK.pkin.keep (w':=W'') hb)
 generalize hq0:d.leaf.enc.n=m0 at *
 generalize hq1:d.leaf.sig.n=m1 at *
 generalize hq2:d.leaf.name.n=m2 at *
 generalize hq3:d.leaf.src=src at *
 generalize hq4:d.leaf.hash.n=m4 at *
 generalize hq5:d.leaf.sg.n=m5 at *
 generalize hq7:d.sg.n=n7 at *
 clear hq0 hq1 hq2 hq3 hq4 hq5 hq7 oK
 rw [he] at ce
 have tt:=fun w' (hb:Below W'.heap.size W' w')=>(r2.still hb).there
 have R2':=Hid.mk' r2
 clear cr r2 R9 HK r8
 go_wp2_with (first
  | (go_at_call 43;refine ce.mono ?_;clear ce;rintro e wf ⟨rfl,bf⟩;(replace tt:=tt wf bf))
  | (with_reducible (refine id (?_:wpList _ _ _ _ _ _));refine stK _ _ rfl rfl rfl rfl tt ?_ rfl))
 have r4:=(R2'.out.still bf).stored [.slice none 0 0,.slice none 0 0,.slice none 0 0,.slice none 0 0,.int .i64 0,.slice none 0 0,.slice none 0 0,.slice none 0 0] rfl
 refine bodyPost_ret (results_ct Try.results29 _ _ w.heap.size [.slice none 0 0,.slice none 0 0,.slice none 0 0,.slice none 0 0,.int .i64 0,.slice none 0 0,.slice none 0 0,.slice none 0 0] _ _ rfl rfl r4.range Try.underlying56 rfl infoRK) rfl ?_
 exact ⟨below_setCells (Nat.le_refl _) _ _ _ (below_next bW bf),rfl⟩
set_option maxRecDepth 20000 in
set_option maxHeartbeats 1000000 in
theorem rGetPackage_r (v:Value) (L:Nat) (B:Nat→Nat) (lB:∀ j,B j<256) (d:PkD) (hdd:d=kpk L B ⟨0,0⟩) (rn:Rd) (hrn:rn=kr10 L B ⟨0,0⟩) (hL:L<140737488355000) (hz1:(((numD L B 2 ⟨0,0⟩).1:Nat):Int)=1) (hz2:(((numD L B 2 (kr1 L B ⟨0,0⟩)).1:Nat):Int)=1) (he:endD L rn=0) (hr:allU (pkA d) 10=false) (w:World) (hv:BytesIn w v L B):Calls Try.prog 29 #[v] w fun e w'=>Below w.heap.size w w'∧e = .returned (.tuple #[.agg zeroK.toArray,.int .i64 21]):=by
 have bV:Below w.heap.size w (w.alloc (.cells #[.slice none 0 0,.slice none 0 0,.slice none 0 0,.slice none 0 0,.int .i64 0,.slice none 0 0,.slice none 0 0,.slice none 0 0] 56)):=(Below.refl _ _).alloc (Nat.le_refl _) _
 have k2:=RW.fresh w [.slice none 0 0,.slice none 0 0,.slice none 0 0,.slice none 0 0,.int .i64 0,.slice none 0 0,.slice none 0 0,.slice none 0 0] 56
 have s2:(w.alloc (.cells #[.slice none 0 0,.slice none 0 0,.slice none 0 0,.slice none 0 0,.int .i64 0,.slice none 0 0,.slice none 0 0,.slice none 0 0] 56)).heap.size=w.heap.size+1:=by simp
 obtain ⟨V,hV⟩:∃ V,V=w.alloc (.cells #[.slice none 0 0,.slice none 0 0,.slice none 0 0,.slice none 0 0,.int .i64 0,.slice none 0 0,.slice none 0 0,.slice none 0 0] 56):=⟨_,rfl⟩
 rw [show w.alloc (.cells [.slice none 0 0,.slice none 0 0,.slice none 0 0,.slice none 0 0,.int .i64 0,.slice none 0 0,.slice none 0 0,.slice none 0 0].toArray 56)=V from hV.symm] at k2
 rw [←hV] at bV s2
 have HV:=Hid.mk' hV
 have cN:=rNewB_any v L B hL V (hv.keep bV)
 have S2:=Hid.mk' s2
 have K2:=Hid.mk' k2
 have c1:=fun lo hi g w=>rNumB_any lo hi g L B lB ⟨0,0⟩ 2 hL w
 rw [hz1] at c1
 have c2:=fun lo hi g w=>rNumB_any lo hi g L B lB (kr1 L B ⟨0,0⟩) 2 hL w
 rw [hz2] at c2
 have C1:=Hid.mk' c1
 have C2:=Hid.mk' c2
 have HD:=Hid.mk' hdd
 have HRN:=Hid.mk' hrn
 clear hV s2 k2 hv c1 c2 hz1 hz2 hdd hrn
 go_enter Try.func29,Try.ntmps29
 go_upto_region 1 with (fail)
 rw [←HV.out]
 go_upto_region 3 with (first
  | (go_at_call 41;refine cN.mono ?_;clear cN;rintro e w1 ⟨g,rfl,R1,b1⟩;(have cr:=C1.out _ _ g w1 R1);(have hg1:=R1.ge);(have hg2:=R1.lt);clear R1)
  | (go_at_call 54;refine cr.mono ?_;clear cr;rintro e w2 ⟨rfl,R2,x2⟩))
 have cr:=C2.out _ _ g w2 R2
 go_upto_region 4 with (go_at_call 54;refine cr.mono ?_;clear cr;rintro e w3 ⟨rfl,R3,x3⟩)
 have cv:=rVecB_any _ _ g L B lB (kr2 L B ⟨0,0⟩) hL w3 R3
 go_upto_region 5 with (go_at_call 55;refine cv.mono ?_;clear cv;rintro e w4 ⟨s4,rfl,o4,R4,x4⟩;obtain ⟨y0,c0,rfl⟩:=o4.slice)
 have X4:Rest [g] V w4:=(Rest.of_below b1).trans ((Rest.of_out x2 (by simp)).trans ((Rest.of_out x3 (by simp)).trans (Rest.of_out x4 (by simp))))
 have z23:=x2.size
 have z34:=x3.size
 have z45:=x4.size
 generalize hn0:(vecD L B (kr2 L B ⟨0,0⟩)).1=n0 at *
 have HN0:=Hid.mk' hn0
 clear hn0
 obtain ⟨p,hp⟩:∃ p,p=w4.heap.size:=⟨_,rfl⟩
 have k3:=RW.fresh w4 [.slice y0 n0 c0,.slice none 0 0,.slice none 0 0,.slice none 0 0,.int .i64 0,.slice none 0 0,.slice none 0 0,.slice none 0 0] 56
 have b3:Below w4.heap.size w4 (w4.alloc (.cells #[.slice y0 n0 c0,.slice none 0 0,.slice none 0 0,.slice none 0 0,.int .i64 0,.slice none 0 0,.slice none 0 0,.slice none 0 0] 56)):=(Below.refl _ _).alloc (Nat.le_refl _) _
 have s3:(w4.alloc (.cells #[.slice y0 n0 c0,.slice none 0 0,.slice none 0 0,.slice none 0 0,.int .i64 0,.slice none 0 0,.slice none 0 0,.slice none 0 0] 56)).heap.size=w4.heap.size+1:=by simp
 obtain ⟨W,hW⟩:∃ W,W=w4.alloc (.cells #[.slice y0 n0 c0,.slice none 0 0,.slice none 0 0,.slice none 0 0,.int .i64 0,.slice none 0 0,.slice none 0 0,.slice none 0 0] 56):=⟨_,rfl⟩
 rw [show w4.alloc (.cells [.slice y0 n0 c0,.slice none 0 0,.slice none 0 0,.slice none 0 0,.int .i64 0,.slice none 0 0,.slice none 0 0,.slice none 0 0].toArray 56)=W from hW.symm] at k3
 rw [←hW] at b3 s3 ⊢
 rw [←hp] at k3 s3 ⊢
 have R5:=R4.keep b3
 have X0:Rest [g] w4 W:=Rest.of_below b3
 have O0:=Hid.mk' o4
 have XV:=Hid.mk' (X4.trans X0)
 have HP:=Hid.mk' hp
 have hpg:¬p=g:=by omega
 have hpw:w.heap.size<p:=by have:=S2.out;omega
 have hgW:g<W.heap.size:=by omega
 have hpW:p<W.heap.size:=by omega
 have hVp:V.heap.size≤p:=by omega
 have hw1p:w1.heap.size≤p:=by omega
 clear hW o4 R4 R3 R2 hp
 have cl:=rReadLeaf_any _ _ g L B lB (kr3 L B ⟨0,0⟩) hL W R5
 rw [show (rl L B (kr3 L B ⟨0,0⟩) 6).1=d.leaf by rw [HD.out];rfl] at cl
 have t5:=fun w' (h:Rest [g] W w')=>k3.rest h (by simpa using hpg)
 have K3:=Hid.mk' k3
 clear k3
 go_upto_region 6 with (first
  | (go_at_call 42;refine cl.mono ?_;clear cl;rintro e w5 ⟨cs,rfl,hlen,⟨q0,q1,q2,q4,q5,hA⟩,R6,xr5⟩;(obtain rfl:=hA.eq hlen);(obtain ⟨f0,a0,rfl⟩:=hA.o0.slice);(obtain ⟨f1,a1,rfl⟩:=hA.o1.slice);(obtain ⟨f2,a2,rfl⟩:=hA.o2.slice);(obtain ⟨f4,a4,rfl⟩:=hA.o4.slice);(obtain ⟨f5,a5,rfl⟩:=hA.o5.slice);(have tt:=(row_mid (t5 w5 xr5)).there))
  | (with_reducible (refine id (?_:wpList _ _ _ _ _ _));refine stL _ _ rfl rfl rfl rfl tt ?_ rfl))
 dsimp only [Act.put]
 have x5':Rest [p] w5 (w5.setCells p 1 [.slice f0 d.leaf.enc.n a0,.slice f1 d.leaf.sig.n a1,.slice f2 d.leaf.name.n a2,.int .i64 d.leaf.src,.slice f4 d.leaf.hash.n a4,.slice f5 d.leaf.sg.n a5]):=Rest.of_out (Out.setCells (b:=p) (o:=1) (n:=6) w5 _ (Nat.le_refl _) (Nat.le_refl _)) (by simp)
 have r5:RW (w5.setCells p 1 [.slice f0 d.leaf.enc.n a0,.slice f1 d.leaf.sig.n a1,.slice f2 d.leaf.name.n a2,.int .i64 d.leaf.src,.slice f4 d.leaf.hash.n a4,.slice f5 d.leaf.sg.n a5]) p 0 [.slice y0 n0 c0,.slice f0 d.leaf.enc.n a0,.slice f1 d.leaf.sig.n a1,.slice f2 d.leaf.name.n a2,.int .i64 d.leaf.src,.slice f4 d.leaf.hash.n a4,.slice f5 d.leaf.sg.n a5,.slice none 0 0]:=row_midset (t5 w5 xr5) [.slice f0 d.leaf.enc.n a0,.slice f1 d.leaf.sig.n a1,.slice f2 d.leaf.name.n a2,.int .i64 d.leaf.src,.slice f4 d.leaf.hash.n a4,.slice f5 d.leaf.sg.n a5] rfl
 have R7:=R6.rest x5' (fun x hx=>by rw [List.mem_singleton] at hx;subst hx;exact .inr hw1p)
 have A5:Rest [p,g] W (w5.setCells p 1 [.slice f0 d.leaf.enc.n a0,.slice f1 d.leaf.sig.n a1,.slice f2 d.leaf.name.n a2,.int .i64 d.leaf.src,.slice f4 d.leaf.hash.n a4,.slice f5 d.leaf.sg.n a5]):=(xr5.mono (fun x hx=>by simp at hx;simp [hx])).trans (x5'.mono (fun x hx=>by simp at hx;simp [hx]))
 have lf5:=hA.rest x5' (fun x hx=>by simp at hx;omega)
 have z56:=A5.size
 clear hA hlen tt t5 x5' R6
 generalize w5.setCells p 1 [.slice f0 d.leaf.enc.n a0,.slice f1 d.leaf.sig.n a1,.slice f2 d.leaf.name.n a2,.int .i64 d.leaf.src,.slice f4 d.leaf.hash.n a4,.slice f5 d.leaf.sg.n a5]=u5 at *
 have cv:=rVecB_any _ _ g L B lB (kr9 L B ⟨0,0⟩) hL u5 R7
 rw [show (vecD L B (kr9 L B ⟨0,0⟩)).1=d.sg.n by rw [HD.out];rfl,show (vecD L B (kr9 L B ⟨0,0⟩)).2=rn by rw [HRN.out];rfl] at cv
 go_upto_region 7 with (go_at_call 55;refine cv.mono ?_;clear cv;rintro e w6 ⟨s7,rfl,o7,R8,x7⟩;(obtain ⟨y7,c7,rfl⟩:=o7.slice);(have t7:=r5.rest (Rest.of_out (X:=[g]) x7 (by simp)) (by simpa using hpg));(have q7:=t7.cell (o:=7) rfl);(have z7:=t7.live (o:=7) (by simp));clear r5)
 have x8:Rest [p] w6 (w6.setCell ⟨p,7,none⟩ (.slice y7 d.sg.n c7)):=Rest.setCell w6 _ (by simp)
 have r8:RW (w6.setCell ⟨p,7,none⟩ (.slice y7 d.sg.n c7)) p 0 [.slice y0 n0 c0,.slice f0 d.leaf.enc.n a0,.slice f1 d.leaf.sig.n a1,.slice f2 d.leaf.name.n a2,.int .i64 d.leaf.src,.slice f4 d.leaf.hash.n a4,.slice f5 d.leaf.sg.n a5,.slice y7 d.sg.n c7]:=t7.set1 (o:=7) (by simp) _
 have Y8:Rest [p,g] u5 (w6.setCell ⟨p,7,none⟩ (.slice y7 d.sg.n c7)):=(Rest.of_out x7 (by simp)).trans (x8.mono (fun x hx=>by simp at hx;simp [hx]))
 have A8:=A5.trans Y8
 have R9:=R8.rest x8 (fun x hx=>by rw [List.mem_singleton] at hx;subst hx;exact .inr hw1p)
 have lf8:=lf5.rest Y8 (fun x hx=>by simp at hx;omega)
 have o8:=(o7.rest x8 (fun x hx=>by simp at hx;omega)).base (show V.heap.size≤u5.heap.size by omega)
 have XF:Rest [g] w4 (w6.setCell ⟨p,7,none⟩ (.slice y7 d.sg.n c7)):=X0.cut (p:=p) A8 (by rw [HP.out];exact Nat.le_refl _)
 have o0:=(O0.out.rest XF (fun x hx=>by simp at hx;omega)).base (show V.heap.size≤w3.heap.size by have:=b1.size;omega)
 have XG:Rest [g] V (w6.setCell ⟨p,7,none⟩ (.slice y7 d.sg.n c7)):=X4.trans XF
 have e8:d.sg.b=fun j=>B ((lenD L B (kr9 L B ⟨0,0⟩)).2.at_+j):=by rw [HD.out];rfl
 have e0:d.init.b=fun j=>B ((lenD L B (kr2 L B ⟨0,0⟩)).2.at_+j):=by rw [HD.out];rfl
 have en:d.init.n=n0:=by rw [←HN0.out,HD.out];rfl
 rw [←e8] at o8
 rw [←e0] at o0
 have oK:PkAt V.heap.size (w6.setCell ⟨p,7,none⟩ (.slice y7 d.sg.n c7)) [.slice y0 n0 c0,.slice f0 d.leaf.enc.n a0,.slice f1 d.leaf.sig.n a1,.slice f2 d.leaf.name.n a2,.int .i64 d.leaf.src,.slice f4 d.leaf.hash.n a4,.slice f5 d.leaf.sg.n a5,.slice y7 d.sg.n c7] d (.slice y0 n0 c0) (.slice f0 d.leaf.enc.n a0) (.slice f1 d.leaf.sig.n a1) (.slice f2 d.leaf.name.n a2) (.slice f4 d.leaf.hash.n a4) (.slice f5 d.leaf.sg.n a5) (.slice y7 d.sg.n c7):=by
  have hb:V.heap.size≤W.heap.size:=by omega
  exact ⟨rfl,rfl,rfl,⟨rfl,rfl,rfl,rfl,rfl,rfl,lf8.o0.base hb,lf8.o1.base hb,lf8.o2.base hb,lf8.o4.base hb,lf8.o5.base hb⟩,by rw [en];exact o0,o8⟩
 clear q7 z7 t7 x8 Y8 R8 lf8 o8 o0 lf5 e8 e0 en o7
 generalize w6.setCell ⟨p,7,none⟩ (.slice y7 d.sg.n c7)=W' at *
 have r2:=K2.out.rest XG (by simp;have:=S2.out;omega)
 have bW:Below w.heap.size w W':=bV.trans (XG.below (fun x hx=>by simp at hx;have:=S2.out;omega) bV.size)
 have ce:=rEndR_any g L B rn hL W' R9.of
 have HK:=Hid.mk' oK
 have cr:=fun W'' hb=>rRightPackage_any _ d W'' (oK.pkin.keep (w':=W'') hb)
 generalize hq0:d.leaf.enc.n=m0 at *
 generalize hq1:d.leaf.sig.n=m1 at *
 generalize hq2:d.leaf.name.n=m2 at *
 generalize hq3:d.leaf.src=src at *
 generalize hq4:d.leaf.hash.n=m4 at *
 generalize hq5:d.leaf.sg.n=m5 at *
 generalize hq7:d.sg.n=n7 at *
 clear hq0 hq1 hq2 hq3 hq4 hq5 hq7 oK
 rw [he] at ce
 have tt:=fun w' (hb:Below W'.heap.size W' w')=>(r2.still hb).there
 have rr:=fun w' (hb:Below W'.heap.size W' w')=>(r8.still hb).range
 have R2':=Hid.mk' r2
 rw [hr] at cr
 clear r2 R9 r8
 go_wp2_with (first
  | (go_at_call 43;refine ce.mono ?_;clear ce;rintro e wf ⟨rfl,bf⟩;(have rr4:=rr wf bf);(replace cr:=cr wf bf))
  | (with_reducible (refine id (?_:wpList _ _ _ _ _ _));refine ldK _ rfl rfl rr4 ?_ rfl)
  | (with_reducible (refine id (?_:wpList _ _ _ _ _ _));refine ldKg _ rfl rfl rr4 ?_ rfl)
  | (go_at_call 51;refine cr.mono ?_;clear cr;rintro e wg ⟨rfl,bg⟩;(have bb:=below_next bf bg);(have rr4:=rr wg bb);(have tt5:=tt wg bb))
  | (with_reducible (refine id (?_:wpList _ _ _ _ _ _));refine stK _ _ rfl rfl rfl rfl tt5 ?_ rfl))
 have r4:=(R2'.out.still bb).stored [.slice none 0 0,.slice none 0 0,.slice none 0 0,.slice none 0 0,.int .i64 0,.slice none 0 0,.slice none 0 0,.slice none 0 0] rfl
 refine bodyPost_ret (results_ct Try.results29 _ _ w.heap.size [.slice none 0 0,.slice none 0 0,.slice none 0 0,.slice none 0 0,.int .i64 0,.slice none 0 0,.slice none 0 0,.slice none 0 0] _ _ rfl rfl r4.range Try.underlying56 rfl infoRK) rfl ?_
 exact ⟨below_setCells (Nat.le_refl _) _ _ _ (below_next bW bb),rfl⟩
set_option maxRecDepth 20000 in
set_option maxHeartbeats 1000000 in
theorem rGetPackage_g (v:Value) (L:Nat) (B:Nat→Nat) (lB:∀ j,B j<256) (d:PkD) (hdd:d=kpk L B ⟨0,0⟩) (rn:Rd) (hrn:rn=kr10 L B ⟨0,0⟩) (hL:L<140737488355000) (hz1:(((numD L B 2 ⟨0,0⟩).1:Nat):Int)=1) (hz2:(((numD L B 2 (kr1 L B ⟨0,0⟩)).1:Nat):Int)=1) (he:endD L rn=0) (hr:allU (pkA d) 10=true) (w:World) (hv:BytesIn w v L B):Calls Try.prog 29 #[v] w fun e w'=>Below w.heap.size w w'∧∃ cs,e = .returned (.tuple #[.agg cs.toArray,.int .i64 0])∧PkIn w' cs d:=by
 have bV:Below w.heap.size w (w.alloc (.cells #[.slice none 0 0,.slice none 0 0,.slice none 0 0,.slice none 0 0,.int .i64 0,.slice none 0 0,.slice none 0 0,.slice none 0 0] 56)):=(Below.refl _ _).alloc (Nat.le_refl _) _
 have k2:=RW.fresh w [.slice none 0 0,.slice none 0 0,.slice none 0 0,.slice none 0 0,.int .i64 0,.slice none 0 0,.slice none 0 0,.slice none 0 0] 56
 have s2:(w.alloc (.cells #[.slice none 0 0,.slice none 0 0,.slice none 0 0,.slice none 0 0,.int .i64 0,.slice none 0 0,.slice none 0 0,.slice none 0 0] 56)).heap.size=w.heap.size+1:=by simp
 obtain ⟨V,hV⟩:∃ V,V=w.alloc (.cells #[.slice none 0 0,.slice none 0 0,.slice none 0 0,.slice none 0 0,.int .i64 0,.slice none 0 0,.slice none 0 0,.slice none 0 0] 56):=⟨_,rfl⟩
 rw [show w.alloc (.cells [.slice none 0 0,.slice none 0 0,.slice none 0 0,.slice none 0 0,.int .i64 0,.slice none 0 0,.slice none 0 0,.slice none 0 0].toArray 56)=V from hV.symm] at k2
 rw [←hV] at bV s2
 have HV:=Hid.mk' hV
 have cN:=rNewB_any v L B hL V (hv.keep bV)
 have S2:=Hid.mk' s2
 have K2:=Hid.mk' k2
 have c1:=fun lo hi g w=>rNumB_any lo hi g L B lB ⟨0,0⟩ 2 hL w
 rw [hz1] at c1
 have c2:=fun lo hi g w=>rNumB_any lo hi g L B lB (kr1 L B ⟨0,0⟩) 2 hL w
 rw [hz2] at c2
 have C1:=Hid.mk' c1
 have C2:=Hid.mk' c2
 have HD:=Hid.mk' hdd
 have HRN:=Hid.mk' hrn
 clear hV s2 k2 hv c1 c2 hz1 hz2 hdd hrn
 go_enter Try.func29,Try.ntmps29
 go_upto_region 1 with (fail)
 rw [←HV.out]
 go_upto_region 3 with (first
  | (go_at_call 41;refine cN.mono ?_;clear cN;rintro e w1 ⟨g,rfl,R1,b1⟩;(have cr:=C1.out _ _ g w1 R1);(have hg1:=R1.ge);(have hg2:=R1.lt);clear R1)
  | (go_at_call 54;refine cr.mono ?_;clear cr;rintro e w2 ⟨rfl,R2,x2⟩))
 have cr:=C2.out _ _ g w2 R2
 go_upto_region 4 with (go_at_call 54;refine cr.mono ?_;clear cr;rintro e w3 ⟨rfl,R3,x3⟩)
 have cv:=rVecB_any _ _ g L B lB (kr2 L B ⟨0,0⟩) hL w3 R3
 go_upto_region 5 with (go_at_call 55;refine cv.mono ?_;clear cv;rintro e w4 ⟨s4,rfl,o4,R4,x4⟩;obtain ⟨y0,c0,rfl⟩:=o4.slice)
 have X4:Rest [g] V w4:=(Rest.of_below b1).trans ((Rest.of_out x2 (by simp)).trans ((Rest.of_out x3 (by simp)).trans (Rest.of_out x4 (by simp))))
 have z23:=x2.size
 have z34:=x3.size
 have z45:=x4.size
 generalize hn0:(vecD L B (kr2 L B ⟨0,0⟩)).1=n0 at *
 have HN0:=Hid.mk' hn0
 clear hn0
 obtain ⟨p,hp⟩:∃ p,p=w4.heap.size:=⟨_,rfl⟩
 have k3:=RW.fresh w4 [.slice y0 n0 c0,.slice none 0 0,.slice none 0 0,.slice none 0 0,.int .i64 0,.slice none 0 0,.slice none 0 0,.slice none 0 0] 56
 have b3:Below w4.heap.size w4 (w4.alloc (.cells #[.slice y0 n0 c0,.slice none 0 0,.slice none 0 0,.slice none 0 0,.int .i64 0,.slice none 0 0,.slice none 0 0,.slice none 0 0] 56)):=(Below.refl _ _).alloc (Nat.le_refl _) _
 have s3:(w4.alloc (.cells #[.slice y0 n0 c0,.slice none 0 0,.slice none 0 0,.slice none 0 0,.int .i64 0,.slice none 0 0,.slice none 0 0,.slice none 0 0] 56)).heap.size=w4.heap.size+1:=by simp
 obtain ⟨W,hW⟩:∃ W,W=w4.alloc (.cells #[.slice y0 n0 c0,.slice none 0 0,.slice none 0 0,.slice none 0 0,.int .i64 0,.slice none 0 0,.slice none 0 0,.slice none 0 0] 56):=⟨_,rfl⟩
 rw [show w4.alloc (.cells [.slice y0 n0 c0,.slice none 0 0,.slice none 0 0,.slice none 0 0,.int .i64 0,.slice none 0 0,.slice none 0 0,.slice none 0 0].toArray 56)=W from hW.symm] at k3
 rw [←hW] at b3 s3 ⊢
 rw [←hp] at k3 s3 ⊢
 have R5:=R4.keep b3
 have X0:Rest [g] w4 W:=Rest.of_below b3
 have O0:=Hid.mk' o4
 have XV:=Hid.mk' (X4.trans X0)
 have HP:=Hid.mk' hp
 have hpg:¬p=g:=by omega
 have hpw:w.heap.size<p:=by have:=S2.out;omega
 have hgW:g<W.heap.size:=by omega
 have hpW:p<W.heap.size:=by omega
 have hVp:V.heap.size≤p:=by omega
 have hw1p:w1.heap.size≤p:=by omega
 clear hW o4 R4 R3 R2 hp
 have cl:=rReadLeaf_any _ _ g L B lB (kr3 L B ⟨0,0⟩) hL W R5
 rw [show (rl L B (kr3 L B ⟨0,0⟩) 6).1=d.leaf by rw [HD.out];rfl] at cl
 have t5:=fun w' (h:Rest [g] W w')=>k3.rest h (by simpa using hpg)
 have K3:=Hid.mk' k3
 clear k3
 go_upto_region 6 with (first
  | (go_at_call 42;refine cl.mono ?_;clear cl;rintro e w5 ⟨cs,rfl,hlen,⟨q0,q1,q2,q4,q5,hA⟩,R6,xr5⟩;(obtain rfl:=hA.eq hlen);(obtain ⟨f0,a0,rfl⟩:=hA.o0.slice);(obtain ⟨f1,a1,rfl⟩:=hA.o1.slice);(obtain ⟨f2,a2,rfl⟩:=hA.o2.slice);(obtain ⟨f4,a4,rfl⟩:=hA.o4.slice);(obtain ⟨f5,a5,rfl⟩:=hA.o5.slice);(have tt:=(row_mid (t5 w5 xr5)).there))
  | (with_reducible (refine id (?_:wpList _ _ _ _ _ _));refine stL _ _ rfl rfl rfl rfl tt ?_ rfl))
 dsimp only [Act.put]
 have x5':Rest [p] w5 (w5.setCells p 1 [.slice f0 d.leaf.enc.n a0,.slice f1 d.leaf.sig.n a1,.slice f2 d.leaf.name.n a2,.int .i64 d.leaf.src,.slice f4 d.leaf.hash.n a4,.slice f5 d.leaf.sg.n a5]):=Rest.of_out (Out.setCells (b:=p) (o:=1) (n:=6) w5 _ (Nat.le_refl _) (Nat.le_refl _)) (by simp)
 have r5:RW (w5.setCells p 1 [.slice f0 d.leaf.enc.n a0,.slice f1 d.leaf.sig.n a1,.slice f2 d.leaf.name.n a2,.int .i64 d.leaf.src,.slice f4 d.leaf.hash.n a4,.slice f5 d.leaf.sg.n a5]) p 0 [.slice y0 n0 c0,.slice f0 d.leaf.enc.n a0,.slice f1 d.leaf.sig.n a1,.slice f2 d.leaf.name.n a2,.int .i64 d.leaf.src,.slice f4 d.leaf.hash.n a4,.slice f5 d.leaf.sg.n a5,.slice none 0 0]:=row_midset (t5 w5 xr5) [.slice f0 d.leaf.enc.n a0,.slice f1 d.leaf.sig.n a1,.slice f2 d.leaf.name.n a2,.int .i64 d.leaf.src,.slice f4 d.leaf.hash.n a4,.slice f5 d.leaf.sg.n a5] rfl
 have R7:=R6.rest x5' (fun x hx=>by rw [List.mem_singleton] at hx;subst hx;exact .inr hw1p)
 have A5:Rest [p,g] W (w5.setCells p 1 [.slice f0 d.leaf.enc.n a0,.slice f1 d.leaf.sig.n a1,.slice f2 d.leaf.name.n a2,.int .i64 d.leaf.src,.slice f4 d.leaf.hash.n a4,.slice f5 d.leaf.sg.n a5]):=(xr5.mono (fun x hx=>by simp at hx;simp [hx])).trans (x5'.mono (fun x hx=>by simp at hx;simp [hx]))
 have lf5:=hA.rest x5' (fun x hx=>by simp at hx;omega)
 have z56:=A5.size
 clear hA hlen tt t5 x5' R6
 generalize w5.setCells p 1 [.slice f0 d.leaf.enc.n a0,.slice f1 d.leaf.sig.n a1,.slice f2 d.leaf.name.n a2,.int .i64 d.leaf.src,.slice f4 d.leaf.hash.n a4,.slice f5 d.leaf.sg.n a5]=u5 at *
 have cv:=rVecB_any _ _ g L B lB (kr9 L B ⟨0,0⟩) hL u5 R7
 rw [show (vecD L B (kr9 L B ⟨0,0⟩)).1=d.sg.n by rw [HD.out];rfl,show (vecD L B (kr9 L B ⟨0,0⟩)).2=rn by rw [HRN.out];rfl] at cv
 go_upto_region 7 with (go_at_call 55;refine cv.mono ?_;clear cv;rintro e w6 ⟨s7,rfl,o7,R8,x7⟩;(obtain ⟨y7,c7,rfl⟩:=o7.slice);(have t7:=r5.rest (Rest.of_out (X:=[g]) x7 (by simp)) (by simpa using hpg));(have q7:=t7.cell (o:=7) rfl);(have z7:=t7.live (o:=7) (by simp));clear r5)
 have x8:Rest [p] w6 (w6.setCell ⟨p,7,none⟩ (.slice y7 d.sg.n c7)):=Rest.setCell w6 _ (by simp)
 have r8:RW (w6.setCell ⟨p,7,none⟩ (.slice y7 d.sg.n c7)) p 0 [.slice y0 n0 c0,.slice f0 d.leaf.enc.n a0,.slice f1 d.leaf.sig.n a1,.slice f2 d.leaf.name.n a2,.int .i64 d.leaf.src,.slice f4 d.leaf.hash.n a4,.slice f5 d.leaf.sg.n a5,.slice y7 d.sg.n c7]:=t7.set1 (o:=7) (by simp) _
 have Y8:Rest [p,g] u5 (w6.setCell ⟨p,7,none⟩ (.slice y7 d.sg.n c7)):=(Rest.of_out x7 (by simp)).trans (x8.mono (fun x hx=>by simp at hx;simp [hx]))
 have A8:=A5.trans Y8
 have R9:=R8.rest x8 (fun x hx=>by rw [List.mem_singleton] at hx;subst hx;exact .inr hw1p)
 have lf8:=lf5.rest Y8 (fun x hx=>by simp at hx;omega)
 have o8:=(o7.rest x8 (fun x hx=>by simp at hx;omega)).base (show V.heap.size≤u5.heap.size by omega)
 have XF:Rest [g] w4 (w6.setCell ⟨p,7,none⟩ (.slice y7 d.sg.n c7)):=X0.cut (p:=p) A8 (by rw [HP.out];exact Nat.le_refl _)
 have o0:=(O0.out.rest XF (fun x hx=>by simp at hx;omega)).base (show V.heap.size≤w3.heap.size by have:=b1.size;omega)
 have XG:Rest [g] V (w6.setCell ⟨p,7,none⟩ (.slice y7 d.sg.n c7)):=X4.trans XF
 have e8:d.sg.b=fun j=>B ((lenD L B (kr9 L B ⟨0,0⟩)).2.at_+j):=by rw [HD.out];rfl
 have e0:d.init.b=fun j=>B ((lenD L B (kr2 L B ⟨0,0⟩)).2.at_+j):=by rw [HD.out];rfl
 have en:d.init.n=n0:=by rw [←HN0.out,HD.out];rfl
 rw [←e8] at o8
 rw [←e0] at o0
 have oK:PkAt V.heap.size (w6.setCell ⟨p,7,none⟩ (.slice y7 d.sg.n c7)) [.slice y0 n0 c0,.slice f0 d.leaf.enc.n a0,.slice f1 d.leaf.sig.n a1,.slice f2 d.leaf.name.n a2,.int .i64 d.leaf.src,.slice f4 d.leaf.hash.n a4,.slice f5 d.leaf.sg.n a5,.slice y7 d.sg.n c7] d (.slice y0 n0 c0) (.slice f0 d.leaf.enc.n a0) (.slice f1 d.leaf.sig.n a1) (.slice f2 d.leaf.name.n a2) (.slice f4 d.leaf.hash.n a4) (.slice f5 d.leaf.sg.n a5) (.slice y7 d.sg.n c7):=by
  have hb:V.heap.size≤W.heap.size:=by omega
  exact ⟨rfl,rfl,rfl,⟨rfl,rfl,rfl,rfl,rfl,rfl,lf8.o0.base hb,lf8.o1.base hb,lf8.o2.base hb,lf8.o4.base hb,lf8.o5.base hb⟩,by rw [en];exact o0,o8⟩
 clear q7 z7 t7 x8 Y8 R8 lf8 o8 o0 lf5 e8 e0 en o7
 generalize w6.setCell ⟨p,7,none⟩ (.slice y7 d.sg.n c7)=W' at *
 have r2:=K2.out.rest XG (by simp;have:=S2.out;omega)
 have bW:Below w.heap.size w W':=bV.trans (XG.below (fun x hx=>by simp at hx;have:=S2.out;omega) bV.size)
 have ce:=rEndR_any g L B rn hL W' R9.of
 have HK:=Hid.mk' oK
 have cr:=fun W'' hb=>rRightPackage_any _ d W'' (oK.pkin.keep (w':=W'') hb)
 generalize hq0:d.leaf.enc.n=m0 at *
 generalize hq1:d.leaf.sig.n=m1 at *
 generalize hq2:d.leaf.name.n=m2 at *
 generalize hq3:d.leaf.src=src at *
 generalize hq4:d.leaf.hash.n=m4 at *
 generalize hq5:d.leaf.sg.n=m5 at *
 generalize hq7:d.sg.n=n7 at *
 clear hq0 hq1 hq2 hq3 hq4 hq5 hq7 oK
 rw [he] at ce
 have tt:=fun w' (hb:Below W'.heap.size W' w')=>(r2.still hb).there
 have rr:=fun w' (hb:Below W'.heap.size W' w')=>(r8.still hb).range
 have R2':=Hid.mk' r2
 rw [hr] at cr
 clear r2 R9 r8
 go_wp2_with (first
  | (go_at_call 43;refine ce.mono ?_;clear ce;rintro e wf ⟨rfl,bf⟩;(have rr4:=rr wf bf);(replace cr:=cr wf bf))
  | (with_reducible (refine id (?_:wpList _ _ _ _ _ _));refine ldK _ rfl rfl rr4 ?_ rfl)
  | (with_reducible (refine id (?_:wpList _ _ _ _ _ _));refine ldKg _ rfl rfl rr4 ?_ rfl)
  | (go_at_call 51;refine cr.mono ?_;clear cr;rintro e wg ⟨rfl,bg⟩;(have bb:=below_next bf bg);(have rr4:=rr wg bb);(have tt5:=tt wg bb))
  | (with_reducible (refine id (?_:wpList _ _ _ _ _ _));refine stK _ _ rfl rfl rfl rfl tt5 ?_ rfl))
 have r4:=(R2'.out.still bb).stored [.slice y0 n0 c0,.slice f0 m0 a0,.slice f1 m1 a1,.slice f2 m2 a2,.int .i64 src,.slice f4 m4 a4,.slice f5 m5 a5,.slice y7 n7 c7] rfl
 refine bodyPost_ret (results_ct Try.results29 _ _ w.heap.size [.slice y0 n0 c0,.slice f0 m0 a0,.slice f1 m1 a1,.slice f2 m2 a2,.int .i64 src,.slice f4 m4 a4,.slice f5 m5 a5,.slice y7 n7 c7] _ _ rfl rfl r4.range Try.underlying56 rfl infoRK) rfl ?_
 refine ⟨below_setCells (Nat.le_refl _) _ _ _ (below_next bW bb),_,rfl,?_⟩
 have x6:Rest [w.heap.size] wg (wg.setCells w.heap.size 0 [.slice y0 n0 c0,.slice f0 m0 a0,.slice f1 m1 a1,.slice f2 m2 a2,.int .i64 src,.slice f4 m4 a4,.slice f5 m5 a5,.slice y7 n7 c7]):=Rest.of_out (Out.setCells (b:=w.heap.size) (o:=0) (n:=8) wg _ (Nat.le_refl _) (Nat.le_refl _)) (by simp)
 exact ((HK.out.rest (Rest.of_below (X:=[]) bb) (fun _ hx=>by cases hx)).rest x6 (fun x hx=>by simp at hx;have:=S2.out;omega)).pkin
theorem rGetPackage_any (v:Value) (L:Nat) (B:Nat→Nat) (lB:∀ j,B j<256) (hL:L<140737488355000) (w:World) (hv:BytesIn w v L B):Calls Try.prog 29 #[v] w fun e w'=>Below w.heap.size w w'∧GetA (pkR (getK13 L B)∧getS13 L B) (fun W cs=>PkIn W cs (getK13 L B)) zeroK e w':=by
 have hp:=pk_all (getK13 L B)
 have hno:¬(pkR (getK13 L B)∧getS13 L B)→∀ {e w'},(Below w.heap.size w w'∧e = .returned (.tuple #[.agg zeroK.toArray,.int .i64 21]))→(Below w.heap.size w w'∧GetA (pkR (getK13 L B)∧getS13 L B) (fun W cs=>PkIn W cs (getK13 L B)) zeroK e w'):=fun h e w' ⟨h1,h2⟩=>⟨h1,by unfold GetA;rw [if_neg h];exact h2⟩
 by_cases he:endD L (kr10 L B ⟨0,0⟩)=0
 rotate_left
 · exact (rGetPackage_e v L B lB _ rfl _ rfl _ _ hL rfl rfl he w hv).mono fun e w' h=>hno (fun e=>he e.2.2.2) h
 by_cases h1:kz1 L B ⟨0,0⟩=1
 rotate_left
 · exact (rGetPackage_v v L B lB _ rfl _ rfl _ _ hL rfl rfl he h1 w hv).mono fun e w' h=>hno (fun e=>h1 e.2.1) h
 by_cases h2:kz2 L B ⟨0,0⟩=1
 rotate_left
 · exact (rGetPackage_s v L B lB _ rfl _ rfl _ hL h1 rfl he h2 w hv).mono fun e w' h=>hno (fun e=>h2 e.2.2.1) h
 by_cases hr:pkR (getK13 L B)
 · exact (rGetPackage_g v L B lB _ rfl _ rfl hL h1 h2 he (hp.2 hr) w hv).mono fun e w' ⟨g1,g2⟩=>⟨g1,by unfold GetA;rw [if_pos ⟨hr,h1,h2,he⟩];exact g2⟩
 · exact (rGetPackage_r v L B lB _ rfl _ rfl hL h1 h2 he (Bool.eq_false_iff.2 fun e=>hr (hp.1 e)) w hv).mono fun e w' h=>hno (fun e=>hr e.1) h
end Go.Proofs.Ytgdcmibdjiaofaa
namespace Go.Proofs.Ytgdcmibdjiaofaa
open Go.RowKit
theorem BytesIn.congr {w:World} {v:Value} {n:Nat} {a b:Nat→Nat} (h:BytesIn w v n a) (e:∀ j,j<n→a j=b j):BytesIn w v n b:=by
 rcases h with h | ⟨bb,ob,cap,h1,h2,h3,h4⟩
 · exact .inl h
 · exact .inr ⟨bb,ob,cap,h1,h2,h3,fun j hj=>by rw [h4 j hj,e j hj]⟩
theorem PutA.congr {R:Prop} {n m:Nat} {a b:Nat→Nat} {e:Ending} {w:World} (h:PutA R n a e w) (hn:n=m) (hb:∀ j,j<m→a j=b j):PutA R m b e w:=by
 subst hn
 unfold PutA at *
 split
 · rename_i hR;rw [if_pos hR] at h;obtain ⟨s,h1,h2⟩:=h;exact ⟨s,h1,h2.congr hb⟩
 · rename_i hR;rw [if_neg hR] at h;exact h
theorem FieldPut.keep {w w':World} {f:Fd} {al:Bool} {n:Nat} {b:Nat→Nat} (h:FieldPut w f al n b) (hb:Below w.heap.size w w'):FieldPut w' f al n b :=
 ⟨h.h0,h.h1,fun W hW=>h.allow W (below_next hb hW),fun ha W hW=>h.put ha W (below_next hb hW)⟩
end Go.Proofs.Ytgdcmibdjiaofaa
namespace Go.Proofs.Ytgdcmibdjiaofaa
open Go.RowKit
structure HB (B a b:Nat) (w w':World):Prop where
 os:w'.os=w.os
 tape:w'.tape=w.tape
 output:w'.output=w.output
 size:w.heap.size≤w'.heap.size
 block:∀ k,k<B→(k<a∨b≤k)→w'.heap[k]? = w.heap[k]?
theorem HB.refl (B a b:Nat) (w:World):HB B a b w w:=⟨rfl,rfl,rfl,Nat.le_refl _,fun _ _ _=>rfl⟩
theorem HB.trans {B a b:Nat} {u v w:World} (h:HB B a b u v) (k:HB B a b v w):HB B a b u w :=
 ⟨k.os.trans h.os,k.tape.trans h.tape,k.output.trans h.output,Nat.le_trans h.size k.size,fun i hi hb=>(k.block i hi hb).trans (h.block i hi hb)⟩
theorem HB.of_below {B a b:Nat} {w w':World} (h:Below w.heap.size w w') (hB:B≤w.heap.size):HB B a b w w':=⟨h.os,h.tape,h.output,h.size,fun k hk _=>h.block k (by omega)⟩
theorem HB.below {B a b C:Nat} {w w':World} (h:HB B a b w w') (h1:C≤B) (h2:C≤a):Below C w w':=⟨h.os,h.tape,h.output,h.size,fun k hk=>h.block k (by omega) (.inl (by omega))⟩
end Go.Proofs.Ytgdcmibdjiaofaa
