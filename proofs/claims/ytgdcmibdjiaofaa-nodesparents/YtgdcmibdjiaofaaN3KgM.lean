/- What the proof stands on: N3Kg, N3Z, N3GA, LdOn, N3rd, N3re. -/
import Derived.Test.YtgdcmibdjiaofaaBaseM
import Derived.Test.YtgdcmibdjiaofaaN3WM
import Derived.Test.YtgdcmibdjiaofaaN3rbM
namespace Go.Proofs.Ytgdcmibdjiaofaa
open Go.RowKit
section
variable (L:Nat) (B:Nat→Nat) (r:Rd)
def kr1:Rd:=(numD L B 2 r).2
def kr2:Rd:=(numD L B 2 (kr1 L B r)).2
def kr3:Rd:=(vecD L B (kr2 L B r)).2
def kr9:Rd:=(rl L B (kr3 L B r) 6).2
def kr10:Rd:=(vecD L B (kr9 L B r)).2
def kz1:Int:=(((numD L B 2 r).1:Nat):Int)
def kz2:Int:=(((numD L B 2 (kr1 L B r)).1:Nat):Int)
def kpk:PkD:=⟨vx L B (kr2 L B r),(rl L B (kr3 L B r) 6).1,vx L B (kr9 L B r)⟩
def kAt:Nat→Rd
 | 0=>r
 | 1=>kr1 L B r
 | 2=>kr2 L B r
 | 3=>(rl L B (kr3 L B r) 0).2
 | 4=>(rl L B (kr3 L B r) 1).2
 | 5=>(rl L B (kr3 L B r) 2).2
 | 6=>(rl L B (kr3 L B r) 3).2
 | 7=>(rl L B (kr3 L B r) 4).2
 | 8=>(rl L B (kr3 L B r) 5).2
 | 9=>(rl L B (kr3 L B r) 6).2
 | _=>kr10 L B r
def kD:Nat→PkD
 | 0=>⟨tx0,lf0,tx0⟩
 | 1=>⟨tx0,lf0,tx0⟩
 | 2=>⟨tx0,lf0,tx0⟩
 | 3=>⟨vx L B (kr2 L B r),(rl L B (kr3 L B r) 0).1,tx0⟩
 | 4=>⟨vx L B (kr2 L B r),(rl L B (kr3 L B r) 1).1,tx0⟩
 | 5=>⟨vx L B (kr2 L B r),(rl L B (kr3 L B r) 2).1,tx0⟩
 | 6=>⟨vx L B (kr2 L B r),(rl L B (kr3 L B r) 3).1,tx0⟩
 | 7=>⟨vx L B (kr2 L B r),(rl L B (kr3 L B r) 4).1,tx0⟩
 | 8=>⟨vx L B (kr2 L B r),(rl L B (kr3 L B r) 5).1,tx0⟩
 | 9=>⟨vx L B (kr2 L B r),(rl L B (kr3 L B r) 6).1,tx0⟩
 | _=>kpk L B r
def kZ1:Nat→Int
 | 0=>1
 | _=>kz1 L B r
def kZ2:Nat→Int
 | 0=>1
 | 1=>1
 | _=>kz2 L B r
def kA:Nat→Bool
 | 0=>decide (1≤kz1 L B r) && decide (kz1 L B r≤1)
 | 1=>decide (1≤kz2 L B r) && decide (kz2 L B r≤1)
 | k=>pkA (kpk L B r) k
end
structure PkAt (N:Nat) (W:World) (cs:List Value) (d:PkD) (v0 u0 u1 u2 u4 u5 v7:Value):Prop where
 len:cs.length=8
 c0:cs[0]? = some v0
 c7:cs[7]? = some v7
 lf:LfAt N W cs 1 d.leaf u0 u1 u2 u4 u5
 o0:Own N W v0 d.init.n d.init.b
 o7:Own N W v7 d.sg.n d.sg.b
theorem PkAt.rest {N:Nat} {X:List Nat} {W W':World} {cs:List Value} {d:PkD} {v0 u0 u1 u2 u4 u5 v7:Value} (h:PkAt N W cs d v0 u0 u1 u2 u4 u5 v7) (hr:Rest X W W') (hX:∀ x,x∈X→x<N):PkAt N W' cs d v0 u0 u1 u2 u4 u5 v7 :=
 ⟨h.len,h.c0,h.c7,h.lf.rest hr hX,own_rest h.o0 hr hX,own_rest h.o7 hr hX⟩
theorem PkAt.eq {N:Nat} {W:World} {cs:List Value} {d:PkD} {v0 u0 u1 u2 u4 u5 v7:Value} (h:PkAt N W cs d v0 u0 u1 u2 u4 u5 v7):cs=[v0,u0,u1,u2,.int .i64 d.leaf.src,u4,u5,v7]:=by
 have hl:=h.len
 match cs,hl with
 | [a,b,c,e,f,i,j,k],_ =>
  have h0:=h.c0;have h7:=h.c7;have g0:=h.lf.c0;have g1:=h.lf.c1;have g2:=h.lf.c2;have g3:=h.lf.c3;have g4:=h.lf.c4;have g5:=h.lf.c5
  simp at h0 h7 g0 g1 g2 g3 g4 g5
  rw [h0,h7,g0,g1,g2,g3,g4,g5]
theorem PkAt.pkin {N:Nat} {W:World} {cs:List Value} {d:PkD} {v0 u0 u1 u2 u4 u5 v7:Value} (h:PkAt N W cs d v0 u0 u1 u2 u4 u5 v7):PkIn W cs d :=
 ⟨v0,[u0,u1,u2,.int .i64 d.leaf.src,u4,u5],v7,h.eq,BytesIn.of_own h.o0,h.lf.lfin,BytesIn.of_own h.o7⟩
def DPk (b:Nat) (d:PkD) (W:World) (cs:List Value):Prop:=∃ N v0 u0 u1 u2 u4 u5 v7,b≤N∧PkAt N W cs d v0 u0 u1 u2 u4 u5 v7
theorem kA_kD (L:Nat) (B:Nat→Nat) (r:Rd):∀ k,2≤k→k<10→pkA (kD L B r (k+1)) k=kA L B r k:=by
 intro k h2 hk
 match k with
 | 0=>omega
 | 1=>omega
 | 2=>rfl
 | 3=>exact lfA_rl L B _ 1 0 (by omega)
 | 4=>exact lfA_rl L B _ 1 1 (by omega)
 | 5=>exact lfA_rl L B _ 1 2 (by omega)
 | 6=>exact lfA_rl L B _ 1 3 (by omega)
 | 7=>exact lfA_rl L B _ 1 4 (by omega)
 | 8=>exact lfA_rl L B _ 1 5 (by omega)
 | 9=>rfl
 | n+10=>omega
set_option maxHeartbeats 2000000 in
theorem pkgHF (L:Nat) (B:Nat→Nat) (lB:∀ j,B j<256) (hL:L<140737488355000) (w:World) (g lo hi:Nat) (W:World) (k1:RW W w.heap.size 0 zeroK) (k2:RW W (w.heap.size+1) 0 [.int .i64 0]) (hlo:w.heap.size+2≤lo) (hR:RdC lo hi W g L B ⟨0,0⟩) (hb:Below w.heap.size w W) :
 Calls Try.prog 50 #[pA w.heap.size 0] W fun e w'=>∃ X gl kp fs I Mid,e = .returned (.slice (some ⟨gl,0,none⟩) 10 kp)∧fs.length=10∧I 0 w'∧Steps X fs gl g (kA L B ⟨0,0⟩) (fun _=>false) I Mid (JK w)∧(∀ W,I 10 W→RdC lo hi W g L B (kr10 L B ⟨0,0⟩)∧∃ cs,RW W w.heap.size 0 cs∧DPk (w.heap.size+2) (kpk L B ⟨0,0⟩) W cs):=by
 refine (kf_any w.heap.size W).mono fun e w1 h => ?_
 obtain ⟨v,fv,fs,fi,f0,f1,f2,f3,f4,f5,fg,rfl,hfl,hF,rp1,rp2,hs1,b1⟩:=h
 obtain ⟨gl,kp,rfl,hgl,-,-,fr⟩:=hfl.read (by simp)
 have hg:lo≤g∧g<hi∧hi≤W.heap.size:=by obtain ⟨_,_,_,_,h1,h2⟩:=hR;exact ⟨h1.1,h1.2,h2⟩
 have hgn:gl≠W.heap.size∧gl≠W.heap.size+1:=by
  have q:=fr.at_ 0 fv rfl 0 _ rfl
  refine ⟨fun e => ?_,fun e => ?_⟩
  · rw [e] at q;have:=q.symm.trans (rp1.cell (o:=0) rfl);simp at this
  · rw [e] at q;have:=q.symm.trans (rp2.cell (o:=0) rfl);simp at this
 obtain ⟨N,hN⟩:∃ N,N=W.heap.size+2:=⟨_,rfl⟩
 obtain ⟨I,hI⟩:∃ I:Nat→World→Prop,I=fun k W'=>k≤10∧∃ cs v0 u0 u1 u2 u4 u5 v7,RW W' w.heap.size 0 cs∧PkAt N W' cs (kD L B ⟨0,0⟩ k) v0 u0 u1 u2 u4 u5 v7∧RW W' W.heap.size 0 [.int .i64 (kZ1 L B ⟨0,0⟩ k)]∧RW W' (W.heap.size+1) 0 [.int .i64 (kZ2 L B ⟨0,0⟩ k)]∧RdC lo hi W' g L B (kAt L B ⟨0,0⟩ k)∧RW W' (w.heap.size+1) 0 [.int .i64 0]∧Rest [w.heap.size,g,W.heap.size,W.heap.size+1] w1 W':=⟨_,rfl⟩
 have hX:∀ x,x∈[w.heap.size,g,W.heap.size,W.heap.size+1]→x<N:=fun x hx=>by simp at hx;omega
 have hwd:∀ {W'},Rest [w.heap.size,g,W.heap.size,W.heap.size+1] w1 W'→PkgFs (W.heap.size+2) w1.heap.size W' w.heap.size W.heap.size (W.heap.size+1) fv fs fi f0 f1 f2 f3 f4 f5 fg:=fun x=>⟨hF.ev.map fun L h=>h.rest x (fun y hy => .inl (by have:=hX y hy;omega)),hF.es.map fun L h=>h.rest x (fun y hy => .inl (by have:=hX y hy;omega)),hF.ei.map fun L h=>h.rest x (fun y hy => .inl (by have:=hX y hy;omega)),hF.el.map fun L h=>h.rest x (fun y hy => .inl (by have:=hX y hy;omega)),hF.eg.map fun L h=>h.rest x (fun y hy => .inl (by have:=hX y hy;omega))⟩
 have hbw:∀ {W'},Rest [w.heap.size,g,W.heap.size,W.heap.size+1] w1 W'→Below w.heap.size w W':=fun h6=>(below_next hb b1).trans (h6.below (fun x hx=>by have:=hb.size;simp at hx;omega) (below_next hb b1).size)
 have hj:∀ k W',I k W'→JK w W':=fun k W' h=>by
  rw [hI] at h
  obtain ⟨hk,cs,v0,u0,u1,u2,u4,u5,v7,h2,h3,z1,z2,h4,h5,h6⟩:=h
  exact ⟨cs,h3.len,h2,h5,hbw h6⟩
 have hst:∀ k W' W'',I k W'→Below W'.heap.size W' W''→I k W'':=fun k W' W'' h hb=>by
  rw [hI] at h ⊢
  obtain ⟨hk,cs,v0,u0,u1,u2,u4,u5,v7,h2,h3,z1,z2,h4,h5,h6⟩:=h
  exact ⟨hk,cs,v0,u0,u1,u2,u4,u5,v7,h2.still hb,h3.rest (Rest.of_below (X:=[]) hb) (fun x hx=>by cases hx),z1.still hb,z2.still hb,h4.still hb,h5.still hb,h6.trans (Rest.of_below hb)⟩
 refine ⟨[w.heap.size,g,W.heap.size,W.heap.size+1],gl,kp,[fv,fs,fi,f0,f1,f2,f3,f4,f5,fg],I,fun k=>I (k+1),rfl,rfl,?_,⟨?_,?_,?_,?_,?_,hst,?_,hj⟩,?_⟩
 · rw [hI]
   exact ⟨by omega,zeroK,_,_,_,_,_,_,_,k1.still b1,⟨rfl,rfl,rfl,⟨rfl,rfl,rfl,rfl,rfl,rfl,Own.nil _ _ _,Own.nil _ _ _,Own.nil _ _ _,Own.nil _ _ _,Own.nil _ _ _⟩,Own.nil _ _ _,Own.nil _ _ _⟩,rp1,rp2,hR.still b1,k2.still b1,Rest.refl _ _⟩
 · obtain ⟨hv,hs,hi',hl,hg'⟩:=hF
   obtain ⟨h0,h1,h2,h3,h4,h5⟩:=hl
   obtain ⟨_,_,_,_,rfl,-⟩:=hv
   obtain ⟨_,_,_,_,rfl,-⟩:=hs
   obtain ⟨_,_,_,rfl,-⟩:=hi'
   obtain ⟨_,_,_,rfl,-⟩:=hg'
   obtain ⟨_,_,_,rfl,-⟩:=h0
   obtain ⟨_,_,_,rfl,-⟩:=h1
   obtain ⟨_,_,_,rfl,-⟩:=h2
   obtain ⟨_,_,_,_,rfl,-⟩:=h3
   obtain ⟨_,_,_,_,_,_,_,_,_,rfl,-⟩:=h4
   obtain ⟨_,_,_,rfl,-⟩:=h5
   intro k f hf
   match k,hf with
   | 0,hf=>cases hf;exact fun W=>enN1 _ W
   | 1,hf=>cases hf;exact fun W=>enN1 _ W
   | 2,hf=>cases hf;exact fun W=>enV1 _ W
   | 3,hf=>cases hf;exact fun W=>enV1 _ W
   | 4,hf=>cases hf;exact fun W=>enV1 _ W
   | 5,hf=>cases hf;exact fun W=>enV1 _ W
   | 6,hf=>cases hf;exact fun W=>enN1 _ W
   | 7,hf=>cases hf;exact fun W=>enH2 _ W
   | 8,hf=>cases hf;exact fun W=>enV1 _ W
   | 9,hf=>cases hf;exact fun W=>enV1 _ W
   | n+10,hf=>simp at hf
 · obtain ⟨hv,hs,hi',hl,hg'⟩:=hF
   have e2:=leafE2 (g:=g) hl
   obtain ⟨_,_,_,_,rfl,-⟩:=hv
   obtain ⟨_,_,_,_,rfl,-⟩:=hs
   obtain ⟨_,_,_,rfl,-⟩:=hi'
   obtain ⟨_,_,_,rfl,-⟩:=hg'
   intro k f hf
   match k,hf with
   | 0,hf=>cases hf;exact fun W=>enN3 _ W
   | 1,hf=>cases hf;exact fun W=>enN3 _ W
   | 2,hf=>cases hf;exact fun W=>enV3 _ W
   | 3,hf=>exact e2 0 f hf
   | 4,hf=>exact e2 1 f hf
   | 5,hf=>exact e2 2 f hf
   | 6,hf=>exact e2 3 f hf
   | 7,hf=>exact e2 4 f hf
   | 8,hf=>exact e2 5 f hf
   | 9,hf=>cases hf;exact fun W=>enV3 _ W
   | n+10,hf=>simp at hf
 · intro k f hf W' hIk
   rw [hI] at hIk
   obtain ⟨hk,cs,v0,u0,u1,u2,u4,u5,v7,h2,h3,z1,z2,h4,h5,h6⟩:=hIk
   have hNW:N≤W'.heap.size:=by have:=h6.size;omega
   have hw:=hwd h6
   have hbs:=hb.size
   have hln:=h3.len
   have y4:∀ x,x∈[w.heap.size,g]→x∈[w.heap.size,g,W.heap.size,W.heap.size+1]:=fun x hx=>by simp at hx ⊢;omega
   have y1:∀ x,x∈[W.heap.size,g]→x∈[w.heap.size,g,W.heap.size,W.heap.size+1]:=fun x hx=>by simp at hx ⊢;omega
   have y2:∀ x,x∈[W.heap.size+1,g]→x∈[w.heap.size,g,W.heap.size,W.heap.size+1]:=fun x hx=>by simp at hx ⊢;omega
   simp only [Bool.false_eq_true,if_false]
   have leafcase:∀ (j:Nat) (hj6:j<6) (hf':[f0,f1,f2,f3,f4,f5][j]? = some f),kD L B ⟨0,0⟩ k=⟨vx L B (kr2 L B ⟨0,0⟩),(rl L B (kr3 L B ⟨0,0⟩) j).1,tx0⟩→kD L B ⟨0,0⟩ (k+1)=⟨vx L B (kr2 L B ⟨0,0⟩),(rl L B (kr3 L B ⟨0,0⟩) (j+1)).1,tx0⟩→kAt L B ⟨0,0⟩ k=(rl L B (kr3 L B ⟨0,0⟩) j).2→kAt L B ⟨0,0⟩ (k+1)=(rl L B (kr3 L B ⟨0,0⟩) (j+1)).2→kZ1 L B ⟨0,0⟩ (k+1)=kZ1 L B ⟨0,0⟩ k→kZ2 L B ⟨0,0⟩ (k+1)=kZ2 L B ⟨0,0⟩ k→k<10 →
    Calls Try.prog f.i2 (#[pA g 0] ++ f.c2) W' fun e w'=>e = .returned (.tuple #[])∧I (k+1) w'∧Rest [w.heap.size,g,W.heap.size,W.heap.size+1] W' w':=by
    intro j hj6 hf' ed ed' ea ea' ez1 ez2 hk10
    rw [ed] at h3
    rw [ea] at h4
    refine (leafGet lB hL j hj6 f hf' hw.el h2 (by omega) h3.lf h4 (.inl (by omega)) (by omega) (by omega) (by omega) (by omega) hNW).mono fun e w' h => ?_
    obtain ⟨a1,cs',a2,a3,a4,⟨t0,t1,t2,t4,t5,a5⟩,a6,a7⟩:=h
    refine ⟨a1,?_,a7.mono y4⟩
    rw [hI]
    have hh:=h3.rest a7 (fun x hx=>hX x (y4 x hx))
    refine ⟨by omega,cs',v0,t0,t1,t2,t4,t5,v7,a4,?_,?_,?_,by rw [ea'];exact a6,h5.rest a7 (by simp;omega),h6.trans (a7.mono y4)⟩
    · rw [ed']
      exact ⟨by omega,(a3 0 (.inl (by omega))).trans hh.c0,(a3 7 (.inr (by omega))).trans hh.c7,a5,hh.o0,hh.o7⟩
    · rw [ez1];exact z1.rest a7 (by simp;omega)
    · rw [ez2];exact z2.rest a7 (by simp;omega)
   match k,hf with
   | 0,hf =>
    cases hf
    obtain ⟨q1,q2,q3,q4,rfl,Bx⟩:=hw.ev
    obtain ⟨a1,-,x1⟩:=Bx (q1,[pA W.heap.size 0]) (by simp)
    obtain ⟨a2,-,x2⟩:=Bx (q2,[.int .i64 2]) (by simp)
    replace a1:W.heap.size+2≤q1:=a1
    replace a2:W.heap.size+2≤q2:=a2
    refine (nGet q1 q2 W.heap.size 0 lo hi g L B lB _ 2 _ W' x1 x2 z1 (by simp) h4 (.inr (by omega)) (by omega) (by omega) (by omega) (by omega)).mono fun e w' ⟨t1,t2,t3,t4⟩ => ?_
    refine ⟨t1,?_,t4.mono y1⟩
    rw [hI]
    exact ⟨by omega,cs,v0,u0,u1,u2,u4,u5,v7,h2.rest t4 (by simp;omega),h3.rest t4 (fun x hx=>hX x (y1 x hx)),t2,z2.rest t4 (by simp;omega),t3,h5.rest t4 (by simp;omega),h6.trans (t4.mono y1)⟩
   | 1,hf =>
    cases hf
    obtain ⟨q1,q2,q3,q4,rfl,Bx⟩:=hw.es
    obtain ⟨a1,-,x1⟩:=Bx (q1,[pA (W.heap.size+1) 0]) (by simp)
    obtain ⟨a2,-,x2⟩:=Bx (q2,[.int .i64 2]) (by simp)
    replace a1:W.heap.size+2≤q1:=a1
    replace a2:W.heap.size+2≤q2:=a2
    refine (nGet q1 q2 (W.heap.size+1) 0 lo hi g L B lB _ 2 _ W' x1 x2 z2 (by simp) h4 (.inr (by omega)) (by omega) (by omega) (by omega) (by omega)).mono fun e w' ⟨t1,t2,t3,t4⟩ => ?_
    refine ⟨t1,?_,t4.mono y2⟩
    rw [hI]
    exact ⟨by omega,cs,v0,u0,u1,u2,u4,u5,v7,h2.rest t4 (by simp;omega),h3.rest t4 (fun x hx=>hX x (y2 x hx)),z1.rest t4 (by simp;omega),t2,t3,h5.rest t4 (by simp;omega),h6.trans (t4.mono y2)⟩
   | 2,hf =>
    cases hf
    obtain ⟨q1,q2,q3,rfl,Bx⟩:=hw.ei
    obtain ⟨a1,-,x1⟩:=Bx (q1,[pA w.heap.size 0]) (by simp)
    replace a1:W.heap.size+2≤q1:=a1
    refine (vGet q1 w.heap.size 0 lo hi g L B lB _ hL _ W' x1 h2 (by omega) h4 (.inl (by omega)) (by omega) (by omega)).mono fun e w' ⟨t1,v,t2,t3,t4,t5⟩ => ?_
    refine ⟨t1,?_,t5.mono y4⟩
    rw [hI]
    have h:=h3.rest t5 (fun x hx=>hX x (y4 x hx))
    have so:∀ j,0<j→(cs.set 0 v)[j]? = cs[j]?:=fun j hj=>List.getElem?_set_ne (by omega)
    exact ⟨by omega,_,v,u0,u1,u2,u4,u5,v7,t2,⟨by rw [List.length_set];exact hln,List.getElem?_set_self (by omega),(so 7 (by omega)).trans h.c7,⟨(so _ (by omega)).trans h.lf.c0,(so _ (by omega)).trans h.lf.c1,(so _ (by omega)).trans h.lf.c2,(so _ (by omega)).trans h.lf.c3,(so _ (by omega)).trans h.lf.c4,(so _ (by omega)).trans h.lf.c5,h.lf.o0,h.lf.o1,h.lf.o2,h.lf.o4,h.lf.o5⟩,own_base t3 hNW,h.o7⟩,z1.rest t5 (by simp;omega),z2.rest t5 (by simp;omega),t4,h5.rest t5 (by simp;omega),h6.trans (t5.mono y4)⟩
   | 3,hf=>exact leafcase 0 (by omega) hf rfl rfl rfl rfl rfl rfl (by omega)
   | 4,hf=>exact leafcase 1 (by omega) hf rfl rfl rfl rfl rfl rfl (by omega)
   | 5,hf=>exact leafcase 2 (by omega) hf rfl rfl rfl rfl rfl rfl (by omega)
   | 6,hf=>exact leafcase 3 (by omega) hf rfl rfl rfl rfl rfl rfl (by omega)
   | 7,hf=>exact leafcase 4 (by omega) hf rfl rfl rfl rfl rfl rfl (by omega)
   | 8,hf=>exact leafcase 5 (by omega) hf rfl rfl rfl rfl rfl rfl (by omega)
   | 9,hf =>
    cases hf
    obtain ⟨q1,q2,q3,rfl,Bx⟩:=hw.eg
    obtain ⟨a1,-,x1⟩:=Bx (q1,[pA w.heap.size 7]) (by simp)
    replace a1:W.heap.size+2≤q1:=a1
    refine (vGet q1 w.heap.size 7 lo hi g L B lB _ hL _ W' x1 h2 (by omega) h4 (.inl (by omega)) (by omega) (by omega)).mono fun e w' ⟨t1,v,t2,t3,t4,t5⟩ => ?_
    refine ⟨t1,?_,t5.mono y4⟩
    rw [hI]
    have h:=h3.rest t5 (fun x hx=>hX x (y4 x hx))
    have so:∀ j,j<7→(cs.set 7 v)[j]? = cs[j]?:=fun j hj=>List.getElem?_set_ne (by omega)
    exact ⟨by omega,_,v0,u0,u1,u2,u4,u5,v,t2,⟨by rw [List.length_set];exact hln,(so 0 (by omega)).trans h.c0,List.getElem?_set_self (by omega),⟨(so _ (by omega)).trans h.lf.c0,(so _ (by omega)).trans h.lf.c1,(so _ (by omega)).trans h.lf.c2,(so _ (by omega)).trans h.lf.c3,(so _ (by omega)).trans h.lf.c4,(so _ (by omega)).trans h.lf.c5,h.lf.o0,h.lf.o1,h.lf.o2,h.lf.o4,h.lf.o5⟩,h.o0,own_base t3 hNW⟩,z1.rest t5 (by simp;omega),z2.rest t5 (by simp;omega),t4,h5.rest t5 (by simp;omega),h6.trans (t5.mono y4)⟩
   | n+10,hf=>simp at hf
 · intro k W' hIk x hx
   rw [hI] at hIk
   obtain ⟨hk,cs,v0,u0,u1,u2,u4,u5,v7,h2,h3,z1,z2,h4,h5,h6⟩:=hIk
   have:=hX x hx
   have:=h6.size
   omega
 · intro k f hf W' hm
   have hk:k<10:=(List.getElem?_eq_some_iff.1 hf).1
   have hm':=hm
   rw [hI] at hm'
   obtain ⟨hk',cs,v0,u0,u1,u2,u4,u5,v7,h2,h3,z1,z2,h4,h5,h6⟩:=hm'
   have fin:∀ {al n b},FieldPut W' f al n b→al=kA L B ⟨0,0⟩ k→Calls Try.prog f.i0 f.c0 W' fun e w'=>e = .returned (.bool (kA L B ⟨0,0⟩ k))∧(kA L B ⟨0,0⟩ k=true→I (k+1) w')∧JK w w':=fun fp he=>by
    rw [he] at fp
    exact (fp.allow W' (Below.refl _ _)).mono fun e w' ⟨a1,a2⟩=>⟨a1,fun _=>hst _ _ _ hm a2,hj _ _ (hst _ _ _ hm a2)⟩
   have hw:=hwd h6
   obtain ⟨y0,l,y7,he,b0,bl,b7⟩:=h3.pkin
   have hll:l.length=6:=by obtain ⟨_,_,_,_,_,rfl,-⟩:=bl;rfl
   rw [he] at h2
   have rl':RW W' w.heap.size 1 l:=((show RW W' w.heap.size 0 ([y0] ++ (l ++ [y7])) from h2).right).left
   have c7:W'.cell? ⟨w.heap.size,7,none⟩=some y7:=h2.cell (by rw [List.getElem?_cons_succ,List.getElem?_append_right (by omega),hll];rfl)
   have LP:=leafP hw.el (by decide) rl' bl
   match k,hf with
   | 0,hf=>cases hf;exact fin (numP (s:=2) hw.ev (z1.cell (o:=0) rfl) z1.lt (by decide) rfl (by decide)) rfl
   | 1,hf=>cases hf;exact fin (numP (s:=2) hw.es (z2.cell (o:=0) rfl) z2.lt (by decide) rfl (by decide)) rfl
   | 2,hf=>cases hf;exact fin (vecP hw.ei (h2.cell (o:=0) rfl) h2.lt b0 (by decide)) rfl
   | 3,hf=>exact fin (LP 0 f hf) (kA_kD L B _ 3 (by omega) (by omega))
   | 4,hf=>exact fin (LP 1 f hf) (kA_kD L B _ 4 (by omega) (by omega))
   | 5,hf=>exact fin (LP 2 f hf) (kA_kD L B _ 5 (by omega) (by omega))
   | 6,hf=>exact fin (LP 3 f hf) (kA_kD L B _ 6 (by omega) (by omega))
   | 7,hf=>exact fin (LP 4 f hf) (kA_kD L B _ 7 (by omega) (by omega))
   | 8,hf=>exact fin (LP 5 f hf) (kA_kD L B _ 8 (by omega) (by omega))
   | 9,hf=>cases hf;exact fin (vecP hw.eg c7 h2.lt b7 (by decide)) rfl
   | n+10,hf=>simp at hf
 · intro k W' hIk
   rw [hI] at hIk
   obtain ⟨hk,cs,v0,u0,u1,u2,u4,u5,v7,h2,h3,z1,z2,h4,h5,h6⟩:=hIk
   exact fr.rest h6 (fun hx=>by have:=hb.size;simp at hx;omega)
 · intro W' hIk
   rw [hI] at hIk
   obtain ⟨hk,cs,v0,u0,u1,u2,u4,u5,v7,h2,h3,z1,z2,h4,h5,h6⟩:=hIk
   exact ⟨h4,cs,h2,N,v0,u0,u1,u2,u4,u5,v7,by have:=hb.size;omega,h3⟩
end Go.Proofs.Ytgdcmibdjiaofaa
namespace Go.Proofs.Ytgdcmibdjiaofaa
open Go.RowKit
theorem results_ct {P:Program} {fn:Func} {p q:Tmp} {ty:TypeId} (h:fn.results=#[.cell p ty,.tmp q]) (tmps:Array Value) (w:World) (g:Nat) (cs:List Value) (d:TypeDesc) (z:Value)
 (hp:tmps.getD p undef = .pointer (some ⟨g,0,none⟩)) (hq:tmps.getD q undef=z) (hc:w.rangeAt g 0 cs)
 (hu:P.underlying ty=some d) (hd:d.isRow=true) (hi:(P.info? ty).map (·.size)=some cs.length) :
 (results fn tmps).run P w = .ok (.tuple #[.agg cs.toArray,z]) w:=by
 have hp':tmps[p]?.getD undef = .pointer (some ⟨g,0,none⟩):=by simpa using hp
 have hq':tmps[q]?.getD undef=z:=by simpa using hq
 simp [results,h,hp',hq',asAddr,run_loadVar_mid w g 0 ty cs d hc hu hd hi]
theorem GetA.row {R:Prop} {D:World→List Value→Prop} {zero:List Value} {e:Ending} {w:World} {K:Nat} (h:GetA R D zero e w) (hD:∀ W cs,D W cs→cs.length=K∧cs.toArray.all (·.oneCell')=true) (hz:zero.length=K∧zero.toArray.all (·.oneCell')=true):∃ (l:List Value) (z:Int),e = .returned (.tuple #[.agg l.toArray,.int .i64 z])∧l.length=K∧l.toArray.all (·.oneCell')=true:=by
 unfold GetA at h
 split at h
 · obtain ⟨cs,h1,h2⟩:=h;exact ⟨cs,0,h1,hD _ _ h2⟩
 · exact ⟨zero,21,h,hz⟩
theorem GetA.map {R:Prop} {D D':World→List Value→Prop} {zero:List Value} {e:Ending} {w w':World} (h:GetA R D zero e w) (hm:∀ cs,D w cs→D' w' cs):GetA R D' zero e w':=by
 unfold GetA at *
 split
 · rename_i hR;rw [if_pos hR] at h;obtain ⟨cs,h1,h2⟩:=h;exact ⟨cs,h1,hm cs h2⟩
 · rename_i hR;rw [if_neg hR] at h;exact h
theorem GetA.cond {R R':Prop} {D:World→List Value→Prop} {zero:List Value} {e:Ending} {w:World} (h:GetA R D zero e w) (hm:R↔R'):GetA R' D zero e w:=by rw [←propext hm];exact h
set_option maxRecDepth 20000 in
set_option maxHeartbeats 2000000 in
theorem cGetLeaf (v:Value) (R:Prop) (D D':World→List Value→Prop) (w:World) (hDl:∀ W cs,D W cs→cs.length=6∧cs.toArray.all (·.oneCell')=true) (hD:∀ W W' cs,D W cs→Rest [w.heap.size] W W'→D' W' cs)
 (cg:∀ V,Below w.heap.size w V→V.heap.size=w.heap.size+1→Calls Try.prog 40 #[v,clo 37 #[]] V fun e w'=>Below V.heap.size V w'∧GetA R D zeroL e w'):Calls Try.prog 13 #[v] w fun e w'=>Below w.heap.size w w'∧GetA R D' zeroL e w':=by
 have hz:zeroL.length=6∧zeroL.toArray.all (·.oneCell')=true:=⟨rfl,by simp [zeroL,Value.oneCell']⟩
 obtain ⟨V,hV⟩:∃ V,V=w.alloc (.cells #[.slice none 0 0,.slice none 0 0,.slice none 0 0,.int .i64 0,.slice none 0 0,.slice none 0 0] 26):=⟨_,rfl⟩
 have k1:=RW.fresh w [.slice none 0 0,.slice none 0 0,.slice none 0 0,.int .i64 0,.slice none 0 0,.slice none 0 0] 26
 rw [show w.alloc (.cells [.slice none 0 0,.slice none 0 0,.slice none 0 0,.int .i64 0,.slice none 0 0,.slice none 0 0].toArray 26)=V from hV.symm] at k1
 have b1:Below w.heap.size w V:=by rw [hV];exact (Below.refl _ _).alloc (Nat.le_refl _) _
 have s1:V.heap.size=w.heap.size+1:=by rw [hV];simp
 replace cg:=cg V b1 s1
 have HV:=Hid.mk' hV
 have HZ:=Hid.mk' hz
 have K1:=Hid.mk' k1
 have HDl:=Hid.mk' hDl
 have HD:=Hid.mk' hD
 clear hV k1 s1 hz hDl hD
 go_enter Try.func13,Try.ntmps13
 go_upto_region 1 with (fail)
 rw [←HV.out]
 go_wp2_with (first
  | (go_at_call 40;refine cg.mono ?_;clear cg;rintro e w2 ⟨c2,hA⟩;(have HA:=Hid.mk' hA);(obtain ⟨l,z,rfl,hl,h1⟩:=hA.row HDl.out HZ.out);clear hA;(have r2:=K1.out.still c2);(have hsz:l.toArray.size=6:=by simp [hl]);(have tt:w2.there w.heap.size 0 l.toArray.size:=by rw [hsz];exact r2.there);(have hi2:(Try.prog.info? 26).map (·.size)=some l.toArray.size:=by rw [hsz];exact infoL);clear r2 hsz)
  | (with_reducible (refine id (?_:wpList _ _ _ _ _ _));refine wpList_store_mid rfl 26 _ _ rfl w.heap.size 0 l.toArray rfl rfl tt hi2 h1 ?_))
 have r2:=K1.out.still c2
 have r3:=r2.stored l (by rw [hl];rfl)
 have x3:Rest [w.heap.size] w2 (w2.setCells w.heap.size 0 l):=Rest.of_out (Out.setCells (b:=w.heap.size) (o:=0) (n:=l.length) w2 _ (Nat.le_refl _) (Nat.le_refl _)) (by simp)
 refine bodyPost_ret (results_ct Try.results13 _ _ w.heap.size l _ _ rfl rfl r3.range Try.underlying26 rfl (by rw [hl];exact infoL)) rfl ?_
 exact ⟨(below_next b1 c2).trans (x3.below (fun x hx=>by simp at hx;omega) (below_next b1 c2).size),HA.out.map fun cs h=>HD.out _ _ cs h x3⟩
set_option maxRecDepth 20000 in
set_option maxHeartbeats 2000000 in
theorem cGetParent (v:Value) (R:Prop) (D D':World→List Value→Prop) (w:World) (hDl:∀ W cs,D W cs→cs.length=3∧cs.toArray.all (·.oneCell')=true) (hD:∀ W W' cs,D W cs→Rest [w.heap.size] W W'→D' W' cs)
 (cg:∀ V,Below w.heap.size w V→V.heap.size=w.heap.size+1→Calls Try.prog 47 #[v,clo 44 #[]] V fun e w'=>Below V.heap.size V w'∧GetA R D zeroP e w'):Calls Try.prog 22 #[v] w fun e w'=>Below w.heap.size w w'∧GetA R D' zeroP e w':=by
 have hz:zeroP.length=3∧zeroP.toArray.all (·.oneCell')=true:=⟨rfl,by simp [zeroP,Value.oneCell']⟩
 obtain ⟨V,hV⟩:∃ V,V=w.alloc (.cells #[.slice none 0 0,.slice none 0 0,.slice none 0 0] 45):=⟨_,rfl⟩
 have k1:=RW.fresh w [.slice none 0 0,.slice none 0 0,.slice none 0 0] 45
 rw [show w.alloc (.cells [.slice none 0 0,.slice none 0 0,.slice none 0 0].toArray 45)=V from hV.symm] at k1
 have b1:Below w.heap.size w V:=by rw [hV];exact (Below.refl _ _).alloc (Nat.le_refl _) _
 have s1:V.heap.size=w.heap.size+1:=by rw [hV];simp
 replace cg:=cg V b1 s1
 have HV:=Hid.mk' hV
 have HZ:=Hid.mk' hz
 have K1:=Hid.mk' k1
 have HDl:=Hid.mk' hDl
 have HD:=Hid.mk' hD
 clear hV k1 s1 hz hDl hD
 go_enter Try.func22,Try.ntmps22
 go_upto_region 1 with (fail)
 rw [←HV.out]
 go_wp2_with (first
  | (go_at_call 47;refine cg.mono ?_;clear cg;rintro e w2 ⟨c2,hA⟩;(have HA:=Hid.mk' hA);(obtain ⟨l,z,rfl,hl,h1⟩:=hA.row HDl.out HZ.out);clear hA;(have r2:=K1.out.still c2);(have hsz:l.toArray.size=3:=by simp [hl]);(have tt:w2.there w.heap.size 0 l.toArray.size:=by rw [hsz];exact r2.there);(have hi2:(Try.prog.info? 45).map (·.size)=some l.toArray.size:=by rw [hsz];exact infoP);clear r2 hsz)
  | (with_reducible (refine id (?_:wpList _ _ _ _ _ _));refine wpList_store_mid rfl 45 _ _ rfl w.heap.size 0 l.toArray rfl rfl tt hi2 h1 ?_))
 have r2:=K1.out.still c2
 have r3:=r2.stored l (by rw [hl];rfl)
 have x3:Rest [w.heap.size] w2 (w2.setCells w.heap.size 0 l):=Rest.of_out (Out.setCells (b:=w.heap.size) (o:=0) (n:=l.length) w2 _ (Nat.le_refl _) (Nat.le_refl _)) (by simp)
 refine bodyPost_ret (results_ct Try.results22 _ _ w.heap.size l _ _ rfl rfl r3.range Try.underlying45 rfl (by rw [hl];exact infoP)) rfl ?_
 exact ⟨(below_next b1 c2).trans (x3.below (fun x hx=>by simp at hx;omega) (below_next b1 c2).size),HA.out.map fun cs h=>HD.out _ _ cs h x3⟩
set_option maxRecDepth 20000 in
set_option maxHeartbeats 2000000 in
theorem cGetPackage (v:Value) (R:Prop) (D D':World→List Value→Prop) (w:World) (hDl:∀ W cs,D W cs→cs.length=8∧cs.toArray.all (·.oneCell')=true) (hD:∀ W W' cs,D W cs→Rest [w.heap.size] W W'→D' W' cs)
 (cg:∀ V,Below w.heap.size w V→V.heap.size=w.heap.size+1→Calls Try.prog 53 #[v,clo 50 #[]] V fun e w'=>Below V.heap.size V w'∧GetA R D zeroK e w'):Calls Try.prog 28 #[v] w fun e w'=>Below w.heap.size w w'∧GetA R D' zeroK e w':=by
 have hz:zeroK.length=8∧zeroK.toArray.all (·.oneCell')=true:=⟨rfl,by simp [zeroK,Value.oneCell']⟩
 obtain ⟨V,hV⟩:∃ V,V=w.alloc (.cells #[.slice none 0 0,.slice none 0 0,.slice none 0 0,.slice none 0 0,.int .i64 0,.slice none 0 0,.slice none 0 0,.slice none 0 0] 58):=⟨_,rfl⟩
 have k1:=RW.fresh w [.slice none 0 0,.slice none 0 0,.slice none 0 0,.slice none 0 0,.int .i64 0,.slice none 0 0,.slice none 0 0,.slice none 0 0] 58
 rw [show w.alloc (.cells [.slice none 0 0,.slice none 0 0,.slice none 0 0,.slice none 0 0,.int .i64 0,.slice none 0 0,.slice none 0 0,.slice none 0 0].toArray 58)=V from hV.symm] at k1
 have b1:Below w.heap.size w V:=by rw [hV];exact (Below.refl _ _).alloc (Nat.le_refl _) _
 have s1:V.heap.size=w.heap.size+1:=by rw [hV];simp
 replace cg:=cg V b1 s1
 have HV:=Hid.mk' hV
 have HZ:=Hid.mk' hz
 have K1:=Hid.mk' k1
 have HDl:=Hid.mk' hDl
 have HD:=Hid.mk' hD
 clear hV k1 s1 hz hDl hD
 go_enter Try.func28,Try.ntmps28
 go_upto_region 1 with (fail)
 rw [←HV.out]
 go_wp2_with (first
  | (go_at_call 53;refine cg.mono ?_;clear cg;rintro e w2 ⟨c2,hA⟩;(have HA:=Hid.mk' hA);(obtain ⟨l,z,rfl,hl,h1⟩:=hA.row HDl.out HZ.out);clear hA;(have r2:=K1.out.still c2);(have hsz:l.toArray.size=8:=by simp [hl]);(have tt:w2.there w.heap.size 0 l.toArray.size:=by rw [hsz];exact r2.there);(have hi2:(Try.prog.info? 58).map (·.size)=some l.toArray.size:=by rw [hsz];exact infoK);clear r2 hsz)
  | (with_reducible (refine id (?_:wpList _ _ _ _ _ _));refine wpList_store_mid rfl 58 _ _ rfl w.heap.size 0 l.toArray rfl rfl tt hi2 h1 ?_))
 have r2:=K1.out.still c2
 have r3:=r2.stored l (by rw [hl];rfl)
 have x3:Rest [w.heap.size] w2 (w2.setCells w.heap.size 0 l):=Rest.of_out (Out.setCells (b:=w.heap.size) (o:=0) (n:=l.length) w2 _ (Nat.le_refl _) (Nat.le_refl _)) (by simp)
 refine bodyPost_ret (results_ct Try.results28 _ _ w.heap.size l _ _ rfl rfl r3.range Try.underlying58 rfl (by rw [hl];exact infoK)) rfl ?_
 exact ⟨(below_next b1 c2).trans (x3.below (fun x hx=>by simp at hx;omega) (below_next b1 c2).size),HA.out.map fun cs h=>HD.out _ _ cs h x3⟩
end Go.Proofs.Ytgdcmibdjiaofaa
namespace Go.Proofs.Ytgdcmibdjiaofaa
open Go.RowKit
theorem all_false (al:Nat→Bool):(fun k=>!(fun _:Nat=>false) k && al k)=al:=by funext k;simp
theorem one_arr {cs:List Value} (h:∀ u∈cs,u.oneCell'=true):cs.toArray.all (·.oneCell')=true:=by simpa using h
def getD13 (L:Nat) (B:Nat→Nat):LfD:=(rl L B ⟨0,0⟩ 6).1
def getE13 (L:Nat) (B:Nat→Nat):Int:=endD L (rl L B ⟨0,0⟩ 6).2
theorem getLeaf_any (v:Value) (L:Nat) (B:Nat→Nat) (lB:∀ j,B j<256) (hL:L<140737488355000) (w:World) (hv:BytesIn w v L B):Calls Try.prog 13 #[v] w fun e w'=>Below w.heap.size w w'∧GetA (lfR (getD13 L B) 3∧getE13 L B=0) (fun W cs=>LfIn W cs (getD13 L B)) zeroL e w':=by
 have hDl:∀ b W cs,DLf b (rl L B ⟨0,0⟩ 6).1 W cs→cs.length=6∧cs.toArray.all (·.oneCell')=true:=fun b W cs h=>by
  obtain ⟨h1,N,v0,v1,v2,v4,v5,_,h2⟩:=h
  refine ⟨h1,one_arr ?_⟩
  rw [h2.eq h1]
  exact h2.one
 refine cGetLeaf v _ (DLf (w.heap.size+3) (rl L B ⟨0,0⟩ 6).1) _ w (hDl _) (fun W W' cs h x => ?_) (fun V hb hs => ?_)
 · obtain ⟨h1,N,v0,v1,v2,v4,v5,hN,h2⟩:=h
   have h3:=h2.rest x (fun y hy=>by simp at hy;omega)
   rw [h3.eq h1]
   exact h3.lfin
 · refine (getL_any v L B hL (lfA (rl L B ⟨0,0⟩ 6).1 3) (fun _=>false) 6 (by decide) (by decide) (rl L B ⟨0,0⟩ 6).2 (DLf (V.heap.size+2) (rl L B ⟨0,0⟩ 6).1) V (hv.keep hb) (fun W W' cs h x => ?_) (hDl _) (fun g lo hi W k1 k2 hlo hR hb'=>leafHF L B lB hL V g lo hi W k1 k2 hlo hR hb')).mono fun e w' ⟨h1,h2⟩=>⟨h1,?_⟩
   · obtain ⟨h1,N,v0,v1,v2,v4,v5,hN,h2⟩:=h
     exact ⟨h1,N,v0,v1,v2,v4,v5,hN,h2.rest x (fun y hy=>by simp at hy;omega)⟩
   · rw [all_false] at h2
     rw [show V.heap.size+2=w.heap.size+3 by omega] at h2
     exact h2.cond (by rw [lf_all];exact Iff.rfl)
def getP13 (L:Nat) (B:Nat→Nat):PrD:=(rp L B ⟨0,0⟩ 3).1
def getQ13 (L:Nat) (B:Nat→Nat):Prop:=(vx L B (rp L B ⟨0,0⟩ 2).2).n%4=0∧endD L (rp L B ⟨0,0⟩ 3).2=0
theorem getParent_any (v:Value) (L:Nat) (B:Nat→Nat) (lB:∀ j,B j<256) (hL:L<140737488355000) (w:World) (hv:BytesIn w v L B):Calls Try.prog 22 #[v] w fun e w'=>Below w.heap.size w w'∧GetA (prR (getP13 L B)∧getQ13 L B) (fun W cs=>PrIn W cs (getP13 L B)) zeroP e w':=by
 have hDl:∀ b W cs,DPr b (rp L B ⟨0,0⟩ 3).1 W cs→cs.length=3∧cs.toArray.all (·.oneCell')=true:=fun b W cs h=>by
  obtain ⟨N,v0,v1,v2,_,h2⟩:=h
  rw [h2.c0]
  refine ⟨rfl,one_arr ?_⟩
  obtain ⟨_,_,e0⟩:=h2.o0.slice
  obtain ⟨_,_,e1⟩:=h2.o1.slice
  obtain ⟨_,_,e2⟩:=h2.o2.slice
  intro u hu
  simp at hu
  rcases hu with rfl | rfl | rfl
  · rw [e0];rfl
  · rw [e1];rfl
  · rw [e2];rfl
 refine cGetParent v _ (DPr (w.heap.size+3) (rp L B ⟨0,0⟩ 3).1) _ w (hDl _) (fun W W' cs h x => ?_) (fun V hb hs => ?_)
 · obtain ⟨N,v0,v1,v2,hN,h2⟩:=h
   exact (h2.rest x (fun y hy=>by simp at hy;omega)).prin
 · refine (getP_any v L B hL (prA (rp L B ⟨0,0⟩ 3).1) (rpB L B ⟨0,0⟩) 3 (by decide) (by decide) (rp L B ⟨0,0⟩ 3).2 (DPr (V.heap.size+2) (rp L B ⟨0,0⟩ 3).1) V (hv.keep hb) (fun W W' cs h x => ?_) (hDl _) (fun g lo hi W k1 k2 hlo hR hb'=>parHF L B lB hL V g lo hi W k1 k2 hlo hR hb')).mono fun e w' ⟨h1,h2⟩=>⟨h1,?_⟩
   · obtain ⟨N,v0,v1,v2,hN,h2⟩:=h
     exact ⟨N,v0,v1,v2,hN,h2.rest x (fun y hy=>by simp at hy;omega)⟩
   · rw [show V.heap.size+2=w.heap.size+3 by omega] at h2
     refine h2.cond ?_
     have hp:=pr_all (rp L B ⟨0,0⟩ 3).1
     unfold getP13 getQ13
     rw [←hp]
     show (((true && (!rpB L B ⟨0,0⟩ 0 && prA _ 0)) && (!rpB L B ⟨0,0⟩ 1 && prA _ 1)) && (!rpB L B ⟨0,0⟩ 2 && prA _ 2))=true∧_↔(((true && prA _ 0) && prA _ 1) && prA _ 2)=true∧_
     simp only [rpB,show decide ((0:Nat)=2)=false from rfl,show decide ((1:Nat)=2)=false from rfl,decide_true,Bool.false_and,Bool.not_false,Bool.true_and,Bool.not_not,Bool.and_eq_true,decide_eq_true_eq]
     constructor
     · rintro ⟨⟨⟨a,b⟩,c,d⟩,e⟩;exact ⟨⟨⟨a,b⟩,d⟩,c,e⟩
     · rintro ⟨⟨⟨a,b⟩,d⟩,c,e⟩;exact ⟨⟨⟨a,b⟩,c,d⟩,e⟩
def getK13 (L:Nat) (B:Nat→Nat):PkD:=kpk L B ⟨0,0⟩
def getS13 (L:Nat) (B:Nat→Nat):Prop:=kz1 L B ⟨0,0⟩=1∧kz2 L B ⟨0,0⟩=1∧endD L (kr10 L B ⟨0,0⟩)=0
theorem getPackage_any (v:Value) (L:Nat) (B:Nat→Nat) (lB:∀ j,B j<256) (hL:L<140737488355000) (w:World) (hv:BytesIn w v L B):Calls Try.prog 28 #[v] w fun e w'=>Below w.heap.size w w'∧GetA (pkR (getK13 L B)∧getS13 L B) (fun W cs=>PkIn W cs (getK13 L B)) zeroK e w':=by
 have hDl:∀ b W cs,DPk b (kpk L B ⟨0,0⟩) W cs→cs.length=8∧cs.toArray.all (·.oneCell')=true:=fun b W cs h=>by
  obtain ⟨N,v0,u0,u1,u2,u4,u5,v7,_,h2⟩:=h
  refine ⟨h2.len,one_arr ?_⟩
  rw [h2.eq]
  obtain ⟨_,_,e0⟩:=h2.o0.slice
  obtain ⟨_,_,e7⟩:=h2.o7.slice
  have ho:=h2.lf.one
  intro u hu
  simp only [List.mem_cons,List.not_mem_nil,or_false] at hu ho
  rcases hu with rfl | hu | hu | hu | hu | hu | hu | rfl
  · rw [e0];rfl
  · exact ho u (by simp [hu])
  · exact ho u (by simp [hu])
  · exact ho u (by simp [hu])
  · exact ho u (by simp [hu])
  · exact ho u (by simp [hu])
  · exact ho u (by simp [hu])
  · rw [e7];rfl
 refine cGetPackage v _ (DPk (w.heap.size+3) (kpk L B ⟨0,0⟩)) _ w (hDl _) (fun W W' cs h x => ?_) (fun V hb hs => ?_)
 · obtain ⟨N,v0,u0,u1,u2,u4,u5,v7,hN,h2⟩:=h
   exact (h2.rest x (fun y hy=>by simp at hy;omega)).pkin
 · refine (getK_any v L B hL (kA L B ⟨0,0⟩) (fun _=>false) 10 (by decide) (by decide) (kr10 L B ⟨0,0⟩) (DPk (V.heap.size+2) (kpk L B ⟨0,0⟩)) V (hv.keep hb) (fun W W' cs h x => ?_) (hDl _) (fun g lo hi W k1 k2 hlo hR hb'=>pkgHF L B lB hL V g lo hi W k1 k2 hlo hR hb')).mono fun e w' ⟨h1,h2⟩=>⟨h1,?_⟩
   · obtain ⟨N,v0,u0,u1,u2,u4,u5,v7,hN,h2⟩:=h
     exact ⟨N,v0,u0,u1,u2,u4,u5,v7,hN,h2.rest x (fun y hy=>by simp at hy;omega)⟩
   · rw [all_false] at h2
     rw [show V.heap.size+2=w.heap.size+3 by omega] at h2
     refine h2.cond ?_
     have hp:=pk_all (kpk L B ⟨0,0⟩)
     unfold getK13 getS13
     rw [←hp]
     show ((((((((((true && (decide (1≤kz1 L B ⟨0,0⟩) && decide (kz1 L B ⟨0,0⟩≤1))) && (decide (1≤kz2 L B ⟨0,0⟩) && decide (kz2 L B ⟨0,0⟩≤1))) && pkA _ 2) && pkA _ 3) && pkA _ 4) && pkA _ 5) && pkA _ 6) && pkA _ 7) && pkA _ 8) && pkA _ 9)=true∧_↔((((((((((true && (decide ((1:Int)≤1) && decide ((1:Int)≤1))) && (decide ((1:Int)≤1) && decide ((1:Int)≤1))) && pkA _ 2) && pkA _ 3) && pkA _ 4) && pkA _ 5) && pkA _ 6) && pkA _ 7) && pkA _ 8) && pkA _ 9)=true∧_
     generalize kz1 L B ⟨0,0⟩=z1
     generalize kz2 L B ⟨0,0⟩=z2
     simp only [Bool.and_eq_true,decide_eq_true_eq,Bool.true_and]
     constructor
     · rintro ⟨⟨⟨⟨⟨⟨⟨⟨⟨⟨a,b⟩,c⟩,d⟩,e⟩,f⟩,g⟩,h⟩,i⟩,j⟩,k⟩
       exact ⟨⟨⟨⟨⟨⟨⟨⟨⟨⟨by omega,by omega⟩,c⟩,d⟩,e⟩,f⟩,g⟩,h⟩,i⟩,j⟩,by omega,by omega,k⟩
     · rintro ⟨⟨⟨⟨⟨⟨⟨⟨⟨⟨a,b⟩,c⟩,d⟩,e⟩,f⟩,g⟩,h⟩,i⟩,j⟩,k1,k2,k⟩
       exact ⟨⟨⟨⟨⟨⟨⟨⟨⟨⟨by omega,by omega⟩,c⟩,d⟩,e⟩,f⟩,g⟩,h⟩,i⟩,j⟩,k⟩
end Go.Proofs.Ytgdcmibdjiaofaa
namespace Go.Proofs.Ytgdcmibdjiaofaa
open Go.RowKit
theorem wpList_load_on {P:Program} {ops:Array Oper} {rest:List Oper} {op:Oper} {a:Act} {w:World} {Q:Exit→Act→World→Prop} (hw:Region.wanted op (yielded ops a.tmps)=true) (ty:TypeId) (x:Operand) (ho:op.op = .load ty x) (b o:Nat) (hx:a.eval x = .pointer (some ⟨b,o,none⟩)) (cs:List Value) (d:TypeDesc) (hc:w.rangeAt b o cs) (hu:P.underlying ty=some d) (hd:d.isRow=true) (hi:(P.info? ty).map (·.size)=some cs.length) (h:wpList P ops Q rest (a.put op.dst (.agg cs.toArray)) w):wpList P ops Q (op :: rest) a w:=by
 unfold wpList
 rw [if_pos hw]
 exact .inl (wp_load_mid ty x ho b o hx cs d hc hu hd hi h)
end Go.Proofs.Ytgdcmibdjiaofaa
namespace Go.Proofs.Ytgdcmibdjiaofaa
open Go.RowKit
theorem RdB.rest {X:List Nat} {lo hi:Nat} {w w':World} {g L:Nat} {B:Nat→Nat} {r:Rd} (h:RdB lo hi w g L B r) (hb:Rest X w w') (hX:∀ x,x∈X→x<lo∨hi≤x):RdB lo hi w' g L B r :=
 h.same ⟨hb.size,fun k h1 h2=>hb.block k (Nat.lt_of_lt_of_le h2 h.size) (fun e=>by have:=hX k e;omega)⟩
theorem RdB.keep {lo hi:Nat} {w w':World} {g L:Nat} {B:Nat→Nat} {r:Rd} (h:RdB lo hi w g L B r) (hb:Below w.heap.size w w'):RdB lo hi w' g L B r:=h.rest (Rest.of_below (X:=[]) hb) (fun _ hx=>by cases hx)
theorem Rest.cut {X:List Nat} {p:Nat} {w W W':World} (h:Rest X w W) (k:Rest (p :: X) W W') (hp:w.heap.size≤p):Rest X w W' :=
 ⟨k.os.trans h.os,k.tape.trans h.tape,k.output.trans h.output,Nat.le_trans h.size k.size,fun i hi hb=>(k.block i (Nat.lt_of_lt_of_le hi h.size) (fun e=>by rcases List.mem_cons.1 e with e | e;omega;exact hb e)).trans (h.block i hi hb)⟩
theorem Own.rest {X:List Nat} {base:Nat} {w w':World} {v:Value} {n:Nat} {b:Nat→Nat} (h:Own base w v n b) (hb:Rest X w w') (hX:∀ x,x∈X→x<base):Own base w' v n b:=own_rest h hb hX
theorem ldLg {ops:Array Oper} {rest:List Oper} {op:Oper} {a:Act} {w:World} {Q:Exit→Act→World→Prop} (x:Operand) (ho:op.op = .load 24 x) {g o:Nat} {A B C D E F:Value} (hx:a.eval x = .pointer (some ⟨g,o,none⟩)) (hc:w.rangeAt g o [A,B,C,D,E,F])
 (h:wpList Try.prog ops Q rest (a.put op.dst (.agg #[A,B,C,D,E,F])) w) (hw:Region.wanted op (yielded ops a.tmps)=true):wpList Try.prog ops Q (op :: rest) a w :=
 wpList_load_on hw 24 x ho g o hx [A,B,C,D,E,F] _ hc Try.underlying24 rfl infoRL h
theorem resRL {fn:Func} {p:Tmp} (h:fn.results=#[.cell p 24]) (tmps:Array Value) (w:World) (g o:Nat) (A B C D E F:Value) (hp:tmps.getD p undef = .pointer (some ⟨g,o,none⟩)) (hc:w.rangeAt g o [A,B,C,D,E,F]):(results fn tmps).run Try.prog w = .ok (.agg #[A,B,C,D,E,F]) w :=
 results_cell_mid h tmps w g o [A,B,C,D,E,F] _ hp hc Try.underlying24 rfl infoRL
set_option maxRecDepth 20000 in
set_option maxHeartbeats 4000000 in
theorem rReadLeaf3 (lo hi g L:Nat) (B:Nat→Nat) (lB:∀ j,B j<256) (r:Rd) (hL:L<140737488355000) (hs:(((numD L B 1 (rl L B r 3).2).1:Nat):Int)=3) (w:World) (hR:RdB lo hi w g L B r):Calls Try.prog 42 #[pA g 0] w fun e w'=>∃ cs,e = .returned (.agg cs.toArray)∧cs.length=6∧(∃ v0 v1 v2 v4 v5,LfAt w.heap.size w' cs 0 (rl L B r 6).1 v0 v1 v2 v4 v5)∧RdB lo hi w' g L B (rl L B r 6).2∧Rest [g] w w':=by
 have hgl:=hR.ge
 have hgh:=hR.lt
 have hhs:=hR.size
 have e5:rl L B r 5=if (((numD L B 1 (rl L B r 3).2).1:Nat):Int)=3 then ({ (rl L B r 4).1 with hash:=vx L B (rl L B r 4).2 },(vecD L B (rl L B r 4).2).2) else rl L B r 4:=rfl
 rw [if_pos hs] at e5
 have E5:=Hid.mk' e5
 have HS:=Hid.mk' hs
 obtain ⟨sz,hsz⟩:∃ sz:Int,sz=(((numD L B 1 (rl L B r 3).2).1:Nat):Int):=⟨_,rfl⟩
 have HZ:=hs
 rw [←hsz] at HZ
 replace HZ:=Hid.mk' HZ
 have HSZ:=Hid.mk' hsz
 clear e5 hs hsz
 have bV:Below w.heap.size w (w.alloc (.cells #[.slice none 0 0,.slice none 0 0,.slice none 0 0,.int .i64 0,.slice none 0 0,.slice none 0 0] 24)):=(Below.refl _ _).alloc (Nat.le_refl _) _
 have k2:=RW.fresh w [.slice none 0 0,.slice none 0 0,.slice none 0 0,.int .i64 0,.slice none 0 0,.slice none 0 0] 24
 have s2:(w.alloc (.cells #[.slice none 0 0,.slice none 0 0,.slice none 0 0,.int .i64 0,.slice none 0 0,.slice none 0 0] 24)).heap.size=w.heap.size+1:=by simp
 obtain ⟨V,hV⟩:∃ V,V=w.alloc (.cells #[.slice none 0 0,.slice none 0 0,.slice none 0 0,.int .i64 0,.slice none 0 0,.slice none 0 0] 24):=⟨_,rfl⟩
 rw [show w.alloc (.cells [.slice none 0 0,.slice none 0 0,.slice none 0 0,.int .i64 0,.slice none 0 0,.slice none 0 0].toArray 24)=V from hV.symm] at k2
 rw [←hV] at bV s2
 have HV:=Hid.mk' hV
 have R0:=hR.keep bV
 have cv:=rVecB_any lo hi g L B lB r hL V R0
 have S2:=Hid.mk' s2
 have K2:=Hid.mk' k2
 clear hV R0 s2 k2
 go_enter Try.func42,Try.ntmps42
 go_upto_region 1 with (fail)
 rw [←HV.out]
 go_upto_region 2 with (go_at_call 55;refine cv.mono ?_;clear cv;rintro e w1 ⟨s1,rfl,o1,R1,x1⟩;obtain ⟨y0,c0,rfl⟩:=o1.slice)
 have X1:Rest [g] w w1:=(Rest.of_below bV).trans (Rest.of_out x1 (by simp))
 have hw1:V.heap.size≤w1.heap.size:=x1.size
 obtain ⟨p,hp⟩:∃ p,p=w1.heap.size:=⟨_,rfl⟩
 have v0:Value := .slice y0 (vecD L B r).1 c0
 have k3:=RW.fresh w1 [.slice y0 (vecD L B r).1 c0,.slice none 0 0,.slice none 0 0,.int .i64 0,.slice none 0 0,.slice none 0 0] 24
 have b3:Below w1.heap.size w1 (w1.alloc (.cells #[.slice y0 (vecD L B r).1 c0,.slice none 0 0,.slice none 0 0,.int .i64 0,.slice none 0 0,.slice none 0 0] 24)):=(Below.refl _ _).alloc (Nat.le_refl _) _
 have r2:=(K2.out.rest (Rest.of_out (X:=[g]) x1 (by simp)) (by simp;omega)).still b3
 have O1:=(o1.rest (Rest.of_below (X:=[]) b3) (fun _ hx=>by cases hx)).base bV.size
 have R1':=R1.keep b3
 have s3:(w1.alloc (.cells #[.slice y0 (vecD L B r).1 c0,.slice none 0 0,.slice none 0 0,.int .i64 0,.slice none 0 0,.slice none 0 0] 24)).heap.size=w1.heap.size+1:=by simp
 obtain ⟨W,hW⟩:∃ W,W=w1.alloc (.cells #[.slice y0 (vecD L B r).1 c0,.slice none 0 0,.slice none 0 0,.int .i64 0,.slice none 0 0,.slice none 0 0] 24):=⟨_,rfl⟩
 rw [show w1.alloc (.cells [.slice y0 (vecD L B r).1 c0,.slice none 0 0,.slice none 0 0,.int .i64 0,.slice none 0 0,.slice none 0 0].toArray 24)=W from hW.symm] at k3
 rw [←hW] at b3 r2 R1' O1 s3 ⊢
 rw [←hp] at k3 s3 ⊢
 have x0:Rest [g] w1 W:=Rest.of_below b3
 have O0:=Hid.mk' o1
 have S3:=Hid.mk' s3
 have HP:=Hid.mk' hp
 have X0:=Hid.mk' x0
 have A:=Rest.refl [p,g] W
 replace O1:=Hid.mk' O1
 have r3:=k3
 have cur0:=W
 have hpw:w.heap.size<p:=by have:=S2.out;omega
 have hph:hi≤p:=by omega
 have hpg:¬p=g:=by omega
 have hgW:g<W.heap.size:=by have:=S3.out;omega
 have hpW:p<W.heap.size:=by have:=S3.out;omega
 clear hW x1 o1 R1 b3 k3 s3 x0 hp O1 v0 cur0
 have R:=R1'
 clear R1'
 have cv:=rVecB_any lo hi g L B lB (rl L B r 1).2 hL W R
 go_upto_region 3 with (go_at_call 55;refine cv.mono ?_;clear cv;rintro e w2 ⟨s2,rfl,o2,R2,x2⟩;(obtain ⟨y1,d1,rfl⟩:=o2.slice);(have Y2:Rest [p,g] W w2:=Rest.of_out x2 (by simp));(have t2:=r3.rest (Rest.of_out (X:=[g]) x2 (by simp)) (by simpa using hpg));(have q2:=t2.cell (o:=1) rfl);(have z2:=t2.live (o:=1) (by simp));clear r3)
 have Z2:Rest [p] w2 (w2.setCell ⟨p,1,none⟩ (.slice y1 (vecD L B (rl L B r 1).2).1 d1)):=Rest.setCell w2 _ (by simp)
 have r3:RW (w2.setCell ⟨p,1,none⟩ (.slice y1 (vecD L B (rl L B r 1).2).1 d1)) p 0 [.slice y0 (vecD L B r).1 c0,.slice y1 (vecD L B (rl L B r 1).2).1 d1,.slice none 0 0,.int .i64 0,.slice none 0 0,.slice none 0 0]:=t2.set1 (o:=1) (by simp) _
 have R:=R2.rest Z2 (fun x hx=>by rw [List.mem_singleton] at hx;subst hx;exact .inr hph)
 have YZ:=Y2.trans (Z2.mono (fun x hx=>by simp at hx;simp [hx]))
 have r2:=r2.rest YZ (by simp;omega)
 replace A:=A.trans YZ
 have o2:=(o2.rest Z2 (fun x hx=>by rw [List.mem_singleton] at hx;omega)).base (Nat.le_refl _)
 have A2:=A
 clear Y2 Z2 YZ q2 z2 t2 x2 R2
 generalize (w2.setCell ⟨p,1,none⟩ (.slice y1 (vecD L B (rl L B r 1).2).1 d1))=u2 at *
 have cv:=rVecB_any lo hi g L B lB (rl L B r 2).2 hL u2 R
 go_upto_region 4 with (go_at_call 55;refine cv.mono ?_;clear cv;rintro e w3 ⟨s3,rfl,o3,R3,x3⟩;(obtain ⟨y2,d2,rfl⟩:=o3.slice);(have Y3:Rest [p,g] u2 w3:=Rest.of_out x3 (by simp));(have t3:=r3.rest (Rest.of_out (X:=[g]) x3 (by simp)) (by simpa using hpg));(have q3:=t3.cell (o:=2) rfl);(have z3:=t3.live (o:=2) (by simp));clear r3)
 have Z3:Rest [p] w3 (w3.setCell ⟨p,2,none⟩ (.slice y2 (vecD L B (rl L B r 2).2).1 d2)):=Rest.setCell w3 _ (by simp)
 have r3:RW (w3.setCell ⟨p,2,none⟩ (.slice y2 (vecD L B (rl L B r 2).2).1 d2)) p 0 [.slice y0 (vecD L B r).1 c0,.slice y1 (vecD L B (rl L B r 1).2).1 d1,.slice y2 (vecD L B (rl L B r 2).2).1 d2,.int .i64 0,.slice none 0 0,.slice none 0 0]:=t3.set1 (o:=2) (by simp) _
 have R:=R3.rest Z3 (fun x hx=>by rw [List.mem_singleton] at hx;subst hx;exact .inr hph)
 have YZ:=Y3.trans (Z3.mono (fun x hx=>by simp at hx;simp [hx]))
 have r2:=r2.rest YZ (by simp;omega)
 replace A:=A.trans YZ
 replace o2:=o2.rest YZ (fun x hx=>by simp at hx;omega)
 have o3:=(o3.rest Z3 (fun x hx=>by rw [List.mem_singleton] at hx;have:=A2.size;omega)).base (A2.size)
 have A3:=A
 clear Y3 Z3 YZ q3 z3 t3 x3 R3
 generalize (w3.setCell ⟨p,2,none⟩ (.slice y2 (vecD L B (rl L B r 2).2).1 d2))=u3 at *
 have cv:=rNumB_any lo hi g L B lB (rl L B r 3).2 1 hL u3 R
 rw [HS.out] at cv
 go_upto_region 5 with (go_at_call 54;refine cv.mono ?_;clear cv;rintro e w4 ⟨rfl,R4,x4⟩;(have Y4:Rest [p,g] u3 w4:=Rest.of_out x4 (by simp));(have t4:=r3.rest (Rest.of_out (X:=[g]) x4 (by simp)) (by simpa using hpg));(have q4:=t4.cell (o:=3) rfl);(have z4:=t4.live (o:=3) (by simp));clear r3)
 have Z4:Rest [p] w4 (w4.setCell ⟨p,3,none⟩ (.int .i64 3)):=Rest.setCell w4 _ (by simp)
 have r3:RW (w4.setCell ⟨p,3,none⟩ (.int .i64 3)) p 0 [.slice y0 (vecD L B r).1 c0,.slice y1 (vecD L B (rl L B r 1).2).1 d1,.slice y2 (vecD L B (rl L B r 2).2).1 d2,.int .i64 3,.slice none 0 0,.slice none 0 0]:=t4.set1 (o:=3) (by simp) _
 have R:=R4.rest Z4 (fun x hx=>by rw [List.mem_singleton] at hx;subst hx;exact .inr hph)
 have YZ:=Y4.trans (Z4.mono (fun x hx=>by simp at hx;simp [hx]))
 have r2:=r2.rest YZ (by simp;omega)
 replace A:=A.trans YZ
 replace o2:=o2.rest YZ (fun x hx=>by simp at hx;omega)
 replace o3:=o3.rest YZ (fun x hx=>by simp at hx;omega)
 have A4:=A
 clear Y4 Z4 YZ q4 z4 t4 x4 R4
 generalize (w4.setCell ⟨p,3,none⟩ (.int .i64 3))=u4 at *
 have q3:=r3.cell (o:=3) rfl
 have cv:=rVecB_any lo hi g L B lB (rl L B r 4).2 hL u4 R
 go_upto_region 7 with (go_at_call 55;refine cv.mono ?_;clear cv;rintro e w5 ⟨s5,rfl,o5,R5,x5⟩;(obtain ⟨y4,d4,rfl⟩:=o5.slice);(have Y5:Rest [p,g] u4 w5:=Rest.of_out x5 (by simp));(have t5:=r3.rest (Rest.of_out (X:=[g]) x5 (by simp)) (by simpa using hpg));(have q5:=t5.cell (o:=4) rfl);(have z5:=t5.live (o:=4) (by simp));clear r3)
 have Z5:Rest [p] w5 (w5.setCell ⟨p,4,none⟩ (.slice y4 (vecD L B (rl L B r 4).2).1 d4)):=Rest.setCell w5 _ (by simp)
 have r3:RW (w5.setCell ⟨p,4,none⟩ (.slice y4 (vecD L B (rl L B r 4).2).1 d4)) p 0 [.slice y0 (vecD L B r).1 c0,.slice y1 (vecD L B (rl L B r 1).2).1 d1,.slice y2 (vecD L B (rl L B r 2).2).1 d2,.int .i64 3,.slice y4 (vecD L B (rl L B r 4).2).1 d4,.slice none 0 0]:=t5.set1 (o:=4) (by simp) _
 have R:=R5.rest Z5 (fun x hx=>by rw [List.mem_singleton] at hx;subst hx;exact .inr hph)
 have YZ:=Y5.trans (Z5.mono (fun x hx=>by simp at hx;simp [hx]))
 have r2:=r2.rest YZ (by simp;omega)
 replace A:=A.trans YZ
 replace o2:=o2.rest YZ (fun x hx=>by simp at hx;omega)
 replace o3:=o3.rest YZ (fun x hx=>by simp at hx;omega)
 have o5:=(o5.rest Z5 (fun x hx=>by rw [List.mem_singleton] at hx;have:=A4.size;omega)).base (A4.size)
 have A5:=A
 clear q3
 clear Y5 Z5 YZ q5 z5 t5 x5 R5
 generalize (w5.setCell ⟨p,4,none⟩ (.slice y4 (vecD L B (rl L B r 4).2).1 d4))=u5 at *
 rw [show (vecD L B (rl L B r 4).2).2=(rl L B r 5).2 by rw [E5.out]] at R
 have cv:=rVecB_any lo hi g L B lB (rl L B r 5).2 hL u5 R
 go_upto_region 8 with (go_at_call 55;refine cv.mono ?_;clear cv;rintro e w6 ⟨s6,rfl,o6,R6,x6⟩;(obtain ⟨y5,d5,rfl⟩:=o6.slice);(have Y6:Rest [p,g] u5 w6:=Rest.of_out x6 (by simp));(have t6:=r3.rest (Rest.of_out (X:=[g]) x6 (by simp)) (by simpa using hpg));(have q6:=t6.cell (o:=5) rfl);(have z6:=t6.live (o:=5) (by simp));clear r3)
 have Z6:Rest [p] w6 (w6.setCell ⟨p,5,none⟩ (.slice y5 (vecD L B (rl L B r 5).2).1 d5)):=Rest.setCell w6 _ (by simp)
 have r3:RW (w6.setCell ⟨p,5,none⟩ (.slice y5 (vecD L B (rl L B r 5).2).1 d5)) p 0 [.slice y0 (vecD L B r).1 c0,.slice y1 (vecD L B (rl L B r 1).2).1 d1,.slice y2 (vecD L B (rl L B r 2).2).1 d2,.int .i64 3,.slice y4 (vecD L B (rl L B r 4).2).1 d4,.slice y5 (vecD L B (rl L B r 5).2).1 d5]:=t6.set1 (o:=5) (by simp) _
 have R:=R6.rest Z6 (fun x hx=>by rw [List.mem_singleton] at hx;subst hx;exact .inr hph)
 have YZ:=Y6.trans (Z6.mono (fun x hx=>by simp at hx;simp [hx]))
 have r2:=r2.rest YZ (by simp;omega)
 replace A:=A.trans YZ
 replace o2:=o2.rest YZ (fun x hx=>by simp at hx;omega)
 replace o3:=o3.rest YZ (fun x hx=>by simp at hx;omega)
 replace o5:=o5.rest YZ (fun x hx=>by simp at hx;omega)
 have o6:=(o6.rest Z6 (fun x hx=>by rw [List.mem_singleton] at hx;have:=A5.size;omega)).base (A5.size)
 have A6:=A
 clear Y6 Z6 YZ q6 z6 t6 x6 R6
 generalize (w6.setCell ⟨p,5,none⟩ (.slice y5 (vecD L B (rl L B r 5).2).1 d5))=u6 at *
 have rr:=r3.range
 have tt:=r2.there
 go_wp2_with (first
  | (with_reducible (refine id (?_:wpList _ _ _ _ _ _));refine ldL _ rfl rfl rr ?_ rfl)
  | (with_reducible (refine id (?_:wpList _ _ _ _ _ _));refine stL _ _ rfl rfl rfl rfl tt ?_ rfl))
 have r4:=r2.stored [.slice y0 (vecD L B r).1 c0,.slice y1 (vecD L B (rl L B r 1).2).1 d1,.slice y2 (vecD L B (rl L B r 2).2).1 d2,.int .i64 3,.slice y4 (vecD L B (rl L B r 4).2).1 d4,.slice y5 (vecD L B (rl L B r 5).2).1 d5] rfl
 refine bodyPost_ret (resRL Try.results42 _ _ _ 0 _ _ _ _ _ _ rfl r4.range) rfl ?_
 have x4:Rest [w.heap.size] u6 (u6.setCells w.heap.size 0 [.slice y0 (vecD L B r).1 c0,.slice y1 (vecD L B (rl L B r 1).2).1 d1,.slice y2 (vecD L B (rl L B r 2).2).1 d2,.int .i64 3,.slice y4 (vecD L B (rl L B r 4).2).1 d4,.slice y5 (vecD L B (rl L B r 5).2).1 d5]):=Rest.of_out (Out.setCells (b:=w.heap.size) (o:=0) (n:=6) u6 _ (Nat.le_refl _) (Nat.le_refl _)) (by simp)
 have R4:=R.rest x4 (fun x hx=>by rw [List.mem_singleton] at hx;subst hx;exact .inr hhs)
 have A':Rest (p :: [w.heap.size,g]) W _:=(A.mono (fun x hx=>by simp at hx;rcases hx with rfl | rfl <;> simp)).trans (x4.mono (fun x hx=>by simp at hx;simp [hx]))
 have XF:=(X0.out.mono (Y:=[w.heap.size,g]) (fun x hx=>by simp at hx;simp [hx])).cut A' (by rw [HP.out];exact Nat.le_refl _)
 have hWz:w.heap.size<W.heap.size:=by omega
 have z0:=(O0.out.rest XF (fun x hx=>by simp at hx;have:=S2.out;omega)).base bV.size
 have e6:rl L B r 6=((⟨vx L B r,vx L B (rl L B r 1).2,vx L B (rl L B r 2).2,(((numD L B 1 (rl L B r 3).2).1:Nat):Int),vx L B (rl L B r 4).2,vx L B (rl L B r 5).2⟩:LfD),(vecD L B (rl L B r 5).2).2):=by
  show rlS L B (rl L B r 5) 5=_
  rw [show (rl L B r 5)=({ (rl L B r 4).1 with hash:=vx L B (rl L B r 4).2 },(vecD L B (rl L B r 4).2).2) from E5.out];rfl
 refine ⟨[.slice y0 (vecD L B r).1 c0,.slice y1 (vecD L B (rl L B r 1).2).1 d1,.slice y2 (vecD L B (rl L B r 2).2).1 d2,.int .i64 3,.slice y4 (vecD L B (rl L B r 4).2).1 d4,.slice y5 (vecD L B (rl L B r 5).2).1 d5],rfl,rfl,?_,by rw [e6];exact R4,X1.cut XF (Nat.le_refl _)⟩
 rw [e6]
 exact ⟨_,_,_,_,_,rfl,rfl,rfl,by show _=some (Value.int .i64 (((numD L B 1 (rl L B r 3).2).1:Nat):Int));rw [HS.out];rfl,rfl,rfl,z0,(o2.rest x4 (fun x hx=>by simp at hx;omega)).base (Nat.le_of_lt hWz),(o3.rest x4 (fun x hx=>by simp at hx;omega)).base (Nat.le_of_lt hWz),(o5.rest x4 (fun x hx=>by simp at hx;omega)).base (Nat.le_of_lt hWz),(o6.rest x4 (fun x hx=>by simp at hx;omega)).base (Nat.le_of_lt hWz)⟩
set_option maxRecDepth 20000 in
set_option maxHeartbeats 4000000 in
theorem rReadLeaf0 (lo hi g L:Nat) (B:Nat→Nat) (lB:∀ j,B j<256) (r:Rd) (hL:L<140737488355000) (hs:¬(((numD L B 1 (rl L B r 3).2).1:Nat):Int)=3) (w:World) (hR:RdB lo hi w g L B r):Calls Try.prog 42 #[pA g 0] w fun e w'=>∃ cs,e = .returned (.agg cs.toArray)∧cs.length=6∧(∃ v0 v1 v2 v4 v5,LfAt w.heap.size w' cs 0 (rl L B r 6).1 v0 v1 v2 v4 v5)∧RdB lo hi w' g L B (rl L B r 6).2∧Rest [g] w w':=by
 have hgl:=hR.ge
 have hgh:=hR.lt
 have hhs:=hR.size
 have e5:rl L B r 5=if (((numD L B 1 (rl L B r 3).2).1:Nat):Int)=3 then ({ (rl L B r 4).1 with hash:=vx L B (rl L B r 4).2 },(vecD L B (rl L B r 4).2).2) else rl L B r 4:=rfl
 rw [if_neg hs] at e5
 have E5:=Hid.mk' e5
 have HS:=Hid.mk' hs
 obtain ⟨sz,hsz⟩:∃ sz:Int,sz=(((numD L B 1 (rl L B r 3).2).1:Nat):Int):=⟨_,rfl⟩
 have HZ:=hs
 rw [←hsz] at HZ
 replace HZ:=Hid.mk' HZ
 have HSZ:=Hid.mk' hsz
 clear e5 hs hsz
 have bV:Below w.heap.size w (w.alloc (.cells #[.slice none 0 0,.slice none 0 0,.slice none 0 0,.int .i64 0,.slice none 0 0,.slice none 0 0] 24)):=(Below.refl _ _).alloc (Nat.le_refl _) _
 have k2:=RW.fresh w [.slice none 0 0,.slice none 0 0,.slice none 0 0,.int .i64 0,.slice none 0 0,.slice none 0 0] 24
 have s2:(w.alloc (.cells #[.slice none 0 0,.slice none 0 0,.slice none 0 0,.int .i64 0,.slice none 0 0,.slice none 0 0] 24)).heap.size=w.heap.size+1:=by simp
 obtain ⟨V,hV⟩:∃ V,V=w.alloc (.cells #[.slice none 0 0,.slice none 0 0,.slice none 0 0,.int .i64 0,.slice none 0 0,.slice none 0 0] 24):=⟨_,rfl⟩
 rw [show w.alloc (.cells [.slice none 0 0,.slice none 0 0,.slice none 0 0,.int .i64 0,.slice none 0 0,.slice none 0 0].toArray 24)=V from hV.symm] at k2
 rw [←hV] at bV s2
 have HV:=Hid.mk' hV
 have R0:=hR.keep bV
 have cv:=rVecB_any lo hi g L B lB r hL V R0
 have S2:=Hid.mk' s2
 have K2:=Hid.mk' k2
 clear hV R0 s2 k2
 go_enter Try.func42,Try.ntmps42
 go_upto_region 1 with (fail)
 rw [←HV.out]
 go_upto_region 2 with (go_at_call 55;refine cv.mono ?_;clear cv;rintro e w1 ⟨s1,rfl,o1,R1,x1⟩;obtain ⟨y0,c0,rfl⟩:=o1.slice)
 have X1:Rest [g] w w1:=(Rest.of_below bV).trans (Rest.of_out x1 (by simp))
 have hw1:V.heap.size≤w1.heap.size:=x1.size
 obtain ⟨p,hp⟩:∃ p,p=w1.heap.size:=⟨_,rfl⟩
 have v0:Value := .slice y0 (vecD L B r).1 c0
 have k3:=RW.fresh w1 [.slice y0 (vecD L B r).1 c0,.slice none 0 0,.slice none 0 0,.int .i64 0,.slice none 0 0,.slice none 0 0] 24
 have b3:Below w1.heap.size w1 (w1.alloc (.cells #[.slice y0 (vecD L B r).1 c0,.slice none 0 0,.slice none 0 0,.int .i64 0,.slice none 0 0,.slice none 0 0] 24)):=(Below.refl _ _).alloc (Nat.le_refl _) _
 have r2:=(K2.out.rest (Rest.of_out (X:=[g]) x1 (by simp)) (by simp;omega)).still b3
 have O1:=(o1.rest (Rest.of_below (X:=[]) b3) (fun _ hx=>by cases hx)).base bV.size
 have R1':=R1.keep b3
 have s3:(w1.alloc (.cells #[.slice y0 (vecD L B r).1 c0,.slice none 0 0,.slice none 0 0,.int .i64 0,.slice none 0 0,.slice none 0 0] 24)).heap.size=w1.heap.size+1:=by simp
 obtain ⟨W,hW⟩:∃ W,W=w1.alloc (.cells #[.slice y0 (vecD L B r).1 c0,.slice none 0 0,.slice none 0 0,.int .i64 0,.slice none 0 0,.slice none 0 0] 24):=⟨_,rfl⟩
 rw [show w1.alloc (.cells [.slice y0 (vecD L B r).1 c0,.slice none 0 0,.slice none 0 0,.int .i64 0,.slice none 0 0,.slice none 0 0].toArray 24)=W from hW.symm] at k3
 rw [←hW] at b3 r2 R1' O1 s3 ⊢
 rw [←hp] at k3 s3 ⊢
 have x0:Rest [g] w1 W:=Rest.of_below b3
 have O0:=Hid.mk' o1
 have S3:=Hid.mk' s3
 have HP:=Hid.mk' hp
 have X0:=Hid.mk' x0
 have A:=Rest.refl [p,g] W
 replace O1:=Hid.mk' O1
 have r3:=k3
 have cur0:=W
 have hpw:w.heap.size<p:=by have:=S2.out;omega
 have hph:hi≤p:=by omega
 have hpg:¬p=g:=by omega
 have hgW:g<W.heap.size:=by have:=S3.out;omega
 have hpW:p<W.heap.size:=by have:=S3.out;omega
 clear hW x1 o1 R1 b3 k3 s3 x0 hp O1 v0 cur0
 have R:=R1'
 clear R1'
 have cv:=rVecB_any lo hi g L B lB (rl L B r 1).2 hL W R
 go_upto_region 3 with (go_at_call 55;refine cv.mono ?_;clear cv;rintro e w2 ⟨s2,rfl,o2,R2,x2⟩;(obtain ⟨y1,d1,rfl⟩:=o2.slice);(have Y2:Rest [p,g] W w2:=Rest.of_out x2 (by simp));(have t2:=r3.rest (Rest.of_out (X:=[g]) x2 (by simp)) (by simpa using hpg));(have q2:=t2.cell (o:=1) rfl);(have z2:=t2.live (o:=1) (by simp));clear r3)
 have Z2:Rest [p] w2 (w2.setCell ⟨p,1,none⟩ (.slice y1 (vecD L B (rl L B r 1).2).1 d1)):=Rest.setCell w2 _ (by simp)
 have r3:RW (w2.setCell ⟨p,1,none⟩ (.slice y1 (vecD L B (rl L B r 1).2).1 d1)) p 0 [.slice y0 (vecD L B r).1 c0,.slice y1 (vecD L B (rl L B r 1).2).1 d1,.slice none 0 0,.int .i64 0,.slice none 0 0,.slice none 0 0]:=t2.set1 (o:=1) (by simp) _
 have R:=R2.rest Z2 (fun x hx=>by rw [List.mem_singleton] at hx;subst hx;exact .inr hph)
 have YZ:=Y2.trans (Z2.mono (fun x hx=>by simp at hx;simp [hx]))
 have r2:=r2.rest YZ (by simp;omega)
 replace A:=A.trans YZ
 have o2:=(o2.rest Z2 (fun x hx=>by rw [List.mem_singleton] at hx;omega)).base (Nat.le_refl _)
 have A2:=A
 clear Y2 Z2 YZ q2 z2 t2 x2 R2
 generalize (w2.setCell ⟨p,1,none⟩ (.slice y1 (vecD L B (rl L B r 1).2).1 d1))=u2 at *
 have cv:=rVecB_any lo hi g L B lB (rl L B r 2).2 hL u2 R
 go_upto_region 4 with (go_at_call 55;refine cv.mono ?_;clear cv;rintro e w3 ⟨s3,rfl,o3,R3,x3⟩;(obtain ⟨y2,d2,rfl⟩:=o3.slice);(have Y3:Rest [p,g] u2 w3:=Rest.of_out x3 (by simp));(have t3:=r3.rest (Rest.of_out (X:=[g]) x3 (by simp)) (by simpa using hpg));(have q3:=t3.cell (o:=2) rfl);(have z3:=t3.live (o:=2) (by simp));clear r3)
 have Z3:Rest [p] w3 (w3.setCell ⟨p,2,none⟩ (.slice y2 (vecD L B (rl L B r 2).2).1 d2)):=Rest.setCell w3 _ (by simp)
 have r3:RW (w3.setCell ⟨p,2,none⟩ (.slice y2 (vecD L B (rl L B r 2).2).1 d2)) p 0 [.slice y0 (vecD L B r).1 c0,.slice y1 (vecD L B (rl L B r 1).2).1 d1,.slice y2 (vecD L B (rl L B r 2).2).1 d2,.int .i64 0,.slice none 0 0,.slice none 0 0]:=t3.set1 (o:=2) (by simp) _
 have R:=R3.rest Z3 (fun x hx=>by rw [List.mem_singleton] at hx;subst hx;exact .inr hph)
 have YZ:=Y3.trans (Z3.mono (fun x hx=>by simp at hx;simp [hx]))
 have r2:=r2.rest YZ (by simp;omega)
 replace A:=A.trans YZ
 replace o2:=o2.rest YZ (fun x hx=>by simp at hx;omega)
 have o3:=(o3.rest Z3 (fun x hx=>by rw [List.mem_singleton] at hx;have:=A2.size;omega)).base (A2.size)
 have A3:=A
 clear Y3 Z3 YZ q3 z3 t3 x3 R3
 generalize (w3.setCell ⟨p,2,none⟩ (.slice y2 (vecD L B (rl L B r 2).2).1 d2))=u3 at *
 have cv:=rNumB_any lo hi g L B lB (rl L B r 3).2 1 hL u3 R
 rw [←HSZ.out] at cv
 go_upto_region 5 with (go_at_call 54;refine cv.mono ?_;clear cv;rintro e w4 ⟨rfl,R4,x4⟩;(have Y4:Rest [p,g] u3 w4:=Rest.of_out x4 (by simp));(have t4:=r3.rest (Rest.of_out (X:=[g]) x4 (by simp)) (by simpa using hpg));(have q4:=t4.cell (o:=3) rfl);(have z4:=t4.live (o:=3) (by simp));clear r3)
 have Z4:Rest [p] w4 (w4.setCell ⟨p,3,none⟩ (.int .i64 sz)):=Rest.setCell w4 _ (by simp)
 have r3:RW (w4.setCell ⟨p,3,none⟩ (.int .i64 sz)) p 0 [.slice y0 (vecD L B r).1 c0,.slice y1 (vecD L B (rl L B r 1).2).1 d1,.slice y2 (vecD L B (rl L B r 2).2).1 d2,.int .i64 sz,.slice none 0 0,.slice none 0 0]:=t4.set1 (o:=3) (by simp) _
 have R:=R4.rest Z4 (fun x hx=>by rw [List.mem_singleton] at hx;subst hx;exact .inr hph)
 have YZ:=Y4.trans (Z4.mono (fun x hx=>by simp at hx;simp [hx]))
 have r2:=r2.rest YZ (by simp;omega)
 replace A:=A.trans YZ
 replace o2:=o2.rest YZ (fun x hx=>by simp at hx;omega)
 replace o3:=o3.rest YZ (fun x hx=>by simp at hx;omega)
 have A4:=A
 clear Y4 Z4 YZ q4 z4 t4 x4 R4
 generalize (w4.setCell ⟨p,3,none⟩ (.int .i64 sz))=u4 at *
 have q3:=r3.cell (o:=3) rfl
 have hs:=HZ.out
 have cv:=rVecB_any lo hi g L B lB (rl L B r 4).2 hL u4 R
 go_upto_region 8 with (go_at_call 55;refine cv.mono ?_;clear cv;rintro e w6 ⟨s6,rfl,o6,R6,x6⟩;(obtain ⟨y5,d5,rfl⟩:=o6.slice);(have Y6:Rest [p,g] u4 w6:=Rest.of_out x6 (by simp));(have t6:=r3.rest (Rest.of_out (X:=[g]) x6 (by simp)) (by simpa using hpg));(have q6:=t6.cell (o:=5) rfl);(have z6:=t6.live (o:=5) (by simp));clear r3)
 have Z6:Rest [p] w6 (w6.setCell ⟨p,5,none⟩ (.slice y5 (vecD L B (rl L B r 4).2).1 d5)):=Rest.setCell w6 _ (by simp)
 have r3:RW (w6.setCell ⟨p,5,none⟩ (.slice y5 (vecD L B (rl L B r 4).2).1 d5)) p 0 [.slice y0 (vecD L B r).1 c0,.slice y1 (vecD L B (rl L B r 1).2).1 d1,.slice y2 (vecD L B (rl L B r 2).2).1 d2,.int .i64 sz,.slice none 0 0,.slice y5 (vecD L B (rl L B r 4).2).1 d5]:=t6.set1 (o:=5) (by simp) _
 have R:=R6.rest Z6 (fun x hx=>by rw [List.mem_singleton] at hx;subst hx;exact .inr hph)
 have YZ:=Y6.trans (Z6.mono (fun x hx=>by simp at hx;simp [hx]))
 have r2:=r2.rest YZ (by simp;omega)
 replace A:=A.trans YZ
 replace o2:=o2.rest YZ (fun x hx=>by simp at hx;omega)
 replace o3:=o3.rest YZ (fun x hx=>by simp at hx;omega)
 have o6:=(o6.rest Z6 (fun x hx=>by rw [List.mem_singleton] at hx;have:=A4.size;omega)).base (A4.size)
 have A6:=A
 clear q3
 clear Y6 Z6 YZ q6 z6 t6 x6 R6
 generalize (w6.setCell ⟨p,5,none⟩ (.slice y5 (vecD L B (rl L B r 4).2).1 d5))=u6 at *
 have rr:=r3.range
 have tt:=r2.there
 go_wp2_with (first
  | (with_reducible (refine id (?_:wpList _ _ _ _ _ _));refine ldL _ rfl rfl rr ?_ rfl)
  | (with_reducible (refine id (?_:wpList _ _ _ _ _ _));refine stL _ _ rfl rfl rfl rfl tt ?_ rfl))
 have r4:=r2.stored [.slice y0 (vecD L B r).1 c0,.slice y1 (vecD L B (rl L B r 1).2).1 d1,.slice y2 (vecD L B (rl L B r 2).2).1 d2,.int .i64 sz,.slice none 0 0,.slice y5 (vecD L B (rl L B r 4).2).1 d5] rfl
 refine bodyPost_ret (resRL Try.results42 _ _ _ 0 _ _ _ _ _ _ rfl r4.range) rfl ?_
 have x4:Rest [w.heap.size] u6 (u6.setCells w.heap.size 0 [.slice y0 (vecD L B r).1 c0,.slice y1 (vecD L B (rl L B r 1).2).1 d1,.slice y2 (vecD L B (rl L B r 2).2).1 d2,.int .i64 sz,.slice none 0 0,.slice y5 (vecD L B (rl L B r 4).2).1 d5]):=Rest.of_out (Out.setCells (b:=w.heap.size) (o:=0) (n:=6) u6 _ (Nat.le_refl _) (Nat.le_refl _)) (by simp)
 have R4:=R.rest x4 (fun x hx=>by rw [List.mem_singleton] at hx;subst hx;exact .inr hhs)
 have A':Rest (p :: [w.heap.size,g]) W _:=(A.mono (fun x hx=>by simp at hx;rcases hx with rfl | rfl <;> simp)).trans (x4.mono (fun x hx=>by simp at hx;simp [hx]))
 have XF:=(X0.out.mono (Y:=[w.heap.size,g]) (fun x hx=>by simp at hx;simp [hx])).cut A' (by rw [HP.out];exact Nat.le_refl _)
 have hWz:w.heap.size<W.heap.size:=by omega
 have z0:=(O0.out.rest XF (fun x hx=>by simp at hx;have:=S2.out;omega)).base bV.size
 have e6:rl L B r 6=((⟨vx L B r,vx L B (rl L B r 1).2,vx L B (rl L B r 2).2,(((numD L B 1 (rl L B r 3).2).1:Nat):Int),tx0,vx L B (rl L B r 4).2⟩:LfD),(vecD L B (rl L B r 4).2).2):=by
  show rlS L B (rl L B r 5) 5=_
  rw [E5.out];rfl
 refine ⟨[.slice y0 (vecD L B r).1 c0,.slice y1 (vecD L B (rl L B r 1).2).1 d1,.slice y2 (vecD L B (rl L B r 2).2).1 d2,.int .i64 sz,.slice none 0 0,.slice y5 (vecD L B (rl L B r 4).2).1 d5],rfl,rfl,?_,by rw [e6];exact R4,X1.cut XF (Nat.le_refl _)⟩
 rw [e6]
 exact ⟨_,_,_,_,_,rfl,rfl,rfl,by show _=some (Value.int .i64 (((numD L B 1 (rl L B r 3).2).1:Nat):Int));rw [←HSZ.out];rfl,rfl,rfl,z0,(o2.rest x4 (fun x hx=>by simp at hx;omega)).base (Nat.le_of_lt hWz),(o3.rest x4 (fun x hx=>by simp at hx;omega)).base (Nat.le_of_lt hWz),Own.nil _ _ _,(o6.rest x4 (fun x hx=>by simp at hx;omega)).base (Nat.le_of_lt hWz)⟩
theorem rReadLeaf_any (lo hi g L:Nat) (B:Nat→Nat) (lB:∀ j,B j<256) (r:Rd) (hL:L<140737488355000) (w:World) (hR:RdB lo hi w g L B r):Calls Try.prog 42 #[pA g 0] w fun e w'=>∃ cs,e = .returned (.agg cs.toArray)∧cs.length=6∧(∃ v0 v1 v2 v4 v5,LfAt w.heap.size w' cs 0 (rl L B r 6).1 v0 v1 v2 v4 v5)∧RdB lo hi w' g L B (rl L B r 6).2∧Rest [g] w w':=by
 by_cases hs:(((numD L B 1 (rl L B r 3).2).1:Nat):Int)=3
 · exact rReadLeaf3 lo hi g L B lB r hL hs w hR
 · exact rReadLeaf0 lo hi g L B lB r hL hs w hR
end Go.Proofs.Ytgdcmibdjiaofaa
namespace Go.Proofs.Ytgdcmibdjiaofaa
open Go.RowKit
set_option maxRecDepth 20000 in
set_option maxHeartbeats 4000000 in
theorem rGetLeaf_e (v:Value) (L:Nat) (B:Nat→Nat) (d:LfD) (rn:Rd) (hL:L<140737488355000) (cR:∀ lo hi g w,RdB lo hi w g L B ⟨0,0⟩→Calls Try.prog 42 #[pA g 0] w fun e w'=>∃ cs,e = .returned (.agg cs.toArray)∧cs.length=6∧(∃ v0 v1 v2 v4 v5,LfAt w.heap.size w' cs 0 d v0 v1 v2 v4 v5)∧RdB lo hi w' g L B rn∧Rest [g] w w') (he:¬endD L rn=0) (w:World) (hv:BytesIn w v L B):Calls Try.prog 14 #[v] w fun e w'=>Below w.heap.size w w'∧e = .returned (.tuple #[.agg zeroL.toArray,.int .i64 21]):=by
 have bV:Below w.heap.size w (w.alloc (.cells #[.slice none 0 0,.slice none 0 0,.slice none 0 0,.int .i64 0,.slice none 0 0,.slice none 0 0] 24)):=(Below.refl _ _).alloc (Nat.le_refl _) _
 have k2:=RW.fresh w [.slice none 0 0,.slice none 0 0,.slice none 0 0,.int .i64 0,.slice none 0 0,.slice none 0 0] 24
 have s2:(w.alloc (.cells #[.slice none 0 0,.slice none 0 0,.slice none 0 0,.int .i64 0,.slice none 0 0,.slice none 0 0] 24)).heap.size=w.heap.size+1:=by simp
 obtain ⟨V,hV⟩:∃ V,V=w.alloc (.cells #[.slice none 0 0,.slice none 0 0,.slice none 0 0,.int .i64 0,.slice none 0 0,.slice none 0 0] 24):=⟨_,rfl⟩
 rw [show w.alloc (.cells [.slice none 0 0,.slice none 0 0,.slice none 0 0,.int .i64 0,.slice none 0 0,.slice none 0 0].toArray 24)=V from hV.symm] at k2
 rw [←hV] at bV s2
 have HV:=Hid.mk' hV
 have cN:=rNewB_any v L B hL V (hv.keep bV)
 have S2:=Hid.mk' s2
 have K2:=Hid.mk' k2
 have CR:=Hid.mk' cR
 clear hV s2 k2 cR hv
 go_enter Try.func14,Try.ntmps14
 go_upto_region 1 with (fail)
 rw [←HV.out]
 go_upto_region 3 with (first
  | (go_at_call 41;refine cN.mono ?_;clear cN;rintro e w1 ⟨g,rfl,R1,b1⟩;(have cr:=CR.out _ _ g w1 R1);(have hg1:=R1.ge);(have hg2:=R1.lt);clear R1)
  | (go_at_call 42;refine cr.mono ?_;clear cr;rintro e w2 ⟨cs,rfl,hlen,⟨v0,v1,v2,v4,v5,hA⟩,R2,x2⟩;(obtain rfl:=hA.eq hlen);(obtain ⟨x0,c0,rfl⟩:=hA.o0.slice);(obtain ⟨x1,c1,rfl⟩:=hA.o1.slice);(obtain ⟨y2,c2,rfl⟩:=hA.o2.slice);(obtain ⟨x4,c4,rfl⟩:=hA.o4.slice);(obtain ⟨x5,c5,rfl⟩:=hA.o5.slice)))
 have hI:=hA.lfin
 have HA:=Hid.mk' hA
 clear hA hlen
 have k3:=RW.fresh w2 [.slice x0 d.enc.n c0,.slice x1 d.sig.n c1,.slice y2 d.name.n c2,.int .i64 d.src,.slice x4 d.hash.n c4,.slice x5 d.sg.n c5] 24
 have b3:Below w2.heap.size w2 (w2.alloc (.cells #[.slice x0 d.enc.n c0,.slice x1 d.sig.n c1,.slice y2 d.name.n c2,.int .i64 d.src,.slice x4 d.hash.n c4,.slice x5 d.sg.n c5] 24)):=(Below.refl _ _).alloc (Nat.le_refl _) _
 obtain ⟨W,hW⟩:∃ W,W=w2.alloc (.cells #[.slice x0 d.enc.n c0,.slice x1 d.sig.n c1,.slice y2 d.name.n c2,.int .i64 d.src,.slice x4 d.hash.n c4,.slice x5 d.sg.n c5] 24):=⟨_,rfl⟩
 rw [show w2.alloc (.cells [.slice x0 d.enc.n c0,.slice x1 d.sig.n c1,.slice y2 d.name.n c2,.int .i64 d.src,.slice x4 d.hash.n c4,.slice x5 d.sg.n c5].toArray 24)=W from hW.symm] at k3
 rw [←hW] at b3 ⊢
 clear hW
 have X2:Rest [g] V W:=(Rest.of_below b1).trans (x2.trans (Rest.of_below b3))
 have r2:=K2.out.rest X2 (by simp;have:=S2.out;omega)
 have bW:Below w.heap.size w W:=bV.trans (X2.below (fun x hx=>by simp at hx;have:=S2.out;omega) bV.size)
 have R3:=R2.keep b3
 have ce:=rEndR_any g L B rn hL W R3.of
 replace hI:=hI.keep b3
 have cr:=fun W' hb=>rRightLeaf_any _ d W' (hI.keep hb)
 generalize endD L rn=en at *
 have tt:=fun w' (hb:Below W.heap.size W w')=>(r2.still hb).there
 have R2':=Hid.mk' r2
 generalize d.src=src at *
 clear HA cr k3 r2 R3 R2 hI CR
 go_wp2_with (first
  | (go_at_call 43;refine ce.mono ?_;clear ce;rintro e w4 ⟨rfl,b4⟩;(replace tt:=tt w4 b4))
  | (with_reducible (refine id (?_:wpList _ _ _ _ _ _));refine stL _ _ rfl rfl rfl rfl tt ?_ rfl))
 have r4:=(R2'.out.still b4).stored [.slice none 0 0,.slice none 0 0,.slice none 0 0,.int .i64 0,.slice none 0 0,.slice none 0 0] rfl
 refine bodyPost_ret (results_ct Try.results14 _ _ w.heap.size [.slice none 0 0,.slice none 0 0,.slice none 0 0,.int .i64 0,.slice none 0 0,.slice none 0 0] _ _ rfl rfl r4.range Try.underlying24 rfl infoRL) rfl ?_
 exact ⟨below_setCells (Nat.le_refl _) _ _ _ (below_next bW b4),rfl⟩
set_option maxRecDepth 20000 in
set_option maxHeartbeats 4000000 in
theorem rGetLeaf_r (v:Value) (L:Nat) (B:Nat→Nat) (d:LfD) (rn:Rd) (hL:L<140737488355000) (cR:∀ lo hi g w,RdB lo hi w g L B ⟨0,0⟩→Calls Try.prog 42 #[pA g 0] w fun e w'=>∃ cs,e = .returned (.agg cs.toArray)∧cs.length=6∧(∃ v0 v1 v2 v4 v5,LfAt w.heap.size w' cs 0 d v0 v1 v2 v4 v5)∧RdB lo hi w' g L B rn∧Rest [g] w w') (he:endD L rn=0) (hr:allU (lfA d 3) 6=false) (w:World) (hv:BytesIn w v L B):Calls Try.prog 14 #[v] w fun e w'=>Below w.heap.size w w'∧e = .returned (.tuple #[.agg zeroL.toArray,.int .i64 21]):=by
 have bV:Below w.heap.size w (w.alloc (.cells #[.slice none 0 0,.slice none 0 0,.slice none 0 0,.int .i64 0,.slice none 0 0,.slice none 0 0] 24)):=(Below.refl _ _).alloc (Nat.le_refl _) _
 have k2:=RW.fresh w [.slice none 0 0,.slice none 0 0,.slice none 0 0,.int .i64 0,.slice none 0 0,.slice none 0 0] 24
 have s2:(w.alloc (.cells #[.slice none 0 0,.slice none 0 0,.slice none 0 0,.int .i64 0,.slice none 0 0,.slice none 0 0] 24)).heap.size=w.heap.size+1:=by simp
 obtain ⟨V,hV⟩:∃ V,V=w.alloc (.cells #[.slice none 0 0,.slice none 0 0,.slice none 0 0,.int .i64 0,.slice none 0 0,.slice none 0 0] 24):=⟨_,rfl⟩
 rw [show w.alloc (.cells [.slice none 0 0,.slice none 0 0,.slice none 0 0,.int .i64 0,.slice none 0 0,.slice none 0 0].toArray 24)=V from hV.symm] at k2
 rw [←hV] at bV s2
 have HV:=Hid.mk' hV
 have cN:=rNewB_any v L B hL V (hv.keep bV)
 have S2:=Hid.mk' s2
 have K2:=Hid.mk' k2
 have CR:=Hid.mk' cR
 clear hV s2 k2 cR hv
 go_enter Try.func14,Try.ntmps14
 go_upto_region 1 with (fail)
 rw [←HV.out]
 go_upto_region 3 with (first
  | (go_at_call 41;refine cN.mono ?_;clear cN;rintro e w1 ⟨g,rfl,R1,b1⟩;(have cr:=CR.out _ _ g w1 R1);(have hg1:=R1.ge);(have hg2:=R1.lt);clear R1)
  | (go_at_call 42;refine cr.mono ?_;clear cr;rintro e w2 ⟨cs,rfl,hlen,⟨v0,v1,v2,v4,v5,hA⟩,R2,x2⟩;(obtain rfl:=hA.eq hlen);(obtain ⟨x0,c0,rfl⟩:=hA.o0.slice);(obtain ⟨x1,c1,rfl⟩:=hA.o1.slice);(obtain ⟨y2,c2,rfl⟩:=hA.o2.slice);(obtain ⟨x4,c4,rfl⟩:=hA.o4.slice);(obtain ⟨x5,c5,rfl⟩:=hA.o5.slice)))
 have hI:=hA.lfin
 have HA:=Hid.mk' hA
 clear hA hlen
 have k3:=RW.fresh w2 [.slice x0 d.enc.n c0,.slice x1 d.sig.n c1,.slice y2 d.name.n c2,.int .i64 d.src,.slice x4 d.hash.n c4,.slice x5 d.sg.n c5] 24
 have b3:Below w2.heap.size w2 (w2.alloc (.cells #[.slice x0 d.enc.n c0,.slice x1 d.sig.n c1,.slice y2 d.name.n c2,.int .i64 d.src,.slice x4 d.hash.n c4,.slice x5 d.sg.n c5] 24)):=(Below.refl _ _).alloc (Nat.le_refl _) _
 obtain ⟨W,hW⟩:∃ W,W=w2.alloc (.cells #[.slice x0 d.enc.n c0,.slice x1 d.sig.n c1,.slice y2 d.name.n c2,.int .i64 d.src,.slice x4 d.hash.n c4,.slice x5 d.sg.n c5] 24):=⟨_,rfl⟩
 rw [show w2.alloc (.cells [.slice x0 d.enc.n c0,.slice x1 d.sig.n c1,.slice y2 d.name.n c2,.int .i64 d.src,.slice x4 d.hash.n c4,.slice x5 d.sg.n c5].toArray 24)=W from hW.symm] at k3
 rw [←hW] at b3 ⊢
 clear hW
 have X2:Rest [g] V W:=(Rest.of_below b1).trans (x2.trans (Rest.of_below b3))
 have r2:=K2.out.rest X2 (by simp;have:=S2.out;omega)
 have bW:Below w.heap.size w W:=bV.trans (X2.below (fun x hx=>by simp at hx;have:=S2.out;omega) bV.size)
 have R3:=R2.keep b3
 have ce:=rEndR_any g L B rn hL W R3.of
 replace hI:=hI.keep b3
 have cr:=fun W' hb=>rRightLeaf_any _ d W' (hI.keep hb)
 rw [he] at ce
 have tt:=fun w' (hb:Below W.heap.size W w')=>(r2.still hb).there
 have rr:=fun w' (hb:Below W.heap.size W w')=>(k3.still hb).range
 have R2':=Hid.mk' r2
 rw [hr] at cr
 generalize hsrc:d.src=src at *
 have HSRC:=Hid.mk' hsrc
 clear hsrc
 clear k3 r2 R3 R2 hI CR
 go_wp2_with (first
  | (go_at_call 43;refine ce.mono ?_;clear ce;rintro e w4 ⟨rfl,b4⟩;(have rr4:=rr w4 b4);(replace cr:=cr w4 b4))
  | (with_reducible (refine id (?_:wpList _ _ _ _ _ _));refine ldL _ rfl rfl rr4 ?_ rfl)
  | (with_reducible (refine id (?_:wpList _ _ _ _ _ _));refine ldLg _ rfl rfl rr4 ?_ rfl)
  | (go_at_call 38;refine cr.mono ?_;clear cr;rintro e w5 ⟨rfl,b5⟩;(have bb:=below_next b4 b5);(have rr4:=rr w5 bb);(have tt5:=tt w5 bb))
  | (with_reducible (refine id (?_:wpList _ _ _ _ _ _));refine stL _ _ rfl rfl rfl rfl tt5 ?_ rfl))
 have r4:=(R2'.out.still bb).stored [.slice none 0 0,.slice none 0 0,.slice none 0 0,.int .i64 0,.slice none 0 0,.slice none 0 0] rfl
 refine bodyPost_ret (results_ct Try.results14 _ _ w.heap.size [.slice none 0 0,.slice none 0 0,.slice none 0 0,.int .i64 0,.slice none 0 0,.slice none 0 0] _ _ rfl rfl r4.range Try.underlying24 rfl infoRL) rfl ?_
 exact ⟨below_setCells (Nat.le_refl _) _ _ _ (below_next bW bb),rfl⟩
set_option maxRecDepth 20000 in
set_option maxHeartbeats 4000000 in
theorem rGetLeaf_g (v:Value) (L:Nat) (B:Nat→Nat) (d:LfD) (rn:Rd) (hL:L<140737488355000) (cR:∀ lo hi g w,RdB lo hi w g L B ⟨0,0⟩→Calls Try.prog 42 #[pA g 0] w fun e w'=>∃ cs,e = .returned (.agg cs.toArray)∧cs.length=6∧(∃ v0 v1 v2 v4 v5,LfAt w.heap.size w' cs 0 d v0 v1 v2 v4 v5)∧RdB lo hi w' g L B rn∧Rest [g] w w') (he:endD L rn=0) (hr:allU (lfA d 3) 6=true) (w:World) (hv:BytesIn w v L B):Calls Try.prog 14 #[v] w fun e w'=>Below w.heap.size w w'∧∃ cs,e = .returned (.tuple #[.agg cs.toArray,.int .i64 0])∧LfIn w' cs d:=by
 have bV:Below w.heap.size w (w.alloc (.cells #[.slice none 0 0,.slice none 0 0,.slice none 0 0,.int .i64 0,.slice none 0 0,.slice none 0 0] 24)):=(Below.refl _ _).alloc (Nat.le_refl _) _
 have k2:=RW.fresh w [.slice none 0 0,.slice none 0 0,.slice none 0 0,.int .i64 0,.slice none 0 0,.slice none 0 0] 24
 have s2:(w.alloc (.cells #[.slice none 0 0,.slice none 0 0,.slice none 0 0,.int .i64 0,.slice none 0 0,.slice none 0 0] 24)).heap.size=w.heap.size+1:=by simp
 obtain ⟨V,hV⟩:∃ V,V=w.alloc (.cells #[.slice none 0 0,.slice none 0 0,.slice none 0 0,.int .i64 0,.slice none 0 0,.slice none 0 0] 24):=⟨_,rfl⟩
 rw [show w.alloc (.cells [.slice none 0 0,.slice none 0 0,.slice none 0 0,.int .i64 0,.slice none 0 0,.slice none 0 0].toArray 24)=V from hV.symm] at k2
 rw [←hV] at bV s2
 have HV:=Hid.mk' hV
 have cN:=rNewB_any v L B hL V (hv.keep bV)
 have S2:=Hid.mk' s2
 have K2:=Hid.mk' k2
 have CR:=Hid.mk' cR
 clear hV s2 k2 cR hv
 go_enter Try.func14,Try.ntmps14
 go_upto_region 1 with (fail)
 rw [←HV.out]
 go_upto_region 3 with (first
  | (go_at_call 41;refine cN.mono ?_;clear cN;rintro e w1 ⟨g,rfl,R1,b1⟩;(have cr:=CR.out _ _ g w1 R1);(have hg1:=R1.ge);(have hg2:=R1.lt);clear R1)
  | (go_at_call 42;refine cr.mono ?_;clear cr;rintro e w2 ⟨cs,rfl,hlen,⟨v0,v1,v2,v4,v5,hA⟩,R2,x2⟩;(obtain rfl:=hA.eq hlen);(obtain ⟨x0,c0,rfl⟩:=hA.o0.slice);(obtain ⟨x1,c1,rfl⟩:=hA.o1.slice);(obtain ⟨y2,c2,rfl⟩:=hA.o2.slice);(obtain ⟨x4,c4,rfl⟩:=hA.o4.slice);(obtain ⟨x5,c5,rfl⟩:=hA.o5.slice)))
 have hI:=hA.lfin
 have HA:=Hid.mk' hA
 clear hA hlen
 have k3:=RW.fresh w2 [.slice x0 d.enc.n c0,.slice x1 d.sig.n c1,.slice y2 d.name.n c2,.int .i64 d.src,.slice x4 d.hash.n c4,.slice x5 d.sg.n c5] 24
 have b3:Below w2.heap.size w2 (w2.alloc (.cells #[.slice x0 d.enc.n c0,.slice x1 d.sig.n c1,.slice y2 d.name.n c2,.int .i64 d.src,.slice x4 d.hash.n c4,.slice x5 d.sg.n c5] 24)):=(Below.refl _ _).alloc (Nat.le_refl _) _
 obtain ⟨W,hW⟩:∃ W,W=w2.alloc (.cells #[.slice x0 d.enc.n c0,.slice x1 d.sig.n c1,.slice y2 d.name.n c2,.int .i64 d.src,.slice x4 d.hash.n c4,.slice x5 d.sg.n c5] 24):=⟨_,rfl⟩
 rw [show w2.alloc (.cells [.slice x0 d.enc.n c0,.slice x1 d.sig.n c1,.slice y2 d.name.n c2,.int .i64 d.src,.slice x4 d.hash.n c4,.slice x5 d.sg.n c5].toArray 24)=W from hW.symm] at k3
 rw [←hW] at b3 ⊢
 clear hW
 have X2:Rest [g] V W:=(Rest.of_below b1).trans (x2.trans (Rest.of_below b3))
 have r2:=K2.out.rest X2 (by simp;have:=S2.out;omega)
 have bW:Below w.heap.size w W:=bV.trans (X2.below (fun x hx=>by simp at hx;have:=S2.out;omega) bV.size)
 have R3:=R2.keep b3
 have ce:=rEndR_any g L B rn hL W R3.of
 replace hI:=hI.keep b3
 have cr:=fun W' hb=>rRightLeaf_any _ d W' (hI.keep hb)
 rw [he] at ce
 have tt:=fun w' (hb:Below W.heap.size W w')=>(r2.still hb).there
 have rr:=fun w' (hb:Below W.heap.size W w')=>(k3.still hb).range
 have R2':=Hid.mk' r2
 rw [hr] at cr
 generalize hsrc:d.src=src at *
 have HSRC:=Hid.mk' hsrc
 clear hsrc
 clear k3 r2 R3 R2 hI CR
 go_wp2_with (first
  | (go_at_call 43;refine ce.mono ?_;clear ce;rintro e w4 ⟨rfl,b4⟩;(have rr4:=rr w4 b4);(replace cr:=cr w4 b4))
  | (with_reducible (refine id (?_:wpList _ _ _ _ _ _));refine ldL _ rfl rfl rr4 ?_ rfl)
  | (with_reducible (refine id (?_:wpList _ _ _ _ _ _));refine ldLg _ rfl rfl rr4 ?_ rfl)
  | (go_at_call 38;refine cr.mono ?_;clear cr;rintro e w5 ⟨rfl,b5⟩;(have bb:=below_next b4 b5);(have rr4:=rr w5 bb);(have tt5:=tt w5 bb))
  | (with_reducible (refine id (?_:wpList _ _ _ _ _ _));refine stL _ _ rfl rfl rfl rfl tt5 ?_ rfl))
 have r4:=(R2'.out.still bb).stored [.slice x0 d.enc.n c0,.slice x1 d.sig.n c1,.slice y2 d.name.n c2,.int .i64 src,.slice x4 d.hash.n c4,.slice x5 d.sg.n c5] rfl
 refine bodyPost_ret (results_ct Try.results14 _ _ w.heap.size [.slice x0 d.enc.n c0,.slice x1 d.sig.n c1,.slice y2 d.name.n c2,.int .i64 src,.slice x4 d.hash.n c4,.slice x5 d.sg.n c5] _ _ rfl rfl r4.range Try.underlying24 rfl infoRL) rfl ?_
 refine ⟨below_setCells (Nat.le_refl _) _ _ _ (below_next bW bb),_,rfl,?_⟩
 have x6:Rest [w.heap.size] w5 (w5.setCells w.heap.size 0 [.slice x0 d.enc.n c0,.slice x1 d.sig.n c1,.slice y2 d.name.n c2,.int .i64 src,.slice x4 d.hash.n c4,.slice x5 d.sg.n c5]):=Rest.of_out (Out.setCells (b:=w.heap.size) (o:=0) (n:=6) w5 _ (Nat.le_refl _) (Nat.le_refl _)) (by simp)
 have h6:=(HA.out.rest (Rest.of_below (X:=[]) (below_next b3 bb)) (fun _ hx=>by cases hx)).rest x6 (fun x hx=>by simp at hx;have:=S2.out;omega)
 have h7:=h6.lfin
 rw [HSRC.out] at h7
 exact h7
theorem rGetLeaf_any (v:Value) (L:Nat) (B:Nat→Nat) (lB:∀ j,B j<256) (hL:L<140737488355000) (w:World) (hv:BytesIn w v L B):Calls Try.prog 14 #[v] w fun e w'=>Below w.heap.size w w'∧GetA (lfR (getD13 L B) 3∧getE13 L B=0) (fun W cs=>LfIn W cs (getD13 L B)) zeroL e w':=by
 have cR:=fun lo hi g w=>rReadLeaf_any lo hi g L B lB ⟨0,0⟩ hL w
 have hl:=lf_all (getD13 L B) 3
 by_cases he:getE13 L B=0
 · by_cases hr:lfR (getD13 L B) 3
   · exact (rGetLeaf_g v L B (getD13 L B) _ hL cR he (hl.2 hr) w hv).mono fun e w' ⟨h1,h2⟩=>⟨h1,by unfold GetA;rw [if_pos ⟨hr,he⟩];exact h2⟩
   · exact (rGetLeaf_r v L B (getD13 L B) _ hL cR he (Bool.eq_false_iff.2 fun e=>hr (hl.1 e)) w hv).mono fun e w' ⟨h1,h2⟩=>⟨h1,by unfold GetA;rw [if_neg (fun e=>hr e.1)];exact h2⟩
 · exact (rGetLeaf_e v L B (getD13 L B) _ hL cR he w hv).mono fun e w' ⟨h1,h2⟩=>⟨h1,by unfold GetA;rw [if_neg (fun h=>he h.2)];exact h2⟩
end Go.Proofs.Ytgdcmibdjiaofaa
