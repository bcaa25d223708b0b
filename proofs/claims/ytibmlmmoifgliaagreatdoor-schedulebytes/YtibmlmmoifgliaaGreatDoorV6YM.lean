/- What the proof stands on: V6Y, V6M. -/
import Derived.Test.YtibmlmmoifgliaaGreatDoorV6RM
namespace Go.Proofs.YtibmlmmoifgliaaGreatDoor
open Go.RowKit
theorem BytesIn.likeV {w:World} {v:Value} {n:Nat} {X Y:Nat→Nat} (h:BytesIn w v n X) (e:∀ j,j<n→X j=Y j):BytesIn w v n Y:=by
 rcases h with h | ⟨b,o,c,h1,h2,h3,h4⟩
 · exact .inl h
 · exact .inr ⟨b,o,c,h1,h2,h3,fun j hj=>by rw [h4 j hj,e j hj]⟩
theorem vecD_stickV {L:Nat} {B:Nat→Nat} {r:Rd} (h:(vecD L B r).2.e=0):r.e=0:=by
 refine Classical.byContradiction fun hr => ?_
 have e1:lenD L B r=(0,r):=by unfold lenD;rw [if_pos hr]
 unfold vecD at h
 rw [e1] at h
 dsimp only at h
 rw [show (if r.e=0∧65536<0 then (⟨r.at_,21⟩:Rd) else r)=r from if_neg (fun e=>hr e.1)] at h
 have e2:takD L ((0:Nat):Int) r=(0,r):=by unfold takD;rw [if_pos hr]
 rw [e2,if_pos hr] at h
 exact hr h
theorem numD_stickV {L:Nat} {B:Nat→Nat} {s:Int} {r:Rd} (h:(numD L B s r).2.e=0):r.e=0:=by
 refine Classical.byContradiction fun hr => ?_
 unfold numD at h
 rw [if_pos hr] at h
 exact hr h
theorem numD_saidV {L:Nat} {B:Nat→Nat} {r:Rd} (lB:∀ j,B j<256) (s:Nat) (hs:s=2∨s=8) (h:(numD L B (s:Int) r).2.e=0):(numD L B (s:Int) r).2.at_=r.at_+s∧r.at_+s≤L∧∀ j,j<s→B (r.at_+j)=beN (numD L B (s:Int) r).1 s j:=by
 have hr:=numD_stickV h
 have hz:szB (s:Int)=true:=by rcases hs with rfl | rfl <;> rfl
 unfold numD at *
 rw [if_neg (fun e=>e hr),if_neg (by rw [hz];decide)] at *
 by_cases h1:(L:Int) - r.at_<(s:Int)
 · rw [if_pos h1] at h;cases h
 · by_cases h2:(s:Int)=8∧64≤B r.at_
   · rw [if_neg h1,if_pos h2] at h;cases h
   · rw [if_neg h1,if_neg h2] at *
     refine ⟨by simp,by omega,fun j hj => ?_⟩
     rw [Int.toNat_natCast]
     exact (be_nbN lB r.at_ s j hj).symm
theorem end_ofV {L:Nat} {r:Rd} (h:endD L r=0):r.e=0∧L≤r.at_:=by
 unfold endD at h
 by_cases c:r.e=0∧r.at_<L
 · rw [if_pos c] at h;cases h
 · rw [if_neg c] at h;exact ⟨h,Nat.le_of_not_lt fun e=>c ⟨h,e⟩⟩
theorem end_atV (L:Nat):endD L ⟨L,0⟩=0:=by unfold endD;rw [if_neg (fun e=>Nat.lt_irrefl _ e.2)]
theorem gc_same (L:Nat) (B:Nat→Nat) (lB:∀ j,B j<256):rcOk L B=gcOk L B∧(gcOk L B=true→rcD L B=gcD L B):=by
 have hb:=lB 0
 have hb1:=lB 1
 have hb2:=lB 2
 have hb3:=lB 3
 by_cases h4:L<4
 · have e4:(numD L B 4 ⟨0,0⟩).1=0:=by
    unfold numD
    rw [if_neg (fun e=>e rfl),if_neg (by decide),if_pos (by show (L:Int) - ((0:Nat):Int)<4;omega)]
   have e1:rcOk L B=false:=by unfold rcOk;rw [e4];rfl
   have e2:gcOk L B=false:=by
    unfold gcOk gcK
    by_cases h2:L<2
    · have e3:(numD L B 2 ⟨0,0⟩).1=0:=by
       unfold numD
       rw [if_neg (fun e=>e rfl),if_neg (by decide),if_pos (by show (L:Int) - ((0:Nat):Int)<2;omega)]
      rw [e3];rfl
    · have e3:(numD L B 2 ⟨0,0⟩).2=⟨2,0⟩:=by
       unfold numD
       rw [if_neg (fun e=>e rfl),if_neg (by decide),if_neg (by show ¬(L:Int) - ((0:Nat):Int)<2;omega),if_neg (fun e=>absurd e.1 (by decide))]
       rfl
      have e5:(numD L B 2 ⟨2,0⟩).1=0:=by
       unfold numD
       rw [if_neg (fun e=>e rfl),if_neg (by decide),if_pos (by show (L:Int) - ((2:Nat):Int)<2;omega)]
      rw [e3,e5,show decide ((0:Nat)=1)=false from rfl,Bool.and_false,Bool.false_and]
   rw [e1,e2]
   exact ⟨rfl,fun h=>by cases h⟩
 · have e2:numD L B 2 ⟨0,0⟩=(nbN B 0 2,⟨2,0⟩):=by
    unfold numD
    rw [if_neg (fun e=>e rfl),if_neg (by decide),if_neg (by show ¬(L:Int) - ((0:Nat):Int)<2;omega),if_neg (fun e=>absurd e.1 (by decide))]
    rfl
   have e3:numD L B 2 ⟨2,0⟩=(nbN B 2 2,⟨4,0⟩):=by
    unfold numD
    rw [if_neg (fun e=>e rfl),if_neg (by decide),if_neg (by show ¬(L:Int) - ((2:Nat):Int)<2;omega),if_neg (fun e=>absurd e.1 (by decide))]
    rfl
   have e4:numD L B 4 ⟨0,0⟩=(nbN B 0 4,⟨4,0⟩):=by
    unfold numD
    rw [if_neg (fun e=>e rfl),if_neg (by decide),if_neg (by show ¬(L:Int) - ((0:Nat):Int)<4;omega),if_neg (fun e=>absurd e.1 (by decide))]
    rfl
   have hg:gcH L B=⟨4,0⟩:=by unfold gcH;rw [e2];dsimp only;rw [e3]
   have hr:rcH L B=⟨4,0⟩:=by unfold rcH;rw [e4]
   have hk:gcK L B=decide (nbN B 0 4=65537):=by
    unfold gcK
    rw [e2]
    dsimp only
    rw [e3]
    dsimp only
    rw [nbN_two,nbN_two,nbN_four]
    simp only [Nat.zero_add]
    refine Bool.eq_iff_iff.2 ?_
    simp only [Bool.and_eq_true,decide_eq_true_eq]
    generalize B 0=a at *
    generalize B 1=b at *
    generalize B 2=c at *
    generalize B (2+1)=d at *
    generalize B 3=e at *
    omega
   unfold gcOk rcOk gcD rcD
   rw [hg,hr,hk,e4]
   exact ⟨rfl,fun _=>rfl⟩
def segV (B:Nat→Nat):Nat→List (Nat × (Nat→Nat))→Prop
 | _,[]=>True
 | o,p :: r=>(∀ j,j<p.1→B (o+j)=p.2 j)∧segV B (o+p.1) r
theorem segV.cat {B:Nat→Nat}:∀ (ps:List (Nat × (Nat→Nat))) (o:Nat),segV B o ps→∀ j,j<lenL ps→B (o+j)=catL ps j
 | [],_,_,j,hj=>absurd hj (Nat.not_lt_zero _)
 | p :: r,o,h,j,hj=>by
  have ih:=segV.cat r (o+p.1) h.2
  replace hj:j<p.1+lenL r:=hj
  show B (o+j)=Go.Proofs.YtibmlmmoifgliaaGreatDoor.cat p.1 p.2 (catL r) j
  by_cases hp:j<p.1
  · rw [cat_left hp];exact h.1 j hp
  · have e:=ih (j - p.1) (by omega)
    unfold Go.Proofs.YtibmlmmoifgliaaGreatDoor.cat
    rw [if_neg hp,←e,show o+p.1+(j - p.1)=o+j by omega]
theorem segV.of {B:Nat→Nat}:∀ (ps:List (Nat × (Nat→Nat))) (o:Nat),(∀ j,j<lenL ps→B (o+j)=catL ps j)→segV B o ps
 | [],_,_=>trivial
 | p :: r,o,h=>by
  refine ⟨fun j hj => ?_,segV.of r (o+p.1) fun j hj => ?_⟩
  · rw [h j (show j<p.1+lenL r by omega)]
    show Go.Proofs.YtibmlmmoifgliaaGreatDoor.cat p.1 p.2 (catL r) j=_
    rw [cat_left hj]
  · rw [Nat.add_assoc,h (p.1+j) (show p.1+j<p.1+lenL r by omega)]
    show Go.Proofs.YtibmlmmoifgliaaGreatDoor.cat p.1 p.2 (catL r) (p.1+j)=_
    rw [cat_right]
theorem t3_of {X:Nat→Nat} {a b c:Nat} {A B C:Nat→Nat} (h1:∀ j,j<vcL a→X j=vcB a A j) (h2:∀ j,j<vcL b→X (vcL a+j)=vcB b B j) (h3:∀ j,j<vcL c→X (vcL a+vcL b+j)=vcB c C j):∀ j,j<t3L a b c→X j=t3B a A b B c C j:=fun j hj=>by
 replace hj:j<0+vcL a+vcL b+vcL c:=hj
 show _=cat (0+vcL a+vcL b) (cat (0+vcL a) (cat 0 _ (vcB a A)) (vcB b B)) (vcB c C) j
 rw [catZ]
 unfold cat
 by_cases j1:j<0+vcL a
 · rw [if_pos (show j<0+vcL a+vcL b by omega),if_pos j1];exact h1 j (by omega)
 · by_cases j2:j<0+vcL a+vcL b
   · rw [if_pos j2,if_neg j1,←h2 _ (show j - (0+vcL a)<vcL b by omega),show vcL a+(j - (0+vcL a))=j by omega]
   · rw [if_neg j2,←h3 _ (show j - (0+vcL a+vcL b)<vcL c by omega),show vcL a+vcL b+(j - (0+vcL a+vcL b))=j by omega]
theorem t3_at {a b c:Nat} {A B C:Nat→Nat}:(∀ j,j<vcL a→t3B a A b B c C j=vcB a A j)∧(∀ j,j<vcL b→t3B a A b B c C (vcL a+j)=vcB b B j)∧(∀ j,j<vcL c→t3B a A b B c C (vcL a+vcL b+j)=vcB c C j):=by
 have e:t3B a A b B c C=cat (0+vcL a+vcL b) (cat (0+vcL a) (cat 0 (fun _=>0) (vcB a A)) (vcB b B)) (vcB c C):=rfl
 rw [e,catZ,Nat.zero_add]
 refine ⟨fun j hj => ?_,fun j hj => ?_,fun j hj => ?_⟩
 · rw [cat_left (by omega),cat_left hj]
 · rw [cat_left (by omega),cat_right]
 · rw [cat_right]
theorem gcOk_parts {L:Nat} {B:Nat→Nat} (h:gcOk L B=true):(numD L B 2 ⟨0,0⟩).1=1∧(numD L B 2 (numD L B 2 ⟨0,0⟩).2).1=1∧endD L (gcT L B (gcH L B) 5)=0∧(vecD L B (gcT L B (gcH L B) 4)).1=0∧cxOk (gcD L B)=true:=by
 unfold gcOk gcK gcE at h
 simp only [Bool.and_eq_true,decide_eq_true_eq] at h
 exact ⟨h.1.1,h.1.2,h.2.1,h.2.2.1,h.2.2.2⟩
theorem gc_said {L:Nat} {B:Nat→Nat} (lB:∀ j,B j<256) (h:gcOk L B=true):cxOk (gcD L B)=true∧cxL (gcD L B)=L∧∀ j,j<L→cxT (gcD L B) j=B j:=by
 obtain ⟨n1,n2,hE,hM,hO⟩:=gcOk_parts h
 refine ⟨hO,?_⟩
 obtain ⟨s6,hL⟩:=end_ofV hE
 have s5:=vecD_stickV (show (vecD L B (gcT L B (gcH L B) 4)).2.e=0 from s6)
 have s4:=vecD_stickV (show (vecD L B (gcT L B (gcH L B) 3)).2.e=0 from s5)
 have s3:=vecD_stickV (show (vecD L B (gcT L B (gcH L B) 2)).2.e=0 from s4)
 have s2:=numD_stickV (show (numD L B 8 (gcT L B (gcH L B) 1)).2.e=0 from s3)
 have s1:=vecD_stickV (show (vecD L B (gcH L B)).2.e=0 from s2)
 have s0:=numD_stickV (show (numD L B 2 (numD L B 2 ⟨0,0⟩).2).2.e=0 from s1)
 obtain ⟨a1,a2,a3⟩:=numD_saidV (L:=L) lB 2 (.inl rfl) s0
 obtain ⟨b1,b2,b3⟩:=numD_saidV (L:=L) lB 2 (.inl rfl) s1
 rw [show numD L B ((2:Nat):Int) ⟨0,0⟩=numD L B 2 ⟨0,0⟩ from rfl] at a1 a3
 rw [show numD L B ((2:Nat):Int) (numD L B 2 ⟨0,0⟩).2=numD L B 2 (numD L B 2 ⟨0,0⟩).2 from rfl] at b1 b3
 rw [n1] at a3
 rw [n2] at b3
 rw [a1] at b1 b2 b3
 have hH:(gcH L B).at_=4:=b1
 have hl0:(gcH L B).at_≤L:=by rw [hH];exact b2
 obtain ⟨c1,c2,c3,c4⟩:=vecD_said (L:=L) lB s1 hl0 s2
 obtain ⟨d1,d2,d3⟩:=numD_saidV (L:=L) lB 8 (.inr rfl) (r:=gcT L B (gcH L B) 1) s3
 have hl2:(gcT L B (gcH L B) 2).at_≤L:=by
  show (numD L B 8 (gcT L B (gcH L B) 1)).2.at_≤L
  rw [show (numD L B 8 (gcT L B (gcH L B) 1)).2.at_=_ from d1];exact d2
 obtain ⟨e1,e2,e3,e4⟩:=vecD_said (L:=L) (r:=gcT L B (gcH L B) 2) lB s3 hl2 s4
 obtain ⟨f1,f2,f3,f4⟩:=vecD_said (L:=L) (r:=gcT L B (gcH L B) 3) lB s4 e3 s5
 obtain ⟨g1,g2,g3,g4⟩:=vecD_said (L:=L) (r:=gcT L B (gcH L B) 4) lB s5 f3 s6
 rw [hM] at g2 g4
 have q1:(gcT L B (gcH L B) 1).at_=4+vcL (gcD L B).gn:=by rw [←hH];exact c2
 have q2:(gcT L B (gcH L B) 2).at_=4+vcL (gcD L B).gn+8:=by rw [←q1];exact d1
 have q3:(gcT L B (gcH L B) 3).at_=4+vcL (gcD L B).gn+8+vcL (gcD L B).tn:=by rw [←q2];exact e2
 have q4:(gcT L B (gcH L B) 4).at_=4+vcL (gcD L B).gn+8+vcL (gcD L B).tn+vcL (gcD L B).rn:=by rw [←q3];exact f2
 have q5:L=4+vcL (gcD L B).gn+8+vcL (gcD L B).tn+vcL (gcD L B).rn+vcL 0:=by 
  have g2':(gcT L B (gcH L B) 5).at_=(gcT L B (gcH L B) 4).at_+vcL 0:=g2
  have g3':(gcT L B (gcH L B) 5).at_≤L:=g3
  omega
 have t0:((gcD L B).e.toNat)=(numD L B 8 (gcT L B (gcH L B) 1)).1:=Int.toNat_natCast _
 have hlen:cxL (gcD L B)=L:=by
  have e:cxL (gcD L B)=4+(vcL (gcD L B).gn+(8+(0+vcL (gcD L B).tn+vcL (gcD L B).rn+vcL 0+0))):=rfl
  rw [e]
  omega
 refine ⟨hlen,fun j hj => ?_⟩
 have hS:segV B 0 (cxP (gcD L B)):=by
  refine ⟨fun j hj => ?_,fun j hj => ?_,fun j hj => ?_,fun j hj => ?_,trivial⟩
  · replace hj:j<4:=hj
    match j,hj with
    | 0,_=>exact a3 0 (by decide)
    | 1,_=>exact a3 1 (by decide)
    | 2,_=>exact b3 0 (by decide)
    | 3,_=>exact b3 1 (by decide)
  · have:=c4 j hj
    rw [hH] at this
    rw [Nat.zero_add]
    exact this
  · have:=d3 j hj
    rw [q1] at this
    rw [Nat.zero_add]
    show B (4+vcL (gcD L B).gn+j)=beN (gcD L B).e.toNat 8 j
    rw [t0]
    exact this
  · rw [Nat.zero_add]
    show B (4+vcL (gcD L B).gn+8+j)=t3B _ _ _ _ _ _ j
    refine t3_of (X:=fun j=>B (4+vcL (gcD L B).gn+8+j)) (fun j hj => ?_) (fun j hj => ?_) (fun j hj => ?_) j hj
    · have:=e4 j hj
      rw [q2] at this
      exact this
    · have:=f4 j hj
      rw [q3] at this
      rw [←Nat.add_assoc]
      exact this
    · have:=g4 j hj
      rw [q4] at this
      rw [←Nat.add_assoc,←Nat.add_assoc,this]
      unfold vcB
      exact cat_left (show j<lnS 0 from hj) |>.trans (cat_left (show j<lnS 0 from hj)).symm
 have:=segV.cat _ _ hS j (show j<cxL (gcD L B) by rw [hlen];exact hj)
 rw [Nat.zero_add] at this
 exact this.symm
theorem gc_back {d:CxD} (hB:cxB d) (hO:cxOk d=true):gcOk (cxL d) (cxT d)=true∧∀ w cs,CxIn w cs (gcD (cxL d) (cxT d))→CxIn w cs d:=by
 have lB:=cxT_lt hB
 obtain ⟨l1,l2,l3,e0,e1⟩:=cxOk_le hO
 have hS:=segV.of (B:=cxT d) (cxP d) 0 (fun j _=>by rw [Nat.zero_add];rfl)
 obtain ⟨p0,p1,p2,p3,-⟩:=hS
 generalize hL:cxL d=L
 generalize cxT d=B at *
 have eL:4+vcL d.gn+8+vcL d.tn+vcL d.rn+vcL 0=L:=by
  have e:cxL d=4+(vcL d.gn+(8+(0+vcL d.tn+vcL d.rn+vcL 0+0))):=rfl
  omega
 obtain ⟨u1,u2,u3⟩:=t3_at (a:=d.tn) (b:=d.rn) (c:=0) (A:=d.t) (B:=d.r) (C:=lZ)
 have x1:numD L B 2 ⟨0,0⟩=(1,⟨2,0⟩):=numD_back (n:=1) (s:=2) (.inr (.inl rfl)) (by decide) (by omega) (fun j hj=>by
  rw [p0 j (show j<4 by omega)]
  match j,hj with
  | 0,_=>rfl
  | 1,_=>rfl)
 have x2:numD L B 2 ⟨2,0⟩=(1,⟨4,0⟩):=numD_back (n:=1) (s:=2) (.inr (.inl rfl)) (by decide) (by omega) (fun j hj=>by
  rw [show 2+j=0+(2+j) by omega,p0 (2+j) (show 2+j<4 by omega)]
  match j,hj with
  | 0,_=>rfl
  | 1,_=>rfl)
 obtain ⟨y1,y2,y3⟩:=vecD_back (L:=L) (B:=B) (b:=d.g) (a:=4) (n:=d.gn) lB (by omega) (by omega) (fun j hj=>by
  have:=p1 j hj
  rw [Nat.zero_add] at this
  exact this)
 have x3:numD L B 8 ⟨4+vcL d.gn,0⟩=(d.e.toNat,⟨4+vcL d.gn+8,0⟩):=numD_back (n:=d.e.toNat) (s:=8) (.inr (.inr (.inr rfl))) (show d.e.toNat<4611686018427387904 by omega) (by omega) (fun j hj=>by
  have:=p2 j hj
  rw [Nat.zero_add] at this
  exact this)
 have p4:∀ j,j<t3L d.tn d.rn 0→B (4+vcL d.gn+8+j)=t3B d.tn d.t d.rn d.r 0 lZ j:=fun j hj=>by
  have:=p3 j hj
  rw [Nat.zero_add] at this
  exact this
 have eT:t3L d.tn d.rn 0=0+vcL d.tn+vcL d.rn+vcL 0:=rfl
 obtain ⟨z1,z2,z3⟩:=vecD_back (L:=L) (B:=B) (b:=d.t) (a:=4+vcL d.gn+8) (n:=d.tn) lB (by omega) (by omega) (fun j hj=>by
  rw [p4 j (by omega),u1 j hj])
 obtain ⟨k1,k2,k3⟩:=vecD_back (L:=L) (B:=B) (b:=d.r) (a:=4+vcL d.gn+8+vcL d.tn) (n:=d.rn) lB (by omega) (by omega) (fun j hj=>by
  rw [Nat.add_assoc _ (vcL d.tn),p4 _ (by omega),u2 j hj])
 obtain ⟨m1,m2,m3⟩:=vecD_back (L:=L) (B:=B) (b:=lZ) (a:=4+vcL d.gn+8+vcL d.tn+vcL d.rn) (n:=0) lB (by omega) (by omega) (fun j hj=>by
  rw [show 4+vcL d.gn+8+vcL d.tn+vcL d.rn+j=4+vcL d.gn+8+(vcL d.tn+vcL d.rn+j) by omega,p4 _ (by omega),u3 j hj])
 have hH:gcH L B=⟨4,0⟩:=by unfold gcH;rw [x1];dsimp only;rw [x2]
 have t1:gcT L B ⟨4,0⟩ 1=⟨4+vcL d.gn,0⟩:=by
  show (vecD L B ⟨4,0⟩).2=_
  rw [y1]
 have t2:gcT L B ⟨4,0⟩ 2=⟨4+vcL d.gn+8,0⟩:=by
  show (numD L B 8 (gcT L B ⟨4,0⟩ 1)).2=_
  rw [t1,x3]
 have t3:gcT L B ⟨4,0⟩ 3=⟨4+vcL d.gn+8+vcL d.tn,0⟩:=by
  show (vecD L B (gcT L B ⟨4,0⟩ 2)).2=_
  rw [t2,z1]
 have t4:gcT L B ⟨4,0⟩ 4=⟨4+vcL d.gn+8+vcL d.tn+vcL d.rn,0⟩:=by
  show (vecD L B (gcT L B ⟨4,0⟩ 3)).2=_
  rw [t3,k1]
 have t5:gcT L B ⟨4,0⟩ 5=⟨L,0⟩:=by
  show (vecD L B (gcT L B ⟨4,0⟩ 4)).2=_
  rw [t4,m1,←eL]
 have hX:gcX L B ⟨4,0⟩=⟨d.gn,fun j=>B (4+lnS d.gn+j),d.e,d.tn,fun j=>B (4+vcL d.gn+8+lnS d.tn+j),d.rn,fun j=>B (4+vcL d.gn+8+vcL d.tn+lnS d.rn+j)⟩:=by
  unfold gcX
  rw [t1,t2,t3,y1,y2,x3,z1,z2,k1,k2]
  dsimp only
  rw [show ((d.e.toNat:Nat):Int)=d.e by omega]
 have hD:gcD L B=⟨d.gn,fun j=>B (4+lnS d.gn+j),d.e,d.tn,fun j=>B (4+vcL d.gn+8+lnS d.tn+j),d.rn,fun j=>B (4+vcL d.gn+8+vcL d.tn+lnS d.rn+j)⟩:=by unfold gcD;rw [hH,hX]
 refine ⟨?_,fun w cs h => ?_⟩
 · unfold gcOk gcK gcE
   rw [hH,t5,t4,m1,end_atV,x1]
   dsimp only
   rw [x2,hX]
   exact hO
 · rw [hD] at h
   obtain ⟨v0,v1,v2,rfl,h0,h1,h2⟩:=h
   exact ⟨v0,v1,v2,rfl,BytesIn.likeV h0 y3,BytesIn.likeV h1 z3,BytesIn.likeV h2 k3⟩
end Go.Proofs.YtibmlmmoifgliaaGreatDoor
namespace Go.Proofs.YtibmlmmoifgliaaGreatDoor
open Go.RowKit
theorem CxIn.opens {W:World} {cs:List Value} {d:CxD} (h:CxIn W cs d):∃ x0 m0 k0 z x1 m1 k1 x2 m2 k2,cs=[.slice x0 m0 k0,.int .i64 z,.slice x1 m1 k1,.slice x2 m2 k2]:=by
 obtain ⟨v0,v1,v2,rfl,h0,h1,h2⟩:=h
 obtain ⟨x0,k0,rfl,-⟩:=h0.src
 obtain ⟨x1,k1,rfl,-⟩:=h1.src
 obtain ⟨x2,k2,rfl,-⟩:=h2.src
 exact ⟨_,_,_,_,_,_,_,_,_,_,rfl⟩
def PutsV (f:FuncId) (d:CxD) (S:ByteArray) (E:Int):Prop:=∀ cs W,CxIn W cs d→Calls Tryz.prog f #[.agg cs.toArray] W fun e w'=>∃ x m k,e = .returned (.tuple #[.slice x m k,.int .i64 E])∧Cs w' (.slice x m k) S∧(E=0→BytesIn w' (.slice x m k) (cxL d) (cxT d))∧Below W.heap.size W w'
def GetsV (f:FuncId) (L:Nat) (B:Nat→Nat) (d:CxD) (F:Int):Prop:=∀ v W,BytesIn W v L B→Calls Tryz.prog f #[v] W fun e w'=>∃ cs,e = .returned (.tuple #[.agg cs.toArray,.int .i64 F])∧CxIn w' cs d∧Below W.heap.size W w'
theorem put_both (d:CxD) (hB:cxB d):∃ S E,(E=0∧cxOk d=true∨E=1)∧PutsV 8 d S E∧PutsV 9 d S E:=by
 cases hO:cxOk d with
 | true =>
  refine ⟨strB (cxL d) (cxT d),0,.inl ⟨rfl,rfl⟩,fun cs W h=>(putCtx_good cs d hB hO W h).mono ?_,fun cs W h=>(rPutCtx_good cs d hB hO W h).mono ?_⟩
  all_goals
   rintro e w' ⟨s,rfl,ho,hb⟩
   have hi:=ho.bytesIn
   obtain ⟨x,k,rfl,-⟩:=hi.src
   exact ⟨x,_,k,rfl,hi.cs (cxT_lt hB),fun _=>hi,hb⟩
 | false =>
  refine ⟨strB 0 lZ,1,.inr rfl,fun cs W h=>(putCtx_bad cs d hO W h).mono ?_,fun cs W h=>(rPutCtx_bad cs d hO W h).mono ?_⟩
  all_goals
   rintro e w' ⟨rfl,hb⟩
   exact ⟨none,0,0,rfl,(nil_bytes w' lZ).cs lZ_lt5,(fun h=>by cases h),hb⟩
def zCxV:CxD:=⟨0,lZ,0,0,lZ,0,lZ⟩
theorem zCxV_in (W:World):CxIn W z4C zCxV:=⟨_,_,_,rfl,nil_bytes W lZ,nil_bytes W lZ,nil_bytes W lZ⟩
theorem get_both (L:Nat) (B:Nat→Nat) (lB:∀ j,B j<256) (hL:L<140737488355000):∃ dg F,cxB dg∧(F=0∧cxOk dg=true∧cxL dg=L∧(∀ j,j<L→cxT dg j=B j)∨F=21)∧GetsV 10 L B dg F∧GetsV 11 L B dg F:=by
 obtain ⟨g1,g2⟩:=gc_same L B lB
 cases hO:gcOk L B with
 | true =>
  refine ⟨gcD L B,0,⟨fun j=>lB _,fun j=>lB _,fun j=>lB _⟩,.inl ⟨rfl,gc_said lB hO⟩,fun v W h=>(getCtx_any v L B lB hL W h).mono ?_,fun v W h=>(rGetCtx_any v L B lB hL W h).mono ?_⟩
  · rintro e w' ⟨⟨-,cs,rfl,hi⟩ | ⟨h,-⟩,hb⟩
    · exact ⟨cs,rfl,hi,hb⟩
    · rw [hO] at h;cases h
  · rintro e w' ⟨⟨-,cs,rfl,hi⟩ | ⟨h,-⟩,hb⟩
    · rw [g2 hO] at hi;exact ⟨cs,rfl,hi,hb⟩
    · rw [g1,hO] at h;cases h
 | false =>
  refine ⟨zCxV,21,⟨lZ_lt5,lZ_lt5,lZ_lt5⟩,.inr rfl,fun v W h=>(getCtx_any v L B lB hL W h).mono ?_,fun v W h=>(rGetCtx_any v L B lB hL W h).mono ?_⟩
  · rintro e w' ⟨⟨h,-⟩ | ⟨-,rfl⟩,hb⟩
    · rw [hO] at h;cases h
    · exact ⟨z4C,rfl,zCxV_in w',hb⟩
  · rintro e w' ⟨⟨h,-⟩ | ⟨-,rfl⟩,hb⟩
    · rw [g1,hO] at h;cases h
    · exact ⟨z4C,rfl,zCxV_in w',hb⟩
theorem get_back16 {d:CxD} (hB:cxB d) (hO:cxOk d=true):GetsV 10 (cxL d) (cxT d) d 0:=fun v W h=>by
 obtain ⟨g1,g2⟩:=gc_back hB hO
 have:=cxL_le hO
 refine (getCtx_any v _ _ (cxT_lt hB) (by omega) W h).mono ?_
 rintro e w' ⟨⟨-,cs,rfl,hi⟩ | ⟨h,-⟩,hb⟩
 · exact ⟨cs,rfl,g2 _ _ hi,hb⟩
 · rw [g1] at h;cases h
theorem put_back16 {d:CxD} (hB:cxB d) (hO:cxOk d=true) {L:Nat} {B:Nat→Nat} (hL:cxL d=L) (hT:∀ j,j<L→cxT d j=B j):PutsV 8 d (strB L B) 0:=fun cs W h=>by
 refine (putCtx_good cs d hB hO W h).mono ?_
 rintro e w' ⟨s,rfl,ho,hb⟩
 have hi:=ho.bytesIn
 obtain ⟨x,k,rfl,-⟩:=hi.src
 have hc:=hi.cs (cxT_lt hB)
 have e1:strB (cxL d) (cxT d)=strB L B:=by rw [hL];exact strB_congr hT
 rw [e1] at hc
 exact ⟨x,_,k,rfl,hc,fun _=>hi,hb⟩
set_option maxRecDepth 40000 in
set_option maxHeartbeats 16000000 in
theorem schedBytes_any (cs:List Value) (d:CxD) (hB:cxB d) (hld:d.gn<140737488355000∧d.tn<140737488355000∧d.rn<140737488355000) (v:Value) (n:Nat) (bs:Nat→Nat) (lb:∀ j,bs j<256) (hn:n<140737488355000) (w:World) (hT:TabAt w) (hc:CxIn w cs d) (hv:BytesIn w v n bs) :
 Calls Tryz.prog 3 #[.agg cs.toArray,v] w fun e w'=>e = .returned (.bool true)∧Below w.heap.size w w':=by
 obtain ⟨S,E,hE,cP,rP0⟩:=put_both d hB
 obtain ⟨dg,F,hBg,hF,cG,rG0⟩:=get_both n bs lb hn
 have cB:=fun (h:cxOk d=true)=>get_back16 hB h
 have cH:=fun (h1:cxOk dg=true) (h2:cxL dg=n) (h3:∀ j,j<n→cxT dg j=bs j)=>put_back16 hBg h1 h2 h3
 obtain ⟨P,hPd⟩:∃ P:World→Prop,P=fun W=>TabAt W∧CxIn W cs d∧BytesIn W v n bs:=⟨_,rfl⟩
 have kp:∀ W W',P W→Below W.heap.size W W'→P W':=by
  rw [hPd]
  exact fun W W' h hb=>⟨h.1.still hb,h.2.1.keep hb,h.2.2.keep hb⟩
 have hP0:P w:=by rw [hPd];exact ⟨hT,hc,hv⟩
 have cL:=fun (W:World) (h:P W)=>lent_any v n bs W (by rw [hPd] at h;exact h.2.2) (by omega)
 have cC:=fun (W:World) (h:P W)=>lawCx_any cs d hld W (by rw [hPd] at h;exact h.2.1)
 have rP:=fun (W:World) (h:P W)=>rP0 cs W (by rw [hPd] at h;exact h.2.1)
 have rG:=fun (W:World) (h:P W)=>rG0 v W (by rw [hPd] at h;exact h.2.2)
 have sG:=fun (L M:List Value) (W:World) (q1:CxIn W L dg) (q2:CxIn W M dg)=>sameCx_any L M dg hBg W q1 q2
 have sX:=fun (L:List Value) (W:World) (h:P W) (q1:CxIn W L d)=>sameCx_any L cs d hB W q1 (by rw [hPd] at h;exact h.2.1)
 have st1:=fun (g m:Nat) (W:World) (h:P W) (l:LntAt W g m n bs)=>stays_any g m n _ bs lb _ (by omega:n<140737488355000) l.cap l.row (by rw [hPd] at h;exact h.2.2:BytesIn W v n bs)
 have hKn:=fun (W:World) (h:P W)=>knows16 W (by rw [hPd] at h;exact h.1)
 have cvb:=fun (W:World) (h:P W)=>(show BytesIn W v n bs by rw [hPd] at h;exact h.2.2).conv lb W (Below.refl _ _)
 obtain ⟨x0,d0,rfl,-⟩:=hv.src
 obtain ⟨cw0,cw1,cw2,rfl,-⟩:=hc
 have eS:(S.toList == S.toList)=true:=beq_self_eq_true _
 obtain ⟨N,hN⟩:∃ N,N=d.e:=⟨_,rfl⟩
 rw [←hN] at cC rP sX ⊢
 generalize hS2:strB n bs=S2 at *
 have eS2:(S2.toList == S2.toList)=true:=beq_self_eq_true _
 unfold PutsV at cP cH
 unfold GetsV at cG cB
 have bx:Below w.heap.size w (w.alloc (.cells #[cw0,.int .i64 N,cw1,cw2] 24)):=(Below.refl _ _).alloc (Nat.le_refl _) _
 have kx0:=RW.fresh w [cw0,.int .i64 N,cw1,cw2] 24
 have P0:=kp _ _ hP0 bx
 have HX:=Hid.mk' bx
 have HK:=Hid.mk' kx0
 have HE:=Hid.mk' hE
 have HF:=Hid.mk' hF
 clear hPd hT hv rP0 rG0 lb hn hB hBg hld hN hP0 bx kx0 hS2 hE hF
 go_enter Tryz.func3,Tryz.ntmps3
 go_upto_region 2 with (go_at_call 6;refine (cL _ P0).mono ?_;clear cL;rintro e u1 ⟨g1,c1,rfl,hc1,-,r1,hb1⟩;(have l1:LntAt u1 g1 c1 n bs:=⟨hc1,r1⟩);have hP:=kp _ _ P0 hb1;have hw:=below_next HX.out hb1;have kx:=HK.out.still hb1;clear P0 hc1 r1 HX HK hb1)
 go_upto_region 7 with (first
  | (refine wpList_load_mid rfl 24 (.tmp 2) rfl w.heap.size 0 rfl _ _ kx.range Tryz.underlying24 rfl (infoRx _ _ _ _) ?_)
  | (refine wpList_load_mid rfl 26 (.tmp 6) rfl w2.heap.size 0 rfl _ _ k6.range Tryz.underlying26 rfl (infoCx _ _ _ _) ?_)
  | (go_at_call 7;refine (cC _ hP).mono ?_;clear cC;rintro e w2 ⟨ds,rfl,X2,hb⟩;(replace hP:=kp _ _ hP hb);(replace hw:=below_next hw hb);(replace l1:=l1.still hb);(replace kx:=kx.still hb);clear hb;(obtain ⟨ax0,am0,ak0,az,ax1,am1,ak1,ax2,am2,ak2,rfl⟩:=X2.opens);have hb:Below w2.heap.size w2 (w2.alloc (.cells #[.slice ax0 am0 ak0,.int .i64 az,.slice ax1 am1 ak1,.slice ax2 am2 ak2] 26)):=(Below.refl _ _).alloc (Nat.le_refl _) _;have k6:=RW.fresh w2 [.slice ax0 am0 ak0,.int .i64 az,.slice ax1 am1 ak1,.slice ax2 am2 ak2] 26;(replace hP:=kp _ _ hP hb);(replace hw:=below_next hw hb);(replace l1:=l1.still hb);(replace kx:=kx.still hb);(replace X2:=X2.keep hb);clear hb)
  | (go_at_call 8;refine (cP _ _ X2).mono ?_;clear cP;rintro e w3 ⟨y3,m3,k3,rfl,t3,q3,hb⟩;(replace hP:=kp _ _ hP hb);(replace hw:=below_next hw hb);(replace l1:=l1.still hb);(replace kx:=kx.still hb);(replace X2:=X2.keep hb);(replace k6:=k6.still hb);clear hb)
  | (go_at_call 9;refine (rP _ hP).mono ?_;clear rP;rintro e w4 ⟨y4,m4,k4,rfl,t4,-,hb⟩;(replace hP:=kp _ _ hP hb);(replace hw:=below_next hw hb);(replace l1:=l1.still hb);(replace kx:=kx.still hb);(replace X2:=X2.keep hb);(replace k6:=k6.still hb);(replace t3:=t3.still hb);(replace q3:=fun h=>(q3 h).keep hb);clear hb)
  | (go_at_call 10;refine (cG _ _ l1.bytes).mono ?_;clear cG;rintro e w5 ⟨gs,rfl,X5,hb⟩;(replace hP:=kp _ _ hP hb);(replace hw:=below_next hw hb);(replace l1:=l1.still hb);(replace kx:=kx.still hb);(replace X2:=X2.keep hb);(replace k6:=k6.still hb);(replace t3:=t3.still hb);(replace q3:=fun h=>(q3 h).keep hb);(replace t4:=t4.still hb);clear hb;(obtain ⟨bx0,bm0,bk0,bz,bx1,bm1,bk1,bx2,bm2,bk2,rfl⟩:=X5.opens);have hb:Below w5.heap.size w5 (w5.alloc (.cells #[.slice bx0 bm0 bk0,.int .i64 bz,.slice bx1 bm1 bk1,.slice bx2 bm2 bk2] 26)):=(Below.refl _ _).alloc (Nat.le_refl _) _;have k11:=RW.fresh w5 [.slice bx0 bm0 bk0,.int .i64 bz,.slice bx1 bm1 bk1,.slice bx2 bm2 bk2] 26;(replace hP:=kp _ _ hP hb);(replace hw:=below_next hw hb);(replace l1:=l1.still hb);(replace kx:=kx.still hb);(replace X2:=X2.keep hb);(replace k6:=k6.still hb);(replace t3:=t3.still hb);(replace q3:=fun h=>(q3 h).keep hb);(replace t4:=t4.still hb);(replace X5:=X5.keep hb);clear hb)
  | (go_at_call 11;refine (rG _ hP).mono ?_;clear rG;rintro e w6 ⟨hs,rfl,X6,hb⟩;(replace hP:=kp _ _ hP hb);(replace hw:=below_next hw hb);(replace l1:=l1.still hb);(replace kx:=kx.still hb);(replace X2:=X2.keep hb);(replace k6:=k6.still hb);(replace t3:=t3.still hb);(replace q3:=fun h=>(q3 h).keep hb);(replace t4:=t4.still hb);(replace X5:=X5.keep hb);(replace k11:=k11.still hb);clear hb;(obtain ⟨cx0,cm0,ck0,cz,cx1,cm1,ck1,cx2,cm2,ck2,rfl⟩:=X6.opens);have hb:Below w6.heap.size w6 (w6.alloc (.cells #[.slice cx0 cm0 ck0,.int .i64 cz,.slice cx1 cm1 ck1,.slice cx2 cm2 ck2] 24)):=(Below.refl _ _).alloc (Nat.le_refl _) _;have k13:=RW.fresh w6 [.slice cx0 cm0 ck0,.int .i64 cz,.slice cx1 cm1 ck1,.slice cx2 cm2 ck2] 24;(replace hP:=kp _ _ hP hb);(replace hw:=below_next hw hb);(replace l1:=l1.still hb);(replace kx:=kx.still hb);(replace X2:=X2.keep hb);(replace k6:=k6.still hb);(replace t3:=t3.still hb);(replace q3:=fun h=>(q3 h).keep hb);(replace t4:=t4.still hb);(replace X5:=X5.keep hb);(replace k11:=k11.still hb);(replace X6:=X6.keep hb);clear hb))
 have q_3:=t3.conv _ (Below.refl _ _)
 have q_4:=t4.conv _ (Below.refl _ _)
 clear t3 t4
 go_upto_region 9 with (first
  | rw [q_3]
  | rw [q_4]
  | (go_at_call 12;refine (num16_any _ _).mono ?_;rintro e wn ⟨rfl,hwn⟩;obtain rfl:=hwn.symm)
  | (refine wpList_load_on (by rfl) 26 (.tmp 11) rfl w5.heap.size 0 rfl [.slice bx0 bm0 bk0,.int .i64 bz,.slice bx1 bm1 bk1,.slice bx2 bm2 bk2] _ k11.range Tryz.underlying26 rfl (infoCx _ _ _ _) ?_)
  | (refine wpList_load_on (by rfl) 24 (.tmp 13) rfl w6.heap.size 0 rfl [.slice cx0 cm0 ck0,.int .i64 cz,.slice cx1 cm1 ck1,.slice cx2 cm2 ck2] _ k13.range Tryz.underlying24 rfl (infoRx _ _ _ _) ?_)
  | (refine wpList_load_on (by rfl) 26 (.tmp 6) rfl w2.heap.size 0 rfl [.slice ax0 am0 ak0,.int .i64 az,.slice ax1 am1 ak1,.slice ax2 am2 ak2] _ k6.range Tryz.underlying26 rfl (infoCx _ _ _ _) ?_)
  | (refine wpList_load_on (by rfl) 24 (.tmp 2) rfl w.heap.size 0 rfl [cw0,.int .i64 N,cw1,cw2] _ kx.range Tryz.underlying24 rfl (infoRx _ _ _ _) ?_)
  | (go_at_call 13;refine (sG _ _ _ X5 X6).mono ?_;clear sG X6 k13 q_3 q_4;rintro e w7 ⟨rfl,hb⟩;(replace hP:=kp _ _ hP hb);(replace hw:=below_next hw hb);(replace l1:=l1.still hb);(replace kx:=kx.still hb);(replace X2:=X2.keep hb);(replace k6:=k6.still hb);(replace q3:=fun h=>(q3 h).keep hb);(replace X5:=X5.keep hb);(replace k11:=k11.still hb);clear hb)
  | (go_at_call 13;refine (sX _ _ hP X2).mono ?_;clear X2 k6;rintro e w8 ⟨rfl,hb⟩;(replace hP:=kp _ _ hP hb);(replace hw:=below_next hw hb);(replace l1:=l1.still hb);(replace kx:=kx.still hb);(replace q3:=fun h=>(q3 h).keep hb);(replace X5:=X5.keep hb);(replace k11:=k11.still hb);clear hb)
  | (go_at_call 14;refine (st1 g1 c1 _ hP l1).mono ?_;clear st1 l1;rintro e w9 ⟨rfl,hb⟩;(replace hP:=kp _ _ hP hb);(replace hw:=below_next hw hb);(replace kx:=kx.still hb);(replace q3:=fun h=>(q3 h).keep hb);(replace X5:=X5.keep hb);(replace k11:=k11.still hb);clear hb))
 rcases HE.out with ⟨rfl,hO⟩ | rfl
 · clear HE
   have cB:=cB hO
   rcases HF.out with ⟨rfl,hO1,hO2,hO3⟩ | rfl
   · clear HF
     have cH:=cH hO1 hO2 hO3
     clear hO hO1 hO2 hO3
     have q3:=q3 rfl
     have Xq:=q3
     clear q3
     go_wp2_with (first
      | (go_at_call 12;refine (num16_any _ _).mono ?_;rintro e wn ⟨rfl,hwn⟩;obtain rfl:=hwn.symm)
      | (go_at_call 10;refine (cB _ _ Xq).mono ?_;clear Xq;rintro e w10 ⟨gs,rfl,X10,hb⟩;(replace hP:=kp _ _ hP hb);(replace hw:=below_next hw hb);(replace kx:=kx.still hb);(replace X5:=X5.keep hb);(replace k11:=k11.still hb);clear hb;(obtain ⟨dx0,dm0,dk0,dz,dx1,dm1,dk1,dx2,dm2,dk2,rfl⟩:=X10.opens);have hb:Below w10.heap.size w10 (w10.alloc (.cells #[.slice dx0 dm0 dk0,.int .i64 dz,.slice dx1 dm1 dk1,.slice dx2 dm2 dk2] 26)):=(Below.refl _ _).alloc (Nat.le_refl _) _;have k15:=RW.fresh w10 [.slice dx0 dm0 dk0,.int .i64 dz,.slice dx1 dm1 dk1,.slice dx2 dm2 dk2] 26;(replace hP:=kp _ _ hP hb);(replace hw:=below_next hw hb);(replace kx:=kx.still hb);(replace X5:=X5.keep hb);(replace k11:=k11.still hb);(replace X10:=X10.keep hb);clear hb)
      | (refine wpList_load_on (by rfl) 26 (.tmp 15) rfl w10.heap.size 0 rfl [.slice dx0 dm0 dk0,.int .i64 dz,.slice dx1 dm1 dk1,.slice dx2 dm2 dk2] _ k15.range Tryz.underlying26 rfl (infoCx _ _ _ _) ?_)
      | (refine wpList_load_on (by rfl) 24 (.tmp 2) rfl w.heap.size 0 rfl [cw0,.int .i64 N,cw1,cw2] _ kx.range Tryz.underlying24 rfl (infoRx _ _ _ _) ?_)
      | (go_at_call 13;refine (sX _ _ hP X10).mono ?_;clear X10 k15;rintro e w11 ⟨rfl,hb⟩;(replace hP:=kp _ _ hP hb);(replace hw:=below_next hw hb);(replace X5:=X5.keep hb);(replace k11:=k11.still hb);clear hb)
      | (refine wpList_load_mid rfl 26 (.tmp 11) rfl w5.heap.size 0 rfl _ _ k11.range Tryz.underlying26 rfl (infoCx _ _ _ _) ?_)
      | (go_at_call 8;refine (cH _ _ X5).mono ?_;clear X5;rintro e w12 ⟨y12,m12,k12,rfl,t12,-,hb⟩;(replace hP:=kp _ _ hP hb);(replace hw:=below_next hw hb);clear hb;have q_5:=t12.conv w12 (Below.refl _ _);have q_6:=cvb _ hP)
      | rw [q_5]
      | rw [q_6]
      | (go_at_call 15;refine (hKn _ hP).mono ?_;rintro e w13 ⟨rfl,hb⟩;(replace hw:=below_next hw hb)))
     go_ret
     exact ⟨rfl,hw⟩
   · clear HF cH hO
     have q3:=q3 rfl
     have Xq:=q3
     clear q3
     go_wp2_with (first
      | (go_at_call 12;refine (num16_any _ _).mono ?_;rintro e wn ⟨rfl,hwn⟩;obtain rfl:=hwn.symm)
      | (go_at_call 10;refine (cB _ _ Xq).mono ?_;clear Xq;rintro e w10 ⟨gs,rfl,X10,hb⟩;(replace hP:=kp _ _ hP hb);(replace hw:=below_next hw hb);(replace kx:=kx.still hb);(replace X5:=X5.keep hb);(replace k11:=k11.still hb);clear hb;(obtain ⟨dx0,dm0,dk0,dz,dx1,dm1,dk1,dx2,dm2,dk2,rfl⟩:=X10.opens);have hb:Below w10.heap.size w10 (w10.alloc (.cells #[.slice dx0 dm0 dk0,.int .i64 dz,.slice dx1 dm1 dk1,.slice dx2 dm2 dk2] 26)):=(Below.refl _ _).alloc (Nat.le_refl _) _;have k15:=RW.fresh w10 [.slice dx0 dm0 dk0,.int .i64 dz,.slice dx1 dm1 dk1,.slice dx2 dm2 dk2] 26;(replace hP:=kp _ _ hP hb);(replace hw:=below_next hw hb);(replace kx:=kx.still hb);(replace X5:=X5.keep hb);(replace k11:=k11.still hb);(replace X10:=X10.keep hb);clear hb)
      | (refine wpList_load_on (by rfl) 26 (.tmp 15) rfl w10.heap.size 0 rfl [.slice dx0 dm0 dk0,.int .i64 dz,.slice dx1 dm1 dk1,.slice dx2 dm2 dk2] _ k15.range Tryz.underlying26 rfl (infoCx _ _ _ _) ?_)
      | (refine wpList_load_on (by rfl) 24 (.tmp 2) rfl w.heap.size 0 rfl [cw0,.int .i64 N,cw1,cw2] _ kx.range Tryz.underlying24 rfl (infoRx _ _ _ _) ?_)
      | (go_at_call 13;refine (sX _ _ hP X10).mono ?_;clear X10 k15;rintro e w11 ⟨rfl,hb⟩;(replace hP:=kp _ _ hP hb);(replace hw:=below_next hw hb);(replace X5:=X5.keep hb);(replace k11:=k11.still hb);clear hb)
      | (go_at_call 15;refine (hKn _ hP).mono ?_;rintro e w13 ⟨rfl,hb⟩;(replace hw:=below_next hw hb)))
     go_ret
     exact ⟨rfl,hw⟩
 · clear HE cB
   rcases HF.out with ⟨rfl,hO1,hO2,hO3⟩ | rfl
   · clear HF
     have cH:=cH hO1 hO2 hO3
     clear hO1 hO2 hO3
     go_wp2_with (first
      | (go_at_call 12;refine (num16_any _ _).mono ?_;rintro e wn ⟨rfl,hwn⟩;obtain rfl:=hwn.symm)
      | (refine wpList_load_mid rfl 26 (.tmp 11) rfl w5.heap.size 0 rfl _ _ k11.range Tryz.underlying26 rfl (infoCx _ _ _ _) ?_)
      | (go_at_call 8;refine (cH _ _ X5).mono ?_;clear X5;rintro e w12 ⟨y12,m12,k12,rfl,t12,-,hb⟩;(replace hP:=kp _ _ hP hb);(replace hw:=below_next hw hb);clear hb;have q_5:=t12.conv w12 (Below.refl _ _);have q_6:=cvb _ hP)
      | rw [q_5]
      | rw [q_6]
      | (go_at_call 15;refine (hKn _ hP).mono ?_;rintro e w13 ⟨rfl,hb⟩;(replace hw:=below_next hw hb)))
     go_ret
     exact ⟨rfl,hw⟩
   · clear HF cH
     go_wp2_with (first
      | (go_at_call 12;refine (num16_any _ _).mono ?_;rintro e wn ⟨rfl,hwn⟩;obtain rfl:=hwn.symm)
      | (go_at_call 15;refine (hKn _ hP).mono ?_;rintro e w13 ⟨rfl,hb⟩;(replace hw:=below_next hw hb)))
     go_ret
     exact ⟨rfl,hw⟩
end Go.Proofs.YtibmlmmoifgliaaGreatDoor
