/- What the proof stands on: N3ma, N3mb, N3mc, N3md, N3lk. -/
import Derived.Test.YtgdcmibdjiaofaaN3lcM
namespace Go.Proofs.Ytgdcmibdjiaofaa
open Go.RowKit
def Tx.like (a b:Tx):Prop:=a.n=b.n∧a.s=b.s
theorem Tx.like.refl (a:Tx):a.like a:=⟨rfl,rfl⟩
theorem like_zero {a b:Tx} (ha:a.n=0) (hb:b.n=0):a.like b:=⟨by omega,by unfold Tx.s;rw [ha,hb];rfl⟩
theorem vx_back {L:Nat} {B:Nat→Nat} {a:Nat} (lB:∀ j,B j<256) (t:Tx) (hn:t.n≤65536) (hL:a+vcL t.n≤L) (h:∀ j,j<vcL t.n→B (a+j)=vcB t.n t.b j):(vx L B ⟨a,0⟩).like t∧(vecD L B ⟨a,0⟩).2=⟨a+vcL t.n,0⟩:=by
 obtain ⟨h1,h2,h3⟩:=vecD_back lB hn hL h
 refine ⟨⟨by show (vecD L B ⟨a,0⟩).1=_;rw [h1],?_⟩,by rw [h1]⟩
 show strB (vecD L B ⟨a,0⟩).1 (fun j=>B ((lenD L B ⟨a,0⟩).2.at_+j))=strB t.n t.b
 rw [h1,h2]
 exact strB_congr h3
theorem rl6_3 {L:Nat} {B:Nat→Nat} {r:Rd} (hs:(((numD L B 1 (rl L B r 3).2).1:Nat):Int)=3):rl L B r 6=(⟨vx L B r,vx L B (rl L B r 1).2,vx L B (rl L B r 2).2,(((numD L B 1 (rl L B r 3).2).1:Nat):Int),vx L B (rl L B r 4).2,vx L B (vecD L B (rl L B r 4).2).2⟩,(vecD L B (vecD L B (rl L B r 4).2).2).2):=by
 have e5:rl L B r 5=if (((numD L B 1 (rl L B r 3).2).1:Nat):Int)=3 then ({ (rl L B r 4).1 with hash:=vx L B (rl L B r 4).2 },(vecD L B (rl L B r 4).2).2) else rl L B r 4:=rfl
 rw [if_pos hs] at e5
 show rlS L B (rl L B r 5) 5=_
 rw [e5]
 rfl
theorem rl6_0 {L:Nat} {B:Nat→Nat} {r:Rd} (hs:¬(((numD L B 1 (rl L B r 3).2).1:Nat):Int)=3):rl L B r 6=(⟨vx L B r,vx L B (rl L B r 1).2,vx L B (rl L B r 2).2,(((numD L B 1 (rl L B r 3).2).1:Nat):Int),tx0,vx L B (rl L B r 4).2⟩,(vecD L B (rl L B r 4).2).2):=by
 have e5:rl L B r 5=if (((numD L B 1 (rl L B r 3).2).1:Nat):Int)=3 then ({ (rl L B r 4).1 with hash:=vx L B (rl L B r 4).2 },(vecD L B (rl L B r 4).2).2) else rl L B r 4:=rfl
 rw [if_neg hs] at e5
 show rlS L B (rl L B r 5) 5=_
 rw [e5]
 rfl
def LfD.like (a b:LfD):Prop:=a.enc.like b.enc∧a.sig.like b.sig∧a.name.like b.name∧a.src=b.src∧a.hash.like b.hash∧a.sg.like b.sg
theorem LfD.like.same {a b:LfD} (h:a.like b):sameL a b=true:=by
 obtain ⟨h0,h1,h2,h3,h4,h5⟩:=h
 simp [sameL,h0.2,h1.2,h2.2,h3,h4.2,h5.2]
theorem LfD.like.right {a b:LfD} (h:a.like b) {last:Int} (hR:lfR b last):lfR a last:=by
 obtain ⟨h0,h1,h2,h3,h4,h5⟩:=h
 unfold lfR at *
 rw [h0.1,h1.1,h2.1,h3,h4.1,h5.1]
 exact hR
theorem leaf_back5 {L:Nat} {B:Nat→Nat} {a:Nat} (lB:∀ j,B j<256) (d:LfD) (hR:lfR d 3) (hL:a+sumN (lfN d) 5≤L) (h:∀ k,k<5→∀ j,j<lfN d k→B (a+sumN (lfN d) k+j)=lfB d k j) :
 (vx L B ⟨a,0⟩).like d.enc∧(vx L B (rl L B ⟨a,0⟩ 1).2).like d.sig∧(vx L B (rl L B ⟨a,0⟩ 2).2).like d.name∧(((numD L B 1 (rl L B ⟨a,0⟩ 3).2).1:Nat):Int)=d.src∧(rl L B ⟨a,0⟩ 4).2=⟨a+sumN (lfN d) 4,0⟩∧(d.src=3→(vx L B (rl L B ⟨a,0⟩ 4).2).like d.hash∧(vecD L B (rl L B ⟨a,0⟩ 4).2).2=⟨a+sumN (lfN d) 5,0⟩):=by
 obtain ⟨h0,h1,h2,h3,h4,h5⟩:=hR
 have q:∀ k,k≤5→sumN (lfN d) k≤sumN (lfN d) 5:=fun k hk=>sumN_le _ hk
 have s1:sumN (lfN d) 1=sumN (lfN d) 0+vcL d.enc.n:=rfl
 have s2:sumN (lfN d) 2=sumN (lfN d) 1+vcL d.sig.n:=rfl
 have s3:sumN (lfN d) 3=sumN (lfN d) 2+vcL d.name.n:=rfl
 have s4:sumN (lfN d) 4=sumN (lfN d) 3+1:=rfl
 have g1:=q 1 (by decide)
 have g2:=q 2 (by decide)
 have g3:=q 3 (by decide)
 have g4:=q 4 (by decide)
 obtain ⟨v0,r0⟩:=vx_back (L:=L) (B:=B) (a:=a+sumN (lfN d) 0) lB d.enc (by omega) (by omega) (h 0 (by decide))
 have e1:(rl L B ⟨a,0⟩ 1).2=⟨a+sumN (lfN d) 1,0⟩:=r0.trans (by rw [s1,Nat.add_assoc])
 obtain ⟨v1,r1⟩:=vx_back (L:=L) (B:=B) (a:=a+sumN (lfN d) 1) lB d.sig (by omega) (by omega) (h 1 (by decide))
 have e2:(rl L B ⟨a,0⟩ 2).2=⟨a+sumN (lfN d) 2,0⟩:=by
  show (vecD L B (rl L B ⟨a,0⟩ 1).2).2=_
  rw [e1,r1,s2,Nat.add_assoc]
 obtain ⟨v2,r2⟩:=vx_back (L:=L) (B:=B) (a:=a+sumN (lfN d) 2) lB d.name (by omega) (by omega) (h 2 (by decide))
 have e3:(rl L B ⟨a,0⟩ 3).2=⟨a+sumN (lfN d) 3,0⟩:=by
  show (vecD L B (rl L B ⟨a,0⟩ 2).2).2=_
  rw [e2,r2,s3,Nat.add_assoc]
 have n3:=numD_back (L:=L) (B:=B) (a:=a+sumN (lfN d) 3) (n:=d.src.toNat) (s:=1) (.inl rfl) (by show d.src.toNat<256;omega) (by omega) (h 3 (by decide))
 have e4:(rl L B ⟨a,0⟩ 4).2=⟨a+sumN (lfN d) 4,0⟩:=by
  show (numD L B 1 (rl L B ⟨a,0⟩ 3).2).2=_
  rw [e3]
  show (numD L B ((1:Nat):Int) _).2=_
  rw [n3,s4,Nat.add_assoc]
 refine ⟨v0,by rw [e1];exact v1,by rw [e2];exact v2,?_,e4,fun hs => ?_⟩
 · rw [e3]
   show (((numD L B ((1:Nat):Int) _).1:Nat):Int)=_
   rw [n3]
   show ((d.src.toNat:Nat):Int)=d.src
   omega
 · have n4:lfN d 4=vcL d.hash.n:=if_pos hs
   have s5:sumN (lfN d) 5=sumN (lfN d) 4+lfN d 4:=rfl
   rw [if_pos hs] at h4
   have h4':=h 4 (by decide)
   rw [n4] at h4' s5
   obtain ⟨v4,r4⟩:=vx_back (L:=L) (B:=B) (a:=a+sumN (lfN d) 4) lB d.hash (by omega) (by omega) h4'
   rw [e4]
   exact ⟨v4,by rw [r4,s5,Nat.add_assoc]⟩
theorem leaf_back {L:Nat} {B:Nat→Nat} {a:Nat} (lB:∀ j,B j<256) (d:LfD) (hR:lfR d 3) (hL:a+lfLen d≤L) (h:∀ k,k<6→∀ j,j<lfN d k→B (a+sumN (lfN d) k+j)=lfB d k j):(rl L B ⟨a,0⟩ 6).1.like d∧(rl L B ⟨a,0⟩ 6).2=⟨a+lfLen d,0⟩:=by
 have s6:lfLen d=sumN (lfN d) 5+vcL d.sg.n:=rfl
 obtain ⟨v0,v1,v2,v3,e4,v4⟩:=leaf_back5 (L:=L) (B:=B) (a:=a) lB d hR (by omega) (fun k hk=>h k (by omega))
 obtain ⟨h0,h1,h2,h3,h4,h5⟩:=hR
 obtain ⟨v5,r5⟩:=vx_back (L:=L) (B:=B) (a:=a+sumN (lfN d) 5) lB d.sg (by omega) (by omega) (h 5 (by decide))
 by_cases hs:d.src=3
 · obtain ⟨v4',r4⟩:=v4 hs
   rw [rl6_3 (v3.trans hs),r4]
   exact ⟨⟨v0,v1,v2,v3,v4',v5⟩,by rw [r5,s6,Nat.add_assoc]⟩
 · have s5:sumN (lfN d) 5=sumN (lfN d) 4:=by
    show sumN (lfN d) 4+(if d.src=3 then vcL d.hash.n else 0)=_
    rw [if_neg hs,Nat.add_zero]
   rw [if_neg hs] at h4
   rw [rl6_0 (fun e=>hs (v3.symm.trans e)),e4,←s5]
   exact ⟨⟨v0,v1,v2,v3,like_zero rfl h4,v5⟩,by rw [r5,s6,Nat.add_assoc]⟩
theorem allB_of {X:Nat→Nat} {pn:Nat→Nat} {pb:Nat→Nat→Nat}:∀ {cnt},(∀ k,k<cnt→∀ j,j<pn k→X (sumN pn k+j)=pb k j)→∀ j,j<sumN pn cnt→X j=allB pn pb cnt j
 | 0,_,j,hj=>by simp [sumN] at hj
 | c+1,h,j,hj=>by
  have hs:sumN pn (c+1)=sumN pn c+pn c:=rfl
  show X j=cat (sumN pn c) (allB pn pb c) (pb c) j
  by_cases hc:j<sumN pn c
  · rw [cat_left hc]
    exact allB_of (fun k hk=>h k (by omega)) j hc
  · have:=h c (by omega) (j - sumN pn c) (by omega)
    rw [show sumN pn c+(j - sumN pn c)=j by omega] at this
    unfold cat
    rw [if_neg hc,this]
theorem vecD_stick {L:Nat} {B:Nat→Nat} {r:Rd} (h:(vecD L B r).2.e=0):r.e=0:=by
 refine Classical.byContradiction fun hr => ?_
 have e1:lenD L B r=(0,r):=by unfold lenD;rw [if_pos hr]
 unfold vecD at h
 rw [e1] at h
 dsimp only at h
 rw [show (if r.e=0∧65536<0 then (⟨r.at_,21⟩:Rd) else r)=r from if_neg (fun e=>hr e.1)] at h
 have e2:takD L ((0:Nat):Int) r=(0,r):=by unfold takD;rw [if_pos hr]
 rw [e2,if_pos hr] at h
 exact hr h
theorem numD_stick {L:Nat} {B:Nat→Nat} {s:Int} {r:Rd} (h:(numD L B s r).2.e=0):r.e=0:=by
 refine Classical.byContradiction fun hr => ?_
 unfold numD at h
 rw [if_pos hr] at h
 exact hr h
theorem numD_said {L:Nat} {B:Nat→Nat} {r:Rd} (lB:∀ j,B j<256) (s:Nat) (hs:s=1∨s=2) (h:(numD L B (s:Int) r).2.e=0):(numD L B (s:Int) r).2.at_=r.at_+s∧r.at_+s≤L∧∀ j,j<s→B (r.at_+j)=beN (numD L B (s:Int) r).1 s j:=by
 have hr:=numD_stick h
 have hz:szB (s:Int)=true:=by rcases hs with rfl | rfl <;> rfl
 unfold numD at *
 rw [if_neg (fun e=>e hr),if_neg (by rw [hz];decide)] at *
 by_cases h1:(L:Int) - r.at_<(s:Int)
 · rw [if_pos h1] at h;cases h
 · rw [if_neg h1,if_neg (by omega)] at *
   refine ⟨by simp,by omega,fun j hj => ?_⟩
   rw [Int.toNat_natCast]
   exact (be_nbN lB r.at_ s j hj).symm
theorem leaf_said {L:Nat} {B:Nat→Nat} {r:Rd} (lB:∀ j,B j<256) (hl:r.at_≤L) (h:(rl L B r 6).2.e=0):r.e=0∧(rl L B r 6).2.at_=r.at_+lfLen (rl L B r 6).1∧(rl L B r 6).2.at_≤L∧∀ k,k<6→∀ j,j<lfN (rl L B r 6).1 k→B (r.at_+sumN (lfN (rl L B r 6).1) k+j)=lfB (rl L B r 6).1 k j:=by
 -- the first four fields,whatever comes behind them
 have key:(rl L B r 4).2.e=0→r.e=0∧(rl L B r 4).2.at_=r.at_+(vcL (vx L B r).n+vcL (vx L B (rl L B r 1).2).n+vcL (vx L B (rl L B r 2).2).n+1)∧(rl L B r 4).2.at_≤L∧(∀ j,j<vcL (vx L B r).n→B (r.at_+j)=vcB (vx L B r).n (vx L B r).b j)∧(∀ j,j<vcL (vx L B (rl L B r 1).2).n→B (r.at_+vcL (vx L B r).n+j)=vcB (vx L B (rl L B r 1).2).n (vx L B (rl L B r 1).2).b j)∧(∀ j,j<vcL (vx L B (rl L B r 2).2).n→B (r.at_+(vcL (vx L B r).n+vcL (vx L B (rl L B r 1).2).n)+j)=vcB (vx L B (rl L B r 2).2).n (vx L B (rl L B r 2).2).b j)∧∀ j,j<1→B (r.at_+(vcL (vx L B r).n+vcL (vx L B (rl L B r 1).2).n+vcL (vx L B (rl L B r 2).2).n)+j)=beN (numD L B 1 (rl L B r 3).2).1 1 j:=fun h4=>by
  have z3:(rl L B r 3).2.e=0:=numD_stick h4
  have z2:(rl L B r 2).2.e=0:=vecD_stick z3
  have z1:(rl L B r 1).2.e=0:=vecD_stick z2
  have z0:r.e=0:=vecD_stick z1
  obtain ⟨a1,a2,a3,a4⟩:=vecD_said lB z0 hl z1
  obtain ⟨b1,b2,b3,b4⟩:=vecD_said lB z1 a3 z2
  obtain ⟨c1,c2,c3,c4⟩:=vecD_said lB z2 b3 z3
  obtain ⟨d1,d2,d3⟩:=numD_said lB 1 (.inl rfl) h4
  have A:(rl L B r 1).2.at_=r.at_+vcL (vx L B r).n:=a2
  have Bb:(rl L B r 2).2.at_=r.at_+(vcL (vx L B r).n+vcL (vx L B (rl L B r 1).2).n):=by
   have e:(rl L B r 2).2.at_=(rl L B r 1).2.at_+vcL (vx L B (rl L B r 1).2).n:=b2
   omega
  have Cc:(rl L B r 3).2.at_=r.at_+(vcL (vx L B r).n+vcL (vx L B (rl L B r 1).2).n+vcL (vx L B (rl L B r 2).2).n):=by
   have e:(rl L B r 3).2.at_=(rl L B r 2).2.at_+vcL (vx L B (rl L B r 2).2).n:=c2
   omega
  have D:(rl L B r 4).2.at_=(rl L B r 3).2.at_+1:=d1
  refine ⟨z0,by omega,?_,a4,fun j hj => ?_,fun j hj => ?_,fun j hj => ?_⟩
  · have:(rl L B r 3).2.at_+1≤L:=d2
    omega
  · rw [←A];exact b4 j hj
  · rw [←Bb];exact c4 j hj
  · rw [←Cc];exact d3 j hj
 by_cases hs:(((numD L B 1 (rl L B r 3).2).1:Nat):Int)=3
 · rw [rl6_3 hs] at h ⊢
   have z5:(vecD L B (rl L B r 4).2).2.e=0:=vecD_stick h
   have z4:(rl L B r 4).2.e=0:=vecD_stick z5
   obtain ⟨z0,k1,k2,k3,k4,k5,k6⟩:=key z4
   obtain ⟨a1,a2,a3,a4⟩:=vecD_said lB z4 k2 z5
   obtain ⟨b1,b2,b3,b4⟩:=vecD_said lB z5 a3 h
   have n4:∀ (e s n ha g:Tx),lfN ⟨e,s,n,(((numD L B 1 (rl L B r 3).2).1:Nat):Int),ha,g⟩ 4=vcL ha.n:=fun e s n ha g=>if_pos hs
   refine ⟨z0,?_,b3,fun k hk j hj => ?_⟩
   · show _=r.at_+(0+vcL _+vcL _+vcL _+1+(if _ then vcL _ else 0)+vcL _)
     rw [if_pos hs,b2,a2,k1]
     show _=r.at_+(0+vcL (vx L B r).n+vcL (vx L B (rl L B r 1).2).n+vcL (vx L B (rl L B r 2).2).n+1+vcL (vecD L B (rl L B r 4).2).1+vcL (vecD L B (vecD L B (rl L B r 4).2).2).1)
     omega
   · match k,hk with
     | 0,_=>exact k3 j hj
     | 1,_=>show B (r.at_+(0+vcL (vx L B r).n)+j)=_;rw [Nat.zero_add];exact k4 j hj
     | 2,_=>show B (r.at_+(0+vcL (vx L B r).n+vcL (vx L B (rl L B r 1).2).n)+j)=_;rw [Nat.zero_add];exact k5 j hj
     | 3,_=>show B (r.at_+(0+vcL (vx L B r).n+vcL (vx L B (rl L B r 1).2).n+vcL (vx L B (rl L B r 2).2).n)+j)=_;rw [Nat.zero_add];exact k6 j hj
     | 4,_ =>
      rw [n4] at hj
      have:=a4 j hj
      rw [k1] at this
      show B (r.at_+(0+vcL (vx L B r).n+vcL (vx L B (rl L B r 1).2).n+vcL (vx L B (rl L B r 2).2).n+1)+j)=_
      rw [Nat.zero_add]
      exact this
     | 5,_ =>
      have:=b4 j hj
      rw [a2,k1] at this
      show B (r.at_+(0+vcL (vx L B r).n+vcL (vx L B (rl L B r 1).2).n+vcL (vx L B (rl L B r 2).2).n+1+(if (((numD L B 1 (rl L B r 3).2).1:Nat):Int)=3 then vcL (vx L B (rl L B r 4).2).n else 0))+j)=_
      rw [if_pos hs,Nat.zero_add,←Nat.add_assoc r.at_]
      exact this
     | k+6,hk=>omega
 · rw [rl6_0 hs] at h ⊢
   have z4:(rl L B r 4).2.e=0:=vecD_stick h
   obtain ⟨z0,k1,k2,k3,k4,k5,k6⟩:=key z4
   obtain ⟨b1,b2,b3,b4⟩:=vecD_said lB z4 k2 h
   refine ⟨z0,?_,b3,fun k hk j hj => ?_⟩
   · show _=r.at_+(0+vcL _+vcL _+vcL _+1+(if _ then vcL _ else 0)+vcL _)
     rw [if_neg hs,b2,k1]
     show _=r.at_+(0+vcL (vx L B r).n+vcL (vx L B (rl L B r 1).2).n+vcL (vx L B (rl L B r 2).2).n+1+0+vcL (vecD L B (rl L B r 4).2).1)
     omega
   · match k,hk with
     | 0,_=>exact k3 j hj
     | 1,_=>show B (r.at_+(0+vcL (vx L B r).n)+j)=_;rw [Nat.zero_add];exact k4 j hj
     | 2,_=>show B (r.at_+(0+vcL (vx L B r).n+vcL (vx L B (rl L B r 1).2).n)+j)=_;rw [Nat.zero_add];exact k5 j hj
     | 3,_=>show B (r.at_+(0+vcL (vx L B r).n+vcL (vx L B (rl L B r 1).2).n+vcL (vx L B (rl L B r 2).2).n)+j)=_;rw [Nat.zero_add];exact k6 j hj
     | 4,_ =>
      have e:(if (((numD L B 1 (rl L B r 3).2).1:Nat):Int)=3 then vcL tx0.n else 0)=0:=if_neg hs
      replace hj:j<(if (((numD L B 1 (rl L B r 3).2).1:Nat):Int)=3 then vcL tx0.n else 0):=hj
      rw [e] at hj
      omega
     | 5,_ =>
      have:=b4 j hj
      rw [k1] at this
      show B (r.at_+(0+vcL (vx L B r).n+vcL (vx L B (rl L B r 1).2).n+vcL (vx L B (rl L B r 2).2).n+1+(if (((numD L B 1 (rl L B r 3).2).1:Nat):Int)=3 then vcL tx0.n else 0))+j)=_
      rw [if_neg hs,Nat.zero_add,Nat.add_zero]
      exact this
     | k+6,hk=>omega
end Go.Proofs.Ytgdcmibdjiaofaa
namespace Go.Proofs.Ytgdcmibdjiaofaa
open Go.RowKit
theorem end_of {L:Nat} {r:Rd} (h:endD L r=0):r.e=0∧L≤r.at_:=by
 unfold endD at h
 by_cases c:r.e=0∧r.at_<L
 · rw [if_pos c] at h;cases h
 · rw [if_neg c] at h;exact ⟨h,Nat.le_of_not_lt fun e=>c ⟨h,e⟩⟩
theorem end_at (L:Nat):endD L ⟨L,0⟩=0:=by unfold endD;rw [if_neg (fun e=>Nat.lt_irrefl _ e.2)]
theorem getLeaf_back {d:LfD} (hR:lfR d 3) (hk:lfK d):(getD13 (lfLen d) (lfByt d)).like d∧lfR (getD13 (lfLen d) (lfByt d)) 3∧getE13 (lfLen d) (lfByt d)=0:=by
 have h:=leaf_back (L:=lfLen d) (B:=lfByt d) (a:=0) (fun j=>allB_lt (lfB_lt hk) 6 j) d hR (by omega) (fun k hk j hj=>by rw [Nat.zero_add];exact allB_at _ _ hk hj)
 refine ⟨h.1,h.1.right hR,?_⟩
 show endD (lfLen d) (rl (lfLen d) (lfByt d) ⟨0,0⟩ 6).2=0
 rw [h.2,Nat.zero_add]
 exact end_at _
theorem putLeaf_back {L:Nat} {B:Nat→Nat} (lB:∀ j,B j<256) (h:getE13 L B=0):lfLen (getD13 L B)=L∧∀ j,j<L→lfByt (getD13 L B) j=B j:=by
 obtain ⟨h1,h2⟩:=end_of h
 obtain ⟨-,a,b,c⟩:=leaf_said (L:=L) (r:=⟨0,0⟩) lB (Nat.zero_le _) h1
 have hl:lfLen (getD13 L B)=L:=by
  have:(rl L B ⟨0,0⟩ 6).2.at_=0+lfLen (getD13 L B):=a
  omega
 refine ⟨hl,fun j hj => ?_⟩
 refine (allB_of (X:=B) (pn:=lfN (getD13 L B)) (pb:=lfB (getD13 L B)) (cnt:=6) (fun k hk j hj => ?_) j (show j<lfLen (getD13 L B) by omega)).symm
 have:=c k hk j hj
 rw [Nat.zero_add] at this
 exact this
theorem vecD_at {L:Nat} {B:Nat→Nat} {r:Rd} (h:r.at_≤L) (lB:∀ j,B j<256):(vecD L B r).2.at_≤L:=by
 by_cases he:(vecD L B r).2.e=0
 · exact (vecD_said (L:=L) lB (vecD_stick he) h he).2.2.1
 · have key:∀ t:Nat × Rd,¬(if t.2.e≠0 then (0,(⟨r.at_,t.2.e⟩:Rd)) else t).2.e=0→(if t.2.e≠0 then (0,(⟨r.at_,t.2.e⟩:Rd)) else t).2.at_=r.at_:=fun t ht=>by
    by_cases c:t.2.e≠0
    · rw [if_pos c]
    · rw [if_neg c] at ht;exact absurd ht c
   have e:(vecD L B r).2.at_=r.at_:=key _ he
   rw [e];exact h
theorem numD_at {L:Nat} {B:Nat→Nat} {s:Nat} {r:Rd} (h:r.at_≤L):(numD L B (s:Int) r).2.at_≤L:=by
 unfold numD
 split
 · exact h
 · split
   · exact h
   · split
     · exact h
     · split
       · exact h
       · show r.at_+((s:Int)).toNat≤L
         omega
theorem kr3_le (L:Nat) (B:Nat→Nat) (lB:∀ j,B j<256):(kr3 L B ⟨0,0⟩).at_≤L :=
 vecD_at (numD_at (s:=2) (numD_at (s:=2) (Nat.zero_le _))) lB
def PkD.like (a b:PkD):Prop:=a.init.like b.init∧a.leaf.like b.leaf∧a.sg.like b.sg
theorem PkD.like.same {a b:PkD} (h:a.like b):sameK a b:=⟨h.1.2,h.2.1.same,h.2.2.2⟩
theorem getPackage_back {d:PkD} (hR:pkR d) (hk:pkK d):(getK13 (pkLen d) (pkByt d)).like d∧pkR (getK13 (pkLen d) (pkByt d))∧getS13 (pkLen d) (pkByt d):=by
 have lB:∀ j,pkByt d j<256:=fun j=>allB_lt (pkB_lt hk) 10 j
 have hA:∀ k,k<10→∀ j,j<pkN d k→pkByt d (sumN (pkN d) k+j)=pkB d k j:=fun k hk j hj=>allB_at _ _ hk hj
 have hle:∀ k,k≤10→sumN (pkN d) k≤pkLen d:=fun k hk=>sumN_le _ hk
 have s1:sumN (pkN d) 1=2:=rfl
 have s2:sumN (pkN d) 2=4:=rfl
 have s3:sumN (pkN d) 3=sumN (pkN d) 2+vcL d.init.n:=rfl
 have s10:pkLen d=sumN (pkN d) 9+vcL d.sg.n:=rfl
 have s9:=pk_sum9 d
 have g1:=hle 1 (by decide)
 have g2:=hle 2 (by decide)
 have g3:=hle 3 (by decide)
 have g9:=hle 9 (by decide)
 obtain ⟨h0,hL,h9⟩:=hR
 have n1:=numD_back (L:=pkLen d) (B:=pkByt d) (a:=0) (n:=1) (s:=2) (.inr (.inl rfl)) (by decide) (by omega) (fun j hj=>by have:=hA 0 (by decide) j hj;exact this)
 have n2:=numD_back (L:=pkLen d) (B:=pkByt d) (a:=2) (n:=1) (s:=2) (.inr (.inl rfl)) (by decide) (by omega) (fun j hj=>by have:=hA 1 (by decide) j hj;rw [s1] at this;exact this)
 have e1:kr1 (pkLen d) (pkByt d) ⟨0,0⟩=⟨2,0⟩:=by show (numD _ _ ((2:Nat):Int) _).2=_;rw [n1]
 have e2:kr2 (pkLen d) (pkByt d) ⟨0,0⟩=⟨4,0⟩:=by show (numD _ _ ((2:Nat):Int) (kr1 _ _ _)).2=_;rw [e1,n2]
 obtain ⟨v0,r0⟩:=vx_back (L:=pkLen d) (B:=pkByt d) (a:=4) lB d.init (by omega) (by omega) (fun j hj=>by have:=hA 2 (by decide) j hj;rw [s2] at this;exact this)
 have e3:kr3 (pkLen d) (pkByt d) ⟨0,0⟩=⟨sumN (pkN d) 3,0⟩:=by show (vecD _ _ (kr2 _ _ _)).2=_;rw [e2,r0,s3,s2]
 have hlf:=leaf_back (L:=pkLen d) (B:=pkByt d) (a:=sumN (pkN d) 3) lB d.leaf (lf13 hL) (by omega) (fun k hk j hj=>by
  have hp:=pk_leaf d k hk
  have hs:sumN (pkN d) (3+k)=sumN (pkN d) 3+sumN (lfN d.leaf) k:=by
   rw [sumN_shift]
   exact congrArg _ (sumN_congr fun i hi=>(pk_leaf d i (by omega)).1)
  have:=hA (3+k) (by omega) j (by rw [show pkN d (3+k)=lfN d.leaf k from hp.1];exact hj)
  rw [hs] at this
  rw [this]
  exact congrFun hp.2 j)
 have e9:kr9 (pkLen d) (pkByt d) ⟨0,0⟩=⟨sumN (pkN d) 9,0⟩:=by show (rl _ _ (kr3 _ _ _) 6).2=_;rw [e3,hlf.2,s9]
 obtain ⟨v9,r9⟩:=vx_back (L:=pkLen d) (B:=pkByt d) (a:=sumN (pkN d) 9) lB d.sg (by omega) (by omega) (fun j hj=>hA 9 (by decide) j hj)
 have lk:(getK13 (pkLen d) (pkByt d)).like d:=by
  refine ⟨?_,?_,?_⟩
  · show (vx _ _ (kr2 _ _ _)).like _;rw [e2];exact v0
  · show (rl _ _ (kr3 _ _ _) 6).1.like _;rw [e3];exact hlf.1
  · show (vx _ _ (kr9 _ _ _)).like _;rw [e9];exact v9
 refine ⟨lk,⟨by rw [lk.1.1];exact h0,lk.2.1.right hL,by rw [lk.2.2.1];exact h9⟩,?_,?_,?_⟩
 · show (((numD _ _ ((2:Nat):Int) _).1:Nat):Int)=1;rw [n1];rfl
 · show (((numD _ _ ((2:Nat):Int) (kr1 _ _ _)).1:Nat):Int)=1;rw [e1,n2];rfl
 · show endD _ (vecD _ _ (kr9 _ _ _)).2=0
   rw [e9,r9,←s10]
   exact end_at _
theorem putPackage_back {L:Nat} {B:Nat→Nat} (lB:∀ j,B j<256) (h:getS13 L B):pkLen (getK13 L B)=L∧∀ j,j<L→pkByt (getK13 L B) j=B j:=by
 obtain ⟨y1,y2,h⟩:=h
 obtain ⟨z10,h2⟩:=end_of h
 have z9:(kr9 L B ⟨0,0⟩).e=0:=vecD_stick z10
 have z3:(kr3 L B ⟨0,0⟩).e=0:=by
  exact (leaf_said (L:=L) lB (kr3_le L B lB) z9).1
 have z2:(kr2 L B ⟨0,0⟩).e=0:=vecD_stick z3
 have z1:(kr1 L B ⟨0,0⟩).e=0:=numD_stick z2
 obtain ⟨a1,a2,a3⟩:=numD_said (L:=L) (r:=⟨0,0⟩) lB 2 (.inr rfl) z1
 obtain ⟨b1,b2,b3⟩:=numD_said (L:=L) (r:=kr1 L B ⟨0,0⟩) lB 2 (.inr rfl) z2
 have A1:(kr1 L B ⟨0,0⟩).at_=2:=by have:(kr1 L B ⟨0,0⟩).at_=0+2:=a1;omega
 have A2:(kr2 L B ⟨0,0⟩).at_=4:=by have:(kr2 L B ⟨0,0⟩).at_=(kr1 L B ⟨0,0⟩).at_+2:=b1;omega
 obtain ⟨c1,c2,c3,c4⟩:=vecD_said (L:=L) lB z2 (by rw [A2,←show (kr1 L B ⟨0,0⟩).at_+2=4 by omega];exact b2) z3
 obtain ⟨-,d2,d3,d4⟩:=leaf_said (L:=L) (r:=kr3 L B ⟨0,0⟩) lB c3 z9
 obtain ⟨e1,e2,e3,e4⟩:=vecD_said (L:=L) lB z9 d3 z10
 obtain ⟨D,hD⟩:∃ D,D=getK13 L B:=⟨_,rfl⟩
 have di:D.init=vx L B (kr2 L B ⟨0,0⟩):=by rw [hD];rfl
 have dl:D.leaf=(rl L B (kr3 L B ⟨0,0⟩) 6).1:=by rw [hD];rfl
 have dg:D.sg=vx L B (kr9 L B ⟨0,0⟩):=by rw [hD];rfl
 have A3:(kr3 L B ⟨0,0⟩).at_=sumN (pkN D) 3:=by
  have:(kr3 L B ⟨0,0⟩).at_=(kr2 L B ⟨0,0⟩).at_+vcL D.init.n:=by rw [di];exact c2
  show _=0+2+2+vcL D.init.n
  omega
 have A9:(kr9 L B ⟨0,0⟩).at_=sumN (pkN D) 9:=by
  have:(kr9 L B ⟨0,0⟩).at_=(kr3 L B ⟨0,0⟩).at_+lfLen D.leaf:=by rw [dl];exact d2
  rw [pk_sum9]
  omega
 have A10:L=pkLen D:=by
  have h5:(kr10 L B ⟨0,0⟩).at_=(kr9 L B ⟨0,0⟩).at_+vcL D.sg.n:=by rw [dg];exact e2
  have h6:(kr10 L B ⟨0,0⟩).at_≤L:=e3
  show L=sumN (pkN D) 9+vcL D.sg.n
  omega
 rw [←hD]
 refine ⟨A10.symm,fun j hj => ?_⟩
 refine (allB_of (X:=B) (pn:=pkN D) (pb:=pkB D) (cnt:=10) (fun k hk j hj => ?_) j (show j<pkLen D by omega)).symm
 have one2:∀ (z:Int) (m:Nat),((m:Nat):Int)=z→z=1→m=1:=fun z m h1 h2=>by omega
 have m1:(numD L B ((2:Nat):Int) ⟨0,0⟩).1=1:=one2 _ _ rfl y1
 have m2:(numD L B ((2:Nat):Int) (kr1 L B ⟨0,0⟩)).1=1:=one2 _ _ rfl y2
 rw [m1] at a3
 rw [m2] at b3
 have leafk:∀ i,i<6→∀ j,j<lfN D.leaf i→B (sumN (pkN D) (3+i)+j)=lfB D.leaf i j:=fun i hi j hj=>by
  have hs:sumN (pkN D) (3+i)=sumN (pkN D) 3+sumN (lfN D.leaf) i:=by
   rw [sumN_shift]
   exact congrArg _ (sumN_congr fun q hq=>(pk_leaf D q (by omega)).1)
  rw [hs,←A3]
  have:=d4 i hi j (by rw [←dl];exact hj)
  rw [←dl] at this
  exact this
 match k,hk with
 | 0,_ =>
  have:=a3 j hj
  exact this
 | 1,_ =>
  have:=b3 j hj
  rw [A1] at this
  exact this
 | 2,_ =>
  have:=c4 j (by show j<vcL (vx L B (kr2 L B ⟨0,0⟩)).n;rw [←di];exact hj)
  rw [A2] at this
  show B (4+j)=vcB D.init.n D.init.b j
  rw [di]
  exact this
 | 3,_=>exact leafk 0 (by decide) j hj
 | 4,_=>exact leafk 1 (by decide) j hj
 | 5,_=>exact leafk 2 (by decide) j hj
 | 6,_=>exact leafk 3 (by decide) j hj
 | 7,_=>exact leafk 4 (by decide) j hj
 | 8,_=>exact leafk 5 (by decide) j hj
 | 9,_ =>
  have:=e4 j (by show j<vcL (vx L B (kr9 L B ⟨0,0⟩)).n;rw [←dg];exact hj)
  rw [A9] at this
  show B (sumN (pkN D) 9+j)=vcB D.sg.n D.sg.b j
  rw [dg]
  exact this
 | k+10,hk=>omega
end Go.Proofs.Ytgdcmibdjiaofaa
namespace Go.Proofs.Ytgdcmibdjiaofaa
open Go.RowKit
theorem vx_bytes {L:Nat} {B:Nat→Nat} {a:Nat} (lB:∀ j,B j<256) (t:Tx) (hn:t.n≤65536) (hL:a+vcL t.n≤L) (h:∀ j,j<vcL t.n→B (a+j)=vcB t.n t.b j):∀ j,j<t.n→(vx L B ⟨a,0⟩).b j=t.b j:=fun j hj=>by
 obtain ⟨h1,h2,h3⟩:=vecD_back lB hn hL h
 show B ((lenD L B ⟨a,0⟩).2.at_+j)=t.b j
 rw [h2]
 exact h3 j hj
theorem um_back {C:Nat→Nat} {l:List Int} (hr:risU l l.length=true) (h:∀ j,j<4*l.length→C j=umB l l.length j):l4 C l.length=l:=by
 refine List.ext_getElem (by rw [l4_len]) fun i h1 h2 => ?_
 have hz:=risU_at hr h2
 have e:zat l i=l[i]:=by simp [zat,h2]
 have hb:∀ j,j<4→C (4*i+j)=beN (zat l i).toNat 4 j:=fun j hj=>by
  rw [h (4*i+j) (by omega)]
  have:=allB_at (fun _=>4) (fun i=>beN (zat l i).toNat 4) (k:=i) (cnt:=l.length) h2 (j:=j) hj
  rw [umL] at this
  exact this
 have hn:=nbN_be hb (show (zat l i).toNat<4294967296 by omega) 4 (Nat.le_refl _)
 have e4:nbN C (4*i) 4=(zat l i).toNat:=by rw [hn];simp
 have e5:(l4 C l.length)[i]=((nbN C (4*i) 4:Nat):Int):=by simp [l4]
 rw [e5,e4,←e]
 omega
theorem getParent_back {d:PrD} (hR:prR d) (hk:prK d):sameP (getP13 (prLen d) (prByt d)) d∧prR (getP13 (prLen d) (prByt d))∧getQ13 (prLen d) (prByt d):=by
 have lB:∀ j,prByt d j<256:=fun j=>allB_lt (prB_lt hk) 3 j
 have hA:∀ k,k<3→∀ j,j<prN d k→prByt d (sumN (prN d) k+j)=prB d k j:=fun k hk j hj=>allB_at _ _ hk hj
 have hle:∀ k,k≤3→sumN (prN d) k≤prLen d:=fun k hk=>sumN_le _ hk
 obtain ⟨h0,h1,h2⟩:=hR
 have h64:=risU_len h2
 have s0:sumN (prN d) 0=0:=rfl
 have s1:sumN (prN d) 1=sumN (prN d) 0+vcL d.enc.n:=rfl
 have s2:sumN (prN d) 2=sumN (prN d) 1+vcL d.hash.n:=rfl
 have s3:prLen d=sumN (prN d) 2+vcL (4*d.um.length):=rfl
 have g1:=hle 1 (by decide)
 have g2:=hle 2 (by decide)
 obtain ⟨v0,r0⟩:=vx_back (L:=prLen d) (B:=prByt d) (a:=sumN (prN d) 0) lB d.enc (by omega) (by omega) (hA 0 (by decide))
 obtain ⟨v1,r1⟩:=vx_back (L:=prLen d) (B:=prByt d) (a:=sumN (prN d) 1) lB d.hash (by omega) (by omega) (hA 1 (by decide))
 obtain ⟨v2,r2⟩:=vx_back (L:=prLen d) (B:=prByt d) (a:=sumN (prN d) 2) lB ⟨4*d.um.length,umB d.um d.um.length⟩ (show 4*d.um.length≤_ by omega) (show _+vcL (4*d.um.length)≤_ by omega) (hA 2 (by decide))
 have w2:=vx_bytes (L:=prLen d) (B:=prByt d) (a:=sumN (prN d) 2) lB ⟨4*d.um.length,umB d.um d.um.length⟩ (show 4*d.um.length≤_ by omega) (show _+vcL (4*d.um.length)≤_ by omega) (hA 2 (by decide))
 have e1:(rp (prLen d) (prByt d) ⟨0,0⟩ 1).2=⟨sumN (prN d) 1,0⟩:=r0
 have e2:(rp (prLen d) (prByt d) ⟨0,0⟩ 2).2=⟨sumN (prN d) 2,0⟩:=by
  show (vecD _ _ (rp _ _ _ 1).2).2=_
  rw [e1,r1,s2]
 have e3:(rp (prLen d) (prByt d) ⟨0,0⟩ 3).2=⟨prLen d,0⟩:=by
  show (vecD _ _ (rp _ _ _ 2).2).2=_
  rw [e2,r2,s3]
 have hn:(vx (prLen d) (prByt d) (rp (prLen d) (prByt d) ⟨0,0⟩ 2).2).n=4*d.um.length:=by rw [e2];exact v2.1
 have hum:(getP13 (prLen d) (prByt d)).um=d.um:=by
  show l4 (vx _ _ (rp _ _ _ 2).2).b ((vx _ _ (rp _ _ _ 2).2).n / 4)=_
  rw [hn,show 4*d.um.length / 4=d.um.length by omega,e2]
  exact um_back h2 w2
 have hhash:(getP13 (prLen d) (prByt d)).hash.like d.hash:=by
  show (vx _ _ (rp _ _ _ 1).2).like _
  rw [e1];exact v1
 have henc:(getP13 (prLen d) (prByt d)).enc.like d.enc:=v0
 refine ⟨⟨henc.2,hhash.2,hum⟩,⟨by rw [henc.1];exact h0,by rw [hhash.1];exact h1,by rw [hum];exact h2⟩,?_,?_⟩
 · rw [hn];omega
 · rw [e3];exact end_at _
end Go.Proofs.Ytgdcmibdjiaofaa
namespace Go.Proofs.Ytgdcmibdjiaofaa
open Go.RowKit
theorem PutA.two {R:Prop} {n:Nat} {b:Nat→Nat} {e:Ending} {w:World} (h:PutA R n b e w):∃ x m c z,e = .returned (.tuple #[.slice x m c,.int .i64 z])∧(z=1∨z=0∧R∧BytesIn w (.slice x m c) n b):=by
 unfold PutA at h
 split at h
 · rename_i hR
   obtain ⟨s,rfl,hs⟩:=h
   have hs':=hs
   obtain ⟨x,c,rfl,-⟩:=hs.src
   exact ⟨x,n,c,0,rfl,.inr ⟨rfl,hR,hs'⟩⟩
 · exact ⟨none,0,0,1,h,.inl rfl⟩
theorem lfLen_small {d:LfD} (hR:lfR d 3):lfLen d<1000:=by
 obtain ⟨h0,h1,h2,h3,h4,h5⟩:=hR
 have a:=lnS_pos d.enc.n
 have b:=lnS_pos d.sig.n
 have c:=lnS_pos d.name.n
 have e:=lnS_pos d.hash.n
 have f:=lnS_pos d.sg.n
 show 0+(lnS d.enc.n+d.enc.n)+(lnS d.sig.n+d.sig.n)+(lnS d.name.n+d.name.n)+1+(if d.src=3 then lnS d.hash.n+d.hash.n else 0)+(lnS d.sg.n+d.sg.n)<_
 split at h4 <;> rename_i hs
 · rw [if_pos hs];omega
 · rw [if_neg hs];omega
theorem lfLen_lt {d:LfD} (hR:lfR d 3):lfLen d<140737488355000:=Nat.lt_trans (lfLen_small hR) (by decide)
theorem getL_ok {d:LfD} (hk:lfK d) (hR:lfR d 3):∃ dg,lfK dg∧sameL dg d=true∧∀ W u,BytesIn W u (lfLen d) (lfByt d)→Calls Try.prog 13 #[u] W fun e w'=>Below W.heap.size W w'∧∃ cs,e = .returned (.tuple #[.agg cs.toArray,.int .i64 0])∧LfIn w' cs dg:=by
 have lB:∀ j,lfByt d j<256:=fun j=>allB_lt (lfB_lt hk) 6 j
 have hL:=getLeaf_back hR hk
 refine ⟨getD13 (lfLen d) (lfByt d),rl_K lB _ 6,hL.1.same,fun W u hu=>(getLeaf_any u _ _ lB (lfLen_lt hR) W hu).mono fun e w' ⟨h1,h2⟩=>⟨h1,?_⟩⟩
 unfold GetA at h2
 rw [if_pos hL.2] at h2
 exact h2
theorem getL_put {n:Nat} {bs:Nat→Nat} (lb:∀ j,bs j<256) (hn:n<140737488355000) (W:World) (u:Value) (hu:BytesIn W u n bs):Calls Try.prog 13 #[u] W fun e w'=>Below W.heap.size W w'∧∃ cs dx z,e = .returned (.tuple #[.agg cs.toArray,.int .i64 z])∧LfIn w' cs dx∧(z=21∨z=0∧∀ W' cs',LfIn W' cs' dx→Calls Try.prog 11 #[.agg cs'.toArray] W' fun e w''=>Below W'.heap.size W' w''∧∃ x m c,e = .returned (.tuple #[.slice x m c,.int .i64 0])∧Cv w'' (.slice x m c) (strB n bs)):=by
 refine (getLeaf_any u n bs lb hn W hu).mono fun e w' ⟨h1,h2⟩=>⟨h1,?_⟩
 unfold GetA at h2
 split at h2
 · rename_i hR
   obtain ⟨cs,rfl,hc⟩:=h2
   refine ⟨cs,(getD13 n bs),0,rfl,hc,.inr ⟨rfl,fun W' cs' hi=>(putLeaf_any _ _ W' hi).mono fun e w'' ⟨k1,k2⟩=>⟨k1,?_⟩⟩⟩
   have hk:lfK (getD13 n bs):=rl_K lb _ 6
   have hb:=putLeaf_back lb hR.2
   unfold PutA at k2
   rw [if_pos hR.1] at k2
   obtain ⟨s,rfl,hs⟩:=k2
   obtain ⟨x,c,rfl,-⟩:=hs.src
   refine ⟨x,_,c,rfl,fun V hV => ?_⟩
   rw [hs.conv (fun j=>allB_lt (lfB_lt hk) 6 j) V hV,hb.1,strB_congr hb.2]
 · exact ⟨zeroL,lf0,21,h2,zeroL_in w',.inl rfl⟩
theorem prLen_lt {d:PrD} (hR:prR d) (hl:prL d):prLen d<140737488355000:=by
 obtain ⟨h0,h1,-⟩:=hR
 obtain ⟨-,-,h2⟩:=hl
 have a:=lnS_pos d.enc.n
 have b:=lnS_pos d.hash.n
 have c:=lnS_pos (4*d.um.length)
 show 0+(lnS d.enc.n+d.enc.n)+(lnS d.hash.n+d.hash.n)+(lnS (4*d.um.length)+4*d.um.length)<_
 omega
theorem getP_ok {d:PrD} (hk:prK d) (hl:prL d) (hR:prR d):∃ dg,prK dg∧sameP dg d∧dg.um.length<140737488355000∧∀ W u,BytesIn W u (prLen d) (prByt d)→Calls Try.prog 22 #[u] W fun e w'=>Below W.heap.size W w'∧∃ cs,e = .returned (.tuple #[.agg cs.toArray,.int .i64 0])∧PrIn w' cs dg:=by
 have lB:∀ j,prByt d j<256:=fun j=>allB_lt (prB_lt hk) 3 j
 have hL:=getParent_back hR hk
 refine ⟨getP13 (prLen d) (prByt d),⟨fun j=>lB _,fun j=>lB _⟩,hL.1,rp_len (prLen d) (prByt d) ⟨0,0⟩ 3 (by decide),fun W u hu=>(getParent_any u _ _ lB (prLen_lt hR hl) W hu).mono fun e w' ⟨h1,h2⟩=>⟨h1,?_⟩⟩
 unfold GetA at h2
 rw [if_pos hL.2] at h2
 exact h2
theorem pkLen_lt {d:PkD} (hR:pkR d):pkLen d<140737488355000:=by
 obtain ⟨h0,h1,h2⟩:=hR
 have a:=lnS_pos d.init.n
 have b:=lnS_pos d.sg.n
 have c:=pk_sum9 d
 have e:=lfLen_lt (lf13 h1)
 have g:lfLen d.leaf<1000:=lfLen_small (lf13 h1)
 have s3:sumN (pkN d) 3=0+2+2+(lnS d.init.n+d.init.n):=rfl
 show sumN (pkN d) 9+(lnS d.sg.n+d.sg.n)<_
 omega
theorem getK_ok {d:PkD} (hk:pkK d) (hR:pkR d):∃ dg,pkK dg∧sameK dg d∧∀ W u,BytesIn W u (pkLen d) (pkByt d)→Calls Try.prog 28 #[u] W fun e w'=>Below W.heap.size W w'∧∃ cs,e = .returned (.tuple #[.agg cs.toArray,.int .i64 0])∧PkIn w' cs dg:=by
 have lB:∀ j,pkByt d j<256:=fun j=>allB_lt (pkB_lt hk) 10 j
 have hL:=getPackage_back hR hk
 refine ⟨getK13 (pkLen d) (pkByt d),⟨fun j=>lB _,rl_K lB _ 6,fun j=>lB _⟩,hL.1.same,fun W u hu=>(getPackage_any u _ _ lB (pkLen_lt hR) W hu).mono fun e w' ⟨h1,h2⟩=>⟨h1,?_⟩⟩
 unfold GetA at h2
 rw [if_pos hL.2] at h2
 exact h2
theorem getK_put {n:Nat} {bs:Nat→Nat} (lb:∀ j,bs j<256) (hn:n<140737488355000) (W:World) (u:Value) (hu:BytesIn W u n bs):Calls Try.prog 28 #[u] W fun e w'=>Below W.heap.size W w'∧∃ cs dx z,e = .returned (.tuple #[.agg cs.toArray,.int .i64 z])∧PkIn w' cs dx∧(z=21∨z=0∧∀ W' cs',PkIn W' cs' dx→Calls Try.prog 26 #[.agg cs'.toArray] W' fun e w''=>Below W'.heap.size W' w''∧∃ x m c,e = .returned (.tuple #[.slice x m c,.int .i64 0])∧Cv w'' (.slice x m c) (strB n bs)):=by
 refine (getPackage_any u n bs lb hn W hu).mono fun e w' ⟨h1,h2⟩=>⟨h1,?_⟩
 unfold GetA at h2
 split at h2
 · rename_i hR
   obtain ⟨cs,rfl,hc⟩:=h2
   refine ⟨cs,(getK13 n bs),0,rfl,hc,.inr ⟨rfl,fun W' cs' hi=>(putPackage_any _ _ W' hi).mono fun e w'' ⟨k1,k2⟩=>⟨k1,?_⟩⟩⟩
   have hk:pkK (getK13 n bs):=⟨fun j=>lb _,rl_K lb _ 6,fun j=>lb _⟩
   have hb:=putPackage_back lb hR.2
   unfold PutA at k2
   rw [if_pos hR.1] at k2
   obtain ⟨s,rfl,hs⟩:=k2
   obtain ⟨x,c,rfl,-⟩:=hs.src
   refine ⟨x,_,c,rfl,fun V hV => ?_⟩
   rw [hs.conv (fun j=>allB_lt (pkB_lt hk) 10 j) V hV,hb.1,strB_congr hb.2]
 · exact ⟨zeroK,pk0,21,h2,zeroK_in w',.inl rfl⟩
end Go.Proofs.Ytgdcmibdjiaofaa
namespace Go.Proofs.Ytgdcmibdjiaofaa
open Go.RowKit
set_option maxRecDepth 20000 in
set_option maxHeartbeats 2000000 in
theorem nodesBack_any (cs:List Value) (d:LfD) (ps:List Value) (p:PrD) (ks:List Value) (q:PkD) (v:Value) (n:Nat) (bs:Nat→Nat) (hk0:lfK d) (hl0:lfL d) (hk1:prK p) (hl1:prL p) (hk2:pkK q) (hl2:pkL q) (lb:∀ j,bs j<256) (hn:n<140737488355000) (w:World) (hd:LfIn w cs d) (hp:PrIx w ps p) (hq:PkIn w ks q) (hv:BytesIn w v n bs) :
 Calls Try.prog 7 #[.agg cs.toArray,.agg ps.toArray,.agg ks.toArray,v] w fun e w'=>e = .returned (.bool true)∧Below w.heap.size w w':=by
 have hl8:p.um.length<140737488355000:=by have:=hl1.2.2;omega
 have hd':=hd
 have hp':=hp
 have hq':=hq
 obtain ⟨ax0,ac0,ax1,ac1,ax2,ac2,ax4,ac4,ax5,ac5,rfl,-⟩:=hd.form
 obtain ⟨bx0,bc0,bx1,bc1,bx2,bc2,rfl⟩:=hp.prin.form
 obtain ⟨kx0,kc0,kx1,kc1,kx2,kc2,kx3,kc3,kx5,kc5,kx6,kc6,kx7,kc7,rfl⟩:=hq.form8
 clear hd hp hq
 have k0:=RW.fresh w [.slice ax0 d.enc.n ac0,.slice ax1 d.sig.n ac1,.slice ax2 d.name.n ac2,.int .i64 d.src,.slice ax4 d.hash.n ac4,.slice ax5 d.sg.n ac5] 24
 have b0:Below w.heap.size w (w.alloc (.cells #[.slice ax0 d.enc.n ac0,.slice ax1 d.sig.n ac1,.slice ax2 d.name.n ac2,.int .i64 d.src,.slice ax4 d.hash.n ac4,.slice ax5 d.sg.n ac5] 24)):=(Below.refl _ _).alloc (Nat.le_refl _) _
 have s0:(w.alloc (.cells #[.slice ax0 d.enc.n ac0,.slice ax1 d.sig.n ac1,.slice ax2 d.name.n ac2,.int .i64 d.src,.slice ax4 d.hash.n ac4,.slice ax5 d.sg.n ac5] 24)).heap.size=w.heap.size+1:=by simp
 obtain ⟨W1,hW0⟩:∃ WW,WW=w.alloc (.cells #[.slice ax0 d.enc.n ac0,.slice ax1 d.sig.n ac1,.slice ax2 d.name.n ac2,.int .i64 d.src,.slice ax4 d.hash.n ac4,.slice ax5 d.sg.n ac5] 24):=⟨_,rfl⟩
 rw [show w.alloc (.cells [.slice ax0 d.enc.n ac0,.slice ax1 d.sig.n ac1,.slice ax2 d.name.n ac2,.int .i64 d.src,.slice ax4 d.hash.n ac4,.slice ax5 d.sg.n ac5].toArray 24)=W1 from hW0.symm] at k0
 rw [←hW0] at b0 s0
 have k1:=RW.fresh W1 [.slice bx0 p.enc.n bc0,.slice bx1 p.hash.n bc1,.slice bx2 p.um.length bc2] 44
 have b1:Below W1.heap.size W1 (W1.alloc (.cells #[.slice bx0 p.enc.n bc0,.slice bx1 p.hash.n bc1,.slice bx2 p.um.length bc2] 44)):=(Below.refl _ _).alloc (Nat.le_refl _) _
 have s1:(W1.alloc (.cells #[.slice bx0 p.enc.n bc0,.slice bx1 p.hash.n bc1,.slice bx2 p.um.length bc2] 44)).heap.size=W1.heap.size+1:=by simp
 obtain ⟨W2,hW1⟩:∃ WW,WW=W1.alloc (.cells #[.slice bx0 p.enc.n bc0,.slice bx1 p.hash.n bc1,.slice bx2 p.um.length bc2] 44):=⟨_,rfl⟩
 rw [show W1.alloc (.cells [.slice bx0 p.enc.n bc0,.slice bx1 p.hash.n bc1,.slice bx2 p.um.length bc2].toArray 44)=W2 from hW1.symm] at k1
 rw [←hW1] at b1 s1
 have k2:=RW.fresh W2 [.slice kx0 q.init.n kc0,.slice kx1 q.leaf.enc.n kc1,.slice kx2 q.leaf.sig.n kc2,.slice kx3 q.leaf.name.n kc3,.int .i64 q.leaf.src,.slice kx5 q.leaf.hash.n kc5,.slice kx6 q.leaf.sg.n kc6,.slice kx7 q.sg.n kc7] 56
 have b2:Below W2.heap.size W2 (W2.alloc (.cells #[.slice kx0 q.init.n kc0,.slice kx1 q.leaf.enc.n kc1,.slice kx2 q.leaf.sig.n kc2,.slice kx3 q.leaf.name.n kc3,.int .i64 q.leaf.src,.slice kx5 q.leaf.hash.n kc5,.slice kx6 q.leaf.sg.n kc6,.slice kx7 q.sg.n kc7] 56)):=(Below.refl _ _).alloc (Nat.le_refl _) _
 have s2:(W2.alloc (.cells #[.slice kx0 q.init.n kc0,.slice kx1 q.leaf.enc.n kc1,.slice kx2 q.leaf.sig.n kc2,.slice kx3 q.leaf.name.n kc3,.int .i64 q.leaf.src,.slice kx5 q.leaf.hash.n kc5,.slice kx6 q.leaf.sg.n kc6,.slice kx7 q.sg.n kc7] 56)).heap.size=W2.heap.size+1:=by simp
 obtain ⟨W0,hW2⟩:∃ WW,WW=W2.alloc (.cells #[.slice kx0 q.init.n kc0,.slice kx1 q.leaf.enc.n kc1,.slice kx2 q.leaf.sig.n kc2,.slice kx3 q.leaf.name.n kc3,.int .i64 q.leaf.src,.slice kx5 q.leaf.hash.n kc5,.slice kx6 q.leaf.sg.n kc6,.slice kx7 q.sg.n kc7] 56):=⟨_,rfl⟩
 rw [show W2.alloc (.cells [.slice kx0 q.init.n kc0,.slice kx1 q.leaf.enc.n kc1,.slice kx2 q.leaf.sig.n kc2,.slice kx3 q.leaf.name.n kc3,.int .i64 q.leaf.src,.slice kx5 q.leaf.hash.n kc5,.slice kx6 q.leaf.sg.n kc6,.slice kx7 q.sg.n kc7].toArray 56)=W0 from hW2.symm] at k2
 rw [←hW2] at b2 s2
 rw [s0] at k1
 rw [s1,s0] at k2
 have HW0:Hid (W0=((w.alloc (.cells #[.slice ax0 d.enc.n ac0,.slice ax1 d.sig.n ac1,.slice ax2 d.name.n ac2,.int .i64 d.src,.slice ax4 d.hash.n ac4,.slice ax5 d.sg.n ac5] 24)).alloc (.cells #[.slice bx0 p.enc.n bc0,.slice bx1 p.hash.n bc1,.slice bx2 p.um.length bc2] 44)).alloc (.cells #[.slice kx0 q.init.n kc0,.slice kx1 q.leaf.enc.n kc1,.slice kx2 q.leaf.sig.n kc2,.slice kx3 q.leaf.name.n kc3,.int .i64 q.leaf.src,.slice kx5 q.leaf.hash.n kc5,.slice kx6 q.leaf.sg.n kc6,.slice kx7 q.sg.n kc7] 56)):=Hid.mk' (by rw [hW2,hW1,hW0])
 have bW:=below_next b0 (below_next b1 b2)
 have HD0:=Hid.mk' (hd'.keep bW)
 have HD1:=Hid.mk' (hp'.keep bW)
 have HD2:=Hid.mk' (hq'.keep bW)
 have HV:=Hid.mk' (hv.keep bW)
 have VV:Hid (∀ W,Below W0.heap.size W0 W→(convert 22 9 v).run Try.prog W = .ok (.string (strB n bs)) W):=Hid.mk' fun W hW=>HV.out.conv lb W hW
 have K0:=Hid.mk' (k0.still (below_next b1 b2))
 have K1:=Hid.mk' (k1.still b2)
 have K2:=Hid.mk' k2
 have CM0:=Hid.mk' (fun W' hb=>mkLeaf_any _ d hl0 W' (HD0.out.keep (w':=W') hb))
 have CM1:=Hid.mk' (fun W' hb=>mkParent_any _ p hl1 W' (HD1.out.keep (w':=W') hb))
 have CM2:=Hid.mk' (fun W' hb=>mkPackage_any _ q hl2 W' (HD2.out.keep (w':=W') hb))
 have CP0:Hid (∀ W cs,LfIn W cs d→Calls Try.prog 11 #[.agg cs.toArray] W fun e w'=>Below W.heap.size W w'∧∃ x m c z,e = .returned (.tuple #[.slice x m c,.int .i64 z])∧(z=1∨z=0∧lfR d 3∧BytesIn w' (.slice x m c) (lfLen d) (lfByt d))):=Hid.mk' fun W cs hi=>(putLeaf_any _ d W hi).mono fun e w' ⟨h1,h2⟩=>⟨h1,h2.two⟩
 have CP1:Hid (∀ W cs,PrIn W cs p→Calls Try.prog 20 #[.agg cs.toArray] W fun e w'=>Below W.heap.size W w'∧∃ x m c z,e = .returned (.tuple #[.slice x m c,.int .i64 z])∧(z=1∨z=0∧prR p∧BytesIn w' (.slice x m c) (prLen p) (prByt p))):=Hid.mk' fun W cs hi=>(putParent_any _ p W hi hl8).mono fun e w' ⟨h1,h2⟩=>⟨h1,h2.two⟩
 have CP2:Hid (∀ W cs,PkIn W cs q→Calls Try.prog 26 #[.agg cs.toArray] W fun e w'=>Below W.heap.size W w'∧∃ x m c z,e = .returned (.tuple #[.slice x m c,.int .i64 z])∧(z=1∨z=0∧pkR q∧BytesIn w' (.slice x m c) (pkLen q) (pkByt q))):=Hid.mk' fun W cs hi=>(putPackage_any _ q W hi).mono fun e w' ⟨h1,h2⟩=>⟨h1,h2.two⟩
 have CGL:=Hid.mk' (fun W u hu=>getL_put lb hn W u hu)
 have CGK:=Hid.mk' (fun W u hu=>getK_put lb hn W u hu)
 obtain ⟨xv,cv,hvx,-⟩:=hv.src
 clear hW0 hW1 hW2 k0 k1 k2 s0 s1 s2 hd' hp' hq' hv b0 b1 b2 hl8
 subst hvx
 have bA:=Below.refl W0.heap.size W0
 generalize hS:strB n bs=S at *
 clear hS
 go_enter Try.func7,Try.ntmps7
 go_upto_region 1 with (fail)
 rw [←HW0.out]
 clear HW0
 have rr:=(K0.out.still bA).range
 have cm:=CM0.out _ bA
 go_upto_if 27 with (first
  | (with_reducible (refine id (?_:wpList _ _ _ _ _ _));refine ldL _ rfl rfl rr ?_ rfl)
  | (go_at_call 10;refine cm.mono ?_;clear cm;rintro e w2 ⟨cs2,rfl,i2,b2⟩;(have cp:=CP0.out w2 cs2 i2))
  | (go_at_call 11;refine cp.mono ?_;clear cp;rintro e w3 ⟨b3,xa,ma,ca,za,rfl,hz⟩)
  | (go_at_call 15;refine (num13_any _ _).mono ?_;rintro e wn ⟨rfl,hwn⟩;subst hwn))
 have bB:=below_next bA (below_next b2 b3)
 clear rr i2 b2 b3
 go_cut [9,10] from 19 (fun _ _ wc=>Below W0.heap.size W0 wc)
 case first =>
  rcases hz with rfl | ⟨rfl,hR,hx⟩
  · go_wp2_with (fail)
    go_meet
    case rel=>exact bB
  · obtain ⟨dg,hgk,hsm,cg0⟩:=getL_ok hk0 hR
    have cg:=cg0 w3 _ hx
    clear cg0
    go_upto_region 4 with (go_at_call 13;refine cg.mono ?_;clear cg;rintro e w5 ⟨b5,cs5,rfl,i5⟩;(have I5:=Hid.mk' i5);(obtain ⟨px0,pc0,px1,pc1,px2,pc2,px4,pc4,px5,pc5,rfl,-⟩:=i5.form);clear i5)
    have k5:=RW.fresh w5 [.slice px0 dg.enc.n pc0,.slice px1 dg.sig.n pc1,.slice px2 dg.name.n pc2,.int .i64 dg.src,.slice px4 dg.hash.n pc4,.slice px5 dg.sg.n pc5] 26
    have b5':Below w5.heap.size w5 (w5.alloc (.cells #[.slice px0 dg.enc.n pc0,.slice px1 dg.sig.n pc1,.slice px2 dg.name.n pc2,.int .i64 dg.src,.slice px4 dg.hash.n pc4,.slice px5 dg.sg.n pc5] 26)):=(Below.refl _ _).alloc (Nat.le_refl _) _
    obtain ⟨W5,hW5⟩:∃ W5,W5=w5.alloc (.cells #[.slice px0 dg.enc.n pc0,.slice px1 dg.sig.n pc1,.slice px2 dg.name.n pc2,.int .i64 dg.src,.slice px4 dg.hash.n pc4,.slice px5 dg.sg.n pc5] 26):=⟨_,rfl⟩
    rw [show w5.alloc (.cells [.slice px0 dg.enc.n pc0,.slice px1 dg.sig.n pc1,.slice px2 dg.name.n pc2,.int .i64 dg.src,.slice px4 dg.hash.n pc4,.slice px5 dg.sg.n pc5].toArray 26)=W5 from hW5.symm] at k5
    rw [←hW5] at b5' ⊢
    clear hW5
    obtain ⟨p5,hp5⟩:∃ p,p=w5.heap.size:=⟨_,rfl⟩
    rw [←hp5] at k5 ⊢
    clear hp5
    have bC:=below_next bB (below_next b5 b5')
    have cs1:=sameLeaf_any _ _ dg d hgk hk0 W5 (I5.out.keep b5') ((HD0.out.keep bC))
    rw [hsm] at cs1
    have rA:=k5.range
    have rB:=(K0.out.still bC).range
    go_wp2_with (first
     | (go_at_call 15;refine (num13_any _ _).mono ?_;rintro e wn ⟨rfl,hwn⟩;subst hwn)
     | (with_reducible (refine id (?_:wpList _ _ _ _ _ _));refine ldCg _ rfl rfl rA ?_ rfl)
     | (with_reducible (refine id (?_:wpList _ _ _ _ _ _));refine ldLg _ rfl rfl rB ?_ rfl)
     | (go_at_call 16;refine cs1.mono ?_;clear cs1;rintro e w7 ⟨rfl,b7⟩))
    go_meet
    case rel=>exact below_next bC b7
 case rest =>
  have bA:=hcut
  clear hcut bB hz
  have rr:=(K1.out.still bA).range
  have cm:=CM1.out _ bA
  go_upto_if 50 with (first
   | (with_reducible (refine id (?_:wpList _ _ _ _ _ _));refine ldP _ rfl rfl rr ?_ rfl)
   | (go_at_call 19;refine cm.mono ?_;clear cm;rintro e w2 ⟨cs2,rfl,i2,b2⟩;(have cp:=CP1.out w2 cs2 i2))
   | (go_at_call 20;refine cp.mono ?_;clear cp;rintro e w3 ⟨b3,xa,ma,ca,za,rfl,hz⟩)
   | (go_at_call 15;refine (num13_any _ _).mono ?_;rintro e wn ⟨rfl,hwn⟩;subst hwn))
  have bB:=below_next bA (below_next b2 b3)
  clear rr i2 b2 b3
  go_cut [9,10] from 19 (fun _ _ wc=>Below W0.heap.size W0 wc)
  case first =>
   rcases hz with rfl | ⟨rfl,hR,hx⟩
   · go_wp2_with (fail)
     go_meet
     case rel=>exact bB
   · obtain ⟨dg,hgk,hsm,hgl,cg0⟩:=getP_ok hk1 hl1 hR
     have cg:=cg0 w3 _ hx
     clear cg0
     go_upto_region 9 with (go_at_call 22;refine cg.mono ?_;clear cg;rintro e w5 ⟨b5,cs5,rfl,i5⟩;(have I5:=Hid.mk' i5);(obtain ⟨px0,pc0,px1,pc1,px2,pc2,rfl⟩:=i5.form);clear i5)
     have k5:=RW.fresh w5 [.slice px0 dg.enc.n pc0,.slice px1 dg.hash.n pc1,.slice px2 dg.um.length pc2] 45
     have b5':Below w5.heap.size w5 (w5.alloc (.cells #[.slice px0 dg.enc.n pc0,.slice px1 dg.hash.n pc1,.slice px2 dg.um.length pc2] 45)):=(Below.refl _ _).alloc (Nat.le_refl _) _
     obtain ⟨W5,hW5⟩:∃ W5,W5=w5.alloc (.cells #[.slice px0 dg.enc.n pc0,.slice px1 dg.hash.n pc1,.slice px2 dg.um.length pc2] 45):=⟨_,rfl⟩
     rw [show w5.alloc (.cells [.slice px0 dg.enc.n pc0,.slice px1 dg.hash.n pc1,.slice px2 dg.um.length pc2].toArray 45)=W5 from hW5.symm] at k5
     rw [←hW5] at b5' ⊢
     clear hW5
     obtain ⟨p5,hp5⟩:∃ p,p=w5.heap.size:=⟨_,rfl⟩
     rw [←hp5] at k5 ⊢
     clear hp5
     have bC:=below_next bB (below_next b5 b5')
     have cs1:=sameParent_ok _ _ dg p hgk hk1 hsm hgl W5 (I5.out.keep b5') ((HD1.out.keep bC).prin)
     have rA:=k5.range
     have rB:=(K1.out.still bC).range
     go_wp2_with (first
      | (go_at_call 15;refine (num13_any _ _).mono ?_;rintro e wn ⟨rfl,hwn⟩;subst hwn)
      | (with_reducible (refine id (?_:wpList _ _ _ _ _ _));refine ldDg _ rfl rfl rA ?_ rfl)
      | (with_reducible (refine id (?_:wpList _ _ _ _ _ _));refine ldPg _ rfl rfl rB ?_ rfl)
      | (go_at_call 24;refine cs1.mono ?_;clear cs1;rintro e w7 ⟨rfl,b7⟩))
     go_meet
     case rel=>exact below_next bC b7
  case rest =>
   have bA:=hcut
   clear hcut bB hz
   have rr:=(K2.out.still bA).range
   have cm:=CM2.out _ bA
   go_upto_if 73 with (first
    | (with_reducible (refine id (?_:wpList _ _ _ _ _ _));refine ldK _ rfl rfl rr ?_ rfl)
    | (go_at_call 25;refine cm.mono ?_;clear cm;rintro e w2 ⟨cs2,rfl,i2,b2⟩;(have cp:=CP2.out w2 cs2 i2))
    | (go_at_call 26;refine cp.mono ?_;clear cp;rintro e w3 ⟨b3,xa,ma,ca,za,rfl,hz⟩)
    | (go_at_call 15;refine (num13_any _ _).mono ?_;rintro e wn ⟨rfl,hwn⟩;subst hwn))
   have bB:=below_next bA (below_next b2 b3)
   clear rr i2 b2 b3
   go_cut [9,10] from 19 (fun _ _ wc=>Below W0.heap.size W0 wc)
   case first =>
    rcases hz with rfl | ⟨rfl,hR,hx⟩
    · go_wp2_with (fail)
      go_meet
      case rel=>exact bB
    · obtain ⟨dg,hgk,hsm,cg0⟩:=getK_ok hk2 hR
      have cg:=cg0 w3 _ hx
      clear cg0
      go_upto_region 14 with (go_at_call 28;refine cg.mono ?_;clear cg;rintro e w5 ⟨b5,cs5,rfl,i5⟩;(have I5:=Hid.mk' i5);(obtain ⟨px0,pc0,px1,pc1,px2,pc2,px3,pc3,px5,pc5,px6,pc6,px7,pc7,rfl⟩:=i5.form8);clear i5)
      have k5:=RW.fresh w5 [.slice px0 dg.init.n pc0,.slice px1 dg.leaf.enc.n pc1,.slice px2 dg.leaf.sig.n pc2,.slice px3 dg.leaf.name.n pc3,.int .i64 dg.leaf.src,.slice px5 dg.leaf.hash.n pc5,.slice px6 dg.leaf.sg.n pc6,.slice px7 dg.sg.n pc7] 58
      have b5':Below w5.heap.size w5 (w5.alloc (.cells #[.slice px0 dg.init.n pc0,.slice px1 dg.leaf.enc.n pc1,.slice px2 dg.leaf.sig.n pc2,.slice px3 dg.leaf.name.n pc3,.int .i64 dg.leaf.src,.slice px5 dg.leaf.hash.n pc5,.slice px6 dg.leaf.sg.n pc6,.slice px7 dg.sg.n pc7] 58)):=(Below.refl _ _).alloc (Nat.le_refl _) _
      obtain ⟨W5,hW5⟩:∃ W5,W5=w5.alloc (.cells #[.slice px0 dg.init.n pc0,.slice px1 dg.leaf.enc.n pc1,.slice px2 dg.leaf.sig.n pc2,.slice px3 dg.leaf.name.n pc3,.int .i64 dg.leaf.src,.slice px5 dg.leaf.hash.n pc5,.slice px6 dg.leaf.sg.n pc6,.slice px7 dg.sg.n pc7] 58):=⟨_,rfl⟩
      rw [show w5.alloc (.cells [.slice px0 dg.init.n pc0,.slice px1 dg.leaf.enc.n pc1,.slice px2 dg.leaf.sig.n pc2,.slice px3 dg.leaf.name.n pc3,.int .i64 dg.leaf.src,.slice px5 dg.leaf.hash.n pc5,.slice px6 dg.leaf.sg.n pc6,.slice px7 dg.sg.n pc7].toArray 58)=W5 from hW5.symm] at k5
      rw [←hW5] at b5' ⊢
      clear hW5
      obtain ⟨p5,hp5⟩:∃ p,p=w5.heap.size:=⟨_,rfl⟩
      rw [←hp5] at k5 ⊢
      clear hp5
      have bC:=below_next bB (below_next b5 b5')
      have cs1:=samePackage_ok _ _ dg q hgk hk2 hsm W5 (I5.out.keep b5') ((HD2.out.keep bC))
      have rA:=k5.range
      have rB:=(K2.out.still bC).range
      go_wp2_with (first
       | (go_at_call 15;refine (num13_any _ _).mono ?_;rintro e wn ⟨rfl,hwn⟩;subst hwn)
       | (with_reducible (refine id (?_:wpList _ _ _ _ _ _));refine ldEg _ rfl rfl rA ?_ rfl)
       | (with_reducible (refine id (?_:wpList _ _ _ _ _ _));refine ldKg _ rfl rfl rB ?_ rfl)
       | (go_at_call 30;refine cs1.mono ?_;clear cs1;rintro e w7 ⟨rfl,b7⟩))
      go_meet
      case rel=>exact below_next bC b7
   case rest =>
    have bA:=hcut
    clear hcut bB hz
    have cg:=CGL.out _ _ (HV.out.keep bA)
    go_upto_region 17 with (go_at_call 13;refine cg.mono ?_;clear cg;rintro e w5 ⟨b5,cs5,dx,zz,rfl,i5,hz⟩;(have I5:=Hid.mk' i5);(obtain ⟨px0,pc0,px1,pc1,px2,pc2,px4,pc4,px5,pc5,rfl,-⟩:=i5.form);clear i5)
    have k5:=RW.fresh w5 [.slice px0 dx.enc.n pc0,.slice px1 dx.sig.n pc1,.slice px2 dx.name.n pc2,.int .i64 dx.src,.slice px4 dx.hash.n pc4,.slice px5 dx.sg.n pc5] 26
    have b5':Below w5.heap.size w5 (w5.alloc (.cells #[.slice px0 dx.enc.n pc0,.slice px1 dx.sig.n pc1,.slice px2 dx.name.n pc2,.int .i64 dx.src,.slice px4 dx.hash.n pc4,.slice px5 dx.sg.n pc5] 26)):=(Below.refl _ _).alloc (Nat.le_refl _) _
    obtain ⟨W5,hW5⟩:∃ W5,W5=w5.alloc (.cells #[.slice px0 dx.enc.n pc0,.slice px1 dx.sig.n pc1,.slice px2 dx.name.n pc2,.int .i64 dx.src,.slice px4 dx.hash.n pc4,.slice px5 dx.sg.n pc5] 26):=⟨_,rfl⟩
    rw [show w5.alloc (.cells [.slice px0 dx.enc.n pc0,.slice px1 dx.sig.n pc1,.slice px2 dx.name.n pc2,.int .i64 dx.src,.slice px4 dx.hash.n pc4,.slice px5 dx.sg.n pc5].toArray 26)=W5 from hW5.symm] at k5
    rw [←hW5] at b5' ⊢
    clear hW5
    obtain ⟨p5,hp5⟩:∃ p,p=w5.heap.size:=⟨_,rfl⟩
    rw [←hp5] at k5 ⊢
    clear hp5
    have bC:=below_next bA (below_next b5 b5')
    have I5':=Hid.mk' (I5.out.keep b5')
    clear b5 b5' I5
    go_upto_if 95 with (go_at_call 15;refine (num13_any _ _).mono ?_;rintro e wn ⟨rfl,hwn⟩;subst hwn)
    go_cut [9,10] from 19 (fun _ _ wc=>Below W0.heap.size W0 wc)
    case first =>
     rcases hz with rfl | ⟨rfl,cp0⟩
     · go_wp2_with (fail)
       go_meet
       case rel=>exact bC
     · have cp:=cp0 W5 _ I5'.out
       have rA:=k5.range
       clear cp0
       go_wp2_with (first
        | (with_reducible (refine id (?_:wpList _ _ _ _ _ _));refine ldC _ rfl rfl rA ?_ rfl)
        | (go_at_call 11;refine cp.mono ?_;clear cp;rintro e w6 ⟨b6,xa,ma,ca,rfl,va⟩;(have ya:=va w6 (Below.refl _ _));(have yv:=VV.out w6 (below_next bC b6));clear va)
        | (go_at_call 15;refine (num13_any _ _).mono ?_;rintro e wn ⟨rfl,hwn⟩;subst hwn))
       go_meet
       case rel=>exact below_next bC b6
    case rest =>
     have bA:=hcut
     clear hcut bC hz
     have cg:=CGK.out _ _ (HV.out.keep bA)
     go_upto_region 22 with (go_at_call 28;refine cg.mono ?_;clear cg;rintro e w5 ⟨b5,cs5,dx,zz,rfl,i5,hz⟩;(have I5:=Hid.mk' i5);(obtain ⟨px0,pc0,px1,pc1,px2,pc2,px3,pc3,px5,pc5,px6,pc6,px7,pc7,rfl⟩:=i5.form8);clear i5)
     have k5:=RW.fresh w5 [.slice px0 dx.init.n pc0,.slice px1 dx.leaf.enc.n pc1,.slice px2 dx.leaf.sig.n pc2,.slice px3 dx.leaf.name.n pc3,.int .i64 dx.leaf.src,.slice px5 dx.leaf.hash.n pc5,.slice px6 dx.leaf.sg.n pc6,.slice px7 dx.sg.n pc7] 58
     have b5':Below w5.heap.size w5 (w5.alloc (.cells #[.slice px0 dx.init.n pc0,.slice px1 dx.leaf.enc.n pc1,.slice px2 dx.leaf.sig.n pc2,.slice px3 dx.leaf.name.n pc3,.int .i64 dx.leaf.src,.slice px5 dx.leaf.hash.n pc5,.slice px6 dx.leaf.sg.n pc6,.slice px7 dx.sg.n pc7] 58)):=(Below.refl _ _).alloc (Nat.le_refl _) _
     obtain ⟨W5,hW5⟩:∃ W5,W5=w5.alloc (.cells #[.slice px0 dx.init.n pc0,.slice px1 dx.leaf.enc.n pc1,.slice px2 dx.leaf.sig.n pc2,.slice px3 dx.leaf.name.n pc3,.int .i64 dx.leaf.src,.slice px5 dx.leaf.hash.n pc5,.slice px6 dx.leaf.sg.n pc6,.slice px7 dx.sg.n pc7] 58):=⟨_,rfl⟩
     rw [show w5.alloc (.cells [.slice px0 dx.init.n pc0,.slice px1 dx.leaf.enc.n pc1,.slice px2 dx.leaf.sig.n pc2,.slice px3 dx.leaf.name.n pc3,.int .i64 dx.leaf.src,.slice px5 dx.leaf.hash.n pc5,.slice px6 dx.leaf.sg.n pc6,.slice px7 dx.sg.n pc7].toArray 58)=W5 from hW5.symm] at k5
     rw [←hW5] at b5' ⊢
     clear hW5
     obtain ⟨p5,hp5⟩:∃ p,p=w5.heap.size:=⟨_,rfl⟩
     rw [←hp5] at k5 ⊢
     clear hp5
     have bC:=below_next bA (below_next b5 b5')
     have I5':=Hid.mk' (I5.out.keep b5')
     clear b5 b5' I5
     go_upto_if 118 with (go_at_call 15;refine (num13_any _ _).mono ?_;rintro e wn ⟨rfl,hwn⟩;subst hwn)
     go_cut [9,10] from 19 (fun _ _ wc=>Below W0.heap.size W0 wc)
     case first =>
      rcases hz with rfl | ⟨rfl,cp0⟩
      · go_wp2_with (fail)
        go_meet
        case rel=>exact bC
      · have cp:=cp0 W5 _ I5'.out
        have rA:=k5.range
        clear cp0
        go_wp2_with (first
         | (with_reducible (refine id (?_:wpList _ _ _ _ _ _));refine ldE _ rfl rfl rA ?_ rfl)
         | (go_at_call 26;refine cp.mono ?_;clear cp;rintro e w6 ⟨b6,xa,ma,ca,rfl,va⟩;(have ya:=va w6 (Below.refl _ _));(have yv:=VV.out w6 (below_next bC b6));clear va)
         | (go_at_call 15;refine (num13_any _ _).mono ?_;rintro e wn ⟨rfl,hwn⟩;subst hwn))
        go_meet
        case rel=>exact below_next bC b6
     case rest =>
      have bA:=hcut
      clear hcut bC hz
      go_wp2_with (go_at_call 18;refine (knows13 _).mono ?_;rintro e w10 ⟨rfl,b10⟩)
      go_ret
      exact ⟨rfl,below_next (below_next bW bA) b10⟩
end Go.Proofs.Ytgdcmibdjiaofaa
