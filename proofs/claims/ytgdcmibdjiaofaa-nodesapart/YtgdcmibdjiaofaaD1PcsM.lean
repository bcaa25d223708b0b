/- What the proof stands on: D1Pcs, D1Bk, D1CD, D1CH, D1CI, D1CJ, Grw, D1CE, N3A, ZD, N3R, N3B, N3C. -/
import Derived.Test.YtgdcmibdjiaofaaBaseM
import Derived.Laws.EntriesVeiled
import Derived.Recover
import Derived.ScopeJumps
import Derived.WalkLawsBesides
import Derived.WalkMore
namespace Go.Proofs.Ytgdcmibdjiaofaa
open Go.RowKit
def sumN (pn:Nat→Nat):Nat→Nat
 | 0=>0
 | i+1=>sumN pn i+pn i
def allB (pn:Nat→Nat) (pb:Nat→Nat→Nat):Nat→Nat→Nat
 | 0=>fun _=>0
 | i+1=>cat (sumN pn i) (allB pn pb i) (pb i)
theorem sumN_le (pn:Nat→Nat) {i j:Nat} (h:i≤j):sumN pn i≤sumN pn j:=by
 induction h with
 | refl=>exact Nat.le_refl _
 | step _ ih=>exact Nat.le_trans ih (Nat.le_add_right _ _)
theorem allB_lt {pn:Nat→Nat} {pb:Nat→Nat→Nat} (h:∀ i j,pb i j<256):∀ i j,allB pn pb i j<256
 | 0,_=>Nat.zero_lt_succ _
 | i+1,j=>cat_lt (allB_lt h i) (h i) j
structure PiecesIn (w:World) (xo:Option Addr) (cnt:Nat) (pv:Nat→Value) (pn:Nat→Nat) (pb:Nat→Nat→Nat):Prop where
 cell:∀ q,q<cnt→∃ lb lo,xo=some ⟨lb,lo,none⟩∧∀ i,i<cnt→w.cell? ⟨lb,lo+i,none⟩=some (pv i)
 each:∀ i,i<cnt→BytesIn w (pv i) (pn i) (pb i)
 byte:∀ i j,pb i j<256
theorem PiecesIn.keep {w w':World} {xo:Option Addr} {cnt:Nat} {pv:Nat→Value} {pn:Nat→Nat} {pb:Nat→Nat→Nat} (h:PiecesIn w xo cnt pv pn pb) (hb:Below w.heap.size w w'):PiecesIn w' xo cnt pv pn pb:=by
 refine ⟨fun q hq => ?_,fun i hi=>(h.each i hi).keep hb,h.byte⟩
 obtain ⟨lb,lo,rfl,hc⟩:=h.cell q hq
 exact ⟨lb,lo,rfl,fun i hi=>(hb.cell (p:=⟨lb,lo+i,none⟩) (block_lt_of_cell (hc i hi))).trans (hc i hi)⟩
def vsL (pn:Nat→Nat):Nat→Nat:=sumN (fun i=>vcL (pn i))
def vsB (pn:Nat→Nat) (pb:Nat→Nat→Nat):Nat→Nat→Nat:=allB (fun i=>vcL (pn i)) (fun i=>vcB (pn i) (pb i))
theorem vsL_le (pn:Nat→Nat):∀ n,vsL pn n≤sumN pn n+4*n
 | 0=>Nat.le_refl _
 | n+1=>by
  have h1:=vsL_le pn n
  have h2:=lnS_pos (pn n)
  show vsL pn n+(lnS (pn n)+pn n)≤sumN pn n+pn n+4*(n+1)
  omega
end Go.Proofs.Ytgdcmibdjiaofaa
namespace Go.Proofs.Ytgdcmibdjiaofaa
open Go.RowKit
theorem pow_step (t:Nat):2 ^ (8*(t+1))=2 ^ (8*t)*256:=by
 rw [Nat.mul_add,Nat.pow_add]
theorem nbN_be {B:Nat→Nat} {a s W:Nat} (h:∀ j,j<s→B (a+j)=beN W s j) (hW:W<2 ^ (8*s)):∀ k,k≤s→nbN B a k=W / 2 ^ (8*(s - k))
 | 0,_=>by
  rw [Nat.sub_zero,Nat.div_eq_of_lt hW];rfl
 | k+1,hk=>by
  have ih:=nbN_be h hW k (by omega)
  show nbN B a k*256+B (a+k)=_
  rw [ih,h k (by omega)]
  unfold beN
  obtain ⟨t,ht⟩:∃ t,t=s - 1 - k:=⟨_,rfl⟩
  rw [←ht,show s - k=t+1 by omega,show s - (k+1)=t by omega,pow_step,←Nat.div_div_eq_div_mul]
  omega
theorem be_nbN {B:Nat→Nat} (lB:∀ j,B j<256) (a:Nat):∀ s j,j<s→beN (nbN B a s) s j=B (a+j)
 | 0,j,hj=>absurd hj (Nat.not_lt_zero _)
 | s+1,j,hj=>by
  have hb:=lB (a+s)
  have e:nbN B a (s+1)=nbN B a s*256+B (a+s):=rfl
  by_cases h:j=s
  · subst h
    unfold beN
    rw [show j+1 - 1 - j=0 by omega,e,Nat.mul_zero,Nat.pow_zero,Nat.div_one]
    omega
  · have ih:=be_nbN lB a s j (by omega)
    unfold beN at ih ⊢
    rw [show s+1 - 1 - j=(s - 1 - j)+1 by omega,pow_step,Nat.mul_comm (2 ^ (8*(s - 1 - j))) 256,←Nat.div_div_eq_div_mul,e,show (nbN B a s*256+B (a+s)) / 256=nbN B a s by omega]
    exact ih
theorem nbN_one (B:Nat→Nat) (a:Nat):nbN B a 1=B a:=by show 0*256+B (a+0)=_;rw [Nat.add_zero];omega
theorem nbN_two (B:Nat→Nat) (a:Nat):nbN B a 2=B a*256+B (a+1):=by show nbN B a 1*256+_=_;rw [nbN_one]
theorem nbN_four (B:Nat→Nat) (a:Nat):nbN B a 4=((B a*256+B (a+1))*256+B (a+2))*256+B (a+3):=by show (nbN B a 2*256+_)*256+_=_;rw [nbN_two]
theorem lnW_lt {n:Nat} (hn:n<1073741824):lnW n<2 ^ (8*lnS n):=by
 unfold lnW lnS
 by_cases h1:n<64
 · simp only [if_pos h1];omega
 · by_cases h2:n<16384
   · simp only [if_neg h1,if_pos h2];omega
   · simp only [if_neg h1,if_neg h2];omega
theorem lenD_back {L:Nat} {B:Nat→Nat} {a n:Nat} (lB:∀ j,B j<256) (hn:n<1073741824) (hL:a+lnS n≤L) (h:∀ j,j<lnS n→B (a+j)=lnB n j):lenD L B ⟨a,0⟩=(n,⟨a+lnS n,0⟩):=by
 have hN:=nbN_be h (lnW_lt hn) (lnS n) (Nat.le_refl _)
 rw [Nat.sub_self,Nat.mul_zero,Nat.pow_zero,Nat.div_one] at hN
 have b0:=lB a
 have b1:=lB (a+1)
 have b2:=lB (a+2)
 have b3:=lB (a+3)
 have hp:=lnS_pos n
 unfold lenD
 dsimp only
 rw [if_neg (fun e=>e rfl),if_neg (by omega)]
 by_cases h1:n<64
 · have e1:lnS n=1:=by unfold lnS;rw [if_pos h1]
   have e2:lnW n=n:=by unfold lnW;rw [if_pos h1]
   rw [e1] at hN hL ⊢
   rw [e2,nbN_one] at hN
   have ht:B a / 64=0:=by omega
   rw [ht,if_neg (by decide),show (2:Nat) ^ 0=1 from rfl,if_neg (by omega),if_neg (by omega),nbN_one,hN,show n%2 ^ (8*1 - 2)=n from Nat.mod_eq_of_lt h1]
 · by_cases h2:n<16384
   · have e1:lnS n=2:=by unfold lnS;rw [if_neg h1,if_pos h2]
     have e2:lnW n=n+16384:=by unfold lnW;rw [if_neg h1,if_pos h2]
     rw [e1] at hN hL ⊢
     rw [e2] at hN
     have hN':=hN
     rw [nbN_two] at hN'
     have ht:B a / 64=1:=by omega
     have em:(n+16384)%2 ^ (8*2 - 2)=n:=by show (n+16384)%16384=n;omega
     rw [ht,if_neg (by decide),show (2:Nat) ^ 1=2 from rfl,if_neg (by omega),hN,em,if_neg (by omega)]
   · have e1:lnS n=4:=by unfold lnS;rw [if_neg h1,if_neg h2]
     have e2:lnW n=n+2147483648:=by unfold lnW;rw [if_neg h1,if_neg h2]
     rw [e1] at hN hL ⊢
     rw [e2] at hN
     have hN':=hN
     rw [nbN_four] at hN'
     have ht:B a / 64=2:=by omega
     have em:(n+2147483648)%2 ^ (8*4 - 2)=n:=by show (n+2147483648)%1073741824=n;omega
     rw [ht,if_neg (by decide),show (2:Nat) ^ 2=4 from rfl,if_neg (by omega),hN,em,if_neg (by omega)]
theorem lenD_said {L:Nat} {B:Nat→Nat} {r:Rd} (lB:∀ j,B j<256) (hr:r.e=0) (hl:r.at_≤L) (h:(lenD L B r).2.e=0):(lenD L B r).1<1073741824∧(lenD L B r).2.at_=r.at_+lnS (lenD L B r).1∧(lenD L B r).2.at_≤L∧∀ j,j<lnS (lenD L B r).1→B (r.at_+j)=lnB (lenD L B r).1 j:=by
 have b0:=lB r.at_
 have b1:=lB (r.at_+1)
 have b2:=lB (r.at_+2)
 have b3:=lB (r.at_+3)
 obtain ⟨p,hp⟩:∃ p,p=lenD L B r:=⟨_,rfl⟩
 rw [←hp] at h ⊢
 unfold lenD at hp
 rw [if_neg (fun e=>e hr)] at hp
 by_cases h0:L=r.at_
 · rw [if_pos h0] at hp;subst hp;cases h
 rw [if_neg h0] at hp
 by_cases h3:B r.at_ / 64=3
 · rw [if_pos h3] at hp;subst hp;cases h
 rw [if_neg h3] at hp
 rcases (show B r.at_ / 64=0∨B r.at_ / 64=1∨B r.at_ / 64=2 by omega) with ht | ht | ht
 · rw [ht,show (2:Nat) ^ 0=1 from rfl,if_neg (by omega),if_neg (by omega),nbN_one,show B r.at_%2 ^ (8*1 - 2)=B r.at_ from Nat.mod_eq_of_lt (show B r.at_<64 by omega)] at hp
   subst hp
   dsimp only
   have h1:B r.at_<64:=by omega
   have e1:lnS (B r.at_)=1:=by unfold lnS;rw [if_pos h1]
   have e2:lnW (B r.at_)=B r.at_:=by unfold lnW;rw [if_pos h1]
   refine ⟨by omega,by rw [e1],by omega,fun j hj => ?_⟩
   unfold lnB
   rw [e1] at hj
   rw [e1,e2,←be_nbN lB r.at_ 1 j hj,nbN_one]
 · rw [ht,show (2:Nat) ^ 1=2 from rfl] at hp
   by_cases h2:L - r.at_<2
   · rw [if_pos h2] at hp;subst hp;cases h
   rw [if_neg h2,show (2:Nat) ^ (8*2 - 2)=16384 from rfl] at hp
   by_cases h4:nbN B r.at_ 2%16384<64
   · rw [if_pos (.inl ⟨rfl,h4⟩)] at hp;subst hp;cases h
   rw [if_neg (fun e=>e.elim (fun e=>h4 e.2) (fun e=>absurd e.1 (by decide)))] at hp
   subst hp
   dsimp only
   obtain ⟨N,hN⟩:∃ N,N=nbN B r.at_ 2:=⟨_,rfl⟩
   have hN':=hN
   rw [nbN_two] at hN'
   have hb:=fun j hj=>be_nbN lB r.at_ 2 j hj
   rw [←hN] at h4 hb ⊢
   have h1:¬N%16384<64:=h4
   have h5:N%16384<16384:=Nat.mod_lt _ (by decide)
   have e1:lnS (N%16384)=2:=by unfold lnS;rw [if_neg h1,if_pos h5]
   have e2:lnW (N%16384)=N:=by unfold lnW;rw [if_neg h1,if_pos h5];omega
   refine ⟨by omega,by rw [e1],by omega,fun j hj => ?_⟩
   unfold lnB
   rw [e1] at hj
   rw [e1,e2,hb j hj]
 · rw [ht,show (2:Nat) ^ 2=4 from rfl] at hp
   by_cases h2:L - r.at_<4
   · rw [if_pos h2] at hp;subst hp;cases h
   rw [if_neg h2,show (2:Nat) ^ (8*4 - 2)=1073741824 from rfl] at hp
   by_cases h4:nbN B r.at_ 4%1073741824<16384
   · rw [if_pos (.inr ⟨rfl,h4⟩)] at hp;subst hp;cases h
   rw [if_neg (fun e=>e.elim (fun e=>absurd e.1 (by decide)) (fun e=>h4 e.2))] at hp
   subst hp
   dsimp only
   obtain ⟨N,hN⟩:∃ N,N=nbN B r.at_ 4:=⟨_,rfl⟩
   have hN':=hN
   rw [nbN_four] at hN'
   have hb:=fun j hj=>be_nbN lB r.at_ 4 j hj
   rw [←hN] at h4 hb ⊢
   have h1:¬N%1073741824<64:=by omega
   have e1:lnS (N%1073741824)=4:=by unfold lnS;rw [if_neg h1,if_neg h4]
   have e2:lnW (N%1073741824)=N:=by unfold lnW;rw [if_neg h1,if_neg h4];omega
   refine ⟨Nat.mod_lt _ (by decide),by rw [e1],by omega,fun j hj => ?_⟩
   unfold lnB
   rw [e1] at hj
   rw [e1,e2,hb j hj]
end Go.Proofs.Ytgdcmibdjiaofaa
namespace Go.Proofs.Ytgdcmibdjiaofaa
open Go.RowKit
theorem lenD_shift (L:Nat) (B:Nat→Nat) (a:Nat) (ha:a≤L):lenD L B ⟨a,0⟩=((lenD (L - a) (fun j=>B (a+j)) ⟨0,0⟩).1,⟨a+(lenD (L - a) (fun j=>B (a+j)) ⟨0,0⟩).2.at_,(lenD (L - a) (fun j=>B (a+j)) ⟨0,0⟩).2.e⟩):=by
 unfold lenD
 simp only [nbN_shift,Nat.add_zero,ne_eq,not_true_eq_false,if_false]
 by_cases h0:L=a
 · rw [if_pos h0,if_pos (by omega)];rfl
 rw [if_neg h0,if_neg (show ¬L - a=0 by omega)]
 by_cases h1:B a / 64=3
 · rw [if_pos h1,if_pos h1];rfl
 rw [if_neg h1,if_neg h1,Nat.sub_zero]
 by_cases h2:L - a<2 ^ (B a / 64)
 · rw [if_pos h2,if_pos h2];rfl
 rw [if_neg h2,if_neg h2]
 split
 · rfl
 · simp
theorem wp_scope_fwd {P:Program} {a:Act} {w:World} {Q:Exit→Act→World→Prop} {c rest:Code} (l:Nat) (hf:findLabel c l=some rest) (first:c.wp P (Exit.jump l (fun a w=>rest.wp P (Exit.noGoto Q) a w) Q) a w):(Code.scope c).wp P Q a w :=
 wp_scope_jumps l (fun a w=>rest.wp P (Exit.noGoto Q) a w) (fun _ _=>0) hf first fun a w h=>Code.wp_mono (fun e a w hq=>by
  cases e with
  | goto l=>exact absurd hq (fun h=>h)
  | _=>exact hq) h
theorem jump_ret {l:Nat} {J:Act→World→Prop} {Q:Exit→Act→World→Prop} {a:Act} {w:World}:Exit.jump l J Q .ret a w=Q .ret a w:=rfl
def ansL (p:Nat × Rd):Ending := .returned (.tuple #[.int .i64 ((p.1:Nat):Int),.int .i64 ((p.2.at_:Nat):Int),.int .i64 p.2.e])
set_option maxRecDepth 20000 in
set_option maxHeartbeats 4000000 in
theorem cLenAt_empty (v:Value) (B:Nat→Nat) (w:World) (hv:BytesIn w v 0 B):Calls Try.prog 107 #[v] w fun e w'=>e = .returned (.tuple #[.int .i64 0,.int .i64 0,.int .i64 20])∧w'=w:=by
 obtain ⟨xo,cx,rfl,-,-,-⟩:=hv.src
 clear hv
 go_enter Try.func107,Try.ntmps107
 go_wp2
 refine wp_scope_fwd 0 rfl ?_
 go_wp2
 go_step3
 refine ⟨rfl,?_⟩
 go_wp2
 rw [Exit.noGoto_ret]
 go_ret3
 exact ⟨rfl,rfl⟩
theorem at_first {w:World} {v:Value} {L:Nat} {B:Nat→Nat} (hv:BytesIn w v L B) (h0:0<L):∃ bb ob cap,v = .slice (some ⟨bb,ob,none⟩) L cap∧w.cell? ⟨bb,ob,none⟩=some (.int .u8 ((B 0:Nat):Int)):=by
 rcases hv with ⟨xo,-,h⟩ | ⟨bb,ob,cap,rfl,hbb,hc,hcell⟩
 · omega
 · exact ⟨bb,ob,cap,rfl,hcell 0 h0⟩
set_option maxRecDepth 20000 in
set_option maxHeartbeats 4000000 in
theorem cLenAt_three (v:Value) (L:Nat) (B:Nat→Nat) (w:World) (hv:BytesIn w v L B) (h0:0<L) (ht:B 0 / 64=3):Calls Try.prog 107 #[v] w fun e w'=>e = .returned (.tuple #[.int .i64 0,.int .i64 0,.int .i64 21])∧w'=w:=by
 obtain ⟨bb,ob,cap,rfl,f0⟩:=at_first hv h0
 obtain ⟨y,hy⟩:∃ y,y=B 0:=⟨_,rfl⟩
 rw [←hy] at ht f0
 have e1:(y:Int) / 64=3:=by omega
 have t0:¬(L:Int)=0:=by omega
 have t1:(0:Int)<(L:Int):=by omega
 clear hv ht hy
 go_enter Try.func107,Try.ntmps107
 go_wp2
 refine wp_scope_fwd 0 rfl ?_
 go_wp2
 go_step3
 refine ⟨rfl,?_⟩
 go_wp2
 rw [Exit.noGoto_ret]
 go_ret3
 exact ⟨rfl,rfl⟩
set_option maxRecDepth 20000 in
set_option maxHeartbeats 4000000 in
theorem cLenAt_end2 (v:Value) (L:Nat) (B:Nat→Nat) (w:World) (hv:BytesIn w v L B) (h0:0<L) (ht:B 0 / 64=1) (h2:L<2):Calls Try.prog 107 #[v] w fun e w'=>e = .returned (.tuple #[.int .i64 0,.int .i64 0,.int .i64 20])∧w'=w:=by
 obtain ⟨bb,ob,cap,rfl,f0⟩:=at_first hv h0
 obtain ⟨y,hy⟩:∃ y,y=B 0:=⟨_,rfl⟩
 rw [←hy] at ht f0
 have e1:(y:Int) / 64=1:=by omega
 have t0:¬(L:Int)=0:=by omega
 have t1:(0:Int)<(L:Int):=by omega
 have t3:(L:Int)<2:=by omega
 clear h2
 clear hv ht hy
 go_enter Try.func107,Try.ntmps107
 go_wp2
 refine wp_scope_fwd 0 rfl ?_
 go_wp2
 go_step3
 refine ⟨rfl,?_⟩
 go_wp2
 rw [Exit.noGoto_ret]
 go_ret3
 exact ⟨rfl,rfl⟩
set_option maxRecDepth 20000 in
set_option maxHeartbeats 4000000 in
theorem cLenAt_end4 (v:Value) (L:Nat) (B:Nat→Nat) (w:World) (hv:BytesIn w v L B) (h0:0<L) (ht:B 0 / 64=2) (h2:L<4):Calls Try.prog 107 #[v] w fun e w'=>e = .returned (.tuple #[.int .i64 0,.int .i64 0,.int .i64 20])∧w'=w:=by
 obtain ⟨bb,ob,cap,rfl,f0⟩:=at_first hv h0
 obtain ⟨y,hy⟩:∃ y,y=B 0:=⟨_,rfl⟩
 rw [←hy] at ht f0
 have e1:(y:Int) / 64=2:=by omega
 have t0:¬(L:Int)=0:=by omega
 have t1:(0:Int)<(L:Int):=by omega
 have t3:(L:Int)<4:=by omega
 clear h2
 clear hv ht hy
 go_enter Try.func107,Try.ntmps107
 go_wp2
 refine wp_scope_fwd 0 rfl ?_
 go_wp2
 go_step3
 refine ⟨rfl,?_⟩
 go_wp2
 rw [Exit.noGoto_ret]
 go_ret3
 exact ⟨rfl,rfl⟩
set_option maxRecDepth 20000 in
set_option maxHeartbeats 4000000 in
theorem cLenAt_good1 (v:Value) (L:Nat) (B:Nat→Nat) (lB:∀ j,B j<256) (w:World) (hv:BytesIn w v L B) (h0:0<L) (ht:B 0 / 64=0) (h2:1≤L) (h3:knI ((nbN B 0 1%64:Nat):Int)=0):Calls Try.prog 107 #[v] w fun e w'=>e = .returned (.tuple #[.int .i64 ((nbN B 0 1%64:Nat):Int),.int .i64 1,.int .i64 0])∧w'=w:=by
 obtain ⟨bb,ob,cap,rfl,f0⟩:=at_first hv h0
 obtain ⟨xo,cx,x1,c1,-,-,e0,-,hsl,hv1,-,-⟩:=(BI.all hv).cut 1 (by omega)
 cases e0
 replace hsl:∀ W:World,(Instr.sliceAt 22 (.slice (some ⟨bb,ob,none⟩) L cap) none (some (.int .i64 1)) none).run Try.prog W = .ok (.slice x1 1 c1) W:=hsl
 have cj:=cJoin_any _ 1 B lB (by decide) w (hv1.of (Nat.le_refl _))
 have cb:Calls Try.prog 119 #[.int .i64 0] w fun e w'=>e = .returned (.int .i64 6)∧w'=w:=cBits_any 0 (by decide) w
 have hN:nbN B 0 1 / 64=0:=by
  rw [nbN_one]
  try simp only [Nat.zero_add]
  have:=lB 0
  have:=lB 1
  have:=lB 2
  have:=lB 3
  omega
 obtain ⟨m,hm⟩:∃ m:Int,m=((nbN B 0 1%64:Nat):Int):=⟨_,rfl⟩
 have ck:=cKind_any m w
 rw [←hm] at h3 ⊢
 obtain ⟨z,hz⟩:∃ z:Int,z=((nbN B 0 1:Nat):Int):=⟨_,rfl⟩
 rw [←hz] at cj
 have e8:wrap64 (wrap64 z)=m:=by unfold wrap64;omega
 replace ck:Calls Try.prog 118 #[.int .i64 m] w fun e w'=>e = .returned (.int .i64 0)∧w'=w:=by rw [h3] at ck;exact ck
 obtain ⟨y,hy⟩:∃ y,y=B 0:=⟨_,rfl⟩
 rw [←hy] at ht f0
 have e1:(y:Int) / 64=0:=by omega
 have t0:¬(L:Int)=0:=by omega
 have t1:(0:Int)<(L:Int):=by omega
 have t3:¬(L:Int)<1:=by omega
 clear hv ht hy h2 hN hm hz hv1 h3
 go_enter Try.func107,Try.ntmps107
 go_wp2
 refine wp_scope_fwd 0 rfl ?_
 go_wp2_with (first
  | (go_at_call 112;refine cj.mono ?_;clear cj;rintro e w1 ⟨rfl,hw⟩;obtain rfl:=hw.symm)
  | (go_at_call 119;refine cb.mono ?_;clear cb;rintro e w1 ⟨rfl,hw⟩;obtain rfl:=hw.symm)
  | (go_at_call 118;(try rw [e8]);with_reducible refine ck.mono ?_;clear ck;rintro e w1 ⟨rfl,hw⟩;obtain rfl:=hw.symm))
 rw [jump_ret]
 go_ret3
 exact ⟨rfl,rfl⟩
set_option maxRecDepth 20000 in
set_option maxHeartbeats 4000000 in
theorem cLenAt_good2 (v:Value) (L:Nat) (B:Nat→Nat) (lB:∀ j,B j<256) (w:World) (hv:BytesIn w v L B) (h0:0<L) (ht:B 0 / 64=1) (h2:2≤L) (h3:knI ((nbN B 0 2%16384:Nat):Int)=1):Calls Try.prog 107 #[v] w fun e w'=>e = .returned (.tuple #[.int .i64 ((nbN B 0 2%16384:Nat):Int),.int .i64 2,.int .i64 0])∧w'=w:=by
 obtain ⟨bb,ob,cap,rfl,f0⟩:=at_first hv h0
 obtain ⟨xo,cx,x1,c1,-,-,e0,-,hsl,hv1,-,-⟩:=(BI.all hv).cut 2 (by omega)
 cases e0
 replace hsl:∀ W:World,(Instr.sliceAt 22 (.slice (some ⟨bb,ob,none⟩) L cap) none (some (.int .i64 2)) none).run Try.prog W = .ok (.slice x1 2 c1) W:=hsl
 have cj:=cJoin_any _ 2 B lB (by decide) w (hv1.of (Nat.le_refl _))
 have cb:Calls Try.prog 119 #[.int .i64 1] w fun e w'=>e = .returned (.int .i64 14)∧w'=w:=cBits_any 1 (by decide) w
 have hN:nbN B 0 2 / 16384=1:=by
  rw [nbN_two]
  try simp only [Nat.zero_add]
  have:=lB 0
  have:=lB 1
  have:=lB 2
  have:=lB 3
  omega
 obtain ⟨m,hm⟩:∃ m:Int,m=((nbN B 0 2%16384:Nat):Int):=⟨_,rfl⟩
 have ck:=cKind_any m w
 rw [←hm] at h3 ⊢
 obtain ⟨z,hz⟩:∃ z:Int,z=((nbN B 0 2:Nat):Int):=⟨_,rfl⟩
 rw [←hz] at cj
 have e8:wrap64 (wrap64 z - 16384)=m:=by unfold wrap64;omega
 replace ck:Calls Try.prog 118 #[.int .i64 m] w fun e w'=>e = .returned (.int .i64 1)∧w'=w:=by rw [h3] at ck;exact ck
 obtain ⟨y,hy⟩:∃ y,y=B 0:=⟨_,rfl⟩
 rw [←hy] at ht f0
 have e1:(y:Int) / 64=1:=by omega
 have t0:¬(L:Int)=0:=by omega
 have t1:(0:Int)<(L:Int):=by omega
 have t3:¬(L:Int)<2:=by omega
 clear hv ht hy h2 hN hm hz hv1 h3
 go_enter Try.func107,Try.ntmps107
 go_wp2
 refine wp_scope_fwd 0 rfl ?_
 go_wp2_with (first
  | (go_at_call 112;refine cj.mono ?_;clear cj;rintro e w1 ⟨rfl,hw⟩;obtain rfl:=hw.symm)
  | (go_at_call 119;refine cb.mono ?_;clear cb;rintro e w1 ⟨rfl,hw⟩;obtain rfl:=hw.symm)
  | (go_at_call 118;(try rw [e8]);with_reducible refine ck.mono ?_;clear ck;rintro e w1 ⟨rfl,hw⟩;obtain rfl:=hw.symm))
 rw [jump_ret]
 go_ret3
 exact ⟨rfl,rfl⟩
set_option maxRecDepth 20000 in
set_option maxHeartbeats 4000000 in
theorem cLenAt_good4 (v:Value) (L:Nat) (B:Nat→Nat) (lB:∀ j,B j<256) (w:World) (hv:BytesIn w v L B) (h0:0<L) (ht:B 0 / 64=2) (h2:4≤L) (h3:knI ((nbN B 0 4%1073741824:Nat):Int)=2):Calls Try.prog 107 #[v] w fun e w'=>e = .returned (.tuple #[.int .i64 ((nbN B 0 4%1073741824:Nat):Int),.int .i64 4,.int .i64 0])∧w'=w:=by
 obtain ⟨bb,ob,cap,rfl,f0⟩:=at_first hv h0
 obtain ⟨xo,cx,x1,c1,-,-,e0,-,hsl,hv1,-,-⟩:=(BI.all hv).cut 4 (by omega)
 cases e0
 replace hsl:∀ W:World,(Instr.sliceAt 22 (.slice (some ⟨bb,ob,none⟩) L cap) none (some (.int .i64 4)) none).run Try.prog W = .ok (.slice x1 4 c1) W:=hsl
 have cj:=cJoin_any _ 4 B lB (by decide) w (hv1.of (Nat.le_refl _))
 have cb:Calls Try.prog 119 #[.int .i64 2] w fun e w'=>e = .returned (.int .i64 30)∧w'=w:=cBits_any 2 (by decide) w
 have hN:nbN B 0 4 / 1073741824=2:=by
  rw [nbN_four]
  try simp only [Nat.zero_add]
  have:=lB 0
  have:=lB 1
  have:=lB 2
  have:=lB 3
  omega
 obtain ⟨m,hm⟩:∃ m:Int,m=((nbN B 0 4%1073741824:Nat):Int):=⟨_,rfl⟩
 have ck:=cKind_any m w
 rw [←hm] at h3 ⊢
 obtain ⟨z,hz⟩:∃ z:Int,z=((nbN B 0 4:Nat):Int):=⟨_,rfl⟩
 rw [←hz] at cj
 have e8:wrap64 (wrap64 z - 2147483648)=m:=by unfold wrap64;omega
 replace ck:Calls Try.prog 118 #[.int .i64 m] w fun e w'=>e = .returned (.int .i64 2)∧w'=w:=by rw [h3] at ck;exact ck
 obtain ⟨y,hy⟩:∃ y,y=B 0:=⟨_,rfl⟩
 rw [←hy] at ht f0
 have e1:(y:Int) / 64=2:=by omega
 have t0:¬(L:Int)=0:=by omega
 have t1:(0:Int)<(L:Int):=by omega
 have t3:¬(L:Int)<4:=by omega
 clear hv ht hy h2 hN hm hz hv1 h3
 go_enter Try.func107,Try.ntmps107
 go_wp2
 refine wp_scope_fwd 0 rfl ?_
 go_wp2_with (first
  | (go_at_call 112;refine cj.mono ?_;clear cj;rintro e w1 ⟨rfl,hw⟩;obtain rfl:=hw.symm)
  | (go_at_call 119;refine cb.mono ?_;clear cb;rintro e w1 ⟨rfl,hw⟩;obtain rfl:=hw.symm)
  | (go_at_call 118;(try rw [e8]);with_reducible refine ck.mono ?_;clear ck;rintro e w1 ⟨rfl,hw⟩;obtain rfl:=hw.symm))
 rw [jump_ret]
 go_ret3
 exact ⟨rfl,rfl⟩
set_option maxRecDepth 20000 in
set_option maxHeartbeats 4000000 in
theorem cLenAt_form2 (v:Value) (L:Nat) (B:Nat→Nat) (lB:∀ j,B j<256) (w:World) (hv:BytesIn w v L B) (h0:0<L) (ht:B 0 / 64=1) (h2:2≤L) (h3:¬knI ((nbN B 0 2%16384:Nat):Int)=1):Calls Try.prog 107 #[v] w fun e w'=>e = .returned (.tuple #[.int .i64 0,.int .i64 0,.int .i64 21])∧w'=w:=by
 obtain ⟨bb,ob,cap,rfl,f0⟩:=at_first hv h0
 obtain ⟨xo,cx,x1,c1,-,-,e0,-,hsl,hv1,-,-⟩:=(BI.all hv).cut 2 (by omega)
 cases e0
 replace hsl:∀ W:World,(Instr.sliceAt 22 (.slice (some ⟨bb,ob,none⟩) L cap) none (some (.int .i64 2)) none).run Try.prog W = .ok (.slice x1 2 c1) W:=hsl
 have cj:=cJoin_any _ 2 B lB (by decide) w (hv1.of (Nat.le_refl _))
 have cb:Calls Try.prog 119 #[.int .i64 1] w fun e w'=>e = .returned (.int .i64 14)∧w'=w:=cBits_any 1 (by decide) w
 have hN:nbN B 0 2 / 16384=1:=by
  rw [nbN_two]
  try simp only [Nat.zero_add]
  have:=lB 0
  have:=lB 1
  have:=lB 2
  have:=lB 3
  omega
 obtain ⟨m,hm⟩:∃ m:Int,m=((nbN B 0 2%16384:Nat):Int):=⟨_,rfl⟩
 have ck:=cKind_any m w
 rw [←hm] at h3
 obtain ⟨z,hz⟩:∃ z:Int,z=((nbN B 0 2:Nat):Int):=⟨_,rfl⟩
 rw [←hz] at cj
 have e8:wrap64 (wrap64 z - 16384)=m:=by unfold wrap64;omega
 obtain ⟨q,hq⟩:∃ q:Int,q=((knI m:Nat):Int):=⟨_,rfl⟩
 rw [←hq] at ck
 have t7:¬q=1:=by omega
 clear hq
 obtain ⟨y,hy⟩:∃ y,y=B 0:=⟨_,rfl⟩
 rw [←hy] at ht f0
 have e1:(y:Int) / 64=1:=by omega
 have t0:¬(L:Int)=0:=by omega
 have t1:(0:Int)<(L:Int):=by omega
 have t3:¬(L:Int)<2:=by omega
 clear hv ht hy h2 hN hm hz hv1 h3
 go_enter Try.func107,Try.ntmps107
 go_wp2
 refine wp_scope_fwd 0 rfl ?_
 go_wp2_with (first
  | (go_at_call 112;refine cj.mono ?_;clear cj;rintro e w1 ⟨rfl,hw⟩;obtain rfl:=hw.symm)
  | (go_at_call 119;refine cb.mono ?_;clear cb;rintro e w1 ⟨rfl,hw⟩;obtain rfl:=hw.symm)
  | (go_at_call 118;(try rw [e8]);with_reducible refine ck.mono ?_;clear ck;rintro e w1 ⟨rfl,hw⟩;obtain rfl:=hw.symm))
 go_step3
 refine ⟨rfl,?_⟩
 go_wp2
 rw [Exit.noGoto_ret]
 go_ret3
 exact ⟨rfl,rfl⟩
set_option maxRecDepth 20000 in
set_option maxHeartbeats 4000000 in
theorem cLenAt_form4 (v:Value) (L:Nat) (B:Nat→Nat) (lB:∀ j,B j<256) (w:World) (hv:BytesIn w v L B) (h0:0<L) (ht:B 0 / 64=2) (h2:4≤L) (h3:¬knI ((nbN B 0 4%1073741824:Nat):Int)=2):Calls Try.prog 107 #[v] w fun e w'=>e = .returned (.tuple #[.int .i64 0,.int .i64 0,.int .i64 21])∧w'=w:=by
 obtain ⟨bb,ob,cap,rfl,f0⟩:=at_first hv h0
 obtain ⟨xo,cx,x1,c1,-,-,e0,-,hsl,hv1,-,-⟩:=(BI.all hv).cut 4 (by omega)
 cases e0
 replace hsl:∀ W:World,(Instr.sliceAt 22 (.slice (some ⟨bb,ob,none⟩) L cap) none (some (.int .i64 4)) none).run Try.prog W = .ok (.slice x1 4 c1) W:=hsl
 have cj:=cJoin_any _ 4 B lB (by decide) w (hv1.of (Nat.le_refl _))
 have cb:Calls Try.prog 119 #[.int .i64 2] w fun e w'=>e = .returned (.int .i64 30)∧w'=w:=cBits_any 2 (by decide) w
 have hN:nbN B 0 4 / 1073741824=2:=by
  rw [nbN_four]
  try simp only [Nat.zero_add]
  have:=lB 0
  have:=lB 1
  have:=lB 2
  have:=lB 3
  omega
 obtain ⟨m,hm⟩:∃ m:Int,m=((nbN B 0 4%1073741824:Nat):Int):=⟨_,rfl⟩
 have ck:=cKind_any m w
 rw [←hm] at h3
 obtain ⟨z,hz⟩:∃ z:Int,z=((nbN B 0 4:Nat):Int):=⟨_,rfl⟩
 rw [←hz] at cj
 have e8:wrap64 (wrap64 z - 2147483648)=m:=by unfold wrap64;omega
 obtain ⟨q,hq⟩:∃ q:Int,q=((knI m:Nat):Int):=⟨_,rfl⟩
 rw [←hq] at ck
 have t7:¬q=2:=by omega
 clear hq
 obtain ⟨y,hy⟩:∃ y,y=B 0:=⟨_,rfl⟩
 rw [←hy] at ht f0
 have e1:(y:Int) / 64=2:=by omega
 have t0:¬(L:Int)=0:=by omega
 have t1:(0:Int)<(L:Int):=by omega
 have t3:¬(L:Int)<4:=by omega
 clear hv ht hy h2 hN hm hz hv1 h3
 go_enter Try.func107,Try.ntmps107
 go_wp2
 refine wp_scope_fwd 0 rfl ?_
 go_wp2_with (first
  | (go_at_call 112;refine cj.mono ?_;clear cj;rintro e w1 ⟨rfl,hw⟩;obtain rfl:=hw.symm)
  | (go_at_call 119;refine cb.mono ?_;clear cb;rintro e w1 ⟨rfl,hw⟩;obtain rfl:=hw.symm)
  | (go_at_call 118;(try rw [e8]);with_reducible refine ck.mono ?_;clear ck;rintro e w1 ⟨rfl,hw⟩;obtain rfl:=hw.symm))
 go_step3
 refine ⟨rfl,?_⟩
 go_wp2
 rw [Exit.noGoto_ret]
 go_ret3
 exact ⟨rfl,rfl⟩
theorem knI_eq (m k:Nat) (_hk:k<3):knI (m:Int)=k↔(if m<64 then 0 else if m<16384 then 1 else if m<1073741824 then 2 else 3)=k:=by
 unfold knI
 have e0:(m:Int) / 2 ^ 6=0↔m<64:=by show (m:Int) / 64=0↔_;omega
 have e1:(m:Int) / 2 ^ 14=0↔m<16384:=by show (m:Int) / 16384=0↔_;omega
 have e2:(m:Int) / 2 ^ 30=0↔m<1073741824:=by show (m:Int) / 1073741824=0↔_;omega
 simp only [e0,e1,e2]
theorem cLenAt_any (v:Value) (L:Nat) (B:Nat→Nat) (lB:∀ j,B j<256) (w:World) (hv:BytesIn w v L B):Calls Try.prog 107 #[v] w fun e w'=>e=ansL (lenD L B ⟨0,0⟩)∧w'=w:=by
 unfold lenD ansL
 rw [if_neg (fun h=>h rfl)]
 have hy:=lB 0
 by_cases h0:L=0
 · subst h0
   rw [if_pos rfl]
   exact cLenAt_empty v B w hv
 rw [if_neg h0]
 by_cases h3:B 0 / 64=3
 · rw [if_pos h3]
   exact cLenAt_three v L B w hv (by omega) h3
 rw [if_neg h3]
 simp only [Nat.sub_zero,Nat.zero_add]
 rcases (show B 0 / 64=0∨B 0 / 64=1∨B 0 / 64=2 by omega) with ht | ht | ht
 · rw [ht,show (2:Nat) ^ 0=1 from rfl,if_neg (by omega),if_neg (by omega)]
   exact cLenAt_good1 v L B lB w hv (by omega) ht (by omega) ((knI_eq _ 0 (by decide)).2 (if_pos (Nat.mod_lt _ (by decide))))
 · rw [ht,show (2:Nat) ^ 1=2 from rfl,show (2:Nat) ^ (8*2 - 2)=16384 from rfl]
   by_cases h2:L<2
   · rw [if_pos h2]
     exact cLenAt_end2 v L B w hv (by omega) ht h2
   rw [if_neg h2]
   have hm:=Nat.mod_lt (nbN B 0 2) (show 16384 > 0 by decide)
   by_cases h4:nbN B 0 2%16384<64
   · rw [if_pos (.inl ⟨rfl,h4⟩)]
     exact cLenAt_form2 v L B lB w hv (by omega) ht (by omega) (fun e=>by
      rw [knI_eq _ 1 (by decide),if_pos h4] at e
      exact absurd e (by decide))
   rw [if_neg (fun e=>e.elim (fun e=>h4 e.2) (fun e=>absurd e.1 (by decide)))]
   exact cLenAt_good2 v L B lB w hv (by omega) ht (by omega) ((knI_eq _ 1 (by decide)).2 (by rw [if_neg h4,if_pos hm]))
 · rw [ht,show (2:Nat) ^ 2=4 from rfl,show (2:Nat) ^ (8*4 - 2)=1073741824 from rfl]
   by_cases h2:L<4
   · rw [if_pos h2]
     exact cLenAt_end4 v L B w hv (by omega) ht h2
   rw [if_neg h2]
   have hm:=Nat.mod_lt (nbN B 0 4) (show 1073741824 > 0 by decide)
   by_cases h4:nbN B 0 4%1073741824<16384
   · rw [if_pos (.inr ⟨rfl,h4⟩)]
     exact cLenAt_form4 v L B lB w hv (by omega) ht (by omega) (fun e=>by
      rw [knI_eq _ 2 (by decide),if_pos h4] at e
      by_cases h5:nbN B 0 4%1073741824<64
      · rw [if_pos h5] at e;exact absurd e (by decide)
      · rw [if_neg h5] at e;exact absurd e (by decide))
   rw [if_neg (fun e=>e.elim (fun e=>absurd e.1 (by decide)) (fun e=>h4 e.2))]
   exact cLenAt_good4 v L B lB w hv (by omega) ht (by omega) ((knI_eq _ 2 (by decide)).2 (by rw [if_neg (show ¬nbN B 0 4%1073741824<64 by omega),if_neg h4,if_pos hm]))
end Go.Proofs.Ytgdcmibdjiaofaa
namespace Go.Proofs.Ytgdcmibdjiaofaa
open Go.RowKit
theorem BI.at0 {lo hi:Nat} {w:World} {v:Value} {n:Nat} {B:Nat→Nat} (h:BI lo hi w v n B) {g:Nat} {u:Value} (hc:w.cell? ⟨g,0,none⟩=some u) {m:Nat} {C:Nat→Nat} (hu:BI lo hi w u m C) (y:Value):BI lo hi (w.setCell ⟨g,0,none⟩ y) v n B:=by
 refine h.put hc (fun z e => ?_) y
 rcases hu with ⟨xo,rfl,_⟩ | ⟨bb,ob,cap,rfl,_⟩
 · cases e
 · cases e
set_option maxRecDepth 20000 in
set_option maxHeartbeats 2000000 in
theorem cPass_any (lo hi g L:Nat) (B:Nat→Nat) (r:Rd) (n:Nat) (hn:r.at_+n≤L) (w:World) (h:RdC lo hi w g L B r):Calls Try.prog 108 #[.pointer (some ⟨g,0,none⟩),.int .i64 (n:Int)] w fun e w'=>∃ v,e = .returned v∧BI lo hi w' v n (fun j=>B (r.at_+j))∧RdC lo hi w' g L B ⟨r.at_+n,r.e⟩∧Out g 0 2 w w':=by
 obtain ⟨v,⟨c0,z0⟩,-,-,hv⟩:=h.cells
 obtain ⟨xo,cx,x1,c1,x2,c2,rfl,-,hs1,hv1,hs2,hv2⟩:=hv.cut n (by omega)
 have e1:L - r.at_ - n=L - (r.at_+n):=by omega
 rw [e1] at hs2 hv2
 have hv2':BI lo hi w (.slice x2 (L - (r.at_+n)) c2) (L - (r.at_+n)) (fun j=>B (r.at_+n+j)):=hv2.cong fun j _=>by
  show B (r.at_+(n+j))=_
  rw [Nat.add_assoc]
 have H2:=Hid.mk' (h.setR (r.at_+n) hn x2 c2 hv2')
 have H1:=Hid.mk' (hv1.at0 c0 hv (.slice x2 (L - (r.at_+n)) c2))
 obtain ⟨q,hq⟩:∃ q,q=L - (r.at_+n):=⟨_,rfl⟩
 rw [←hq] at hs2 H1 H2
 obtain ⟨p,hp⟩:∃ p,p=L - r.at_:=⟨_,rfl⟩
 rw [←hp] at hs1 hs2 c0
 clear h hv hv1 hv2 hv2' e1 hp hq
 go_enter Try.func108,Try.ntmps108
 go_wp2
 go_ret
 exact ⟨_,rfl,H1.out,H2.out,Out.setCell _ _ (by decide) (by decide)⟩
set_option maxRecDepth 20000 in
set_option maxHeartbeats 2000000 in
theorem cNumR_err (lo hi g L:Nat) (B:Nat→Nat) (r:Rd) (s:Int) (he:r.e≠0) (w:World) (h:RdC lo hi w g L B r):Calls Try.prog 90 #[.pointer (some ⟨g,0,none⟩),.int .i64 s] w fun e w'=>e = .returned (.int .i64 0)∧w'=w:=by
 have c:=cReads_any lo hi g L B r w h
 rw [decide_eq_false he] at c
 clear h
 go_enter Try.func90,Try.ntmps90
 go_wp2
 refine wp_scope_fwd 0 rfl ?_
 go_wp2_with (go_at_call 106;refine c.mono ?_;clear c;rintro e w1 ⟨rfl,hw⟩;obtain rfl:=hw.symm)
 rw [jump_ret]
 go_ret
 exact ⟨rfl,rfl⟩
set_option maxRecDepth 20000 in
set_option maxHeartbeats 2000000 in
theorem cNumR_arg (lo hi g L:Nat) (B:Nat→Nat) (r:Rd) (s:Int) (he:r.e=0) (hs:szB s=false) (w:World) (h:RdC lo hi w g L B r):Calls Try.prog 90 #[.pointer (some ⟨g,0,none⟩),.int .i64 s] w fun e w'=>e = .returned (.int .i64 0)∧RdC lo hi w' g L B ⟨r.at_,1⟩∧Out g 0 2 w w':=by
 have c:=cReads_any lo hi g L B r w h
 rw [decide_eq_true he] at c
 have cs:=cSize_any s w
 rw [hs] at cs
 obtain ⟨v,-,⟨c1,z1⟩,-,-⟩:=h.cells
 have Hh:=Hid.mk' h
 clear h hs
 rw [he] at c1
 go_enter Try.func90,Try.ntmps90
 go_wp2
 refine wp_scope_fwd 0 rfl ?_
 go_wp2_with (first
  | (go_at_call 106;refine c.mono ?_;clear c;rintro e w1 ⟨rfl,hw⟩;obtain rfl:=hw.symm)
  | (go_at_call 109;refine cs.mono ?_;clear cs;rintro e w1 ⟨rfl,hw⟩;obtain rfl:=hw.symm))
 go_step3
 refine ⟨rfl,?_⟩
 go_wp2
 rw [Exit.noGoto_ret]
 go_ret
 exact ⟨rfl,Hh.out.setE 1,Out.setCell _ _ (by decide) (by decide)⟩
set_option maxRecDepth 20000 in
set_option maxHeartbeats 2000000 in
theorem cNumR_end (lo hi g L:Nat) (B:Nat→Nat) (r:Rd) (s:Nat) (he:r.e=0) (hs:szB s=true) (hq:L<r.at_+s) (w:World) (h:RdC lo hi w g L B r):Calls Try.prog 90 #[.pointer (some ⟨g,0,none⟩),.int .i64 s] w fun e w'=>e = .returned (.int .i64 0)∧RdC lo hi w' g L B ⟨r.at_,20⟩∧Out g 0 2 w w':=by
 have c:=cReads_any lo hi g L B r w h
 rw [decide_eq_true he] at c
 have cs:=cSize_any s w
 rw [hs] at cs
 obtain ⟨v,⟨c0,-⟩,⟨c1,z1⟩,-,hv⟩:=h.cells
 obtain ⟨xo,cx,-,-,-,-,rfl,-,-,-,-,-⟩:=hv.cut 0 (Nat.zero_le _)
 have Hh:=Hid.mk' h
 obtain ⟨p,hp⟩:∃ p,p=L - r.at_:=⟨_,rfl⟩
 rw [←hp] at c0
 have ha:=h.le
 have t1:(p:Int)<(s:Int):=by omega
 clear h hs hp hq hv ha
 rw [he] at c1
 go_enter Try.func90,Try.ntmps90
 go_wp2
 refine wp_scope_fwd 0 rfl ?_
 go_wp2_with (first
  | (go_at_call 106;refine c.mono ?_;clear c;rintro e w1 ⟨rfl,hw⟩;obtain rfl:=hw.symm)
  | (go_at_call 109;refine cs.mono ?_;clear cs;rintro e w1 ⟨rfl,hw⟩;obtain rfl:=hw.symm))
 go_step3
 refine ⟨rfl,?_⟩
 go_wp2
 rw [Exit.noGoto_ret]
 go_ret
 exact ⟨rfl,Hh.out.setE 20,Out.setCell _ _ (by decide) (by decide)⟩
set_option maxRecDepth 20000 in
set_option maxHeartbeats 4000000 in
theorem cNumR_range (lo hi g L:Nat) (B:Nat→Nat) (lB:∀ j,B j<256) (r:Rd) (s:Nat) (he:r.e=0) (hs:szB s=true) (hq:r.at_+s≤L) (hN:mstN s≤nbN B r.at_ s) (w:World) (h:RdC lo hi w g L B r):Calls Try.prog 90 #[.pointer (some ⟨g,0,none⟩),.int .i64 s] w fun e w'=>e = .returned (.int .i64 0)∧RdC lo hi w' g L B ⟨r.at_,11⟩∧Out g 0 2 w w':=by
 have c:=cReads_any lo hi g L B r w h
 rw [decide_eq_true he] at c
 have cs:=cSize_any s w
 rw [hs] at cs
 have hs':=szB_cases hs
 have cm:=cMost_any s (by omega) w
 obtain ⟨v,⟨c0,-⟩,⟨c1,z1⟩,-,hv⟩:=h.cells
 obtain ⟨xo,cx,x1,d1,-,-,rfl,-,hsl,hv1,-,-⟩:=hv.cut s (by omega)
 have hh:hi≤w.heap.size:=h.choose_spec.2.2.2.2
 have cj:=cJoin_any _ s _ (fun j=>lB (r.at_+j)) (by omega) w (hv1.of hh)
 rw [nbN_shift] at cj
 have Hh:=Hid.mk' h
 obtain ⟨p,hp⟩:∃ p,p=L - r.at_:=⟨_,rfl⟩
 rw [←hp] at c0 hsl
 have t1:¬(p:Int)<(s:Int):=by omega
 have hml:=mstN_lt s (by omega)
 have hmp:0<mstN s:=by
  unfold mstN
  split
  · decide
  · exact Nat.two_pow_pos _
 obtain ⟨z,hz⟩:∃ z:Int,z=((nbN B r.at_ s:Nat):Int):=⟨_,rfl⟩
 rw [←hz] at cj
 obtain ⟨y,hy⟩:∃ y:Int,y=((mstN s - 1:Nat):Int):=⟨_,rfl⟩
 rw [←hy] at cm
 have e9:IntKind.u64.wrap y=y:=by show y%18446744073709551616=y;omega
 have t2:y<z:=by omega
 clear h hs hp hq hv hv1 hs' hml hmp hz hy hN
 rw [he] at c1
 go_enter Try.func90,Try.ntmps90
 go_wp2
 refine wp_scope_fwd 0 rfl ?_
 go_wp2_with (first
  | (go_at_call 106;refine c.mono ?_;clear c;rintro e w1 ⟨rfl,hw⟩;obtain rfl:=hw.symm)
  | (go_at_call 109;refine cs.mono ?_;clear cs;rintro e w1 ⟨rfl,hw⟩;obtain rfl:=hw.symm)
  | (go_at_call 112;refine cj.mono ?_;clear cj;rintro e w1 ⟨rfl,hw⟩;obtain rfl:=hw.symm)
  | (go_at_call 110;refine cm.mono ?_;clear cm;rintro e w1 ⟨rfl,hw⟩;obtain rfl:=hw.symm))
 go_step3
 refine ⟨rfl,?_⟩
 go_wp2
 rw [Exit.noGoto_ret]
 go_ret
 exact ⟨rfl,Hh.out.setE 11,Out.setCell _ _ (by decide) (by decide)⟩
set_option maxRecDepth 20000 in
set_option maxHeartbeats 4000000 in
theorem cNumR_good (lo hi g L:Nat) (B:Nat→Nat) (lB:∀ j,B j<256) (r:Rd) (s:Nat) (he:r.e=0) (hs:szB s=true) (hq:r.at_+s≤L) (hN:nbN B r.at_ s<mstN s) (w:World) (h:RdC lo hi w g L B r):Calls Try.prog 90 #[.pointer (some ⟨g,0,none⟩),.int .i64 s] w fun e w'=>e = .returned (.int .i64 ((nbN B r.at_ s:Nat):Int))∧RdC lo hi w' g L B ⟨r.at_+s,0⟩∧Out g 0 2 w w':=by
 have c:=cReads_any lo hi g L B r w h
 rw [decide_eq_true he] at c
 have cs:=cSize_any s w
 rw [hs] at cs
 have hs':=szB_cases hs
 have cm:=cMost_any s (by omega) w
 have cp:=cPass_any lo hi g L B r s hq w h
 rw [he] at cp
 obtain ⟨v,⟨c0,-⟩,-,-,hv⟩:=h.cells
 obtain ⟨xo,cx,x1,d1,-,-,rfl,-,hsl,hv1,-,-⟩:=hv.cut s (by omega)
 have hh:hi≤w.heap.size:=h.choose_spec.2.2.2.2
 have cj:=cJoin_any _ s _ (fun j=>lB (r.at_+j)) (by omega) w (hv1.of hh)
 rw [nbN_shift] at cj
 obtain ⟨p,hp⟩:∃ p,p=L - r.at_:=⟨_,rfl⟩
 rw [←hp] at c0 hsl
 have t1:¬(p:Int)<(s:Int):=by omega
 have hml:=mstN_lt s (by omega)
 obtain ⟨z,hz⟩:∃ z:Int,z=((nbN B r.at_ s:Nat):Int):=⟨_,rfl⟩
 rw [←hz] at cj ⊢
 obtain ⟨y,hy⟩:∃ y:Int,y=((mstN s - 1:Nat):Int):=⟨_,rfl⟩
 rw [←hy] at cm
 have e9:IntKind.u64.wrap y=y:=by show y%18446744073709551616=y;omega
 have e8:wrap64 z=z:=by unfold wrap64;omega
 have E8:=Hid.mk' e8
 have t2:¬y<z:=by omega
 clear h hs hp hq hv hv1 hs' hml hz hy hN e8
 go_enter Try.func90,Try.ntmps90
 go_wp2
 refine wp_scope_fwd 0 rfl ?_
 go_wp2_with (first
  | (go_at_call 106;refine c.mono ?_;clear c;rintro e w1 ⟨rfl,hw⟩;obtain rfl:=hw.symm)
  | (go_at_call 109;refine cs.mono ?_;clear cs;rintro e w1 ⟨rfl,hw⟩;obtain rfl:=hw.symm)
  | (go_at_call 112;refine cj.mono ?_;clear cj;rintro e w1 ⟨rfl,hw⟩;obtain rfl:=hw.symm)
  | (go_at_call 110;refine cm.mono ?_;clear cm;rintro e w1 ⟨rfl,hw⟩;obtain rfl:=hw.symm)
  | (go_at_call 108;refine cp.mono ?_;clear cp;rintro e w2 ⟨v2,rfl,hv2,hr2,o2⟩))
 rw [jump_ret]
 go_ret
 exact ⟨by show Ending.returned (.int .i64 (wrap64 z))=_;rw [E8.out],hr2,o2⟩
theorem nbN_eight {B:Nat→Nat} (lB:∀ j,B j<256) (a:Nat):mstN 8≤nbN B a 8↔64≤B a:=by
 have h:∀ s,nbN B a (s+1)<(B a+1)*256 ^ s∧B a*256 ^ s≤nbN B a (s+1):=fun s=>by
  induction s with
  | zero=>show 0*256+B (a+0)<(B a+1)*1∧B a*1≤0*256+B (a+0);rw [Nat.add_zero];omega
  | succ s ih =>
   obtain ⟨h1,h2⟩:=ih
   have:=lB (a+(s+1))
   show nbN B a (s+1)*256+B (a+(s+1))<(B a+1)*(256 ^ s*256)∧B a*(256 ^ s*256)≤nbN B a (s+1)*256+B (a+(s+1))
   rw [←Nat.mul_assoc,←Nat.mul_assoc]
   generalize (B a+1)*256 ^ s=X at *
   generalize B a*256 ^ s=Y at *
   omega
 obtain ⟨h1,h2⟩:nbN B a 8<(B a+1)*256 ^ 7∧B a*256 ^ 7≤nbN B a 8:=h 7
 show 4611686018427387904≤nbN B a 8↔_
 simp only [Nat.reducePow] at h1 h2
 have:=lB a
 omega
theorem cNumR_any (lo hi g L:Nat) (B:Nat→Nat) (lB:∀ j,B j<256) (r:Rd) (s:Int) (w:World) (h:RdC lo hi w g L B r):Calls Try.prog 90 #[.pointer (some ⟨g,0,none⟩),.int .i64 s] w fun e w'=>e = .returned (.int .i64 (((numD L B s r).1:Nat):Int))∧RdC lo hi w' g L B (numD L B s r).2∧Out g 0 2 w w':=by
 have ha:=h.le
 unfold numD
 by_cases he:r.e≠0
 · rw [if_pos he]
   exact (cNumR_err lo hi g L B r s he w h).mono fun e w' ⟨h1,h2⟩=>⟨h1,by rw [h2];exact h,by rw [h2];exact Out.refl _ _ _ _⟩
 replace he:r.e=0:=Decidable.not_not.mp he
 rw [if_neg (fun e=>e he)]
 by_cases hs:szB s=false
 · rw [if_pos hs]
   exact cNumR_arg lo hi g L B r s he hs w h
 rw [if_neg hs]
 replace hs:szB s=true:=by simpa using hs
 have hs':=szB_cases hs
 obtain ⟨k,rfl⟩:∃ k:Nat,s=(k:Int):=⟨s.toNat,by omega⟩
 rw [Int.toNat_natCast]
 by_cases h1:(L:Int) - (r.at_:Int)<(k:Int)
 · rw [if_pos h1]
   exact cNumR_end lo hi g L B r k he hs (by omega) w h
 rw [if_neg h1]
 have hk:k=1∨k=2∨k=4∨k=8:=by omega
 by_cases h2:(k:Int)=8∧64≤B r.at_
 · rw [if_pos h2]
   obtain rfl:k=8:=by omega
   exact cNumR_range lo hi g L B lB r 8 he hs (by omega) ((nbN_eight lB _).2 h2.2) w h
 rw [if_neg h2]
 refine cNumR_good lo hi g L B lB r k he hs (by omega) ?_ w h
 rcases hk with rfl | rfl | rfl | rfl
 · exact nbN_lt lB _ 1
 · exact nbN_lt lB _ 2
 · exact nbN_lt lB _ 4
 · exact Nat.lt_of_not_le fun e=>h2 ⟨rfl,(nbN_eight lB _).1 e⟩
end Go.Proofs.Ytgdcmibdjiaofaa
namespace Go.Proofs.Ytgdcmibdjiaofaa
open Go.RowKit
theorem RdC.size {lo hi:Nat} {w:World} {g L:Nat} {B:Nat→Nat} {r:Rd} (h:RdC lo hi w g L B r):hi≤w.heap.size:=h.choose_spec.2.2.2.2
def lenA (L:Nat) (B:Nat→Nat) (a:Nat):Nat × Rd:=lenD (L - a) (fun j=>B (a+j)) ⟨0,0⟩
theorem lenA_eq {L:Nat} {B:Nat→Nat} {r:Rd} (ha:r.at_≤L) (he:r.e=0):lenD L B r=((lenA L B r.at_).1,⟨r.at_+(lenA L B r.at_).2.at_,(lenA L B r.at_).2.e⟩):=by
 have:=lenD_shift L B r.at_ ha
 rw [show (⟨r.at_,0⟩:Rd)=r by rw [←he]] at this
 exact this
theorem lenA_le (L:Nat) (B:Nat→Nat) (a:Nat):(lenA L B a).2.at_≤L - a∧((lenA L B a).2.e≠0→(lenA L B a).1=0∧(lenA L B a).2.at_=0):=by
 unfold lenA lenD
 rw [if_neg (fun h=>h rfl)]
 split
 · exact ⟨Nat.zero_le _,fun _=>⟨rfl,rfl⟩⟩
 · split
   · exact ⟨Nat.zero_le _,fun _=>⟨rfl,rfl⟩⟩
   · split
     · exact ⟨Nat.zero_le _,fun _=>⟨rfl,rfl⟩⟩
     · split
       · exact ⟨Nat.zero_le _,fun _=>⟨rfl,rfl⟩⟩
       · rename_i h _
         refine ⟨?_,fun e=>absurd rfl e⟩
         show 0+_≤_
         rw [Nat.sub_zero] at h
         omega
set_option maxRecDepth 20000 in
set_option maxHeartbeats 2000000 in
theorem cVecR_err (lo hi g L:Nat) (B:Nat→Nat) (r:Rd) (he:r.e≠0) (w:World) (h:RdC lo hi w g L B r):Calls Try.prog 85 #[.pointer (some ⟨g,0,none⟩)] w fun e w'=>e = .returned (.slice none 0 0)∧w'=w:=by
 have c:=cReads_any lo hi g L B r w h
 rw [decide_eq_false he] at c
 clear h
 go_enter Try.func85,Try.ntmps85
 go_wp2
 refine wp_scope_fwd 0 rfl ?_
 go_wp2_with (go_at_call 106;refine c.mono ?_;clear c;rintro e w1 ⟨rfl,hw⟩;obtain rfl:=hw.symm)
 rw [jump_ret]
 go_ret
 exact ⟨rfl,rfl⟩
set_option maxRecDepth 20000 in
set_option maxHeartbeats 2000000 in
theorem cVecR_bad (lo hi g L:Nat) (B:Nat→Nat) (lB:∀ j,B j<256) (r:Rd) (he:r.e=0) (hb:(lenA L B r.at_).2.e≠0) (w:World) (h:RdC lo hi w g L B r):Calls Try.prog 85 #[.pointer (some ⟨g,0,none⟩)] w fun e w'=>e = .returned (.slice none 0 0)∧RdC lo hi w' g L B ⟨r.at_,(lenA L B r.at_).2.e⟩∧Out g 0 2 w w':=by
 have c:=cReads_any lo hi g L B r w h
 rw [decide_eq_true he] at c
 obtain ⟨v,⟨c0,-⟩,⟨c1,z1⟩,-,hv⟩:=h.cells
 have cl:=cLenAt_any _ _ _ (fun j=>lB (r.at_+j)) w (hv.of h.size)
 obtain ⟨xo,cx,-,-,-,-,rfl,-,-,-,-,-⟩:=hv.cut 0 (Nat.zero_le _)
 have Hh:=Hid.mk' h
 have ha:=h.le
 rw [he] at c1
 replace cl:Calls Try.prog 107 #[.slice xo (L - r.at_) cx] w fun e w'=>e=ansL (lenA L B r.at_)∧w'=w:=cl
 rw [show ansL (lenA L B r.at_) = .returned (.tuple #[.int .i64 0,.int .i64 0,.int .i64 (lenA L B r.at_).2.e]) by unfold ansL;rw [((lenA_le L B r.at_).2 hb).1,((lenA_le L B r.at_).2 hb).2];rfl] at cl
 generalize (lenA L B r.at_).2.e=er at *
 generalize L - r.at_=p at *
 clear h hv ha
 go_enter Try.func85,Try.ntmps85
 go_wp2
 refine wp_scope_fwd 0 rfl ?_
 go_wp2_with (first
  | (go_at_call 106;refine c.mono ?_;clear c;rintro e w1 ⟨rfl,hw⟩;obtain rfl:=hw.symm)
  | (go_at_call 107;refine cl.mono ?_;clear cl;rintro e w1 ⟨rfl,hw⟩;obtain rfl:=hw.symm))
 go_step3
 refine ⟨rfl,?_⟩
 go_wp2
 rw [Exit.noGoto_ret]
 go_ret
 exact ⟨rfl,Hh.out.setE er,Out.setCell _ _ (by decide) (by decide)⟩
end Go.Proofs.Ytgdcmibdjiaofaa
namespace Go.Proofs.Ytgdcmibdjiaofaa
open Go.RowKit
set_option maxRecDepth 20000 in
set_option maxHeartbeats 2000000 in
theorem cVecR_form (lo hi g L:Nat) (B:Nat→Nat) (lB:∀ j,B j<256) (r:Rd) (_hL:L<140737488355000) (he:r.e=0) (hb:(lenA L B r.at_).2.e=0) (hn:65536<(lenA L B r.at_).1) (w:World) (h:RdC lo hi w g L B r):Calls Try.prog 85 #[.pointer (some ⟨g,0,none⟩)] w fun e w'=>e = .returned (.slice none 0 0)∧RdC lo hi w' g L B ⟨r.at_,21⟩∧Out g 0 2 w w':=by
 have c:=cReads_any lo hi g L B r w h
 rw [decide_eq_true he] at c
 obtain ⟨v,⟨c0,-⟩,⟨c1,z1⟩,-,hv⟩:=h.cells
 have cl:=cLenAt_any _ _ _ (fun j=>lB (r.at_+j)) w (hv.of h.size)
 obtain ⟨xo,cx,-,-,-,-,rfl,-,-,-,-,-⟩:=hv.cut 0 (Nat.zero_le _)
 have Hh:=Hid.mk' h
 have ha:=h.le
 have hle:=(lenA_le L B r.at_).1
 replace cl:Calls Try.prog 107 #[.slice xo (L - r.at_) cx] w fun e w'=>e=ansL (lenA L B r.at_)∧w'=w:=cl
 unfold ansL at cl
 rw [hb] at cl
 generalize (lenA L B r.at_).2.at_=sz at *
 generalize (lenA L B r.at_).1=n at *
 rw [he] at c1
 obtain ⟨z,hz⟩:∃ z:Int,z=(n:Int):=⟨_,rfl⟩
 rw [←hz] at cl
 have t1:(65536:Int)<z:=by omega
 clear hle hn hz
 generalize L - r.at_=p at *
 clear h hv ha hb
 go_enter Try.func85,Try.ntmps85
 go_wp2
 refine wp_scope_fwd 0 rfl ?_
 go_wp2_with (first
  | (go_at_call 106;refine c.mono ?_;clear c;rintro e w1 ⟨rfl,hw⟩;obtain rfl:=hw.symm)
  | (go_at_call 107;refine cl.mono ?_;clear cl;rintro e w1 ⟨rfl,hw⟩;obtain rfl:=hw.symm))
 go_step3
 refine ⟨rfl,?_⟩
 go_wp2
 rw [Exit.noGoto_ret]
 go_ret
 exact ⟨rfl,Hh.out.setE 21,Out.setCell _ _ (by decide) (by decide)⟩
set_option maxRecDepth 20000 in
set_option maxHeartbeats 2000000 in
theorem cVecR_end (lo hi g L:Nat) (B:Nat→Nat) (lB:∀ j,B j<256) (r:Rd) (_hL:L<140737488355000) (he:r.e=0) (hb:(lenA L B r.at_).2.e=0) (hn:¬65536<(lenA L B r.at_).1) (hq:L<r.at_+(lenA L B r.at_).2.at_+(lenA L B r.at_).1) (w:World) (h:RdC lo hi w g L B r):Calls Try.prog 85 #[.pointer (some ⟨g,0,none⟩)] w fun e w'=>e = .returned (.slice none 0 0)∧RdC lo hi w' g L B ⟨r.at_,20⟩∧Out g 0 2 w w':=by
 have c:=cReads_any lo hi g L B r w h
 rw [decide_eq_true he] at c
 obtain ⟨v,⟨c0,-⟩,⟨c1,z1⟩,-,hv⟩:=h.cells
 have cl:=cLenAt_any _ _ _ (fun j=>lB (r.at_+j)) w (hv.of h.size)
 obtain ⟨xo,cx,-,-,-,-,rfl,-,-,-,-,-⟩:=hv.cut 0 (Nat.zero_le _)
 have Hh:=Hid.mk' h
 have ha:=h.le
 have hle:=(lenA_le L B r.at_).1
 replace cl:Calls Try.prog 107 #[.slice xo (L - r.at_) cx] w fun e w'=>e=ansL (lenA L B r.at_)∧w'=w:=cl
 unfold ansL at cl
 rw [hb] at cl
 generalize (lenA L B r.at_).2.at_=sz at *
 generalize (lenA L B r.at_).1=n at *
 rw [he] at c1
 obtain ⟨z,hz⟩:∃ z:Int,z=(n:Int):=⟨_,rfl⟩
 rw [←hz] at cl
 obtain ⟨p,hp⟩:∃ p,p=L - r.at_:=⟨_,rfl⟩
 rw [←hp] at cl c0
 have t1:¬(65536:Int)<z:=by omega
 have t3:(p:Int) - (sz:Int)<z:=by omega
 have t4:wrap64 ((p:Int) - (sz:Int))<z:=by unfold wrap64;omega
 clear hle hn hz hp hq
 clear h hv ha hb
 go_enter Try.func85,Try.ntmps85
 go_wp2
 refine wp_scope_fwd 0 rfl ?_
 go_wp2_with (first
  | (go_at_call 106;refine c.mono ?_;clear c;rintro e w1 ⟨rfl,hw⟩;obtain rfl:=hw.symm)
  | (go_at_call 107;refine cl.mono ?_;clear cl;rintro e w1 ⟨rfl,hw⟩;obtain rfl:=hw.symm))
 go_step3
 refine ⟨rfl,?_⟩
 go_wp2
 rw [Exit.noGoto_ret]
 go_ret
 exact ⟨rfl,Hh.out.setE 20,Out.setCell _ _ (by decide) (by decide)⟩
set_option maxRecDepth 20000 in
set_option maxHeartbeats 2000000 in
theorem cVecR_good (lo hi g L:Nat) (B:Nat→Nat) (lB:∀ j,B j<256) (r:Rd) (hL:L<140737488355000) (he:r.e=0) (hb:(lenA L B r.at_).2.e=0) (hn:¬65536<(lenA L B r.at_).1) (hq:r.at_+(lenA L B r.at_).2.at_+(lenA L B r.at_).1≤L) (w:World) (h:RdC lo hi w g L B r):Calls Try.prog 85 #[.pointer (some ⟨g,0,none⟩)] w fun e w'=>∃ v,e = .returned v∧Own w.heap.size w' v (lenA L B r.at_).1 (fun j=>B (r.at_+(lenA L B r.at_).2.at_+j))∧RdC lo hi w' g L B ⟨r.at_+(lenA L B r.at_).2.at_+(lenA L B r.at_).1,0⟩∧Out g 0 2 w w':=by
 have c:=cReads_any lo hi g L B r w h
 rw [decide_eq_true he] at c
 obtain ⟨v,⟨c0,-⟩,⟨c1,z1⟩,-,hv⟩:=h.cells
 have cl:=cLenAt_any _ _ _ (fun j=>lB (r.at_+j)) w (hv.of h.size)
 obtain ⟨xo,cx,-,-,-,-,rfl,-,-,-,-,-⟩:=hv.cut 0 (Nat.zero_le _)
 have Hh:=Hid.mk' h
 have ha:=h.le
 have hle:=(lenA_le L B r.at_).1
 replace cl:Calls Try.prog 107 #[.slice xo (L - r.at_) cx] w fun e w'=>e=ansL (lenA L B r.at_)∧w'=w:=cl
 unfold ansL at cl
 rw [hb] at cl
 generalize (lenA L B r.at_).2.at_=sz at *
 generalize (lenA L B r.at_).1=n at *
 rw [he] at c1
 have cp:=cPass_any lo hi g L B r sz (by omega) w h
 rw [he] at cp
 have cq:=fun w2 h2=>cPass_any lo hi g L B ⟨r.at_+sz,0⟩ n hq w2 h2
 have gl:=h.lt
 have hn':n<140737488355000:=by omega
 obtain ⟨p,hp⟩:∃ p,p=L - r.at_:=⟨_,rfl⟩
 rw [←hp] at cl c0
 obtain ⟨z,hz⟩:∃ z:Int,z=(n:Int):=⟨_,rfl⟩
 rw [←hz] at cl cq
 have t1:¬(65536:Int)<z:=by omega
 have t3:¬(p:Int) - (sz:Int)<z:=by omega
 have t4:¬wrap64 ((p:Int) - (sz:Int))<z:=by unfold wrap64;omega
 clear hle hn hp hq hz
 clear h hv ha hb c1 z1 Hh
 go_enter Try.func85,Try.ntmps85
 go_wp2
 refine wp_scope_fwd 0 rfl ?_
 go_wp2_with (first
  | (go_at_call 106;refine c.mono ?_;clear c;rintro e w1 ⟨rfl,hw⟩;obtain rfl:=hw.symm)
  | (go_at_call 107;refine cl.mono ?_;clear cl;rintro e w1 ⟨rfl,hw⟩;obtain rfl:=hw.symm)
  | (go_at_call 108;refine cp.mono ?_;clear cp;rintro e w2 ⟨v2,rfl,-,hr2,o2⟩;(have cq2:=cq w2 hr2);clear cq)
  | (go_at_call 108;refine cq2.mono ?_;clear cq2;rintro e w3 ⟨v3,rfl,hv3,hr3,o3⟩;(have cc:=cClone_any v3 n _ hn' w3 (hv3.of hr3.size)))
  | (go_at_call 95;refine cc.mono ?_;clear cc;rintro e w4 ⟨u4,rfl,own4,b4⟩))
 rw [jump_ret]
 go_ret
 have o:=o2.trans o3
 exact ⟨_,rfl,World.ownsRow.mono own4 o.size,hr3.still b4,o.trans (Out.of_below b4 (Nat.lt_of_lt_of_le gl o.size))⟩
theorem cVecR_any (lo hi g L:Nat) (B:Nat→Nat) (lB:∀ j,B j<256) (r:Rd) (hL:L<140737488355000) (w:World) (h:RdC lo hi w g L B r):Calls Try.prog 85 #[.pointer (some ⟨g,0,none⟩)] w fun e w'=>∃ v,e = .returned v∧Own w.heap.size w' v (vecD L B r).1 (fun j=>B ((lenD L B r).2.at_+j))∧RdC lo hi w' g L B (vecD L B r).2∧Out g 0 2 w w':=by
 have ha:=h.le
 unfold vecD
 by_cases he:r.e≠0
 · have e0:lenD L B r=(0,r):=by unfold lenD;rw [if_pos he]
   have e1:takD L ((0:Nat):Int) r=(0,r):=by unfold takD;rw [if_pos he]
   simp only [e0,if_neg (fun (e:r.e=0∧65536<0)=>he e.1),e1,if_pos he]
   exact (cVecR_err lo hi g L B r he w h).mono fun e w' ⟨h1,h2⟩=>⟨_,h1,Own.nil _ _ _,by rw [h2];exact h,by rw [h2];exact Out.refl _ _ _ _⟩
 replace he:r.e=0:=Decidable.not_not.mp he
 rw [lenA_eq ha he]
 dsimp only
 by_cases hb:(lenA L B r.at_).2.e=0
 · by_cases hn:65536<(lenA L B r.at_).1
   · have e1:takD L (((lenA L B r.at_).1:Nat):Int) ⟨r.at_+(lenA L B r.at_).2.at_,21⟩=(0,⟨r.at_+(lenA L B r.at_).2.at_,21⟩):=by unfold takD;exact if_pos (fun e=>by cases e)
     rw [if_pos (show (lenA L B r.at_).2.e=0∧65536<(lenA L B r.at_).1 from ⟨hb,hn⟩),e1,if_pos (show (21:Int)≠0 by decide)]
     exact (cVecR_form lo hi g L B lB r hL he hb hn w h).mono fun e w' ⟨h1,h2,h3⟩=>⟨_,h1,Own.nil _ _ _,h2,h3⟩
   rw [if_neg (fun (e:(lenA L B r.at_).2.e=0∧65536<(lenA L B r.at_).1)=>hn e.2),hb]
   by_cases hq:L<r.at_+(lenA L B r.at_).2.at_+(lenA L B r.at_).1
   · have e1:takD L (((lenA L B r.at_).1:Nat):Int) ⟨r.at_+(lenA L B r.at_).2.at_,0⟩=(0,⟨r.at_+(lenA L B r.at_).2.at_,20⟩):=by
      unfold takD
      rw [if_neg (fun e=>e rfl),if_neg (by omega),if_pos (by show (L:Int) - ((r.at_+(lenA L B r.at_).2.at_:Nat):Int)<_;omega)]
     rw [e1,if_pos (show (20:Int)≠0 by decide)]
     exact (cVecR_end lo hi g L B lB r hL he hb hn hq w h).mono fun e w' ⟨h1,h2,h3⟩=>⟨_,h1,Own.nil _ _ _,h2,h3⟩
   · have e1:takD L (((lenA L B r.at_).1:Nat):Int) ⟨r.at_+(lenA L B r.at_).2.at_,0⟩=((lenA L B r.at_).1,⟨r.at_+(lenA L B r.at_).2.at_+(lenA L B r.at_).1,0⟩):=by
      unfold takD
      rw [if_neg (fun e=>e rfl),if_neg (by omega),if_neg (by show ¬(L:Int) - ((r.at_+(lenA L B r.at_).2.at_:Nat):Int)<_;omega),Int.toNat_natCast]
     rw [e1,if_neg (show ¬(0:Int)≠0 from fun e=>e rfl)]
     exact cVecR_good lo hi g L B lB r hL he hb hn (by omega) w h
 · have hz:=(lenA_le L B r.at_).2 hb
   have e1:takD L (((lenA L B r.at_).1:Nat):Int) ⟨r.at_+(lenA L B r.at_).2.at_,(lenA L B r.at_).2.e⟩=(0,⟨r.at_+(lenA L B r.at_).2.at_,(lenA L B r.at_).2.e⟩):=by unfold takD;rw [if_pos hb]
   rw [if_neg (fun (e:(lenA L B r.at_).2.e=0∧65536<(lenA L B r.at_).1)=>hb e.1),e1,if_pos hb]
   exact (cVecR_bad lo hi g L B lB r he hb w h).mono fun e w' ⟨h1,h2,h3⟩=>⟨_,h1,Own.nil _ _ _,h2,h3⟩
end Go.Proofs.Ytgdcmibdjiaofaa
namespace Go.Proofs.Ytgdcmibdjiaofaa
open Go.RowKit
theorem run_append_zeros_nil (w:World) (ty:TypeId) (m:Nat) (h0:0<m) (hm:m≤1000000) :
 (Builtin.append_ #[22,3] ty #[.slice none 0 0,.int .i64 m]).run Try.prog w =
  .ok (.slice (some ⟨w.heap.size,0,none⟩) m (grownCap w m 0 5)) (w.drew.alloc (.cells ((ints .u8 m (fun _=>0)).toArray ++ Builtin.zeroCells #[.int .u8 0] (grownCap w m 0 5 - m)) 5)):=by
 obtain ⟨i,hi,hz,hz1,hz2⟩:=info_parts Try.info5
 have h63':¬ (9223372036854775807<(m:Int)):=by omega
 have hw:IntKind.i64.wrap (m:Int)=m:=by simp only [IntKind.wrap_i64];omega
 have hl0:¬((m:Int)<0):=by omega
 have h48:¬ (281474976710656<(m:Int)):=by omega
 have hm0:¬(m=0):=by omega
 have hai:∀ W,Sem.run Try.prog (asInt (.int .i64 (m:Int))) W = .ok (m:Int) W:=fun _=>rfl
 have hc:(Value.int IntKind.u8 0).cells=#[.int .u8 0]:=rfl
 have hu:=run_underlying (P:=Try.prog) Try.underlying22
 have hu2:=run_underlying (P:=Try.prog) Try.underlying3
 have hns:¬ (281474976710656<Builtin.nextslicecap m 0):=by rw [nextslicecap_zero h0];omega
 simp [Builtin.append_,hu,hu2,sizeOf,typeInfo,zeroValue,hi,hz,hai,hw,hl0,h48,hz1,hz2,h63',Question.forced,run_firstCells_none,newRow,grownCap,hc,hm0,hns]
 rw [zeroCells_u8 m]
theorem append_zeros0 (w:World) (ty:TypeId) (m:Nat) (h0:0<m) (hm:m≤1000000) :
 ∃ g cap w',(Builtin.append_ #[22,3] ty #[.slice none 0 0,.int .i64 m]).run Try.prog w = .ok (.slice (some ⟨g,0,none⟩) m cap) w'∧m≤cap∧Own w.heap.size w' (.slice (some ⟨g,0,none⟩) 0 cap) 0 (fun _=>0)∧Below w.heap.size w w':=by
 have hge:=grownCap_ge w m 0 5
 have hcm:=grownCap_le_maxLen w m 0 5 (by unfold maxLen;omega)
 refine ⟨_,_,_,run_append_zeros_nil w ty m h0 hm,hge,⟨rfl,.inr ⟨w.heap.size,_,_,rfl,Nat.le_refl _,heap_alloc_new w.drew _,Nat.zero_le _,hcm,?_,rfl⟩⟩,((Below.refl _ _).drew).alloc (Nat.le_refl _) _⟩
 simp only [Array.size_append,List.size_toArray,size_zeroCells,ints_len]
 simp
 omega
theorem wpList_append_zeros0 {w:World} {ops:Array Oper} {rest:List Oper} {o:Oper} {a:Act} {Q:Exit→Act→World→Prop} (hgd:o.guard=none) (s x:Operand)
 (ho:o.op = .call { callee := .builtin .append,args:=#[s,x],argTypes:=#[22,3] }) (hs:a.eval s = .slice none 0 0) (m:Nat) (hx:a.eval x = .int .i64 m) (h0:0<m) (hm:m≤1000000)
 (h:∀ g cap w',m≤cap→Own w.heap.size w' (.slice (some ⟨g,0,none⟩) 0 cap) 0 (fun _=>0)→Below w.heap.size w w'→wpList Try.prog ops Q rest (a.put o.dst (.slice (some ⟨g,0,none⟩) m cap)) w'):wpList Try.prog ops Q (o :: rest) a w:=by
 refine wpList_plain hgd fun K hK => ?_
 obtain ⟨g,cap,w',h1,h2,h3,h4⟩:=append_zeros0 w o.type m h0 hm
 unfold Oper.wp execOp
 simp only [ho,resolve,invoke,builtin,Sem.run_bind,Sem.run_pure,Result.andThen_ok,List.map_toArray,List.map_cons,List.map_nil,hs,hx,h1]
 exact hK _ _ (h g cap w' h2 h3 h4)
set_option maxRecDepth 20000 in
set_option maxHeartbeats 4000000 in
theorem grow_any (m:Nat) (h0:0<m) (hm:m≤1000000) (w:World) :
 Calls Try.prog 120 #[.slice none 0 0,.int .i64 m] w fun e w'=>∃ g cap,e = .returned (.slice (some ⟨g,0,none⟩) 0 cap)∧Own w.heap.size w' (.slice (some ⟨g,0,none⟩) 0 cap) 0 (fun _=>0)∧Below w.heap.size w w':=by
 have e1:¬((m:Int)<0):=by omega
 have e2:(0:Int)<(m:Int):=by omega
 have e3:IntKind.i64.wrap ((m:Int) - 0)=(m:Int):=by simp only [IntKind.wrap_i64];omega
 have e4:IntKind.i64.wrap (m:Int)=(m:Int):=by simp only [IntKind.wrap_i64];omega
 go_enter Try.func120,Try.ntmps120
 go_wp2_with (at_builtin;refine wpList_append_zeros0 rfl (.tmp 20) (.tmp 21) rfl rfl m rfl h0 hm ?_;intro g cap w1 hcap own hb)
 go_ret
 exact ⟨g,cap,rfl,own,hb⟩
end Go.Proofs.Ytgdcmibdjiaofaa
namespace Go.Proofs.Ytgdcmibdjiaofaa
open Go.RowKit
def Parts (w:World) (gp cnt m:Nat) (t:Nat→Nat):Prop:=∃ (pvs:Nat→Value) (L:Nat→Nat),L 0=0∧L cnt=m∧∀ i,i<cnt→w.cell? ⟨gp,i,none⟩=some (pvs i)∧L i≤L (i+1)∧L (i+1)≤m∧BytesIn w (pvs i) (L (i+1) - L i) (fun j=>t (L i+j))
set_option maxRecDepth 20000 in
set_option maxHeartbeats 8000000 in
theorem concat_parts (gp cnt m:Nat) (t:Nat→Nat) (w:World) (hP:Parts w gp cnt m t) (hcnt:cnt≤1000) (hsum:m≤1000000) (h0:0<m) :
 Calls Try.prog 105 #[.slice (some ⟨gp,0,none⟩) cnt cnt] w fun e w'=>∃ s,e = .returned s∧Own w.heap.size w' s m t∧Below w.heap.size w w':=by
 obtain ⟨pvs,L,p0,p1,p2⟩:=hP
 have P2:=Hid.mk' p2
 clear p2
 have hg:=grow_any m h0 hsum w
 go_enter Try.func105,Try.ntmps105
 go_wp2
 go_loopw [3,11] (fun s i wr=>∃ q T:Nat,q≤cnt∧i = .int .i64 q∧Hid (T=L q)∧s = .int .i64 T∧w=wr) (fun _ i _=>cnt - (intOf i).toNat)
 case atStart=>exact ⟨0,0,Nat.zero_le _,rfl,Hid.mk' p0.symm,rfl,rfl⟩
 case round =>
  obtain ⟨q,T,hq,rfl,HT,rfl,rfl⟩:=hrel
  by_cases hlt:q<cnt
  · obtain ⟨c1,c2,c3,c4⟩:=P2.out q hlt
    obtain ⟨xp,cp,hpv,hxn,hncp,hsrc⟩:=c4.src
    obtain ⟨n,hn⟩:∃ n,n=L (q+1) - L q:=⟨_,rfl⟩
    have hTn:T+n=L (q+1):=by have:=HT.out;omega
    have hTm:T+n≤1000000:=by omega
    have r0:w.cell? ⟨gp,q,none⟩=some (.slice xp n cp):=by rw [c1,hpv,hn]
    have hqi:(0:Int)≤(q:Int)∧(q:Int)<cnt:=by omega
    have hd:decide ((q:Int)<(cnt:Int))=true:=decide_eq_true (by omega)
    have ew:IntKind.i64.wrap ((T:Int)+(n:Int))=(T:Int)+n:=by simp only [IntKind.wrap_i64];omega
    have en:¬((T:Int)+(n:Int)<0):=by omega
    have HN:Hid (T+n=L (q+1)):=hTn
    clear hn hTn c1 c2 c3 c4 hpv hsrc hg p0 p1
    go_wp2
    go_roundw
    case rel=>exact ⟨q+1,T+n,by omega,by go_num,Hid.mk' HN.out,by simp,by first | rfl | trivial⟩
    case measure=>simp [intOf];omega
  · have hqe:q=cnt:=by omega
    subst hqe
    have hTm:T=m:=by rw [HT.out,p1]
    subst hTm
    go_wp2_with (go_at_call 120;refine hg.mono ?_;clear hg;rintro e w1 ⟨g1,cap1,rfl,own1,hb1⟩)
    have hd0:decide ((q:Int)<(q:Int))=false:=decide_eq_false (by omega)
    try rw [hd0]
    clear hd0 hlt HT
    go_loopw [6,27] (fun ns i wr=>∃ r A:Nat,r≤q∧i = .int .i64 r∧Hid (A=L r)∧Own w.heap.size wr ns A t∧Below w.heap.size w wr) (fun _ i _=>q - (intOf i).toNat)
    case atStart=>exact ⟨0,0,Nat.zero_le _,rfl,Hid.mk' p0.symm,own1.congr (fun j hj=>absurd hj (Nat.not_lt_zero j)),hb1⟩
    case round =>
     clear own1 hb1
     obtain ⟨r,A,hr,rfl,HA,own,hbw⟩:=hrel
     by_cases hlt:r<q
     · obtain ⟨c1,c2,c3,c4⟩:=P2.out r hlt
       obtain ⟨xp,cp,hpv,hxn,hncp,hsrc⟩:=c4.src
       obtain ⟨n,hn⟩:∃ n,n=L (r+1) - L r:=⟨_,rfl⟩
       have hTn:A+n=L (r+1):=by have:=HA.out;omega
       have hTm:A+n≤1000000:=by omega
       have r0:wr.cell? ⟨gp,r,none⟩=some (.slice xp n cp):=by rw [hbw.cell (p:=⟨gp,r,none⟩) (block_lt_of_cell c1),c1,hpv,hn]
       have hcg:∀ z,z<A+n→cat A t (fun j=>t (L r+j)) z=t z:=fun z hz=>by
        have:=HA.out
        unfold cat
        by_cases e:z<A
        · rw [if_pos e]
        · rw [if_neg e]
          show t (L r+(z - A))=t z
          rw [show L r+(z - A)=z by omega]
       have src:=hsrc wr hbw
       rw [←hn] at src
       obtain ⟨Y,hY⟩:∃ Y:Nat→Nat,Y=fun j=>t (L r+j):=⟨_,rfl⟩
       rw [←hY] at src hcg
       have hqi:(0:Int)≤(r:Int)∧(r:Int)<q:=by omega
       have hd:decide ((r:Int)<(q:Int))=true:=decide_eq_true (by omega)
       have hsz:=hbw.size
       have HN:Hid (A+n=L (r+1)):=hTn
       clear hn hTn c1 c2 c3 c4 hpv hsrc p0 p1 hY
       go_wp2_with (at_builtin;refine wpList_append_bytes rfl (.tmp 31) (.tmp 32) rfl w.heap.size u6 A t rfl own xp n cp Y rfl src hxn (by omega) hsz ?_;intro v6 w6 own6 grow6;(have hb6:Below w.heap.size w w6:=Own.grown hbw grow6 own (Nat.le_refl _) hsz))
       go_roundw
       case rel=>exact ⟨r+1,A+n,by omega,by go_num,Hid.mk' HN.out,own6.congr hcg,hb6⟩
       case measure=>simp [intOf];omega
     · have hqe:r=q:=by omega
       subst hqe
       have hA:=HA.out
       rw [p1] at hA
       go_wp2
       go_ret
       exact ⟨_,rfl,by rw [←hA];exact own,hbw⟩
theorem BytesIn.cong {w:World} {v:Value} {n:Nat} {a b:Nat→Nat} (h:BytesIn w v n a) (e:∀ j,j<n→a j=b j):BytesIn w v n b:=by
 rcases h with h | ⟨bb,ob,cap,rfl,h1,h2,h3⟩
 · exact .inl h
 · exact .inr ⟨bb,ob,cap,rfl,h1,h2,fun j hj=>by rw [h3 j hj,e j hj]⟩
theorem parts_two (w:World) (v u:Value) (n m:Nat) (t s:Nat→Nat) (ty:TypeId) (h1:BytesIn w v n t) (h2:BytesIn w u m s):Parts (w.alloc (.cells #[v,u] ty)) w.heap.size 2 (n+m) (cat n t s):=by
 have b:=(Below.refl _ w).alloc (Nat.le_refl _) (.cells #[v,u] ty)
 refine ⟨fun i=>if i=0 then v else u,fun i=>if i=0 then 0 else if i=1 then n else n+m,rfl,rfl,fun i hi => ?_⟩
 rcases (show i=0∨i=1 by omega) with rfl | rfl
 · refine ⟨by simp,Nat.zero_le _,Nat.le_add_right _ _,?_⟩
   show BytesIn _ v (n - 0) (fun j=>cat n t s (0+j))
   rw [Nat.sub_zero]
   exact (h1.keep b).cong fun j hj=>by rw [Nat.zero_add,cat_left hj]
 · refine ⟨by simp,Nat.le_add_right _ _,Nat.le_refl _,?_⟩
   show BytesIn _ u (n+m - n) (fun j=>cat n t s (n+j))
   rw [Nat.add_sub_cancel_left]
   exact (h2.keep b).cong fun j hj=>by rw [cat_right]
set_option maxRecDepth 20000 in
set_option maxHeartbeats 4000000 in
theorem cVec11_good (v:Value) (n:Nat) (b:Nat→Nat) (hn:n≤65536) (w:World) (hv:BytesIn w v n b):Calls Try.prog 83 #[v] w fun e w'=>∃ s,e = .returned (.tuple #[s,.int .i64 0])∧Own w.heap.size w' s (vcL n) (vcB n b)∧Below w.heap.size w w':=by
 have HV:=Hid.mk' hv
 obtain ⟨x1,c1,rfl,-,-,-⟩:=hv.src
 clear hv
 have cl:=cLen11_good n (by omega) w
 have hs:=lnS_pos n
 obtain ⟨z,hz⟩:∃ z:Int,z=(n:Int):=⟨_,rfl⟩
 have t1:¬(65536:Int)<(n:Int):=by omega
 have hL:vcL n≤1000000:=by unfold vcL;omega
 have h0:0<vcL n:=by unfold vcL;omega
 clear hn hz hs
 go_enter Try.func83,Try.ntmps83
 go_wp2_with (first
  | (go_at_call 104;refine cl.mono ?_;clear cl;rintro e w1 ⟨h1,rfl,hh1,b1⟩;(obtain ⟨x2,c2,e2,-,-,-⟩:=hh1.src);subst e2;(have hP:=parts_two w1 _ _ _ _ _ _ 22 hh1 (HV.out.keep b1));(have cc:=concat_parts w1.heap.size 2 (vcL n) (vcB n b) _ hP (by decide) hL h0);clear hP)
  | (go_at_call 105;refine cc.mono ?_;clear cc;rintro e w2 ⟨s,rfl,own2,b2⟩))
 go_ret2
 have ba:=below_next b1 ((Below.refl w1.heap.size w1).alloc (Nat.le_refl _) (.cells #[.slice x2 (lnS n) c2,.slice x1 n c1] 22))
 exact ⟨s,rfl,World.ownsRow.mono own2 ba.size,below_next ba b2⟩
end Go.Proofs.Ytgdcmibdjiaofaa
namespace Go.Proofs.Ytgdcmibdjiaofaa
open Go.RowKit
def noB:ByteArray:={ data:=#[97,32,110,111,100,101,32,116,104,97,116,32,109,97,121,32,110,111,116,32,98,101] }
def noE:List PanicEntry:=[{ v := .iface 9 (.string noB),recovered:=false }]
theorem must_t (w:World):Calls Try.prog 65 #[.bool true] w fun e w'=>e = .returned (.tuple #[])∧w'=w:=by
 go_enter Try.func65,Try.ntmps65
 go_wp2
 go_end0
 exact ⟨rfl,rfl⟩
theorem must_f (w:World):Calls Try.prog 65 #[.bool false] w fun e w'=>e = .panicked noE∧w'=w:=by
 go_enter Try.func65,Try.ntmps65
 go_wp2
 exact ⟨rfl,rfl,rfl⟩
theorem sure_ok (v:Value) (w:World):Calls Try.prog 82 #[v,.int .i64 0] w fun e w'=>e = .returned v∧w'=w:=by
 have c:=must_t
 go_enter Try.func82,Try.ntmps82
 go_wp2_with (go_at_call 65;refine (c _).mono ?_;rintro e w1 ⟨rfl,hw⟩;obtain rfl:=hw.symm)
 go_ret
 exact ⟨rfl,rfl⟩
set_option maxRecDepth 20000 in
theorem vAl (q1 q2 q3 p o:Nat) (x:Option Addr) (n c:Nat) (least most:Int) (w:World) (h1:w.cell? ⟨q1,0,none⟩=some (pA p o)) (h2:w.cell? ⟨q2,0,none⟩=some (.int .i64 least)) (h3:w.cell? ⟨q3,0,none⟩=some (.int .i64 most)) (hp:w.cell? ⟨p,o,none⟩=some (.slice x n c)) :
 Calls Try.prog 80 #[pA q1 0,pA q2 0,pA q3 0] w fun e w'=>e = .returned (.bool (decide (least≤(n:Int)) && decide ((n:Int)≤most)))∧Below w.heap.size w w':=by
 by_cases hl:least≤(n:Int)
 · by_cases hm:(n:Int)≤most
   · go_enter Try.func80,Try.ntmps80
     go_wp2
     go_region
     go_wp2
     go_ret
     exact ⟨by simp [hl,hm],(Below.refl _ _).drew⟩
   · go_enter Try.func80,Try.ntmps80
     go_wp2
     go_region
     go_wp2
     go_ret
     exact ⟨by simp [hl],(Below.refl _ _).drew⟩
 · have hd:decide (least≤(n:Int))=false:=by simp [hl]
   go_enter Try.func80,Try.ntmps80
   go_wp2
   go_region
   go_wp2
   go_ret
   exact ⟨by rw [hd];rfl,(Below.refl _ _).drew⟩
theorem vPut (q1 p o:Nat) (v:Value) (n:Nat) (b:Nat→Nat) (hn:n≤65536) (w:World) (h1:w.cell? ⟨q1,0,none⟩=some (pA p o)) (hp:w.cell? ⟨p,o,none⟩=some v) (hv:BytesIn w v n b) :
 Calls Try.prog 81 #[pA q1 0] w fun e w'=>∃ s,e = .returned s∧Own w.heap.size w' s (vcL n) (vcB n b)∧Below w.heap.size w w':=by
 have c1:=cVec11_good v n b hn w hv
 have c2:=sure_ok
 go_enter Try.func81,Try.ntmps81
 go_wp2_with (first
  | (go_at_call 83;refine c1.mono ?_;clear c1;rintro e w1 ⟨s,rfl,o1,b1⟩)
  | (go_at_call 82;refine (c2 _ _).mono ?_;clear c2;rintro e w2 ⟨rfl,hw⟩;obtain rfl:=hw.symm))
 go_ret
 exact ⟨_,rfl,o1,b1⟩
theorem h32 (n:Nat):((n:Int) == 0 || (n:Int) == 32)=(decide (n=0) || decide (n=32)):=by
 rw [Bool.eq_iff_iff];simp only [Bool.or_eq_true,beq_iff_eq,decide_eq_true_eq];omega
set_option maxRecDepth 20000 in
theorem hAl (q1 p o:Nat) (x:Option Addr) (n c:Nat) (w:World) (h1:w.cell? ⟨q1,0,none⟩=some (pA p o)) (hp:w.cell? ⟨p,o,none⟩=some (.slice x n c)) :
 Calls Try.prog 98 #[pA q1 0] w fun e w'=>e = .returned (.bool (decide (n=0) || decide (n=32)))∧Below w.heap.size w w':=by
 by_cases h0:n=0
 · subst h0
   go_enter Try.func98,Try.ntmps98
   go_wp2
   go_ret
   exact ⟨by simp,Below.refl _ _⟩
 · have h2:¬(n:Int)=0:=by omega
   go_enter Try.func98,Try.ntmps98
   go_wp2
   go_ret
   exact ⟨by rw [h32];rfl,Below.refl _ _⟩
set_option maxRecDepth 20000 in
theorem nAl (q1 q2 q3 p o:Nat) (z:Int) (least most:Int) (w:World) (h1:w.cell? ⟨q1,0,none⟩=some (pA p o)) (h2:w.cell? ⟨q2,0,none⟩=some (.int .i64 least)) (h3:w.cell? ⟨q3,0,none⟩=some (.int .i64 most)) (hp:w.cell? ⟨p,o,none⟩=some (.int .i64 z)) :
 Calls Try.prog 86 #[pA q1 0,pA q2 0,pA q3 0] w fun e w'=>e = .returned (.bool (decide (least≤z) && decide (z≤most)))∧Below w.heap.size w w':=by
 by_cases hl:least≤z
 · by_cases hm:z≤most
   · go_enter Try.func86,Try.ntmps86
     go_wp2
     go_region
     go_wp2
     go_ret
     exact ⟨by simp [hl,hm],(Below.refl _ _).drew⟩
   · go_enter Try.func86,Try.ntmps86
     go_wp2
     go_region
     go_wp2
     go_ret
     exact ⟨by simp [hl],(Below.refl _ _).drew⟩
 · have hd:decide (least≤z)=false:=by simp [hl]
   go_enter Try.func86,Try.ntmps86
   go_wp2
   go_region
   go_wp2
   go_ret
   exact ⟨by rw [hd];rfl,(Below.refl _ _).drew⟩
set_option maxRecDepth 20000 in
theorem nPut (q1 q2 p o:Nat) (z s:Nat) (hs:szB s=true) (hz:z<mstN s) (w:World) (h1:w.cell? ⟨q1,0,none⟩=some (pA p o)) (h2:w.cell? ⟨q2,0,none⟩=some (.int .i64 (s:Int))) (hp:w.cell? ⟨p,o,none⟩=some (.int .i64 (z:Int))) (l1:q1<w.heap.size) (l2:q2<w.heap.size) (lp:p<w.heap.size) :
 Calls Try.prog 87 #[pA q1 0,pA q2 0] w fun e w'=>∃ u,e = .returned u∧BytesIn w' u s (beN z s)∧Below w.heap.size w w':=by
 have c1:=cNum11_good z s hs hz w.drew
 have c2:=sure_ok
 obtain ⟨a,ha⟩:∃ a:Int,a=(z:Int):=⟨_,rfl⟩
 obtain ⟨b,hb⟩:∃ b:Int,b=(s:Int):=⟨_,rfl⟩
 rw [←ha,←hb] at c1
 rw [←ha] at hp
 rw [←hb] at h2
 clear ha hb
 go_enter Try.func87,Try.ntmps87
 go_wp2
 refine wp_region_held_drew (S:=fun u=>Below w.drew.heap.size w.drew u) (by kernel_rfl) (Below.refl _ _) (fun hS => ?_)
 refine tc 0 hS (fun u hu=>(hu.cell (p:=⟨q1,0,none⟩) l1).trans h1) ?_
 (try simp only [pS])
 refine tg 1 hS ?_
 (try simp only [pS])
 refine tc 2 hS (fun u hu=>(hu.cell (p:=⟨p,o,none⟩) lp).trans hp) ?_
 (try simp only [pS])
 refine tc 3 hS (fun u hu=>(hu.cell (p:=⟨q2,0,none⟩) l2).trans h2) ?_
 (try simp only [pS])
 refine cn 4 c1 (fun e w' hr => ?_)
 obtain ⟨v,rfl,hv,b1⟩:=hr
 refine ⟨_,rfl,b1,?_⟩
 (try simp only [pS])
 have hS:=bR (w:=w')
 refine tg 5 hS ?_
 (try simp only [pS])
 refine tg 6 hS ?_
 (try simp only [pS])
 refine cn 7 (c2 v w') (fun e w2 hr => ?_)
 obtain ⟨rfl,rfl⟩:=hr
 refine ⟨_,rfl,hS,?_⟩
 (try simp only [pS])
 refine tg 8 hS ?_
 (try simp only [pS])
 refine wpAnyH_done (by kernel_rfl) ?_ _
 go_wp2
 go_ret
 exact ⟨_,rfl,hv,below_next (Below.refl _ _).drew b1⟩
theorem uPut (w:World):Calls Try.prog 91 #[] w fun e w'=>e = .returned (.slice none 0 0)∧w'=w:=by
 go_enter Try.func91,Try.ntmps91
 go_wp2
 go_ret
 exact ⟨rfl,rfl⟩
theorem uGet (v:Value) (w:World):Calls Try.prog 92 #[v] w fun e w'=>e = .returned (.tuple #[])∧w'=w:=by
 go_enter Try.func92,Try.ntmps92
 go_wp2
 go_end0
 exact ⟨rfl,rfl⟩
end Go.Proofs.Ytgdcmibdjiaofaa
namespace Go.Proofs.Ytgdcmibdjiaofaa
open Go.RowKit
section
variable {P:Program} {md:Region.Mode} {ops:Array Oper} {Q:Exit→Act→World→Prop} {S:World→Prop} {fuel:Nat} {listed:Array Bool} {a:Act} {w:World}
theorem aG {i:Nat} {rs:List Nat} (oi:Oper) (v:Nat→Value) (cs:List Value) (t:TypeId) (hk:∀ u,Below w.heap.size w u→S u) (h:∀ w1 g,w.heap.size≤g→Below w.heap.size w w1→RW w1 g 0 cs→wpAnyH P md ops Q S fuel (listed.setIfInBounds i true) (a.put oi.dst (v g)) w1) (hs:AllReadyH P md ops Q S fuel listed a w rs)
 (hrun:(execOp a.eval oi).run P w = .ok (.value (v w.heap.size)) (w.alloc (.cells cs.toArray t)):=by kernel_rfl) (hi:ops[i]? = some oi:=by rfl) (hw:Region.wanted oi (yielded ops a.tmps)=true:=by rfl):AllReadyH P md ops Q S fuel listed a w (i :: rs):=by
 have hb:Below w.heap.size w (w.alloc (.cells cs.toArray t)):=bR.alloc (Nat.le_refl _) _
 refine AllReadyH.cons hi (fun K hK => ?_) hs
 rw [if_pos hw]
 unfold Oper.wp
 rw [hrun,Oper.upon_value]
 exact hK.out _ _ (hk _ hb) (fun _=>h _ _ (Nat.le_refl _) hb (RW.fresh w cs t))
theorem aT {i:Nat} {rs:List Nat} (oi:Oper) (ty x y:Nat) {g off:Nat} {cs:List Value} (ds:List Value) (r:RW w g off cs) (hl:ds.length=cs.length) (hk:S (w.setCells g off ds)) (hin:(P.info? ty).map (·.size)=some ds.toArray.size) (h1:ds.toArray.all (·.oneCell')=true) (h:RW (w.setCells g off ds) g off ds→wpAnyH P md ops Q S fuel (listed.setIfInBounds i true) (a.put oi.dst undef) (w.setCells g off ds)) (hs:AllReadyH P md ops Q S fuel listed a w rs)
 (ho:oi.op = .store ty (.tmp x) (.tmp y):=by rfl) (hx:a.eval (.tmp x) = .pointer (some ⟨g,off,none⟩):=by rfl) (hy:a.eval (.tmp y) = .agg ds.toArray:=by rfl) (hi:ops[i]? = some oi:=by rfl) (hw:Region.wanted oi (yielded ops a.tmps)=true:=by rfl):AllReadyH P md ops Q S fuel listed a w (i :: rs):=by
 refine AllReadyH.cons hi (fun K hK => ?_) hs
 rw [if_pos hw]
 exact wp_store_mid ty _ _ ho g off ds.toArray hx hy (by rw [List.size_toArray,hl];exact r.there) hin h1 (hK.out _ _ hk (fun _=>h (r.stored ds hl)))
end
end Go.Proofs.Ytgdcmibdjiaofaa
namespace Go.Proofs.Ytgdcmibdjiaofaa
open Go.RowKit
structure Rest (X:List Nat) (w w':World):Prop where
 os:w'.os=w.os
 tape:w'.tape=w.tape
 output:w'.output=w.output
 size:w.heap.size≤w'.heap.size
 block:∀ k,k<w.heap.size→k ∉ X→w'.heap[k]? = w.heap[k]?
theorem Rest.refl (X:List Nat) (w:World):Rest X w w:=⟨rfl,rfl,rfl,Nat.le_refl _,fun _ _ _=>rfl⟩
theorem Rest.trans {X:List Nat} {u v w:World} (h:Rest X u v) (k:Rest X v w):Rest X u w :=
 ⟨k.os.trans h.os,k.tape.trans h.tape,k.output.trans h.output,Nat.le_trans h.size k.size,fun i hi hb=>(k.block i (Nat.lt_of_lt_of_le hi h.size) hb).trans (h.block i hi hb)⟩
theorem Rest.of_below {X:List Nat} {w w':World} (h:Below w.heap.size w w'):Rest X w w':=⟨h.os,h.tape,h.output,h.size,fun k hk _=>h.block k hk⟩
theorem Rest.of_out {X:List Nat} {b o n:Nat} {w w':World} (h:Out b o n w w') (hb:b∈X):Rest X w w':=⟨h.os,h.tape,h.output,h.size,fun k hk hn=>h.block k hk (fun e=>hn (e ▸ hb))⟩
theorem Rest.mono {X Y:List Nat} {w w':World} (h:Rest X w w') (hs:∀ x,x∈X→x∈Y):Rest Y w w':=⟨h.os,h.tape,h.output,h.size,fun k hk hn=>h.block k hk (fun e=>hn (hs k e))⟩
theorem Rest.below {X:List Nat} {B:Nat} {w w':World} (h:Rest X w w') (hX:∀ x,x∈X→B≤x) (hB:B≤w.heap.size):Below B w w':=⟨h.os,h.tape,h.output,h.size,fun k hk=>h.block k (Nat.lt_of_lt_of_le hk hB) (fun e=>Nat.lt_irrefl _ (Nat.lt_of_lt_of_le hk (hX k e)))⟩
theorem Rest.cell {X:List Nat} {w w':World} (h:Rest X w w') {c q:Nat} (hc:c<w.heap.size) (hn:c ∉ X):w'.cell? ⟨c,q,none⟩=w.cell? ⟨c,q,none⟩:=World.cell?_of_block (w:=w) (h.block c hc hn)
theorem Rest.frozen {X:List Nat} {w w':World} (h:Rest X w w') {c q:Nat} (hc:c<w.heap.size) (hn:c ∉ X):w'.frozen? ⟨c,q,none⟩=w.frozen? ⟨c,q,none⟩:=World.frozen?_of_block (w:=w) (h.block c hc hn)
theorem RW.rest {X:List Nat} {w w':World} {g o:Nat} {cs:List Value} (h:RW w g o cs) (hb:Rest X w w') (hn:g ∉ X):RW w' g o cs :=
 ⟨fun j v hv=>(hb.cell h.lt hn).trans (h.range j v hv),fun j hj=>by
   rw [hb.cell h.lt hn,hb.frozen h.lt hn];exact h.there j hj,Nat.lt_of_lt_of_le h.lt hb.size⟩
theorem RdC.rest {X:List Nat} {lo hi:Nat} {w w':World} {g L:Nat} {B:Nat→Nat} {r:Rd} (h:RdC lo hi w g L B r) (hb:Rest X w w') (hX:∀ x,x∈X→x<lo∨hi≤x):RdC lo hi w' g L B r:=by
 obtain ⟨v,rw_,hv,ha,hg,hh⟩:=h
 have hn:∀ b,lo≤b→b<hi→b ∉ X:=fun b h1 h2 e=>by have:=hX b e;omega
 exact ⟨v,rw_.rest hb (hn g hg.1 hg.2),hv.same (fun b o z h1 h2 hc=>(hb.cell (by omega) (hn b h1 h2)).trans hc),ha,hg,Nat.le_trans hh hb.size⟩
theorem RW.cell {w:World} {g o:Nat} {cs:List Value} (h:RW w g 0 cs) {v:Value} (hv:cs[o]? = some v):w.cell? ⟨g,o,none⟩=some v:=by
 have:=h.range o v hv;rwa [Nat.zero_add] at this
theorem RW.live {w:World} {g o:Nat} {cs:List Value} (h:RW w g 0 cs) (ho:o<cs.length):w.frozen? ⟨g,o,none⟩=false:=by
 have:=(h.there o ho).2;rwa [Nat.zero_add] at this
theorem RW.set1 {w:World} {g o:Nat} {cs:List Value} (h:RW w g 0 cs) (ho:o<cs.length) (v:Value):RW (w.setCell ⟨g,o,none⟩ v) g 0 (cs.set o v):=by
 have hc:w.cell? ⟨g,o,none⟩=some cs[o]:=h.cell (List.getElem?_eq_getElem ho)
 refine ⟨fun j u hu => ?_,fun j hj => ?_,by simpa using h.lt⟩
 · rw [Nat.zero_add]
   by_cases hj:j=o
   · subst hj
     rw [List.getElem?_set_self ho] at hu
     rw [←hu]
     exact World.cell?_setCell_same _ _ _ hc
   · rw [List.getElem?_set_ne (fun e=>hj e.symm)] at hu
     rw [World.cell?_setCell_other _ _ _ _ (fun e=>hj (by cases e;rfl))]
     exact h.cell hu
 · exact World.there_setCells h.there g o [v] j (by simpa using hj)
theorem Rest.setCell {X:List Nat} (w:World) {b p:Nat} (v:Value) (hb:b∈X):Rest X w (w.setCell ⟨b,p,none⟩ v):=Rest.of_out (Out.setCell (o:=p) (n:=1) w v (Nat.le_refl _) (Nat.lt_succ_self _)) hb
theorem own_rest {X:List Nat} {base:Nat} {w w':World} {e:TypeId} {size:Nat} {v:Value} {n:Nat} {xs:List Value} (h:w.ownsRow base e size v n xs) (hb:Rest X w w') (hX:∀ x,x∈X→x<base):w'.ownsRow base e size v n xs:=by
 obtain ⟨h1,h2⟩:=h
 refine ⟨h1,?_⟩
 rcases h2 with h2 | ⟨g,cap,cur,hv,hg,r⟩
 · exact .inl h2
 · refine .inr ⟨g,cap,cur,hv,hg,?_⟩
   have hl:=(World.ownsRow.lt (w:=w) (base:=base) (e:=e) (size:=size) (v:=v) (n:=n) (xs:=xs) ⟨h1,.inr ⟨g,cap,cur,hv,hg,r⟩⟩ g (by rw [hv];rfl)).2
   rw [hb.block g hl (fun e=>by have:=hX g e;omega)]
   exact r
section
variable {P:Program} {md:Region.Mode} {ops:Array Oper} {Q:Exit→Act→World→Prop} {S:World→Prop} {fuel:Nat} {listed:Array Bool} {a:Act} {w:World}
theorem clP (i:Nat) {oi:Oper} {f:FuncId} {args:Array Value} {R:Ending→World→Prop} (c:Calls P f args w R) (h:∀ e w',R e w'→(∃ r,e = .returned r∧S w'∧wpAnyH P md ops Q S fuel (listed.setIfInBounds i true) (a.put oi.dst r) w')∨∃ ch,e = .panicked ch∧Q (.panic ch) a w')
 (hi:ops.toList[i]? = some oi:=by rfl) (hr:Region.ready md ops listed=[i]:=by kernel_rfl) (hw:Region.wanted oi (yielded ops a.tmps)=true:=by rfl) (hrun:(execOp a.eval oi).run P w = .ok (.enter f args) w:=by kernel_rfl):wpAnyH P md ops Q S (fuel+1) listed a w:=by
 refine wpAnyH_ready hr (by simp) (AllReadyH.cons (at_list hi) (fun K hK => ?_) AllReadyH.nil)
 rw [if_pos hw]
 unfold Oper.wp
 rw [hrun,Oper.upon_enter]
 refine c.mono fun e w' hR => ?_
 rcases h e w' hR with ⟨r,rfl,hs,hk⟩ | ⟨ch,rfl,hq⟩
 · exact hK.out _ _ hs (fun _=>hk)
 · exact hq
end
end Go.Proofs.Ytgdcmibdjiaofaa
namespace Go.Proofs.Ytgdcmibdjiaofaa
open Go.RowKit
abbrev clo (i:Nat) (c:Array Value):Value := .func (.func i) #[] c
def VecF (base:Nat) (w:World) (F:Value) (p o:Nat) (least most:Int):Prop:=∃ q1 q2 q3,F = .agg #[clo 80 #[pA q1 0,pA q2 0,pA q3 0],clo 81 #[pA q1 0],clo 84 #[pA q1 0]]∧(base≤q1∧base≤q2∧base≤q3)∧RW w q1 0 [pA p o]∧RW w q2 0 [.int .i64 least]∧RW w q3 0 [.int .i64 most]
theorem fldI:(Try.prog.info? 102).map (·.size)=some 3:=by kernel_rfl
section
variable {ops:Array Oper} {rest:List Oper} {op:Oper} {a:Act} {w:World} {Q:Exit→Act→World→Prop}
theorem stF (x y:Operand) (ho:op.op = .store 102 x y) {g o:Nat} {X Y Z:Value} (hx:a.eval x = .pointer (some ⟨g,o,none⟩)) (hy:a.eval y = .agg #[X,Y,Z])
 (h1:[X,Y,Z].all (·.oneCell')=true) (ht:w.there g o 3) (h:wpList Try.prog ops Q rest (a.put op.dst undef) (w.setCells g o [X,Y,Z])) (hgd:op.guard=none):wpList Try.prog ops Q (op :: rest) a w :=
 wpList_store_mid hgd 102 x y ho g o #[X,Y,Z] hx hy ht fldI (by simpa using h1) h
theorem ldF (x:Operand) (ho:op.op = .load 102 x) {g o:Nat} {X Y Z:Value} (hx:a.eval x = .pointer (some ⟨g,o,none⟩)) (hc:w.rangeAt g o [X,Y,Z])
 (h:wpList Try.prog ops Q rest (a.put op.dst (.agg #[X,Y,Z])) w) (hgd:op.guard=none):wpList Try.prog ops Q (op :: rest) a w :=
 wpList_load_mid hgd 102 x ho g o hx [X,Y,Z] _ hc Try.underlying102 rfl fldI h
end
theorem resF {fn:Func} {p:Tmp} (h:fn.results=#[.cell p 102]) (tmps:Array Value) (w:World) (g o:Nat) (X Y Z:Value) (hp:tmps.getD p undef = .pointer (some ⟨g,o,none⟩)) (hc:w.rangeAt g o [X,Y,Z]):(results fn tmps).run Try.prog w = .ok (.agg #[X,Y,Z]) w :=
 results_cell_mid h tmps w g o [X,Y,Z] _ hp hc Try.underlying102 rfl fldI
theorem th3 {W:World} {a b c:Value} {t:TypeId} {g:Nat} (hg:g=W.heap.size:=by simp):(W.alloc (.cells #[a,b,c] t)).there g 0 3:=by
 subst hg;exact (RW.fresh W [a,b,c] t).there
theorem rg3 {W:World} {a b c:Value} {t:TypeId} {g:Nat} {X Y Z:Value} (hg:g=W.heap.size:=by simp):((W.alloc (.cells #[a,b,c] t)).setCells g 0 [X,Y,Z]).rangeAt g 0 [X,Y,Z] :=
 World.rangeAt_setCells_same _ _ _ _ (th3 hg)
theorem b3 {B:Nat} {W V:World} {a b c:Value} {t:TypeId} {g:Nat} {X Y Z:Value} (h:Below B V W) (hB:B≤W.heap.size) (hg:g=W.heap.size:=by simp):Below B V ((W.alloc (.cells #[a,b,c] t)).setCells g 0 [X,Y,Z]):=by
 subst hg;exact below_setCells hB _ _ _ (h.alloc hB _)
theorem bx (w:World) (v:Value) (t:TypeId):RW (w.alloc (.cells #[v] t)) w.heap.size 0 [v]∧Below w.heap.size w (w.alloc (.cells #[v] t))∧(w.alloc (.cells #[v] t)).heap.size=w.heap.size+1:=⟨RW.fresh w [v] t,(Below.refl _ _).alloc (Nat.le_refl _) _,by simp⟩
theorem bx3 (w:World) (a b c:Value) (r s t:TypeId) {W:World} (hW:W=((w.alloc (.cells #[a] r)).alloc (.cells #[b] s)).alloc (.cells #[c] t)):RW W w.heap.size 0 [a]∧RW W (w.heap.size+1) 0 [b]∧RW W (w.heap.size+1+1) 0 [c]∧Below w.heap.size w W∧W.heap.size=w.heap.size+1+1+1:=by
 obtain ⟨r1,b1,s1⟩:=bx w a r
 obtain ⟨r2,b2,s2⟩:=bx (w.alloc (.cells #[a] r)) b s
 obtain ⟨r3,b3,s3⟩:=bx ((w.alloc (.cells #[a] r)).alloc (.cells #[b] s)) c t
 rw [←hW] at r3 b3 s3
 have k1:=(r1.still b2).still b3
 have k2:=r2.still b3
 rw [s1] at k2
 rw [s2,s1] at r3 s3
 exact ⟨k1,k2,r3,below_next (below_next b1 b2) b3,s3⟩
set_option maxRecDepth 20000 in
theorem vec_any (p o:Nat) (least most:Int) (w:World):Calls Try.prog 57 #[pA p o,.int .i64 least,.int .i64 most] w fun e w'=>∃ F,e = .returned F∧VecF w.heap.size w' F p o least most∧Below w.heap.size w w':=by
 have hmf:∀ (fn:Fn) (first cap:Array Value) (w:World),(Instr.makeFunc fn first cap).run Try.prog w = .ok (.func fn first cap) w:=fun _ _ _ _=>rfl
 go_enter Try.func57,Try.ntmps57
 go_wp2_with (with_reducible (refine id (?_:wpList _ _ _ _ _ _));refine stF _ _ rfl rfl rfl rfl th3 ?_ rfl)
 refine bodyPost_ret (resF Try.results57 _ _ _ 0 _ _ _ rfl rg3) rfl ?_
 obtain ⟨W,hW⟩:∃ W,W=((w.alloc (.cells #[pA p o] 104)).alloc (.cells #[.int .i64 least] 3)).alloc (.cells #[.int .i64 most] 3):=⟨_,rfl⟩
 obtain ⟨k1,k2,k3,kb,ks⟩:=bx3 w _ _ _ _ _ _ hW
 rw [←hW]
 have bb:=b3 (t:=102) (a := .nilFunc) (b := .nilFunc) (c := .nilFunc) (X:=clo 80 #[pA w.heap.size 0,pA (w.heap.size+1) 0,pA (w.heap.size+1+1) 0]) (Y:=clo 81 #[pA w.heap.size 0]) (Z:=clo 84 #[pA w.heap.size 0]) (Below.refl W.heap.size W) (Nat.le_refl _) ks.symm
 exact ⟨_,rfl,⟨_,_,_,rfl,⟨by omega,by omega,by omega⟩,k1.still bb,k2.still bb,k3.still bb⟩,below_next kb bb⟩
end Go.Proofs.Ytgdcmibdjiaofaa
namespace Go.Proofs.Ytgdcmibdjiaofaa
open Go.RowKit
def NumF (base:Nat) (w:World) (F:Value) (p o:Nat) (size least most:Int):Prop:=∃ q1 q2 q3 q4,F = .agg #[clo 86 #[pA q1 0,pA q3 0,pA q4 0],clo 87 #[pA q1 0,pA q2 0],clo 89 #[pA q2 0,pA q1 0]]∧(base≤q1∧base≤q2∧base≤q3∧base≤q4)∧RW w q1 0 [pA p o]∧RW w q2 0 [.int .i64 size]∧RW w q3 0 [.int .i64 least]∧RW w q4 0 [.int .i64 most]
set_option maxRecDepth 20000 in
set_option maxHeartbeats 2000000 in
theorem num_any (p o:Nat) (size least most:Int) (w:World):Calls Try.prog 58 #[pA p o,.int .i64 size,.int .i64 least,.int .i64 most] w fun e w'=>∃ F,e = .returned F∧NumF w.heap.size w' F p o size least most∧Below w.heap.size w w':=by
 have hmf:∀ (fn:Fn) (first cap:Array Value) (w:World),(Instr.makeFunc fn first cap).run Try.prog w = .ok (.func fn first cap) w:=fun _ _ _ _=>rfl
 go_enter Try.func58,Try.ntmps58
 go_wp2_with (with_reducible (refine id (?_:wpList _ _ _ _ _ _));refine stF _ _ rfl rfl rfl rfl th3 ?_ rfl)
 refine bodyPost_ret (resF Try.results58 _ _ _ 0 _ _ _ rfl rg3) rfl ?_
 obtain ⟨V,hV⟩:∃ V,V=((w.alloc (.cells #[pA p o] 106)).alloc (.cells #[.int .i64 size] 3)).alloc (.cells #[.int .i64 least] 3):=⟨_,rfl⟩
 obtain ⟨k1,k2,k3,kb,ks⟩:=bx3 w _ _ _ _ _ _ hV
 rw [←hV]
 obtain ⟨k4,b4,s4⟩:=bx V (.int .i64 most) 3
 obtain ⟨W,hW⟩:∃ W,W=V.alloc (.cells #[.int .i64 most] 3):=⟨_,rfl⟩
 rw [←hW] at k4 b4 s4 ⊢
 rw [ks] at k4 s4
 have bb:=b3 (t:=102) (a := .nilFunc) (b := .nilFunc) (c := .nilFunc) (X:=clo 86 #[pA w.heap.size 0,pA (w.heap.size+1+1) 0,pA (w.heap.size+1+1+1) 0]) (Y:=clo 87 #[pA w.heap.size 0,pA (w.heap.size+1) 0]) (Z:=clo 89 #[pA (w.heap.size+1) 0,pA w.heap.size 0]) (Below.refl W.heap.size W) (Nat.le_refl _) s4.symm
 exact ⟨_,rfl,⟨_,_,_,_,rfl,⟨by omega,by omega,by omega,by omega⟩,(k1.still b4).still bb,(k2.still b4).still bb,(k3.still b4).still bb,k4.still bb⟩,below_next (below_next kb b4) bb⟩
def HonF (base:Nat) (w:World) (F:Value) (p o:Nat):Prop:=∃ q0 q1,F = .agg #[clo 98 #[pA q0 0],clo 81 #[pA q1 0],clo 84 #[pA q1 0]]∧(base≤q0∧base≤q1)∧RW w q0 0 [pA p o]∧RW w q1 0 [pA p o]
def LnF (base:Nat) (w:World) (F:Value) (p o:Nat):Prop:=∃ q,F = .agg #[clo 99 #[pA q 0],clo 101 #[pA q 0],clo 102 #[pA q 0]]∧base≤q∧RW w q 0 [pA p o]
set_option maxRecDepth 20000 in
set_option maxHeartbeats 2000000 in
theorem lnm_any (p o:Nat) (w:World):Calls Try.prog 72 #[pA p o] w fun e w'=>∃ F,e = .returned F∧LnF w.heap.size w' F p o∧Below w.heap.size w w':=by
 have hmf:∀ (fn:Fn) (first cap:Array Value) (w:World),(Instr.makeFunc fn first cap).run Try.prog w = .ok (.func fn first cap) w:=fun _ _ _ _=>rfl
 go_enter Try.func72,Try.ntmps72
 go_wp2_with (with_reducible (refine id (?_:wpList _ _ _ _ _ _));refine stF _ _ rfl rfl rfl rfl th3 ?_ rfl)
 refine bodyPost_ret (resF Try.results72 _ _ _ 0 _ _ _ rfl rg3) rfl ?_
 obtain ⟨k4,b4,s4⟩:=bx w (pA p o) 120
 obtain ⟨W,hW⟩:∃ W,W=w.alloc (.cells #[pA p o] 120):=⟨_,rfl⟩
 rw [←hW] at k4 b4 s4 ⊢
 have bb:=b3 (t:=102) (a := .nilFunc) (b := .nilFunc) (c := .nilFunc) (X:=clo 99 #[pA w.heap.size 0]) (Y:=clo 101 #[pA w.heap.size 0]) (Z:=clo 102 #[pA w.heap.size 0]) (Below.refl W.heap.size W) (Nat.le_refl _) s4.symm
 exact ⟨_,rfl,⟨_,rfl,by omega,k4.still bb⟩,below_next b4 bb⟩
set_option maxRecDepth 20000 in
set_option maxHeartbeats 2000000 in
theorem unw_any (i0 i1 i2:Nat) (c0 c1 c2:Array Value) (w:World):Calls Try.prog 59 #[.agg #[clo i0 c0,clo i1 c1,clo i2 c2]] w fun e w'=>e = .returned (.agg #[clo i0 c0,clo 91 #[],clo 92 #[]])∧Below w.heap.size w w':=by
 go_enter Try.func59,Try.ntmps59
 go_wp2_with (with_reducible (refine id (?_:wpList _ _ _ _ _ _));refine stF _ _ rfl rfl rfl rfl th3 ?_ rfl)
 refine bodyPost_ret (resF Try.results59 _ _ _ 0 _ _ _ rfl rg3) rfl ?_
 have bb:Below w.heap.size w (w.alloc (.cells #[clo i0 c0,clo i1 c1,clo i2 c2] 102)):=(Below.refl _ _).alloc (Nat.le_refl _) _
 exact ⟨rfl,b3 bb bb.size⟩
set_option maxRecDepth 20000 in
set_option maxHeartbeats 2000000 in
theorem hon_any (p o:Nat) (w:World):Calls Try.prog 71 #[pA p o] w fun e w'=>∃ F,e = .returned F∧HonF w.heap.size w' F p o∧Below w.heap.size w w':=by
 have hmf:∀ (fn:Fn) (first cap:Array Value) (w:World),(Instr.makeFunc fn first cap).run Try.prog w = .ok (.func fn first cap) w:=fun _ _ _ _=>rfl
 have cv:=vec_any p o 0 32
 go_enter Try.func71,Try.ntmps71
 obtain ⟨k1,b1,s1⟩:=bx w (pA p o) 104
 obtain ⟨V,hV⟩:∃ V,V=w.alloc (.cells #[pA p o] 104):=⟨_,rfl⟩
 have HV:=Hid.mk' hV
 rw [←hV] at k1 b1 s1
 go_upto_region 1 with (fail)
 rw [←HV.out,←s1]
 clear hV
 have b2:Below V.heap.size V (V.alloc (.cells #[.nilFunc,.nilFunc,.nilFunc] 102)):=(Below.refl _ _).alloc (Nat.le_refl _) _
 have k2:=RW.fresh V [.nilFunc,.nilFunc,.nilFunc] 102
 have k1':=k1.still b2
 generalize V.alloc (.cells #[.nilFunc,.nilFunc,.nilFunc] 102)=W at *
 have ck:=k1'.cell (o:=0) rfl
 have kk2:=Hid.mk' k2
 clear k2
 go_upto_region 2 with (first
  | (go_at_call 57;refine (cv _).mono ?_;clear cv;rintro e w1 ⟨F,rfl,⟨q1,q2,q3,rfl,hq,r1,r2,r3⟩,bw⟩;have kk3:=Hid.mk' (kk2.out.still bw);have kk4:=Hid.mk' (k1'.still bw))
  | (with_reducible (refine id (?_:wpList _ _ _ _ _ _));refine stF _ _ rfl rfl rfl rfl th3 ?_ rfl))
 have k5:=(RW.fresh w1 [.nilFunc,.nilFunc,.nilFunc] 102).stored [clo 80 #[pA q1 0,pA q2 0,pA q3 0],clo 81 #[pA q1 0],clo 84 #[pA q1 0]] rfl
 have b5:Below w1.heap.size w1 ((w1.alloc (.cells #[.nilFunc,.nilFunc,.nilFunc] 102)).setCells w1.heap.size 0 [clo 80 #[pA q1 0,pA q2 0,pA q3 0],clo 81 #[pA q1 0],clo 84 #[pA q1 0]]):=b3 (Below.refl _ _) (Nat.le_refl _) rfl
 obtain ⟨W2,hW2⟩:∃ W2,W2=(w1.alloc (.cells #[.nilFunc,.nilFunc,.nilFunc] 102)).setCells w1.heap.size 0 [clo 80 #[pA q1 0,pA q2 0,pA q3 0],clo 81 #[pA q1 0],clo 84 #[pA q1 0]]:=⟨_,rfl⟩
 rw [←hW2] at k5 b5
 dsimp only [Act.put]
 rw [show (w1.alloc (.cells [.nilFunc,.nilFunc,.nilFunc].toArray 102)).setCells w1.heap.size 0 [clo 80 #[pA q1 0,pA q2 0,pA q3 0],clo 81 #[pA q1 0],clo 84 #[pA q1 0]]=W2 from hW2.symm]
 clear hW2
 have c5:=k5.cell (o:=0) rfl
 have z5:=k5.live (o:=0) (by simp)
 have k6:=k5.set1 (o:=0) (by simp) (clo 98 #[pA w.heap.size 0])
 have b6:Below w1.heap.size w1 (W2.setCell ⟨w1.heap.size,0,none⟩ (clo 98 #[pA w.heap.size 0])):=b5.setCell (Nat.le_refl _) _
 go_upto_region 3 with (fail)
 rw [show Value.func (Fn.func 98) #[] #[.pointer (some ⟨w.heap.size,0,none⟩)]=clo 98 #[pA w.heap.size 0] from rfl]
 generalize W2.setCell ⟨w1.heap.size,0,none⟩ (clo 98 #[pA w.heap.size 0])=W3 at *
 have k7:=kk3.out.still b6
 have k8:=kk4.out.still b6
 have r1':=r1.still b6
 rw [s1] at k7
 go_wp2_with (first
  | (with_reducible (refine id (?_:wpList _ _ _ _ _ _));refine ldF _ rfl rfl k6.range ?_ rfl)
  | (with_reducible (refine id (?_:wpList _ _ _ _ _ _));refine stF _ _ rfl rfl rfl rfl k7.there ?_ rfl))
 refine bodyPost_ret (resF Try.results71 _ _ _ 0 _ _ _ rfl (World.rangeAt_setCells_same _ _ _ _ k7.there)) rfl ?_
 have hs:=bw.size
 have hs2:=kk2.out.lt
 refine ⟨_,rfl,⟨_,_,rfl,⟨Nat.le_refl _,by omega⟩,k8.far _ _ _ (.inl (by omega)),r1'.far _ _ _ (.inl (by omega))⟩,?_⟩
 exact below_setCells (by omega) _ _ _ (below_next (below_next (below_next b1 b2) bw) b6)
end Go.Proofs.Ytgdcmibdjiaofaa
