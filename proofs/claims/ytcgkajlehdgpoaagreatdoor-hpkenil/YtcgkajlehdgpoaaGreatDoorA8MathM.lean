/- What the proof stands on: A8Math, A8Blk, A8Tab, A8Mix, A8Sq, QCN, A8Ops, A8Op2, A8Op3, A8Nxt, A8Rks, A8Kys, A8Bad, A8Thr, ZD, A8Stp. -/
import Derived.Test.YtcgkajlehdgpoaaGreatDoorBaseM
import Derived.Test.YtcgkajlehdgpoaaGreatDoorLRungM
import Derived.Test.YtcgkajlehdgpoaaGreatDoorQCAM
import Derived.Deep.Cut
namespace Go.Proofs.YtcgkajlehdgpoaaGreatDoor
def xt (x:Nat):Nat:=if 255<x*2 then (x*2) ^^^ 283 else x*2
def gmP (b:Nat):Nat→Nat→Nat × Nat
 | 0,a=>(0,a)
 | i+1,a=>(if b / 2 ^ i%2=1 then (gmP b i a).1 ^^^ (gmP b i a).2 else (gmP b i a).1,xt (gmP b i a).2)
def gm (a b:Nat):Nat:=(gmP b 8 a).1
theorem gmP_snd (b c:Nat):∀ i a,(gmP b i a).2=(gmP c i a).2
 | 0,_=>rfl
 | i+1,a=>by show xt (gmP b i a).2=xt (gmP c i a).2;rw [gmP_snd b c i a]
theorem bit_xor (x y i:Nat):(x ^^^ y) / 2 ^ i%2=(x / 2 ^ i%2+y / 2 ^ i%2)%2:=by
 have h:=Nat.testBit_xor x y i
 simp only [Nat.testBit_eq_decide_div_mod_eq] at h
 have a:=Nat.mod_two_eq_zero_or_one ((x ^^^ y) / 2 ^ i)
 have b:=Nat.mod_two_eq_zero_or_one (x / 2 ^ i)
 have c:=Nat.mod_two_eq_zero_or_one (y / 2 ^ i)
 rcases a with a | a <;> rcases b with b | b <;> rcases c with c | c <;> rw [a,b,c] at h ⊢ <;> first | rfl | (exact absurd h (by decide))
theorem xor_swap (a b c d:Nat):(a ^^^ b) ^^^ (c ^^^ d)=(a ^^^ c) ^^^ (b ^^^ d):=by
 rw [Nat.xor_assoc,←Nat.xor_assoc b c d,Nat.xor_comm b c,Nat.xor_assoc c b d,←Nat.xor_assoc]
theorem gmP_xor (x y a:Nat):∀ i,(gmP (x ^^^ y) i a).1=(gmP x i a).1 ^^^ (gmP y i a).1
 | 0=>(Nat.xor_self 0).symm
 | i+1=>by
  have ih:=gmP_xor x y a i
  have e1:=gmP_snd (x ^^^ y) x i a
  have e2:=gmP_snd y x i a
  have hb:=bit_xor x y i
  simp only [gmP]
  rw [ih,e1,e2,hb]
  have b:=Nat.mod_two_eq_zero_or_one (x / 2 ^ i)
  have c:=Nat.mod_two_eq_zero_or_one (y / 2 ^ i)
  generalize (gmP x i a).1=X
  generalize (gmP y i a).1=Y
  generalize (gmP x i a).2=D
  rcases b with b | b <;> rcases c with c | c <;> rw [b,c]
  · rfl
  · show (X ^^^ Y) ^^^ D=X ^^^ (Y ^^^ D)
    rw [Nat.xor_assoc]
  · show (X ^^^ Y) ^^^ D=(X ^^^ D) ^^^ Y
    rw [Nat.xor_assoc,Nat.xor_comm Y D,←Nat.xor_assoc]
  · show X ^^^ Y=(X ^^^ D) ^^^ (Y ^^^ D)
    rw [xor_swap,Nat.xor_self,Nat.xor_zero]
theorem gm_xor (a x y:Nat):gm a (x ^^^ y)=gm a x ^^^ gm a y:=gmP_xor x y a 8
def boxL:List Nat:=[99,124,119,123,242,107,111,197,48,1,103,43,254,215,171,118,202,130,201,125,250,89,71,240,173,212,162,175,156,164,114,192,183,253,147,38,54,63,247,204,52,165,229,241,113,216,49,21,4,199,35,195,24,150,5,154,7,18,128,226,235,39,178,117,9,131,44,26,27,110,90,160,82,59,214,179,41,227,47,132,83,209,0,237,32,252,177,91,106,203,190,57,74,76,88,207,208,239,170,251,67,77,51,133,69,249,2,127,80,60,159,168,81,163,64,143,146,157,56,245,188,182,218,33,16,255,243,210,205,12,19,236,95,151,68,23,196,167,126,61,100,93,25,115,96,129,79,220,34,42,144,136,70,238,184,20,222,94,11,219,224,50,58,10,73,6,36,92,194,211,172,98,145,149,228,121,231,200,55,109,141,213,78,169,108,86,244,234,101,122,174,8,186,120,37,46,28,166,180,198,232,221,116,31,75,189,139,138,112,62,181,102,72,3,246,14,97,53,87,185,134,193,29,158,225,248,152,17,105,217,142,148,155,30,135,233,206,85,40,223,140,161,137,13,191,230,66,104,65,153,45,15,176,84,187,22]
def unL:List Nat:=[82,9,106,213,48,54,165,56,191,64,163,158,129,243,215,251,124,227,57,130,155,47,255,135,52,142,67,68,196,222,233,203,84,123,148,50,166,194,35,61,238,76,149,11,66,250,195,78,8,46,161,102,40,217,36,178,118,91,162,73,109,139,209,37,114,248,246,100,134,104,152,22,212,164,92,204,93,101,182,146,108,112,72,80,253,237,185,218,94,21,70,87,167,141,157,132,144,216,171,0,140,188,211,10,247,228,88,5,184,179,69,6,208,44,30,143,202,63,15,2,193,175,189,3,1,19,138,107,58,145,17,65,79,103,220,234,151,242,207,206,240,180,230,115,150,172,116,34,231,173,53,133,226,249,55,232,28,117,223,110,71,241,26,113,29,41,197,137,111,183,98,14,170,24,190,27,252,86,62,75,198,210,121,32,154,219,192,254,120,205,90,244,31,221,168,51,136,7,199,49,177,18,16,89,39,128,236,95,96,81,127,169,25,181,74,13,45,229,122,159,147,201,156,239,160,224,59,77,174,42,245,176,200,235,187,60,131,83,153,97,23,43,4,126,186,119,214,38,225,105,20,99,85,33,12,125]
def boxN (x:Nat):Nat:=boxL.getD x 0
def unN (x:Nat):Nat:=unL.getD x 0
theorem all256 {p:Nat→Bool} (h:(List.range 256).all p=true) (x:Nat) (hx:x<256):p x=true:=List.all_eq_true.1 h x (List.mem_range.2 hx)
set_option maxRecDepth 100000 in
theorem box_ok:((List.range 256).all fun x=>unN (boxN x) == x && boxN (unN x) == x && decide (boxN x<256) && decide (unN x<256) && !(boxN x == x))=true:=by kernel_rfl
theorem box_all (x:Nat) (hx:x<256):unN (boxN x)=x∧boxN (unN x)=x∧boxN x<256∧unN x<256∧boxN x≠x:=by
 have h:=all256 box_ok x hx
 simp only [Bool.and_eq_true,beq_iff_eq,decide_eq_true_eq,Bool.not_eq_true',beq_eq_false_iff_ne] at h
 exact ⟨h.1.1.1.1,h.1.1.1.2,h.1.1.2,h.1.2,h.2⟩
def mT (k:Nat):Nat:=[2,3,1,1].getD k 0
def mB (k:Nat):Nat:=[14,11,13,9].getD k 0
def col1 (m:Nat→Nat) (b0 b1 b2 b3:Nat) (r:Nat):Nat:=gm (m ((0+4 - r)%4)) b0 ^^^ gm (m ((1+4 - r)%4)) b1 ^^^ gm (m ((2+4 - r)%4)) b2 ^^^ gm (m ((3+4 - r)%4)) b3
def colN (m:Nat→Nat) (b:Nat→Nat) (j:Nat):Nat:=col1 m (b (j / 4*4)) (b (j / 4*4+1)) (b (j / 4*4+2)) (b (j / 4*4+3)) (j%4)
def way (m n:Nat→Nat) (i k x:Nat):Nat:=gm (n ((0+4 - k)%4)) (gm (m ((i+4 - 0)%4)) x) ^^^ gm (n ((1+4 - k)%4)) (gm (m ((i+4 - 1)%4)) x) ^^^ gm (n ((2+4 - k)%4)) (gm (m ((i+4 - 2)%4)) x) ^^^ gm (n ((3+4 - k)%4)) (gm (m ((i+4 - 3)%4)) x)
end Go.Proofs.YtcgkajlehdgpoaaGreatDoor
namespace Go.Proofs.YtcgkajlehdgpoaaGreatDoor
def S16 (a b:Nat→Nat):Prop:=∀ j,j<16→a j=b j
def B16 (a:Nat→Nat):Prop:=∀ j,j<16→a j<256
theorem S16.symm {a b:Nat→Nat} (h:S16 a b):S16 b a:=fun j hj=>(h j hj).symm
theorem S16.trans {a b c:Nat→Nat} (h:S16 a b) (k:S16 b c):S16 a c:=fun j hj=>(h j hj).trans (k j hj)
theorem B16.of {a b:Nat→Nat} (h:B16 a) (e:S16 a b):B16 b:=fun j hj=>by rw [←e j hj];exact h j hj
def addN (w:Nat→Nat) (r:Nat) (b:Nat→Nat) (j:Nat):Nat:=b j ^^^ w (16*r+j)
def rowN (by_:Nat) (b:Nat→Nat) (j:Nat):Nat:=b (4*((j / 4+j%4*by_)%4)+j%4)
def thrN (s:Nat→Nat) (b:Nat→Nat) (j:Nat):Nat:=s (b j)
theorem addN_S {a b:Nat→Nat} (h:S16 a b) (w:Nat→Nat) (r:Nat):S16 (addN w r a) (addN w r b):=fun j hj=>by unfold addN;rw [h j hj]
theorem rowN_S {a b:Nat→Nat} (h:S16 a b) (y:Nat):S16 (rowN y a) (rowN y b):=fun j hj=>h _ (by omega)
theorem thrN_S {a b:Nat→Nat} (h:S16 a b) (s:Nat→Nat):S16 (thrN s a) (thrN s b):=fun j hj=>by unfold thrN;rw [h j hj]
theorem colN_S {a b:Nat→Nat} (h:S16 a b) (m:Nat→Nat):S16 (colN m a) (colN m b):=fun j hj=>by
 unfold colN
 rw [h (j / 4*4) (by omega),h (j / 4*4+1) (by omega),h (j / 4*4+2) (by omega),h (j / 4*4+3) (by omega)]
theorem xor_byte {a b:Nat} (ha:a<256) (hb:b<256):a ^^^ b<256:=Nat.xor_lt_two_pow (n:=8) ha hb
set_option maxRecDepth 100000 in
theorem gm_ok:((List.range 256).all fun x=>(List.range 4).all fun k=>decide (gm (mT k) x<256) && decide (gm (mB k) x<256))=true:=by kernel_rfl
theorem gm_byte (x k:Nat) (hx:x<256) (hk:k<4):gm (mT k) x<256∧gm (mB k) x<256:=by
 have h:=List.all_eq_true.1 (all256 gm_ok x hx) k (List.mem_range.2 hk)
 simp only [Bool.and_eq_true,decide_eq_true_eq] at h
 exact h
theorem addN_B {a w:Nat→Nat} (h:B16 a) (hw:∀ j,w j<256) (r:Nat):B16 (addN w r a):=fun j hj=>xor_byte (h j hj) (hw _)
theorem rowN_B {a:Nat→Nat} (h:B16 a) (y:Nat):B16 (rowN y a):=fun j hj=>h _ (by omega)
theorem box_B {a:Nat→Nat} (h:B16 a):B16 (thrN boxN a):=fun j hj=>(box_all _ (h j hj)).2.2.1
theorem colT_B {a:Nat→Nat} (h:B16 a):B16 (colN mT a):=fun j hj=>by
 unfold colN col1
 exact xor_byte (xor_byte (xor_byte (gm_byte _ _ (h _ (by omega)) (by omega)).1 (gm_byte _ _ (h _ (by omega)) (by omega)).1) (gm_byte _ _ (h _ (by omega)) (by omega)).1) (gm_byte _ _ (h _ (by omega)) (by omega)).1
theorem row_row (b:Nat→Nat):S16 (rowN 3 (rowN 1 b)) b∧S16 (rowN 1 (rowN 3 b)) b:=by
 constructor
 · intro j hj
   unfold rowN
   congr 1
   omega
 · intro j hj
   unfold rowN
   congr 1
   omega
theorem un_box {b:Nat→Nat} (h:B16 b):S16 (thrN unN (thrN boxN b)) b∧S16 (thrN boxN (thrN unN b)) b:=⟨fun j hj=>(box_all _ (h j hj)).1,fun j hj=>(box_all _ (h j hj)).2.1⟩
def blkS (w:Nat→Nat) (b:Nat→Nat):Nat→Nat→Nat
 | 0=>addN w 0 b
 | r+1=>addN w (r+1) (colN mT (rowN 1 (thrN boxN (blkS w b r))))
def blkN (w b:Nat→Nat):Nat→Nat:=addN w 10 (rowN 1 (thrN boxN (blkS w b 9)))
theorem blkS_B {w b:Nat→Nat} (hb:B16 b) (hw:∀ j,w j<256):∀ r,B16 (blkS w b r)
 | 0=>addN_B hb hw 0
 | r+1=>addN_B (colT_B (rowN_B (box_B (blkS_B hb hw r)) 1)) hw _
theorem blkN_B {w b:Nat→Nat} (hb:B16 b) (hw:∀ j,w j<256):B16 (blkN w b):=addN_B (rowN_B (box_B (blkS_B hb hw 9)) 1) hw 10
theorem undo {x:Nat→Nat} (h:B16 x):S16 (thrN unN (rowN 3 (rowN 1 (thrN boxN x)))) x:=(thrN_S (row_row _).1 unN).trans (un_box h).1
end Go.Proofs.YtcgkajlehdgpoaaGreatDoor
namespace Go.Proofs.YtcgkajlehdgpoaaGreatDoor
theorem all_below {p:Nat→Bool} {n:Nat} (h:(List.range n).all p=true) (x:Nat) (hx:x<n):p x=true:=List.all_eq_true.1 h x (List.mem_range.2 hx)
def rcN:Nat→Nat
 | 0=>1
 | n+1=>gm (rcN n) 2
def kyT (w:Nat→Nat) (n k:Nat):Nat:=w (4*n - 16+k) ^^^ (if n%4=0 then (if k=0 then boxN (w (4*n - 4+1)) ^^^ rcN (n / 4 - 1) else boxN (w (4*n - 4+(k+1)%4))) else w (4*n - 4+k))
def kyS (key:Nat→Nat):Nat→Nat→Nat
 | 0=>key
 | n+1=>cat (4*(n+4)) (kyS key n) (kyT (kyS key n) (n+4))
def kyN (key:Nat→Nat):Nat→Nat:=kyS key 40
theorem rc_ok:((List.range 10).all fun n=>decide (rcN n<256))=true:=by kernel_rfl
theorem rc_lt (n:Nat) (hn:n<10):rcN n<256:=by
 have h:=all_below rc_ok n hn
 simpa using h
theorem kyS_lt {key:Nat→Nat} (hk:∀ j,key j<256):∀ n,n≤40→∀ j,kyS key n j<256
 | 0,_,j=>hk j
 | n+1,hn,j=>by
  have ih:=kyS_lt hk n (by omega)
  show cat (4*(n+4)) (kyS key n) (kyT (kyS key n) (n+4)) j<256
  refine cat_lt ih (fun k => ?_) j
  unfold kyT
  refine xor_byte (ih _) ?_
  split
  · split
    · exact xor_byte (box_all _ (ih _)).2.2.1 (rc_lt _ (by omega))
    · exact (box_all _ (ih _)).2.2.1
  · exact ih _
theorem kyN_lt {key:Nat→Nat} (hk:∀ j,key j<256):∀ j,kyN key j<256:=kyS_lt hk 40 (Nat.le_refl _)
end Go.Proofs.YtcgkajlehdgpoaaGreatDoor
namespace Go.Proofs.YtcgkajlehdgpoaaGreatDoor
def dbN (x:Nat):Nat:=(x*2%256) ^^^ (x / 128*27)
theorem db_ok:((List.range 256).all fun x=>dbN x == gm 2 x && dbN x == gm x 2 && (dbN x ^^^ x) == gm 3 x && gm 1 x == x && decide (dbN x<256) && gm 0 x == 0)=true:=by kernel_rfl
theorem db_all (x:Nat) (hx:x<256):dbN x=gm 2 x∧dbN x=gm x 2∧dbN x ^^^ x=gm 3 x∧gm 1 x=x∧dbN x<256∧gm 0 x=0:=by
 have h:=all256 db_ok x hx
 simp only [Bool.and_eq_true,beq_iff_eq,decide_eq_true_eq] at h
 exact ⟨h.1.1.1.1.1,h.1.1.1.1.2,h.1.1.1.2,h.1.1.2,h.1.2,h.2⟩
theorem db_xor (x y:Nat) (hx:x<256) (hy:y<256):dbN (x ^^^ y)=dbN x ^^^ dbN y:=by
 rw [(db_all _ (xor_byte hx hy)).1,(db_all _ hx).1,(db_all _ hy).1,gm_xor]
def mx1 (x0 x1 x2 x3 x y:Nat):Nat:=x ^^^ (x0 ^^^ x1 ^^^ x2 ^^^ x3) ^^^ dbN (x ^^^ y)
def mxN (b:Nat→Nat) (j:Nat):Nat:=mx1 (b (j - j%4)) (b (j - j%4+1)) (b (j - j%4+2)) (b (j - j%4+3)) (b j) (b (j - j%4+(j+1)%4))
theorem xor_can (a b:Nat):a ^^^ (a ^^^ b)=b:=by rw [←Nat.xor_assoc,Nat.xor_self,Nat.zero_xor]
theorem mx_col (b:Nat→Nat) (hb:B16 b):S16 (mxN b) (colN mT b):=fun j hj=>by
 unfold mxN colN
 rw [show j - j%4=j / 4*4 by omega]
 obtain ⟨q,r,hq,hr,rfl⟩:∃ q r,q<4∧r<4∧j=q*4+r:=⟨j / 4,j%4,by omega,by omega,by omega⟩
 rw [show (q*4+r) / 4=q by omega,show (q*4+r)%4=r by omega]
 have h0:b (q*4)<256:=hb _ (by omega)
 have h1:b (q*4+1)<256:=hb _ (by omega)
 have h2:b (q*4+2)<256:=hb _ (by omega)
 have h3:b (q*4+3)<256:=hb _ (by omega)
 have e:∀ a c:Nat,a<256→c<256→∀ d e,mx1 a c d e a c=gm 2 a ^^^ gm 3 c ^^^ d ^^^ e:=fun a c ha hc d e=>by
  unfold mx1
  rw [db_xor a c ha hc,←(db_all a ha).1,←(db_all c hc).2.2.1,Nat.xor_assoc a c d,Nat.xor_assoc a (c ^^^ d) e,xor_can]
  ac_rfl
 rcases (show r=0∨r=1∨r=2∨r=3 by omega) with rfl | rfl | rfl | rfl
 · rw [show (q*4+0+1)%4=1 by omega,Nat.add_zero]
   show _=gm 2 _ ^^^ gm 3 _ ^^^ gm 1 _ ^^^ gm 1 _
   rw [(db_all _ h2).2.2.2.1,(db_all _ h3).2.2.2.1]
   exact e _ _ h0 h1 _ _
 · rw [show (q*4+1+1)%4=2 by omega]
   show _=gm 1 _ ^^^ gm 2 _ ^^^ gm 3 _ ^^^ gm 1 _
   rw [(db_all _ h0).2.2.2.1,(db_all _ h3).2.2.2.1]
   have:=e _ _ h1 h2 (b (q*4)) (b (q*4+3))
   unfold mx1 at this ⊢
   refine Eq.trans ?_ (this.trans ?_) <;> ac_rfl
 · rw [show (q*4+2+1)%4=3 by omega]
   show _=gm 1 _ ^^^ gm 1 _ ^^^ gm 2 _ ^^^ gm 3 _
   rw [(db_all _ h0).2.2.2.1,(db_all _ h1).2.2.2.1]
   have:=e _ _ h2 h3 (b (q*4)) (b (q*4+1))
   unfold mx1 at this ⊢
   refine Eq.trans ?_ (this.trans ?_) <;> ac_rfl
 · rw [show (q*4+3+1)%4=0 by omega,Nat.add_zero]
   show _=gm 3 _ ^^^ gm 1 _ ^^^ gm 1 _ ^^^ gm 2 _
   rw [(db_all _ h1).2.2.2.1,(db_all _ h2).2.2.2.1]
   have:=e _ _ h3 h0 (b (q*4+1)) (b (q*4+2))
   unfold mx1 at this ⊢
   refine Eq.trans ?_ (this.trans ?_) <;> ac_rfl
theorem mxN_B {b:Nat→Nat} (h:B16 b):B16 (mxN b):=(colT_B h).of (mx_col b h).symm
theorem mxN_S {a b:Nat→Nat} (h:S16 a b):S16 (mxN a) (mxN b):=fun j hj=>by
 unfold mxN
 rw [h (j - j%4) (by omega),h (j - j%4+1) (by omega),h (j - j%4+2) (by omega),h (j - j%4+3) (by omega),h j hj,h (j - j%4+(j+1)%4) (by omega)]
def tuN (b:Nat→Nat) (j:Nat):Nat:=b ((j+4*(j%4))%16)
theorem tu_row (b:Nat→Nat):S16 (tuN b) (rowN 1 b):=fun j hj=>by
 unfold tuN rowN
 congr 1
 omega
theorem tuN_B {b:Nat→Nat} (h:B16 b):B16 (tuN b):=fun j hj=>h _ (by omega)
def wd0 (X:Nat→Nat) (p k:Nat):Nat:=if k=0 then boxN (X 13) ^^^ p else if k=3 then boxN (X 12) else boxN (X (13+k))
def nxN (X:Nat→Nat) (p:Nat) (j:Nat):Nat:=if j<4 then wd0 X p j ^^^ X j else nxN X p (j - 4) ^^^ X j
termination_by j
theorem nxN_lo (X:Nat→Nat) (p j:Nat) (h:j<4):nxN X p j=wd0 X p j ^^^ X j:=by rw [nxN,if_pos h]
theorem nxN_hi (X:Nat→Nat) (p j:Nat) (h:4≤j):nxN X p j=nxN X p (j - 4) ^^^ X j:=by rw [nxN,if_neg (by omega)]
theorem kyS_keep (key:Nat→Nat) (n:Nat):∀ d j,j<4*(n+4)→kyS key (n+d) j=kyS key n j
 | 0,_,_=>rfl
 | d+1,j,h=>by
  rw [show n+(d+1)=(n+d)+1 by omega]
  show cat (4*(n+d+4)) (kyS key (n+d)) _ j=_
  rw [cat_left (by omega)]
  exact kyS_keep key n d j h
theorem kyN_at (key:Nat→Nat) (n j:Nat) (hn:n≤40) (h:j<4*(n+4)):kyN key j=kyS key n j:=by
 have:=kyS_keep key n (40 - n) j h
 rwa [show n+(40 - n)=40 by omega] at this
theorem kyN_lo (key:Nat→Nat) (j:Nat) (h:j<16):kyN key j=key j:=kyN_at key 0 j (by decide) (by omega)
theorem kyN_word (key:Nat→Nat) (i k:Nat) (h4:4≤i) (h44:i<44) (hk:k<4):kyN key (4*i+k)=kyT (kyN key) i k:=by
 obtain ⟨n,rfl⟩:∃ n,i=n+4:=⟨i - 4,by omega⟩
 rw [kyN_at key (n+1) _ (by omega) (by omega)]
 show cat (4*(n+4)) (kyS key n) (kyT (kyS key n) (n+4)) (4*(n+4)+k)=_
 rw [cat_right]
 unfold kyT
 have e:∀ j,j<4*(n+4)→kyS key n j=kyN key j:=fun j h=>(kyN_at key n j (by omega) h).symm
 rw [e _ (by omega),e (4*(n+4) - 4+1) (by omega),e (4*(n+4) - 4+(k+1)%4) (by omega),e (4*(n+4) - 4+k) (by omega)]
theorem ky_next (key:Nat→Nat) (r:Nat) (hr:r<10):∀ j,j<16→nxN (fun i=>kyN key (16*r+i)) (rcN r) j=kyN key (16*(r+1)+j):=by
 intro j
 induction j using Nat.strongRecOn with
 | ind j ih =>
  intro hj
  have hw:=kyN_word key (4*(r+1)+j / 4) (j%4) (by omega) (by omega) (by omega)
  rw [show 4*(4*(r+1)+j / 4)+j%4=16*(r+1)+j by omega] at hw
  rw [hw]
  unfold kyT
  rw [show 4*(4*(r+1)+j / 4) - 16+j%4=16*r+j by omega]
  by_cases h4:j<4
  · rw [nxN_lo _ _ _ h4,if_pos (by omega),Nat.xor_comm]
    congr 1
    unfold wd0
    rw [show j%4=j by omega,show (4*(r+1)+j / 4) / 4 - 1=r by omega]
    by_cases h0:j=0
    · rw [if_pos h0,if_pos h0,show 4*(4*(r+1)+j / 4) - 4+1=16*r+13 by omega]
    · rw [if_neg h0,if_neg h0]
      by_cases h3:j=3
      · rw [if_pos h3,show 4*(4*(r+1)+j / 4) - 4+(j+1)%4=16*r+12 by omega]
      · rw [if_neg h3,show 4*(4*(r+1)+j / 4) - 4+(j+1)%4=16*r+(13+j) by omega]
  · rw [nxN_hi _ _ _ (by omega),ih (j - 4) (by omega) (by omega),if_neg (by omega),Nat.xor_comm]
    rw [show 4*(4*(r+1)+j / 4) - 4+j%4=16*(r+1)+(j - 4) by omega]
end Go.Proofs.YtcgkajlehdgpoaaGreatDoor
namespace Go.Proofs.YtcgkajlehdgpoaaGreatDoor
open Go.RowKit
def sqV (X:Nat→Nat):Value := .agg (ints .u8 16 X).toArray
theorem zeroS (w:World):Sem.run Tryz.prog (zeroValue 169) w = .ok (.agg (zb 16)) w:=by kernel_rfl
theorem zeroB (w:World):Sem.run Tryz.prog (zeroValue 201) w = .ok (.agg (zb 256)) w:=by kernel_rfl
theorem ints_size (K:IntKind) (n:Nat) (X:Nat→Nat):(ints K n X).toArray.size=n:=by rw [List.size_toArray,ints_len]
theorem infoS (X:Nat→Nat):(Tryz.prog.info? 169).map (·.size)=some (ints .u8 16 X).length:=by rw [ints_len];kernel_rfl
theorem infoSA (X:Nat→Nat):(Tryz.prog.info? 169).map (·.size)=some (ints .u8 16 X).toArray.size:=by rw [ints_size];kernel_rfl
theorem infoB (X:Nat→Nat):(Tryz.prog.info? 201).map (·.size)=some (ints .u8 256 X).length:=by rw [ints_len];kernel_rfl
theorem infoBA (X:Nat→Nat):(Tryz.prog.info? 201).map (·.size)=some (ints .u8 256 X).toArray.size:=by rw [ints_size];kernel_rfl
theorem oneU (n:Nat) (X:Nat→Nat):(ints .u8 n X).toArray.all (·.oneCell')=true:=all_oneCell_toArray (ints_one .u8 n X)
theorem RowAt.box (K:IntKind) (w:World) (n:Nat) (X:Nat→Nat) (t:TypeId):RowAt K (w.alloc (.cells (ints K n X).toArray t)) w.heap.size 0 n X:=RowAt.fresh (fun j hj=>by rw [List.getElem?_toArray];exact ints_at K n X j hj)
theorem RowAt.stored {K:IntKind} {w:World} {g n:Nat} {M L:Nat→Nat} (h:RowAt K w g 0 n M):RowAt K (w.setCells g 0 (ints K n L)) g 0 n L:=fun j hj=>by
 have hr:=World.rangeAt_setCells_same w g 0 (ints K n L) (by rw [ints_len];exact h.there)
 exact ⟨hr j _ (ints_at K n L j hj),(World.frozen?_setCells g (ints K n L) 0 w _).trans (h j hj).2⟩
theorem RowAt.farCells {K:IntKind} {w:World} {g o n:Nat} {L:Nat→Nat} (h:RowAt K w g o n L) {k:Nat} (hk:g≠k) (p:Nat) (vs:List Value):RowAt K (w.setCells k p vs) g o n L:=fun j hj=>by
 have hb:(w.setCells k p vs).heap[g]? = w.heap[g]?:=heap_setCells_other k vs p w g hk
 exact ⟨(World.cell?_of_block (w:=w) hb).trans (h j hj).1,(World.frozen?_of_block (w:=w) hb).trans (h j hj).2⟩
theorem RowAt.zero (w:World) (n:Nat) (t:TypeId):RowAt .u8 (w.alloc (.cells (zb n) t)) w.heap.size 0 n (fun _=>0):=RowAt.fresh (fun j hj=>zb_at n j hj)
theorem wpList_val {P:Program} {w:World} {ops:Array Oper} {rest:List Oper} {o:Oper} {a:Act} {Q:Exit→Act→World→Prop} (d:Option Nat) (v:Value) (hgd:o.guard=none) (hd:o.dst=d) (hrun:(execOp a.eval o).run P w = .ok (.value v) w)
 (h:wpList P ops Q rest (a.put d v) w):wpList P ops Q (o :: rest) a w:=by
 subst hd
 refine wpList_plain hgd fun K hK => ?_
 unfold Oper.wp
 rw [hrun,Oper.upon_value]
 exact hK _ _ h
theorem index_u8 {t n:Nat} (hu:Tryz.prog.underlying t=some (.array n 5)) (X:Nat→Nat) (k:Nat) (hk:k<n) (kk:IntKind) (W:World):(Instr.index t (.agg (ints .u8 n X).toArray) (.int kk k)).run Tryz.prog W = .ok (.int .u8 (X k)) W:=by
 have hs:∀ W,(sizeOf 5).run Tryz.prog W = .ok 1 W:=fun W=>by kernel_rfl
 have hx:(ints .u8 n X)[k]? = some (.int .u8 (X k)):=ints_at .u8 n X k hk
 simp [Instr.index,run_underlying hu,asIntOf,hk,hs,part,isAgg,run_underlying Tryz.underlying5,hx,Result.andThen]
set_option maxRecDepth 20000 in
set_option maxHeartbeats 2000000 in
theorem boxes_any (w:World) :
 Calls Tryz.prog 167 #[] w fun e w'=>e = .returned (.agg (ints .u8 256 boxN).toArray)∧Below w.heap.size w w':=by
 have hz:=zeroB
 have hb:Below w.heap.size w (w.alloc (.cells (zb 256) 201)):=(Below.refl _ _).alloc (Nat.le_refl _) _
 have hT:(w.alloc (.cells (zb 256) 201)).there w.heap.size 0 256:=(RowAt.zero w 256 _).there
 have hi1:=infoB boxN
 have hi2:=infoBA boxN
 have ho:=oneU 256 boxN
 have hth:(w.alloc (.cells (zb 256) 201)).there w.heap.size 0 (ints .u8 256 boxN).toArray.size:=by rw [ints_size];exact hT
 have hth2:(w.alloc (.cells (zb 256) 201)).there w.heap.size 0 (ints .u8 256 boxN).length:=by rw [ints_len];exact hT
 obtain ⟨L,hL⟩:∃ L,L=ints .u8 256 boxN:=⟨_,rfl⟩
 rw [←hL] at hi1 hi2 ho hth hth2 ⊢
 have HL:=Hid.mk' hL
 clear hL hT
 go_enter Tryz.func167,Tryz.ntmps167
 go_upto_region 1 with (fail)
 refine wp_region_list ?_
 refine wpList_val (some 1) (.agg L.toArray) rfl rfl (by rw [HL.out];kernel_rfl) ?_
 refine wpList_store_mid rfl 201 _ _ rfl w.heap.size 0 L.toArray rfl rfl hth hi2 ho ?_
 refine wpList_nil ?_
 simp only [Act.put,List.setIfInBounds_toArray,List.set_cons_zero,List.set_cons_succ]
 go_wp2
 (try simp only [Exit.inBlock,Exit.then])
 refine bodyPost_ret (results_cell_mid Tryz.results167 _ _ w.heap.size 0 L _ rfl (World.rangeAt_setCells_same _ _ _ _ hth2) Tryz.underlying201 rfl hi1) rfl ⟨rfl,?_⟩
 exact below_setCells (Nat.le_refl _) _ _ _ hb
end Go.Proofs.YtcgkajlehdgpoaaGreatDoor
namespace Go.Proofs.YtcgkajlehdgpoaaGreatDoor
open Go.RowKit
def CCtx (w:World) (g:Nat) (K N X:Nat→Nat) (n:Nat):Prop:=∃ gk gu gx,RW w g 0 [.slice (some ⟨gk,0,none⟩) 16 16,.slice (some ⟨gu,0,none⟩) 12 12,.slice (some ⟨gx,0,none⟩) 32 32,.int .u64 (n:Int)]∧RowAt .u8 w gk 0 16 K∧RowAt .u8 w gu 0 12 N∧RowAt .u8 w gx 0 32 X
theorem RowAt.stay {w w':World} {g o n:Nat} {X:Nat→Nat} (h0:0<n) (h:RowAt .u8 w g o n X) (hb:Below w.heap.size w w'):RowAt .u8 w' g o n X:=h.below hb (block_lt_of_cell (h 0 h0).1)
theorem CCtx.keep {w w':World} {g:Nat} {K N X:Nat→Nat} {n:Nat} (h:CCtx w g K N X n) (hb:Below w.heap.size w w'):CCtx w' g K N X n:=by
 obtain ⟨k,u,x,r,h1,h2,h3⟩:=h
 exact ⟨k,u,x,r.still hb,h1.stay (by decide) hb,h2.stay (by decide) hb,h3.stay (by decide) hb⟩
theorem zeroKs (w:World):Sem.run Tryz.prog (zeroValue 52) w = .ok (.agg #[.slice none 0 0,.slice none 0 0,.slice none 0 0]) w:=by kernel_rfl
theorem infoKs (a b c:Value):(Tryz.prog.info? 52).map (·.size)=some (#[a,b,c]:Array Value).size:=by kernel_rfl
theorem infoKl (a b c:Value):(Tryz.prog.info? 52).map (·.size)=some [a,b,c].length:=by kernel_rfl
theorem oneKs (x y z:Option Addr) (a b c d e f:Nat):(#[.slice x a b,.slice y c d,.slice z e f]:Array Value).all (·.oneCell')=true:=by simp [Value.oneCell']
theorem results_keys (tmps:Array Value) (w:World) (g:Nat) (a b c:Value) (hp:tmps.getD 4 undef = .pointer (some ⟨g,0,none⟩)) (h:RW w g 0 [a,b,c]):(results Tryz.f39 tmps).run Tryz.prog w = .ok (.agg #[a,b,c]) w :=
 results_cell_mid rfl tmps w g 0 [a,b,c] _ hp h.range Tryz.underlying52 rfl (infoKl a b c)
theorem call_any (label:List Nat) (hl:∀ x,x∈label→x<256) (hz:label.length≤50) (sv tv:Value) (sn cnt m:Nat) (salt t:Nat→Nat) (hs:∀ j,salt j<256) (ht:∀ j,t j<256) (hsn:sn≤32) (hc:cnt<1000000) (hm:m+300<140737488355000) (w:World) (hT:HTab w cubeK squareK) (h1:BytesIn w sv sn salt) (h2:Texts w tv cnt m t) :
 Calls Tryz.prog 29 #[.string { data:=#[72,80,75,69,0,32,0,1,0,1] },sv,.string (strL label),tv] w fun e w'=>∃ s,e = .returned s∧BytesIn w' s 32 (lxN lAll sn salt label m t)∧Below w.heap.size w w' :=
 cextract_any lAll label lAll_lt hl (by show 10+label.length≤100;omega) sv tv sn cnt m salt t hs ht (by omega) hc hm w hT h1 h2
theorem eall (label:List Nat) (hl:∀ x,x∈label→x<256) (hz:label.length≤50) (pv tv:Value) (cnt m N:Nat) (prk t:Nat→Nat) (hN:N≤8160) (hp:∀ j,prk j<256) (ht:∀ j,t j<256) (hc:cnt<1000000) (hm:m+300<140737488355000) (w:World) (hT:HTab w cubeK squareK) (h1:BytesIn w pv 32 prk) (h2:Texts w tv cnt m t) :
 Calls Tryz.prog 28 #[.string { data:=#[72,80,75,69,0,32,0,1,0,1] },pv,.int .i64 N,.string (strL label),tv] w fun e w'=>∃ s,e = .returned s∧NewR w w' s N (leN lAll 32 prk label m t N)∧Below w.heap.size w w' :=
 cexpand_any lAll label lAll_lt hl (by show 10+label.length≤100;omega) pv tv 32 cnt m N prk t hN hp ht (by decide) hc hm w hT h1 h2
set_option maxRecDepth 20000 in
set_option maxHeartbeats 8000000 in
theorem keysOf_any (v u:Value) (m:Nat) (s info:Nat→Nat) (hs:∀ j,s j<256) (hi:∀ j,info j<256) (hm:m≤65536) (w:World) (hT:HTab w cubeK squareK) (hv:BytesIn w v 32 s) (hu:BytesIn w u m info) :
 Calls Tryz.prog 39 #[v,u] w fun e w'=>∃ gk gu gx,e = .returned (.agg #[.slice (some ⟨gk,0,none⟩) 16 16,.slice (some ⟨gu,0,none⟩) 12 12,.slice (some ⟨gx,0,none⟩) 32 32])∧RowAt .u8 w' gk 0 16 (ckN lKey 16 s m info)∧RowAt .u8 w' gu 0 12 (ckN lBn 12 s m info)∧RowAt .u8 w' gx 0 32 (ckN lExp 32 s m info)∧Below w.heap.size w w':=by
 obtain ⟨x1,c1,rfl,-,-,-⟩:=hv.src
 obtain ⟨x2,c2,rfl,-,-,-⟩:=hu.src
 have zk:=zeroKs
 obtain ⟨W0,hW0⟩:∃ W,W=(w.alloc (.cells #[.slice none 0 0,.slice none 0 0,.slice none 0 0] 52)).alloc (.cells #[.int .u8 0] 5):=⟨_,rfl⟩
 have bz:Below w.heap.size w (w.alloc (.cells #[.slice none 0 0,.slice none 0 0,.slice none 0 0] 52)):=(Below.refl _ _).alloc (Nat.le_refl _) _
 have b0:Below w.heap.size w W0:=by rw [hW0];exact bz.alloc bz.size _
 have r0:RW W0 w.heap.size 0 [.slice none 0 0,.slice none 0 0,.slice none 0 0]:=by rw [hW0];exact (RW.fresh w _ _).still ((Below.refl _ _).alloc (Nat.le_refl _) _)
 have q0:BytesIn W0 (.slice (some ⟨w.heap.size+1,0,none⟩) 1 1) 1 lZ:=by
  have h:=litB_B (w.alloc (.cells #[.slice none 0 0,.slice none 0 0,.slice none 0 0] 52)) [0] (0,0)
  rw [World.size_alloc] at h
  rw [hW0]
  exact h.cong fun j hj=>by
   have:j=0:=by
    have:j<1:=hj
    omega
   subst this
   rfl
 have xp:Calls Tryz.prog 29 #[.string { data:=#[72,80,75,69,0,32,0,1,0,1] },.slice none 0 0,.string { data:=#[112,115,107,95,105,100,95,104,97,115,104] },.slice none 0 0] W0 _:=call_any lPsk (by decide) (by decide) (.slice none 0 0) (.slice none 0 0) 0 0 0 lZ lZ lZ_lt lZ_lt (by decide) (by decide) (by decide) W0 (hT.keep b0) (BytesIn.nil0 _ _) (texts_none _ _)
 have xi:∀ W,Below w.heap.size w W→Calls Tryz.prog 29 #[.string { data:=#[72,80,75,69,0,32,0,1,0,1] },.slice none 0 0,.string { data:=#[105,110,102,111,95,104,97,115,104] },.slice (some ⟨W.heap.size,0,none⟩) 1 1] (W.alloc (.cells #[.slice x2 m c2] 22)) _:=fun W hb=>call_any lInf (by decide) (by decide) (.slice none 0 0) _ 0 1 m lZ info lZ_lt hi (by decide) (by decide) (by omega) _ (hT.keep (hb.alloc hb.size _)) (BytesIn.nil0 _ _) (texts_one W _ m info (hu.keep hb))
 have xs:∀ W,Below w.heap.size w W→Calls Tryz.prog 29 #[.string { data:=#[72,80,75,69,0,32,0,1,0,1] },.slice x1 32 c1,.string { data:=#[115,101,99,114,101,116] },.slice none 0 0] W fun e w'=>∃ y,e = .returned y∧BytesIn w' y 32 (lxN lAll 32 s lSecr 0 lZ)∧Below W.heap.size W w':=fun W hb=>call_any lSecr (by decide) (by decide) (.slice x1 32 c1) (.slice none 0 0) 32 0 0 s lZ hs lZ_lt (by decide) (by decide) (by decide) W (hT.keep hb) (hv.keep hb) (texts_none _ _)
 have hj:∀ W v0 v1 v2,BytesIn W v0 1 lZ→BytesIn W v1 32 (lxN lAll 0 lZ lPsk 0 lZ)→BytesIn W v2 32 (lxN lAll 0 lZ lInf m info)→Calls Tryz.prog 61 #[.slice (some ⟨W.heap.size,0,none⟩) 3 3] (W.alloc (.cells #[v0,v1,v2] 22)) fun e w'=>∃ s,e = .returned s∧BytesIn w' s 65 (cxN m info)∧Below W.heap.size W w':=fun W v0 v1 v2 h0 h1 h2=>by
  have hP:=parts_list W [(v0,1,lZ),(v1,32,lxN lAll 0 lZ lPsk 0 lZ),(v2,32,lxN lAll 0 lZ lInf m info)] 22 (by
   intro p hp
   simp only [List.mem_cons,List.not_mem_nil,or_false] at hp
   rcases hp with rfl | rfl | rfl
   · exact h0
   · exact h1
   · exact h2)
  exact (concat_parts W.heap.size 3 65 (cxN m info) _ hP (by decide) (by decide) (by decide)).mono fun _ _ ⟨s,he,ho,hb'⟩=>⟨s,he,ho.bytesIn,below_next ((Below.refl _ _).alloc (Nat.le_refl _) _) hb'⟩
 have hcl:∀ j,cxN m info j<256:=catL_lt _ (by
  intro p hp
  simp only [List.mem_cons,List.not_mem_nil,or_false] at hp
  rcases hp with rfl | rfl | rfl
  · exact lZ_lt
  · exact lxN_lt _ _ _ _ _ _
  · exact lxN_lt _ _ _ _ _ _)
 have hcs:∀ j,csN s j<256:=fun j=>lxN_lt lAll 32 s lSecr 0 lZ j
 have ee:∀ label,(∀ x,x∈label→x<256)→label.length≤50→∀ N:Nat,N≤8160→∀ pv iv W,Below w.heap.size w W→BytesIn W pv 32 (csN s)→BytesIn W iv 65 (cxN m info)→Calls Tryz.prog 28 #[.string { data:=#[72,80,75,69,0,32,0,1,0,1] },pv,.int .i64 N,.string (strL label),.slice (some ⟨W.heap.size,0,none⟩) 1 1] (W.alloc (.cells #[iv] 22)) fun e w'=>∃ y,e = .returned y∧NewR W w' y N (ckN label N s m info)∧Below W.heap.size W w':=fun label hl hz N hN pv iv W hb hp hi=>by
  rw [show ckN label N s m info=leN lAll 32 (csN s) label 65 (cxN m info) N from rfl]
  have h:=eall label hl hz pv (.slice (some ⟨W.heap.size,0,none⟩) 1 1) 1 65 N (csN s) (cxN m info) hN hcs hcl (by decide) (by decide) (W.alloc (.cells #[iv] 22)) (hT.keep (hb.alloc hb.size _)) (hp.keep ((Below.refl _ _).alloc (Nat.le_refl _) _)) (texts_one W iv 65 (cxN m info) hi)
  generalize leN lAll 32 (csN s) label 65 (cxN m info) N=Y at h ⊢
  exact h.mono fun _ _ ⟨y,he,⟨g,hy,hg,hr⟩,hb'⟩=>⟨y,he,⟨g,hy,Nat.le_trans (by rw [World.size_alloc];omega) hg,hr⟩,below_next ((Below.refl _ _).alloc (Nat.le_refl _) _) hb'⟩
 have ek:∀ pv iv W,Below w.heap.size w W→BytesIn W pv 32 (csN s)→BytesIn W iv 65 (cxN m info)→Calls Tryz.prog 28 #[.string { data:=#[72,80,75,69,0,32,0,1,0,1] },pv,.int .i64 16,.string { data:=#[107,101,121] },.slice (some ⟨W.heap.size,0,none⟩) 1 1] (W.alloc (.cells #[iv] 22)) _:=ee lKey (by decide) (by decide) 16 (by decide)
 have en:∀ pv iv W,Below w.heap.size w W→BytesIn W pv 32 (csN s)→BytesIn W iv 65 (cxN m info)→Calls Tryz.prog 28 #[.string { data:=#[72,80,75,69,0,32,0,1,0,1] },pv,.int .i64 12,.string { data:=#[98,97,115,101,95,110,111,110,99,101] },.slice (some ⟨W.heap.size,0,none⟩) 1 1] (W.alloc (.cells #[iv] 22)) _:=ee lBn (by decide) (by decide) 12 (by decide)
 have ex:∀ pv iv W,Below w.heap.size w W→BytesIn W pv 32 (csN s)→BytesIn W iv 65 (cxN m info)→Calls Tryz.prog 28 #[.string { data:=#[72,80,75,69,0,32,0,1,0,1] },pv,.int .i64 32,.string { data:=#[101,120,112] },.slice (some ⟨W.heap.size,0,none⟩) 1 1] (W.alloc (.cells #[iv] 22)) _:=ee lExp (by decide) (by decide) 32 (by decide)
 clear ee
 rw [hW0] at xp
 generalize lxN lAll 0 lZ lPsk 0 lZ=P1 at xp hj
 generalize lxN lAll 0 lZ lInf m info=P2 at xi hj
 have hS:lxN lAll 32 s lSecr 0 lZ=csN s:=rfl
 rw [hS] at xs
 clear hS
 generalize csN s=S at xs ek en ex
 generalize cxN m info=C at hj ek en ex
 generalize ckN lKey 16 s m info=Y1 at ek ⊢
 generalize ckN lBn 12 s m info=Y2 at en ⊢
 generalize ckN lExp 32 s m info=Y3 at ex ⊢
 have g0:w.heap.size≤w.heap.size:=Nat.le_refl _
 rw [hW0] at b0 r0 q0
 clear hcl hcs hv hu hT hW0
 go_enter Tryz.func39,Tryz.ntmps39
 go_upto_region 2 with (first
  | (go_at_call 29;refine xp.mono ?_;clear xp;rintro e w1 ⟨k1,rfl,q1,h1⟩;(have b1:=below_next b0 h1);(replace q0:=q0.keep h1);(replace r0:=r0.still h1);(have y1:=xi w1 b1);(have d1:Below w1.heap.size w1 (w1.alloc (.cells #[.slice x2 m c2] 22)):=(Below.refl _ _).alloc (Nat.le_refl _) _);clear xi h1 b0)
  | (go_at_call 29;refine y1.mono ?_;clear y1;rintro e w2 ⟨k2,rfl,q2,h2⟩;(replace h2:=below_next d1 h2);(have b2:=below_next b1 h2);(replace q0:=q0.keep h2);(replace q1:=q1.keep h2);(replace r0:=r0.still h2);(have j2:=hj w2 _ _ _ q0 q1 q2);(obtain ⟨z1,d1,e1,-,-,-⟩:=q1.src);(obtain ⟨z2,d2,e2,-,-,-⟩:=q2.src);subst e1;subst e2;clear hj q0 q1 q2 h2 b1)
  | (go_at_call 61;refine j2.mono ?_;clear j2;rintro e w3 ⟨k3,rfl,c3,h3⟩;(have b3:=below_next b2 h3);(replace r0:=r0.still h3);(have y3:=xs w3 b3);clear xs h3 b2))
 go_upto_region 3 with (go_at_call 29;refine y3.mono ?_;clear y3;rintro e w4 ⟨k4,rfl,s4,h4⟩;(have b4:=below_next b3 h4);(replace r0:=r0.still h4);(replace c3:=c3.keep h4);(have y4:=ek k4 k3 w4 b4 s4 c3);(obtain ⟨z3,d3,e3,-,-,-⟩:=c3.src);subst e3;clear ek h4 b3)
 go_wp2_with (first
  | (go_at_call 28;refine y4.mono ?_;clear y4;rintro e w5 ⟨k5,rfl,⟨g5,rfl,hg,t5⟩,h5⟩;(have l5:g5≠w.heap.size:=Nat.ne_of_gt (Nat.lt_of_lt_of_le r0.lt hg));clear hg;(have b5:=below_next b4 h5);(replace r0:=r0.still h5);(replace c3:=c3.keep h5);(replace s4:=s4.keep h5);(have y5:=en k4 _ w5 b5 s4 c3);clear en h5 b4)
  | (go_at_call 28;refine y5.mono ?_;clear y5;rintro e w6 ⟨k6,rfl,⟨g6,rfl,hg,t6⟩,h6⟩;(have l6:g6≠w.heap.size:=Nat.ne_of_gt (Nat.lt_of_lt_of_le r0.lt hg));clear hg;(have b6:=below_next b5 h6);(replace r0:=r0.still h6);(replace c3:=c3.keep h6);(replace s4:=s4.keep h6);(replace t5:=t5.stay (by decide) h6);(have y6:=ex k4 _ w6 b6 s4 c3);clear ex h6 b5)
  | (go_at_call 28;refine y6.mono ?_;clear y6;rintro e w7 ⟨k7,rfl,⟨g7,rfl,hg,t7⟩,h7⟩;(have l7:g7≠w.heap.size:=Nat.ne_of_gt (Nat.lt_of_lt_of_le r0.lt hg));clear hg;(have b7:=below_next b6 h7);(replace r0:=r0.still h7);(replace t5:=t5.stay (by decide) h7);(replace t6:=t6.stay (by decide) h7);(have th:w7.there w.heap.size 0 (#[.slice (some ⟨g5,0,none⟩) 16 16,.slice (some ⟨g6,0,none⟩) 12 12,.slice (some ⟨g7,0,none⟩) 32 32]:Array Value).size:=r0.there);clear h7 b6 c3 s4)
  | (with_reducible (refine id (?_:wpList _ _ _ _ _ _));refine wpList_store_mid rfl 52 _ _ rfl w.heap.size 0 #[.slice (some ⟨g5,0,none⟩) 16 16,.slice (some ⟨g6,0,none⟩) 12 12,.slice (some ⟨g7,0,none⟩) 32 32] rfl rfl th (infoKs _ _ _) (oneKs _ _ _ _ _ _ _ _ _) ?_))
 (try simp only [Exit.inBlock,Exit.then])
 exact bodyPost_ret (results_keys _ _ w.heap.size _ _ _ rfl (r0.stored [.slice (some ⟨g5,0,none⟩) 16 16,.slice (some ⟨g6,0,none⟩) 12 12,.slice (some ⟨g7,0,none⟩) 32 32] rfl)) rfl ⟨g5,g6,g7,rfl,t5.farCells l5 0 _,t6.farCells l6 0 _,t7.farCells l7 0 _,below_setCells (Nat.le_refl _) _ _ _ b7⟩
end Go.Proofs.YtcgkajlehdgpoaaGreatDoor
namespace Go.Proofs.YtcgkajlehdgpoaaGreatDoor
open Go.RowKit
set_option maxHeartbeats 1000000 in
theorem double_any (x:Nat) (hx:x<256) (w:World) :
 Calls Tryz.prog 166 #[.int .u8 x] w fun e w'=>e = .returned (.int .u8 (dbN x))∧w'=w:=by
 have hq:=u8_xor_nat (x*2%256) (x / 128*27) (by omega) (by omega)
 have e:dbN x=(x*2%256) ^^^ (x / 128*27):=rfl
 rw [←e] at hq
 replace hq:bits .xor .u8 ((x:Int)*2%256) ((x:Int) / 128*27)=((dbN x:Nat):Int):=hq
 generalize dbN x=y at *
 clear e
 go_enter Tryz.func166,Tryz.ntmps166
 go_wp2
 go_ret
 exact ⟨rfl,rfl⟩
theorem two_new (X Y:Nat→Nat) (w:World) (L:Array Value) (hL:∀ j,j<16→L[j]? = some (.int .u8 (Y j))) (t u:TypeId):∃ W,(w.alloc (.cells (ints .u8 16 X).toArray t)).alloc (.cells L u)=W∧W.heap.size=w.heap.size+1+1∧Below w.heap.size w W∧RowAt .u8 W w.heap.size 0 16 X∧RowAt .u8 W (w.heap.size+1) 0 16 Y:=by
 refine ⟨_,rfl,by simp,((Below.refl _ _).alloc (Nat.le_refl _) _).alloc (by simp) _,(RowAt.box .u8 w 16 X t).alloc (by simp) _,?_⟩
 have:=RowAt.fresh (K := .u8) (w:=w.alloc (.cells (ints .u8 16 X).toArray t)) (t:=u) hL
 rwa [World.size_alloc] at this
theorem zb16:∀ j,j<16→(zb 16)[j]? = some (.int .u8 ((fun _=>0:Nat→Nat) j)):=fun j hj=>zb_at 16 j hj
theorem ints16 (X:Nat→Nat):∀ j,j<16→(ints .u8 16 X).toArray[j]? = some (.int .u8 (X j)):=fun j hj=>by rw [List.getElem?_toArray];exact ints_at _ _ _ j hj
def pr (Z X:Nat→Nat) (k j:Nat):Nat:=if j<k then Z j else X j
theorem pr_at (Z X:Nat→Nat) (k:Nat):pr Z X k k=X k:=if_neg (Nat.lt_irrefl k)
theorem pr_full (Z X:Nat→Nat) {n j:Nat} (h:j<n):pr Z X n j=Z j:=if_pos h
theorem pr_step (Z X:Nat→Nat) (k j:Nat):upd (pr Z X k) k (Z k) j=pr Z X (k+1) j:=by
 unfold upd pr
 by_cases e:j=k
 · subst e;rw [if_pos rfl,if_pos (by omega)]
 · rw [if_neg e]
   by_cases e2:j<k
   · rw [if_pos e2,if_pos (by omega)]
   · rw [if_neg e2,if_neg (by omega)]
theorem RowAt.next {w:World} {g n k:Nat} {Z X:Nat→Nat} (h:RowAt .u8 w g 0 n (pr Z X k)) (hk:k<n) {v:Int} (hv:v=(Z k:Int)):RowAt .u8 (w.setCell ⟨g,k,none⟩ (.int .u8 v)) g 0 n (pr Z X (k+1)):=by
 have hs:=h.set (i:=k) hk (v:=v) (u:=Z k) hv
 rw [Nat.zero_add] at hs
 exact hs.congr (fun j _=>pr_step Z X k j)
set_option maxRecDepth 20000 in
set_option maxHeartbeats 2000000 in
theorem kplus_any (X Y:Nat→Nat) (hX:B16 X) (hY:B16 Y) (w:World) :
 Calls Tryz.prog 140 #[sqV X,sqV Y] w fun e w'=>e = .returned (sqV (fun j=>X j ^^^ Y j))∧Below w.heap.size w w':=by
 have hz:=zeroS
 have hi3:=infoS Y
 obtain ⟨V,hV,hVs,hbV,hA0,hB0⟩:=two_new X Y w (ints .u8 16 Y).toArray (ints16 Y) 169 169
 obtain ⟨W,hW⟩:∃ W,W=V.alloc (.cells (zb 16) 169):=⟨_,rfl⟩
 have hbW:Below w.heap.size w W:=by rw [hW];exact hbV.alloc (by omega) _
 have hA:RowAt .u8 W w.heap.size 0 16 X:=by rw [hW];exact hA0.alloc (by omega) _
 have hB:RowAt .u8 W (w.heap.size+1) 0 16 Y:=by rw [hW];exact hB0.alloc (by omega) _
 have hC:RowAt .u8 W (w.heap.size+1+1) 0 16 (fun _=>0):=by rw [hW,←hVs];exact RowAt.zero V 16 _
 rw [←hV] at hW
 have HW:=Hid.mk' hW
 have hBr:=hB.range
 have hix:=fun k hk=>index_u8 Tryz.underlying169 Y k hk .i64
 unfold sqV
 obtain ⟨Z,hZ⟩:∃ Z:Nat→Nat,Z=fun j=>X j ^^^ Y j:=⟨_,rfl⟩
 rw [←hZ]
 have HZ:=Hid.mk' hZ
 clear hW hV hZ hA0 hB0 hbV hVs hB
 go_enter Tryz.func140,Tryz.ntmps140
 go_wp2_with (first
  | (rw [←HW.out];refine wpList_load_mid rfl 169 _ rfl (w.heap.size+1) 0 rfl (ints .u8 16 Y) _ hBr Tryz.underlying169 rfl hi3 ?_))
 go_loopw [8] (fun i wr=>∃ k:Nat,k≤16∧i = .int .i64 k∧RowAt .u8 wr w.heap.size 0 16 (pr Z X k)∧RowAt .u8 wr (w.heap.size+1+1) 0 16 (fun _=>0)∧Below w.heap.size w wr) (fun i _=>16 - (intOf i).toNat)
 case atStart=>exact ⟨0,Nat.zero_le _,rfl,hA,hC,hbW⟩
 case round =>
  clear hA hC hbW hBr hz
  obtain ⟨k,hk,rfl,hA,hC,hb⟩:=hrel
  by_cases hlt:k<16
  · obtain ⟨rk,fk⟩:=hA k hlt
    rw [Nat.zero_add] at rk fk
    have hi:=hix k hlt
    have hq:=u8_xor_nat (X k) (Y k) (hX k hlt) (hY k hlt)
    rw [pr_at] at rk
    have ez:((X k ^^^ Y k:Nat):Int)=(Z k:Int):=by rw [HZ.out]
    rw [ez] at hq
    have hs:=hA.next hlt (v:=(Z k:Int)) rfl
    clear hix ez
    go_wp2_with (rw [hi])
    go_roundw
    case rel=>exact ⟨k+1,by omega,by go_num,hs,hC.far (by show w.heap.size≠w.heap.size+1+1;omega) _,hb.setCell (Nat.le_refl _) _⟩
    case measure=>simp [intOf];omega
  · obtain rfl:k=16:=by omega
    have hA':RowAt .u8 wr w.heap.size 0 16 Z:=hA.congr (fun j hj=>pr_full Z X hj)
    have hi1:=infoS Z
    have hi2:=infoSA Z
    have ho:=oneU 16 Z
    have hth:wr.there (w.heap.size+1+1) 0 (ints .u8 16 Z).toArray.size:=by rw [ints_size];exact hC.there
    go_wp2_with (first
     | (refine wpList_load_mid rfl 169 _ rfl w.heap.size 0 rfl (ints .u8 16 Z) _ hA'.range Tryz.underlying169 rfl hi1 ?_)
     | (refine wpList_store_mid rfl 169 _ _ rfl (w.heap.size+1+1) 0 (ints .u8 16 Z).toArray rfl rfl hth hi2 ho ?_))
    (try simp only [Exit.inBlock,Exit.then])
    refine bodyPost_ret (results_cell_mid Tryz.results140 _ _ (w.heap.size+1+1) 0 (ints .u8 16 Z) _ rfl (World.rangeAt_setCells_same _ _ _ _ (by rw [ints_len];exact hC.there)) Tryz.underlying169 rfl hi1) rfl ⟨rfl,?_⟩
    exact below_setCells (by omega) _ _ _ hb
end Go.Proofs.YtcgkajlehdgpoaaGreatDoor
namespace Go.Proofs.YtcgkajlehdgpoaaGreatDoor
open Go.RowKit
def fit16 (n:Nat) (bs:Nat→Nat):Nat→Nat:=over (fun _=>0) 0 (Nat.min n 16) bs
theorem fit16_full (bs:Nat→Nat) {j:Nat} (h:j<16):fit16 16 bs j=bs j:=by
 unfold fit16 over
 rw [if_pos ⟨Nat.zero_le _,by rw [show Nat.min 16 16=16 from rfl];omega⟩,Nat.sub_zero]
set_option maxRecDepth 20000 in
set_option maxHeartbeats 2000000 in
theorem squareOf_any (v:Value) (n:Nat) (bs:Nat→Nat) (w:World) (hv:BytesIn w v n bs) :
 Calls Tryz.prog 139 #[v] w fun e w'=>e = .returned (sqV (fit16 n bs))∧Below w.heap.size w w':=by
 have hz:=zeroS
 have hsz:(Tryz.prog.info? 5).map (·.size)=some 1:=by kernel_rfl
 obtain ⟨xo,cx,rfl,-,-,hsrc⟩:=hv.src
 obtain ⟨W,hW⟩:∃ W,W=(w.alloc (.cells (zb 16) 169)).alloc (.cells (zb 16) 169):=⟨_,rfl⟩
 have hbW:Below w.heap.size w W:=by rw [hW];exact ((Below.refl _ _).alloc (Nat.le_refl _) _).alloc (by simp) _
 have hA:RowAt .u8 W w.heap.size 0 16 (fun _=>0):=by rw [hW];exact (RowAt.zero w 16 _).alloc (by simp) _
 have hB:RowAt .u8 W (w.heap.size+1) 0 16 (fun _=>0):=by
  have:=RowAt.zero (w.alloc (.cells (zb 16) 169)) 16 169
  rw [World.size_alloc] at this
  rw [hW];exact this
 have src:=hsrc W hbW
 have HW:=Hid.mk' hW
 have hth:=hB.there
 obtain ⟨m,hm⟩:∃ m,m=Nat.min n 16:=⟨_,rfl⟩
 have hR:=hB.splice 0 m bs (by rw [hm,Nat.zero_add];exact Nat.min_le_right _ _)
 rw [Nat.zero_add] at hR
 have eR:fit16 n bs=over (fun _=>0) 0 m bs:=by rw [hm];rfl
 rw [eR]
 generalize over (fun _=>0) 0 m bs=Z at *
 have hA':RowAt .u8 (W.setCells (w.heap.size+1) 0 (ints .u8 m bs)) w.heap.size 0 16 (fun _=>0):=hA.farCells (by omega) _ _
 have hb':Below w.heap.size w (W.setCells (w.heap.size+1) 0 (ints .u8 m bs)):=below_setCells (by omega) _ _ _ hbW
 obtain ⟨V,hV⟩:∃ V,V=W.setCells (w.heap.size+1) 0 (ints .u8 m bs):=⟨_,rfl⟩
 have HV:=Hid.mk' hV
 rw [←hV] at hR hA' hb'
 have hi1:=infoS Z
 have hi2:=infoSA Z
 have ho:=oneU 16 Z
 have hth2:V.there w.heap.size 0 (ints .u8 16 Z).toArray.size:=by rw [ints_size];exact hA'.there
 have hrg:=hR.range
 unfold sqV
 have Hm:=Hid.mk' hm
 clear hW hV hA hB hv hsrc eR hR hm
 go_enter Tryz.func139,Tryz.ntmps139
 go_wp2_with (first
  | (rw [←HW.out];refine wpList_copy_bytes rfl _ _ 22 22 rfl 5 Tryz.underlying22 hsz (w.heap.size+1) 0 16 16 xo n cx rfl rfl m bs src Hm.out hth ?_;rw [←HV.out])
  | (refine wpList_load_mid rfl 169 _ rfl (w.heap.size+1) 0 rfl (ints .u8 16 Z) _ hrg Tryz.underlying169 rfl hi1 ?_)
  | (refine wpList_store_mid rfl 169 _ _ rfl w.heap.size 0 (ints .u8 16 Z).toArray rfl rfl hth2 hi2 ho ?_))
 (try simp only [Exit.inBlock,Exit.then])
 refine bodyPost_ret (results_cell_mid Tryz.results139 _ _ w.heap.size 0 (ints .u8 16 Z) _ rfl (World.rangeAt_setCells_same _ _ _ _ (by rw [ints_len];exact hA'.there)) Tryz.underlying169 rfl hi1) rfl ⟨rfl,?_⟩
 exact below_setCells (Nat.le_refl _) _ _ _ hb'
set_option maxRecDepth 20000 in
set_option maxHeartbeats 2000000 in
theorem boxed_any (X:Nat→Nat) (hX:B16 X) (w:World) :
 Calls Tryz.prog 142 #[sqV X] w fun e w'=>e = .returned (sqV (thrN boxN X))∧Below w.heap.size w w':=by
 have hz:=zeroS
 have hzB:=zeroB
 have cb:=boxes_any
 have hi3:=infoS X
 have hj2:=infoBA boxN
 have hjo:=oneU 256 boxN
 have hix:=fun k hk=>index_u8 Tryz.underlying169 X k hk .i64
 obtain ⟨W,hW,hWs,hbW,hA,hC⟩:=two_new X (fun _=>0) w (zb 16) zb16 169 169
 have HW:=Hid.mk' hW.symm
 have cbW:=cb W
 obtain ⟨Z,hZ⟩:∃ Z:Nat→Nat,Z=thrN boxN X:=⟨_,rfl⟩
 have HZ:∀ j,boxN (X j)=Z j:=fun j=>by rw [hZ];rfl
 rw [←hZ]
 generalize boxN=F at *
 unfold sqV
 clear hW hZ cb
 go_enter Tryz.func142,Tryz.ntmps142
 go_upto_region 2 with (first
  | (rw [←HW.out];go_at_call 167;refine cbW.mono ?_;clear cbW;rintro e w1 ⟨rfl,hb1⟩;(have hT1:=RowAt.zero w1 256 201);(have hA1:=(hA.below hb1 (by omega)).alloc (by have:=hb1.size;omega) (.cells (zb 256) 201));(have hC1:=(hC.below hb1 (by omega)).alloc (by have:=hb1.size;omega) (.cells (zb 256) 201));(have b1:Below w.heap.size w (w1.alloc (.cells (zb 256) 201)):=(hbW.trans (hb1.mono (by omega))).alloc (by have:=hb1.size;omega) _);(have hth:(w1.alloc (.cells (zb 256) 201)).there w1.heap.size 0 (ints .u8 256 F).toArray.size:=by rw [ints_size];exact hT1.there);have hs1:=hb1.size;clear hb1 hA hC hbW)
  | (refine wpList_store_mid rfl 201 _ _ rfl w1.heap.size 0 (ints .u8 256 F).toArray rfl rfl hth hj2 hjo ?_))
 dsimp only [Act.put]
 have hT2:=hT1.stored (L:=F)
 have hA2:=hA1.farCells (show w.heap.size≠w1.heap.size by omega) 0 (ints .u8 256 F)
 have hC2:=hC1.farCells (show w.heap.size+1≠w1.heap.size by omega) 0 (ints .u8 256 F)
 have b2:=below_setCells (show w.heap.size≤w1.heap.size by omega) (ints .u8 256 F) 0 _ b1
 have hg:w.heap.size+1<w1.heap.size:=by omega
 generalize (w1.alloc (.cells (zb 256) 201)).setCells w1.heap.size 0 (ints .u8 256 F)=V at *
 generalize w1.heap.size=g at *
 have hAr:=hA2.range
 clear hT1 hA1 hC1 b1 hth hs1 hzB hz hj2 hjo HW
 go_wp2_with (first
  | (refine wpList_load_mid rfl 169 _ rfl w.heap.size 0 rfl (ints .u8 16 X) _ hAr Tryz.underlying169 rfl hi3 ?_))
 clear hAr
 go_loopw [8] (fun i wr=>∃ k:Nat,k≤16∧i = .int .i64 k∧RowAt .u8 wr w.heap.size 0 16 (pr Z X k)∧RowAt .u8 wr g 0 256 F∧RowAt .u8 wr (w.heap.size+1) 0 16 (fun _=>0)∧Below w.heap.size w wr) (fun i _=>16 - (intOf i).toNat)
 case atStart=>exact ⟨0,Nat.zero_le _,rfl,hA2,hT2,hC2,b2⟩
 case round =>
  clear hA2 hT2 hC2 b2
  obtain ⟨k,hk,rfl,hA,hT,hC,hb⟩:=hrel
  by_cases hlt:k<16
  · obtain ⟨rk,fk⟩:=hA k hlt
    rw [Nat.zero_add] at rk fk
    rw [pr_at] at rk
    have hi:=hix k hlt
    obtain ⟨rt,-⟩:=hT (X k) (hX k hlt)
    rw [Nat.zero_add,HZ] at rt
    have hxk:=hX k hlt
    have hs:=hA.next hlt (v:=(Z k:Int)) rfl
    clear hix
    go_wp2_with (rw [hi])
    go_roundw
    case rel=>exact ⟨k+1,by omega,by go_num,hs,hT.far (by show w.heap.size≠g;omega) _,hC.far (by show w.heap.size≠w.heap.size+1;omega) _,hb.setCell (Nat.le_refl _) _⟩
    case measure=>simp [intOf];omega
  · obtain rfl:k=16:=by omega
    have hA':RowAt .u8 wr w.heap.size 0 16 Z:=hA.congr (fun j hj=>pr_full Z X hj)
    have hi1:=infoS Z
    have hi2:=infoSA Z
    have ho:=oneU 16 Z
    have hth:wr.there (w.heap.size+1) 0 (ints .u8 16 Z).toArray.size:=by rw [ints_size];exact hC.there
    go_wp2_with (first
     | (refine wpList_load_mid rfl 169 _ rfl w.heap.size 0 rfl (ints .u8 16 Z) _ hA'.range Tryz.underlying169 rfl hi1 ?_)
     | (refine wpList_store_mid rfl 169 _ _ rfl (w.heap.size+1) 0 (ints .u8 16 Z).toArray rfl rfl hth hi2 ho ?_))
    (try simp only [Exit.inBlock,Exit.then])
    refine bodyPost_ret (results_cell_mid Tryz.results142 _ _ (w.heap.size+1) 0 (ints .u8 16 Z) _ rfl (World.rangeAt_setCells_same _ _ _ _ (by rw [ints_len];exact hC.there)) Tryz.underlying169 rfl hi1) rfl ⟨rfl,?_⟩
    exact below_setCells (by omega) _ _ _ hb
set_option maxRecDepth 20000 in
set_option maxHeartbeats 2000000 in
theorem turned_any (X:Nat→Nat) (w:World) :
 Calls Tryz.prog 143 #[sqV X] w fun e w'=>e = .returned (sqV (tuN X))∧Below w.heap.size w w':=by
 have hz:=zeroS
 obtain ⟨V,hV,hVs,hbV,hA0,hB0⟩:=two_new X (fun _=>0) w (zb 16) zb16 169 169
 obtain ⟨W,hW⟩:∃ W,W=V.alloc (.cells (zb 16) 169):=⟨_,rfl⟩
 have hbW:Below w.heap.size w W:=by rw [hW];exact hbV.alloc (by omega) _
 have hA:RowAt .u8 W w.heap.size 0 16 X:=by rw [hW];exact hA0.alloc (by omega) _
 have hB:RowAt .u8 W (w.heap.size+1) 0 16 (fun _=>0):=by rw [hW];exact hB0.alloc (by omega) _
 have hC:RowAt .u8 W (w.heap.size+1+1) 0 16 (fun _=>0):=by rw [hW,←hVs];exact RowAt.zero V 16 _
 rw [←hV] at hW
 have HW:=Hid.mk' hW
 unfold sqV
 obtain ⟨Z,hZ⟩:∃ Z:Nat→Nat,Z=tuN X:=⟨_,rfl⟩
 have HZ:∀ j,X ((j+4*(j%4))%16)=Z j:=fun j=>by rw [hZ];rfl
 rw [←hZ]
 clear hW hV hZ hA0 hB0 hbV hVs
 go_enter Tryz.func143,Tryz.ntmps143
 go_wp2
 rw [←HW.out]
 go_loopw [5] (fun i wr=>∃ k:Nat,k≤16∧i = .int .i64 k∧RowAt .u8 wr w.heap.size 0 16 X∧RowAt .u8 wr (w.heap.size+1) 0 16 (fun _=>0)∧RowAt .u8 wr (w.heap.size+1+1) 0 16 (pr Z (fun _=>0) k)∧Below w.heap.size w wr) (fun i _=>16 - (intOf i).toNat)
 case atStart=>exact ⟨0,Nat.zero_le _,rfl,hA,hB,hC,hbW⟩
 case round =>
  clear hA hB hC hbW hz
  obtain ⟨k,hk,rfl,hA,hB,hC,hb⟩:=hrel
  by_cases hlt:k<16
  · obtain ⟨rk,fk⟩:=hC k hlt
    rw [Nat.zero_add] at rk fk
    obtain ⟨rx,-⟩:=hA ((k+4*(k%4))%16) (by omega)
    rw [Nat.zero_add,HZ] at rx
    have q1:(((k:Int)+4*((k:Int)%4))%16).toNat=(k+4*(k%4))%16:=by omega
    have q2:(0:Int)≤((k:Int)+4*((k:Int)%4))%16∧((k:Int)+4*((k:Int)%4))%16<16:=by omega
    have hs:=hC.next hlt (v:=(Z k:Int)) rfl
    clear HZ
    go_wp2
    go_roundw
    case rel=>exact ⟨k+1,by omega,by go_num,hA.far (by show w.heap.size+1+1≠w.heap.size;omega) _,hB.far (by show w.heap.size+1+1≠w.heap.size+1;omega) _,hs,hb.setCell (by show w.heap.size≤w.heap.size+1+1;omega) _⟩
    case measure=>simp [intOf];omega
  · obtain rfl:k=16:=by omega
    have hA':RowAt .u8 wr (w.heap.size+1+1) 0 16 Z:=hC.congr (fun j hj=>pr_full Z _ hj)
    have hi1:=infoS Z
    have hi2:=infoSA Z
    have ho:=oneU 16 Z
    have hth:wr.there (w.heap.size+1) 0 (ints .u8 16 Z).toArray.size:=by rw [ints_size];exact hB.there
    go_wp2_with (first
     | (refine wpList_load_mid rfl 169 _ rfl (w.heap.size+1+1) 0 rfl (ints .u8 16 Z) _ hA'.range Tryz.underlying169 rfl hi1 ?_)
     | (refine wpList_store_mid rfl 169 _ _ rfl (w.heap.size+1) 0 (ints .u8 16 Z).toArray rfl rfl hth hi2 ho ?_))
    (try simp only [Exit.inBlock,Exit.then])
    refine bodyPost_ret (results_cell_mid Tryz.results143 _ _ (w.heap.size+1) 0 (ints .u8 16 Z) _ rfl (World.rangeAt_setCells_same _ _ _ _ (by rw [ints_len];exact hB.there)) Tryz.underlying169 rfl hi1) rfl ⟨rfl,?_⟩
    exact below_setCells (by omega) _ _ _ hb
end Go.Proofs.YtcgkajlehdgpoaaGreatDoor
namespace Go.Proofs.YtcgkajlehdgpoaaGreatDoor
open Go.RowKit
theorem mx_idx (k:Nat) (hk:k<16):∃ s:Nat,s=k - k%4∧s+3<16∧(k:Int) - (k:Int)%4=(s:Int)∧∃ n:Nat,n<16∧n=s+(k+1)%4∧(s:Int)+((k:Int)+1)%4=(n:Int) :=
 ⟨k - k%4,rfl,by omega,by omega,k - k%4+(k+1)%4,by omega,rfl,by omega⟩
set_option maxRecDepth 20000 in
set_option maxHeartbeats 4000000 in
theorem mixed_any (X:Nat→Nat) (hX:B16 X) (w:World) :
 Calls Tryz.prog 144 #[sqV X] w fun e w'=>e = .returned (sqV (mxN X))∧Below w.heap.size w w':=by
 have hz:=zeroS
 have hi3:=infoS X
 have hix:=fun k hk=>index_u8 Tryz.underlying169 X k hk .i64
 obtain ⟨V,hV,hVs,hbV,hA0,hB0⟩:=two_new X (fun _=>0) w (zb 16) zb16 169 169
 obtain ⟨W,hW⟩:∃ W,W=V.alloc (.cells (zb 16) 169):=⟨_,rfl⟩
 have hbW:Below w.heap.size w W:=by rw [hW];exact hbV.alloc (by omega) _
 have hA:RowAt .u8 W w.heap.size 0 16 X:=by rw [hW];exact hA0.alloc (by omega) _
 have hB:RowAt .u8 W (w.heap.size+1) 0 16 (fun _=>0):=by rw [hW];exact hB0.alloc (by omega) _
 have hC:RowAt .u8 W (w.heap.size+1+1) 0 16 (fun _=>0):=by rw [hW,←hVs];exact RowAt.zero V 16 _
 rw [←hV] at hW
 have HW:=Hid.mk' hW
 have hAr:=hA.range
 unfold sqV
 obtain ⟨Z,hZ⟩:∃ Z:Nat→Nat,Z=mxN X:=⟨_,rfl⟩
 rw [←hZ]
 have HZ:=Hid.mk' hZ
 clear hW hV hZ hA0 hB0 hbV hVs
 go_enter Tryz.func144,Tryz.ntmps144
 go_wp2_with (first
  | (rw [←HW.out];refine wpList_load_mid rfl 169 _ rfl w.heap.size 0 rfl (ints .u8 16 X) _ hAr Tryz.underlying169 rfl hi3 ?_))
 go_loopw [9] (fun i wr=>∃ k:Nat,k≤16∧i = .int .i64 k∧RowAt .u8 wr w.heap.size 0 16 X∧RowAt .u8 wr (w.heap.size+1) 0 16 (fun _=>0)∧RowAt .u8 wr (w.heap.size+1+1) 0 16 (pr Z (fun _=>0) k)∧Below w.heap.size w wr) (fun i _=>16 - (intOf i).toNat)
 case atStart=>exact ⟨0,Nat.zero_le _,rfl,hA,hB,hC,hbW⟩
 case round =>
  clear hA hB hC hbW hz hAr
  obtain ⟨k,hk,rfl,hA,hB,hC,hb⟩:=hrel
  by_cases hlt:k<16
  · have ek:Z k=mx1 (X (k - k%4)) (X (k - k%4+1)) (X (k - k%4+2)) (X (k - k%4+3)) (X k) (X (k - k%4+(k+1)%4)):=by rw [HZ.out];rfl
    obtain ⟨s,hs,hs3,es,n,hn,hn',en⟩:=mx_idx k hlt
    rw [←hs,←hn'] at ek
    have hi:=hix k hlt
    obtain ⟨rk,fk⟩:=hC k hlt
    obtain ⟨r0,-⟩:=hA s (by omega)
    obtain ⟨r1,-⟩:=hA (s+1) (by omega)
    obtain ⟨r2,-⟩:=hA (s+2) (by omega)
    obtain ⟨r3,-⟩:=hA (s+3) (by omega)
    obtain ⟨r4,-⟩:=hA n hn
    rw [Nat.zero_add] at rk fk r0 r1 r2 r3 r4
    have b0:=hX s (by omega)
    have b1:=hX (s+1) (by omega)
    have b2:=hX (s+2) (by omega)
    have b3:=hX (s+3) (by omega)
    have b4:=hX n hn
    have bk:=hX k hlt
    have hst:=hC.drew.next hlt (v:=(Z k:Int)) rfl
    generalize X s=x0 at *
    generalize X (s+1)=x1 at *
    generalize X (s+2)=x2 at *
    generalize X (s+3)=x3 at *
    generalize X n=x4 at *
    generalize X k=x at *
    have q1:=u8_xor_nat x0 x1 b0 b1
    have q2:=u8_xor_nat (x0 ^^^ x1) x2 (xor_byte b0 b1) b2
    have q3:=u8_xor_nat (x0 ^^^ x1 ^^^ x2) x3 (xor_byte (xor_byte b0 b1) b2) b3
    have hsum:=xor_byte (xor_byte (xor_byte b0 b1) b2) b3
    have q4:=u8_xor_nat x (x0 ^^^ x1 ^^^ x2 ^^^ x3) bk hsum
    have q5:=u8_xor_nat x x4 bk b4
    have hxy:=xor_byte bk b4
    have cd:=double_any (x ^^^ x4) hxy
    have q6:=u8_xor_nat (x ^^^ (x0 ^^^ x1 ^^^ x2 ^^^ x3)) (dbN (x ^^^ x4)) (xor_byte bk hsum) (db_all _ hxy).2.2.2.2.1
    rw [show x ^^^ (x0 ^^^ x1 ^^^ x2 ^^^ x3) ^^^ dbN (x ^^^ x4)=Z k from ek.symm] at q6
    generalize dbN (x ^^^ x4)=d at *
    generalize x ^^^ (x0 ^^^ x1 ^^^ x2 ^^^ x3)=y at *
    generalize x0 ^^^ x1 ^^^ x2 ^^^ x3=s3 at *
    generalize x0 ^^^ x1 ^^^ x2=s2 at *
    generalize x0 ^^^ x1=s1 at *
    generalize x ^^^ x4=z at *
    have p1:(((s:Int)+1)).toNat=s+1:=by omega
    have p2:(((s:Int)+2)).toNat=s+2:=by omega
    have p3:(((s:Int)+3)).toNat=s+3:=by omega
    have i1:(0:Int)≤(s:Int)+1∧(s:Int)+1<16:=by omega
    have i2:(0:Int)≤(s:Int)+2∧(s:Int)+2<16:=by omega
    have i3:(0:Int)≤(s:Int)+3∧(s:Int)+3<16:=by omega
    clear hix ek hsum hxy b0 b1 b2 b3 b4 bk hs hn'
    go_wp2_with (rw [hi])
    go_region
    go_wp2_with (go_at_call 166;refine (cd _).mono ?_;clear cd;rintro e w1 ⟨rfl,hw1⟩;subst hw1)
    go_roundw
    case rel=>exact ⟨k+1,by omega,by go_num,hA.drew.far (by show w.heap.size+1+1≠w.heap.size;omega) _,hB.drew.far (by show w.heap.size+1+1≠w.heap.size+1;omega) _,hst,hb.drew.setCell (by show w.heap.size≤w.heap.size+1+1;omega) _⟩
    case measure=>simp [intOf];omega
  · obtain rfl:k=16:=by omega
    have hA':RowAt .u8 wr (w.heap.size+1+1) 0 16 Z:=hC.congr (fun j hj=>pr_full Z _ hj)
    have hi1:=infoS Z
    have hi2:=infoSA Z
    have ho:=oneU 16 Z
    have hth:wr.there (w.heap.size+1) 0 (ints .u8 16 Z).toArray.size:=by rw [ints_size];exact hB.there
    go_wp2_with (first
     | (refine wpList_load_mid rfl 169 _ rfl (w.heap.size+1+1) 0 rfl (ints .u8 16 Z) _ hA'.range Tryz.underlying169 rfl hi1 ?_)
     | (refine wpList_store_mid rfl 169 _ _ rfl (w.heap.size+1) 0 (ints .u8 16 Z).toArray rfl rfl hth hi2 ho ?_))
    (try simp only [Exit.inBlock,Exit.then])
    refine bodyPost_ret (results_cell_mid Tryz.results144 _ _ (w.heap.size+1) 0 (ints .u8 16 Z) _ rfl (World.rangeAt_setCells_same _ _ _ _ (by rw [ints_len];exact hB.there)) Tryz.underlying169 rfl hi1) rfl ⟨rfl,?_⟩
    exact below_setCells (by omega) _ _ _ hb
theorem ints_S {X Y:Nat→Nat} (h:S16 X Y):ints .u8 16 X=ints .u8 16 Y:=ints_congr _ _ _ _ h
theorem sqV_S {X Y:Nat→Nat} (h:S16 X Y):sqV X=sqV Y:=by unfold sqV;rw [ints_S h]
end Go.Proofs.YtcgkajlehdgpoaaGreatDoor
namespace Go.Proofs.YtcgkajlehdgpoaaGreatDoor
open Go.RowKit
def wdK (X:Nat→Nat) (p k r:Nat):Nat:=if k≤r then wd0 X p r else nxN X p (r+4*((k - 1 - r) / 4))
theorem wdK_at (X:Nat→Nat) (p k:Nat):wdK X p k (k%4) ^^^ X k=nxN X p k:=by
 unfold wdK
 by_cases h:k<4
 · rw [if_pos (by omega),nxN_lo X p k h,show k%4=k by omega]
 · rw [if_neg (by omega),nxN_hi X p k (by omega),show k%4+4*((k - 1 - k%4) / 4)=k - 4 by omega]
theorem wdK_step (X:Nat→Nat) (p k r:Nat) (hr:r<4):upd (wdK X p k) (k%4) (nxN X p k) r=wdK X p (k+1) r:=by
 unfold upd wdK
 by_cases e:r=k%4
 · rw [if_pos e,if_neg (by omega),show r+4*((k+1 - 1 - r) / 4)=k by omega]
 · rw [if_neg e]
   by_cases h:k≤r
   · rw [if_pos h,if_pos (by omega)]
   · rw [if_neg h,if_neg (by omega),show (k+1 - 1 - r) / 4=(k - 1 - r) / 4 by omega]
theorem wd0_lt {X:Nat→Nat} {p:Nat} (hX:B16 X) (hp:p<256) (k:Nat) (hk:k<4):wd0 X p k<256:=by
 unfold wd0
 split
 · exact xor_byte (box_all _ (hX 13 (by decide))).2.2.1 hp
 · split
   · exact (box_all _ (hX 12 (by decide))).2.2.1
   · exact (box_all _ (hX (13+k) (by omega))).2.2.1
theorem nxN_B {X:Nat→Nat} {p:Nat} (hX:B16 X) (hp:p<256):B16 (nxN X p):=by
 intro j
 induction j using Nat.strongRecOn with
 | ind j ih =>
  intro hj
  by_cases h:j<4
  · rw [nxN_lo _ _ _ h];exact xor_byte (wd0_lt hX hp j h) (hX j hj)
  · rw [nxN_hi _ _ _ (by omega)];exact xor_byte (ih (j - 4) (by omega) (by omega)) (hX j hj)
theorem wdK_lt {X:Nat→Nat} {p:Nat} (hX:B16 X) (hp:p<256) (k r:Nat) (hk:k≤16) (hr:r<4):wdK X p k r<256:=by
 unfold wdK
 split
 · exact wd0_lt hX hp r hr
 · exact nxN_B hX hp _ (by omega)
theorem zero4 (w:World):Sem.run Tryz.prog (zeroValue 220) w = .ok (.agg (zb 4)) w:=by kernel_rfl
theorem four_row {w:World} {g:Nat} {Y:Nat→Nat} (h:RowAt .u8 w g 0 4 Y) (a b c d:Nat):RowAt .u8 (w.setCells g 0 [.int .u8 a,.int .u8 b,.int .u8 c,.int .u8 d]) g 0 4 (fun r=>[a,b,c,d].getD r 0) :=
 h.stored (L:=fun r=>[a,b,c,d].getD r 0)
set_option maxRecDepth 20000 in
set_option maxHeartbeats 4000000 in
theorem next_any (X:Nat→Nat) (p:Nat) (hX:B16 X) (hp:p<256) (w:World) :
 Calls Tryz.prog 165 #[sqV X,.int .u8 p] w fun e w'=>e = .returned (sqV (nxN X p))∧Below w.heap.size w w':=by
 have hz:=zeroS
 have hz4:=zero4
 have hi3:=infoS X
 obtain ⟨W,hW,hWs,hbW,hA,hC⟩:=two_new X (fun _=>0) w (zb 16) zb16 169 169
 have HW:=Hid.mk' hW.symm
 have hAr:=hA.range
 have cb:=boxed_any X hX W
 obtain ⟨F,hF⟩:∃ F,F=thrN boxN X:=⟨_,rfl⟩
 rw [←hF] at cb
 have HF:∀ j,boxN (X j)=F j:=fun j=>by rw [hF];rfl
 have hFB:B16 F:=by rw [hF];exact box_B hX
 obtain ⟨Z,hZ⟩:∃ Z:Nat→Nat,Z=nxN X p:=⟨_,rfl⟩
 obtain ⟨D,hD⟩:∃ D:Nat→Nat→Nat,D=wdK X p:=⟨_,rfl⟩
 have hDa:∀ k,D k (k%4) ^^^ X k=Z k:=fun k=>by rw [hD,hZ];exact wdK_at X p k
 have hDs:∀ k r,r<4→upd (D k) (k%4) (Z k) r=D (k+1) r:=fun k r hr=>by rw [hD,hZ];exact wdK_step X p k r hr
 have hDl:∀ k r,k≤16→r<4→D k r<256:=fun k r hk hr=>by rw [hD];exact wdK_lt hX hp k r hk hr
 have hD0:∀ r,r<4→[F 13 ^^^ p,F 14,F 15,F 12].getD r 0=D 0 r:=fun r hr=>by
  rw [hD,←HF,←HF,←HF,←HF]
  rcases (show r=0∨r=1∨r=2∨r=3 by omega) with rfl | rfl | rfl | rfl <;> rfl
 rw [←hZ]
 have hq:=u8_xor_nat (F 13) p (hFB 13 (by decide)) hp
 have hj2:=infoSA F
 have hjo:=oneU 16 F
 have HD0:=Hid.mk' hD0
 have HDs:=Hid.mk' hDs
 unfold sqV at *
 clear hW hF hZ hD HF hD0 hDs
 generalize F 13 ^^^ p=f0 at *
 go_enter Tryz.func165,Tryz.ntmps165
 go_upto_region 2 with (first
  | (rw [←HW.out];refine wpList_load_mid rfl 169 _ rfl w.heap.size 0 rfl (ints .u8 16 X) _ hAr Tryz.underlying169 rfl hi3 ?_)
  | (go_at_call 142;refine cb.mono ?_;clear cb;rintro e w1 ⟨rfl,hb1⟩;(have hT1:=RowAt.zero w1 16 169);(have hth:(w1.alloc (.cells (zb 16) 169)).there w1.heap.size 0 (ints .u8 16 F).toArray.size:=by rw [ints_size];exact hT1.there))
  | (refine wpList_store_mid rfl 169 _ _ rfl w1.heap.size 0 (ints .u8 16 F).toArray rfl rfl hth hj2 hjo ?_))
 dsimp only [Act.put]
 have hs1:=hb1.size
 have ba:Below w1.heap.size w1 (w1.alloc (.cells (zb 16) 169)):=(Below.refl _ _).alloc (Nat.le_refl _) _
 have hT2:=hT1.stored (L:=F)
 have hA2:=((hA.below hb1 (by omega)).below ba (by omega)).farCells (show w.heap.size≠w1.heap.size by omega) 0 (ints .u8 16 F)
 have hC2:=((hC.below hb1 (by omega)).below ba (by omega)).farCells (show w.heap.size+1≠w1.heap.size by omega) 0 (ints .u8 16 F)
 have b2:=below_setCells (show w.heap.size≤w1.heap.size by omega) (ints .u8 16 F) 0 _ ((hbW.trans (hb1.mono hbW.size)).trans (ba.mono (by omega)))
 have hV1:((w1.alloc (.cells (zb 16) 169)).setCells w1.heap.size 0 (ints .u8 16 F)).heap.size=w1.heap.size+1:=by rw [(setCells_same _ _ _ _).2.2.2];simp
 have hg:w.heap.size+1<w1.heap.size:=by omega
 generalize (w1.alloc (.cells (zb 16) 169)).setCells w1.heap.size 0 (ints .u8 16 F)=V at *
 generalize w1.heap.size=g at *
 obtain ⟨r13,-⟩:=hT2 13 (by decide)
 obtain ⟨r14,-⟩:=hT2 14 (by decide)
 obtain ⟨r15,-⟩:=hT2 15 (by decide)
 obtain ⟨r12,-⟩:=hT2 12 (by decide)
 rw [Nat.zero_add] at r13 r14 r15 r12
 have hU:=RowAt.zero V 4 220
 have bv:Below V.heap.size V (V.alloc (.cells (zb 4) 220)):=(Below.refl _ _).alloc (Nat.le_refl _) _
 have hA3:=hA2.below bv (by omega)
 have hC3:=hC2.below bv (by omega)
 have b3:=b2.trans (bv.mono b2.size)
 rw [hV1] at hU
 have hth4:(V.alloc (.cells (zb 4) 220)).there (g+1) 0 (#[.int .u8 f0,.int .u8 (F 14),.int .u8 (F 15),.int .u8 (F 12)]:Array Value).size:=hU.there
 have hi4:(Tryz.prog.info? 220).map (·.size)=some (#[.int .u8 f0,.int .u8 (F 14),.int .u8 (F 15),.int .u8 (F 12)]:Array Value).size:=by kernel_rfl
 have ho4:(#[.int .u8 f0,.int .u8 (F 14),.int .u8 (F 15),.int .u8 (F 12)]:Array Value).all (·.oneCell')=true:=by simp [Value.oneCell']
 clear hT1 hth hA hC hbW hb1 hs1 ba hT2 hA2 hC2 b2 bv hWs hAr hj2 hjo hz
 go_upto_region 3 with (refine wpList_store_mid rfl 220 _ _ rfl (g+1) 0 #[.int .u8 f0,.int .u8 (F 14),.int .u8 (F 15),.int .u8 (F 12)] rfl rfl hth4 hi4 ho4 ?_)
 dsimp only [Act.put]
 have hU4:=(four_row hU f0 (F 14) (F 15) (F 12)).congr HD0.out
 have hA4:=hA3.farCells (show w.heap.size≠g+1 by omega) 0 [.int .u8 f0,.int .u8 (F 14),.int .u8 (F 15),.int .u8 (F 12)]
 have hC4:=hC3.farCells (show w.heap.size+1≠g+1 by omega) 0 [.int .u8 f0,.int .u8 (F 14),.int .u8 (F 15),.int .u8 (F 12)]
 have b4:=below_setCells (show w.heap.size≤g+1 by omega) [.int .u8 f0,.int .u8 (F 14),.int .u8 (F 15),.int .u8 (F 12)] 0 _ b3
 generalize (V.alloc (.cells (zb 4) 220)).setCells (g+1) 0 [.int .u8 f0,.int .u8 (F 14),.int .u8 (F 15),.int .u8 (F 12)]=U at *
 clear hth4 hi4 ho4 hU hA3 hC3 b3 r12 r13 r14 r15 hz4 HD0
 go_wp2
 go_loopw [21] (fun i wr=>∃ k:Nat,k≤16∧i = .int .i64 k∧RowAt .u8 wr w.heap.size 0 16 (pr Z X k)∧RowAt .u8 wr (g+1) 0 4 (D k)∧RowAt .u8 wr (w.heap.size+1) 0 16 (fun _=>0)∧Below w.heap.size w wr) (fun i _=>16 - (intOf i).toNat)
 case atStart=>exact ⟨0,Nat.zero_le _,rfl,hA4,hU4,hC4,b4⟩
 case round =>
  clear hA4 hU4 hC4 b4
  obtain ⟨k,hk,rfl,hA,hU,hC,hb⟩:=hrel
  by_cases hlt:k<16
  · obtain ⟨rk,fk⟩:=hA k hlt
    rw [Nat.zero_add] at rk fk
    rw [pr_at] at rk
    obtain ⟨rd,fd⟩:=hU (k%4) (by omega)
    rw [Nat.zero_add] at rd fd
    have q:=u8_xor_nat (D k (k%4)) (X k) (hDl k _ hk (by omega)) (hX k hlt)
    rw [hDa k] at q
    have q1:((k:Int)%4).toNat=k%4:=by omega
    have q2:(0:Int)≤(k:Int)%4∧(k:Int)%4<4:=by omega
    have hU5:=hU.set (i:=k%4) (by omega) (v:=(Z k:Int)) (u:=Z k) rfl
    rw [Nat.zero_add] at hU5
    replace hU5:=(hU5.congr (HDs.out k)).drew
    have hA5:=(hA.far (a:=⟨g+1,k%4,none⟩) (by show g+1≠w.heap.size;omega) (.int .u8 (Z k:Int))).drew.next hlt (v:=(Z k:Int)) rfl
    have hC5:=(hC.far (a:=⟨g+1,k%4,none⟩) (by show g+1≠w.heap.size+1;omega) (.int .u8 (Z k:Int))).drew
    have b5:=(hb.setCell (p:=⟨g+1,k%4,none⟩) (by show w.heap.size≤g+1;omega) (.int .u8 (Z k:Int))).drew
    have n1:¬w.heap.size=g+1:=by omega
    have n2:¬g+1=w.heap.size:=by omega
    clear hDa HDs hDl hX hFB hU hA hC hb hq
    go_wp2
    go_region
    go_wp2
    go_roundw
    case rel=>exact ⟨k+1,by omega,by go_num,hA5,hU5.far (by show w.heap.size≠g+1;omega) _,hC5.far (by show w.heap.size≠w.heap.size+1;omega) _,b5.setCell (Nat.le_refl _) _⟩
    case measure=>simp [intOf];omega
  · obtain rfl:k=16:=by omega
    have hA':RowAt .u8 wr w.heap.size 0 16 Z:=hA.congr (fun j hj=>pr_full Z X hj)
    have hi1:=infoS Z
    have hi2:=infoSA Z
    have ho:=oneU 16 Z
    have hth:wr.there (w.heap.size+1) 0 (ints .u8 16 Z).toArray.size:=by rw [ints_size];exact hC.there
    clear hDa HDs hDl hX hFB hq
    go_wp2_with (first
     | (refine wpList_load_mid rfl 169 _ rfl w.heap.size 0 rfl (ints .u8 16 Z) _ hA'.range Tryz.underlying169 rfl hi1 ?_)
     | (refine wpList_store_mid rfl 169 _ _ rfl (w.heap.size+1) 0 (ints .u8 16 Z).toArray rfl rfl hth hi2 ho ?_))
    (try simp only [Exit.inBlock,Exit.then])
    refine bodyPost_ret (results_cell_mid Tryz.results165 _ _ (w.heap.size+1) 0 (ints .u8 16 Z) _ rfl (World.rangeAt_setCells_same _ _ _ _ (by rw [ints_len];exact hC.there)) Tryz.underlying169 rfl hi1) rfl ⟨rfl,?_⟩
    exact below_setCells (by omega) _ _ _ hb
end Go.Proofs.YtcgkajlehdgpoaaGreatDoor
namespace Go.Proofs.YtcgkajlehdgpoaaGreatDoor
open Go.RowKit
theorem zeroK (w:World):Sem.run Tryz.prog (zeroValue 170) w = .ok (.agg (zb 176)) w:=by kernel_rfl
theorem infoK (X:Nat→Nat):(Tryz.prog.info? 170).map (·.size)=some (ints .u8 176 X).length:=by rw [ints_len];kernel_rfl
theorem infoKA (X:Nat→Nat):(Tryz.prog.info? 170).map (·.size)=some (ints .u8 176 X).toArray.size:=by rw [ints_size];kernel_rfl
theorem RowAt.part {K:IntKind} {w:World} {g n:Nat} {X:Nat→Nat} (h:RowAt K w g 0 n X) (a m:Nat) (hm:a+m≤n):RowAt K w g a m (fun j=>X (a+j)):=fun j hj=>by
 have:=h (a+j) (by omega)
 rwa [Nat.zero_add] at this
def kyV (key:Nat→Nat):Value := .agg (ints .u8 176 (kyN key)).toArray
theorem rc_db (n:Nat) (hn:n<10):dbN (rcN n)=rcN (n+1):=(db_all _ (rc_lt n hn)).2.1
set_option maxRecDepth 20000 in
set_option maxHeartbeats 4000000 in
theorem roundKeys_any (X:Nat→Nat) (hX:∀ j,X j<256) (w:World) :
 Calls Tryz.prog 138 #[sqV X] w fun e w'=>e = .returned (kyV X)∧Below w.heap.size w w':=by
 have hz:=zeroK
 have hi3:=infoS X
 have hKlt:=kyN_lt hX
 have hlo:=kyN_lo X
 have hnx:=ky_next X
 obtain ⟨W,hW⟩:∃ W,W=(w.alloc (.cells (ints .u8 16 X).toArray 169)).alloc (.cells (zb 176) 170):=⟨_,rfl⟩
 have hWs:W.heap.size=w.heap.size+1+1:=by rw [hW];simp
 have hbW:Below w.heap.size w W:=by rw [hW];exact ((Below.refl _ _).alloc (Nat.le_refl _) _).alloc (by simp) _
 have hA:RowAt .u8 W w.heap.size 0 16 X:=by rw [hW];exact (RowAt.box .u8 w 16 X _).alloc (by simp) _
 have hC:RowAt .u8 W (w.heap.size+1) 0 176 (fun _=>0):=by
  have:=RowAt.zero (w.alloc (.cells (ints .u8 16 X).toArray 169)) 176 170
  rw [World.size_alloc] at this
  rw [hW];exact this
 have HW:=Hid.mk' hW
 have hAr:=hA.range
 have hbuild:(ints .u8 176 (pr X (fun _=>0) 16))=(ints .u8 176 (pr (kyN X) (fun _=>0) 16)):=ints_congr _ _ _ _ (fun j _=>by
  unfold pr
  by_cases h:j<16
  · rw [if_pos h,if_pos h,hlo j h]
  · rw [if_neg h,if_neg h])
 unfold kyV sqV
 obtain ⟨Y,hY⟩:∃ Y,Y=kyN X:=⟨_,rfl⟩
 rw [←hY] at hbuild hKlt hnx ⊢
 obtain ⟨LK,hLK⟩:∃ LK,LK=ints .u8 176 Y:=⟨_,rfl⟩
 rw [←hLK]
 have HLK:=Hid.mk' hLK
 clear hLK
 obtain ⟨Z0,hZ0⟩:∃ Z0,Z0=ints .u8 176 (pr Y (fun _=>0) 16):=⟨_,rfl⟩
 have hj2:(Tryz.prog.info? 170).map (·.size)=some Z0.toArray.size:=by rw [hZ0];exact infoKA _
 have hjo:Z0.toArray.all (·.oneCell')=true:=by rw [hZ0];exact oneU 176 _
 have hWT:=RowAt.zero W 176 170
 have hth:(W.alloc (.cells (zb 176) 170)).there W.heap.size 0 Z0.toArray.size:=by rw [hZ0,ints_size];exact hWT.there
 have hT0:=hWT.stored (L:=pr Y (fun _=>0) 16)
 have bw:Below W.heap.size W (W.alloc (.cells (zb 176) 170)):=(Below.refl _ _).alloc (Nat.le_refl _) _
 have hC0:=(hC.below bw (by omega)).farCells (show w.heap.size+1≠W.heap.size by omega) 0 (ints .u8 176 (pr Y (fun _=>0) 16))
 have b0:=below_setCells (show w.heap.size≤W.heap.size by omega) (ints .u8 176 (pr Y (fun _=>0) 16)) 0 _ (hbW.trans (bw.mono hbW.size))
 have hs0:W.heap.size<((W.alloc (.cells (zb 176) 170)).setCells W.heap.size 0 (ints .u8 176 (pr Y (fun _=>0) 16))).heap.size:=by rw [(setCells_same _ _ _ _).2.2.2];simp
 rw [←hZ0] at hbuild hT0 hC0 b0 hs0
 have HB:=Hid.mk' hbuild
 rw [hWs] at hth hT0 hC0 b0 hs0
 have cn:=fun k (hk:k<10)=>next_any (fun j=>Y (k*16+j)) (rcN k) (fun j _=>hKlt _) (rc_lt k hk)
 have hnS:∀ k,k<10→S16 (nxN (fun j=>Y (k*16+j)) (rcN k)) (fun j=>Y ((k+1)*16+j)):=fun k hk j hj=>by
  have:=hnx k hk j hj
  rw [Nat.mul_comm 16 k,Nat.mul_comm 16 (k+1)] at this
  exact this
 have cn':∀ k,k<10→∀ W,Calls Tryz.prog 165 #[.agg (ints .u8 16 (fun j=>Y (k*16+j))).toArray,.int .u8 (rcN k)] W fun e w'=>e = .returned (.agg (ints .u8 16 (fun j=>Y ((k+1)*16+j))).toArray)∧Below W.heap.size W w':=fun k hk W=>by
  have h:=cn k hk W
  rw [sqV_S (hnS k hk)] at h
  exact h
 have cd:∀ k,k<10→∀ W,Calls Tryz.prog 166 #[.int .u8 (rcN k)] W fun e w'=>e = .returned (.int .u8 (rcN (k+1)))∧w'=W:=fun k hk W=>by
  have h:=double_any (rcN k) (rc_lt k hk) W
  rw [rc_db k hk] at h
  exact h
 have e1:rcN 0=1:=rfl
 generalize rcN=R at *
 clear hnS cn hnx hKlt hlo hX hY hZ0 hbuild hW hWT bw hA hC hbW
 go_enter Tryz.func138,Tryz.ntmps138
 go_upto_region 2 with (first
  | (rw [←HW.out];refine wpList_load_mid rfl 169 _ rfl w.heap.size 0 rfl (ints .u8 16 X) _ hAr Tryz.underlying169 rfl hi3 ?_)
  | (refine wpList_val (some 7) (.agg Z0.toArray) rfl rfl (by rw [←HB.out];kernel_rfl) ?_)
  | (refine wpList_store_mid rfl 170 _ _ rfl (w.heap.size+1+1) 0 Z0.toArray rfl rfl hth hj2 hjo ?_))
 dsimp only [Act.put]
 generalize (W.alloc (.cells (zb 176) 170)).setCells (w.heap.size+1+1) 0 Z0=V at *
 clear hth hj2 hjo HB HW hAr hWs hz hi3
 go_wp2
 go_loopw [4,5] (fun p i wr=>∃ k:Nat,k≤10∧p = .int .u8 (R k)∧i = .int .i64 ((k:Int)+1)∧RowAt .u8 wr (w.heap.size+1+1) 0 176 (pr Y (fun _=>0) ((k+1)*16))∧RowAt .u8 wr (w.heap.size+1) 0 176 (fun _=>0)∧Below w.heap.size w wr∧w.heap.size+1+1<wr.heap.size) (fun _ i _=>11 - (intOf i).toNat)
 case atStart=>exact ⟨0,Nat.zero_le _,by rw [e1];rfl,rfl,hT0,hC0,b0,hs0⟩
 case round =>
  clear hT0 hC0 b0 hs0 e1
  obtain ⟨k,hk,rfl,rfl,hT,hC,hb,hs⟩:=hrel
  by_cases hlt:k<10
  · have c1:=cn' k hlt wr
    have c2:=cd k hlt
    have hP:RowAt .u8 wr (w.heap.size+1+1) (k*16) 16 (fun j=>Y (k*16+j)):=(hT.part (k*16) 16 (by omega)).congr (fun j hj=>pr_full _ _ (by omega))
    have hPr:=hP.range
    have hi1:=infoS (fun j=>Y (k*16+j))
    have hi2:=infoSA (fun j=>Y ((k+1)*16+j))
    have ho:=oneU 16 (fun j=>Y ((k+1)*16+j))
    have q1:(k:Int)+1≤10:=by omega
    have q2:(k:Int)+1 - 1=k:=by omega
    have q3:(0:Int)≤(k:Int)∧(k:Int)<11:=by omega
    have q4:(0:Int)≤(k:Int)+1∧(k:Int)+1<11:=by omega
    have q5:((k:Int)+1).toNat=k+1:=by omega
    have hsp:∀ j,over (pr Y (fun _=>0) ((k+1)*16)) ((k+1)*16) 16 (fun j=>Y ((k+1)*16+j)) j=pr Y (fun _=>0) ((k+1+1)*16) j:=fun j=>by
     unfold over pr
     by_cases h1:(k+1)*16≤j∧j<(k+1)*16+16
     · rw [if_pos h1,if_pos (by omega)]
       show Y ((k+1)*16+(j - (k+1)*16))=Y j
       rw [show (k+1)*16+(j - (k+1)*16)=j by omega]
     · rw [if_neg h1]
       by_cases h2:j<(k+1)*16
       · rw [if_pos h2,if_pos (by omega)]
       · rw [if_neg h2,if_neg (by omega)]
    have hst:∀ W,RowAt .u8 W (w.heap.size+1+1) 0 176 (pr Y (fun _=>0) ((k+1)*16))→W.there (w.heap.size+1+1) ((k+1)*16) (ints .u8 16 (fun j=>Y ((k+1)*16+j))).toArray.size∧RowAt .u8 (W.setCells (w.heap.size+1+1) ((k+1)*16) (ints .u8 16 (fun j=>Y ((k+1)*16+j)))) (w.heap.size+1+1) 0 176 (pr Y (fun _=>0) ((k+1+1)*16)):=fun W h=>by
     refine ⟨by rw [ints_size];exact (h.part ((k+1)*16) 16 (by omega)).there,?_⟩
     have h1:=h.splice ((k+1)*16) 16 (fun j=>Y ((k+1)*16+j)) (by omega)
     rw [Nat.zero_add] at h1
     exact h1.congr (fun j _=>hsp j)
    have Hst:=Hid.mk' hst
    clear cn' cd hP hsp hst
    generalize ints .u8 16 (fun j=>Y (k*16+j))=LA at *
    generalize ints .u8 16 (fun j=>Y ((k+1)*16+j))=LB at *
    go_wp2_with (first
     | (refine wpList_load_mid rfl 169 _ rfl (w.heap.size+1+1) (k*16) rfl LA _ hPr Tryz.underlying169 rfl hi1 ?_)
     | (go_at_call 165;refine c1.mono ?_;clear c1;rintro e w1 ⟨rfl,hb1⟩;clear hPr;(have hT1:=hT.below hb1 hs);(have hC1:=hC.below hb1 (by omega));(have b1:=hb.trans (hb1.mono hb.size));(have hs1:=Nat.lt_of_lt_of_le hs hb1.size);(obtain ⟨hth,hT2⟩:=Hst.out w1 hT1);clear hT1)
     | (refine wpList_store_mid rfl 169 _ _ rfl (w.heap.size+1+1) ((k+1)*16) LB.toArray rfl rfl hth hi2 ho ?_)
     | (go_at_call 166;refine (c2 _).mono ?_;clear c2;rintro e w2 ⟨rfl,hw2⟩;subst hw2))
    go_roundw
    case rel =>
     exact ⟨k+1,by omega,rfl,by go_num,hT2,hC1.farCells (by omega) _ _,below_setCells (by omega) _ _ _ b1,by rw [(setCells_same _ _ _ _).2.2.2];exact hs1⟩
    case measure=>simp [intOf];omega
  · obtain rfl:k=10:=by omega
    have hA':RowAt .u8 wr (w.heap.size+1+1) 0 176 Y:=hT.congr (fun j hj=>pr_full _ _ hj)
    have hi1:=infoK Y
    have hi2:=infoKA Y
    have ho:=oneU 176 Y
    have hth:wr.there (w.heap.size+1) 0 (ints .u8 176 Y).toArray.size:=by rw [ints_size];exact hC.there
    have hth2:wr.there (w.heap.size+1) 0 (ints .u8 176 Y).length:=by rw [ints_len];exact hC.there
    have hAr:=hA'.range
    clear cn' cd hT hC hA'
    rw [←HLK.out] at hi1 hi2 ho hth hth2 hAr
    go_wp2_with (first
     | (refine wpList_load_mid rfl 170 _ rfl (w.heap.size+1+1) 0 rfl LK _ hAr Tryz.underlying170 rfl hi1 ?_)
     | (refine wpList_store_mid rfl 170 _ _ rfl (w.heap.size+1) 0 LK.toArray rfl rfl hth hi2 ho ?_))
    (try simp only [Exit.inBlock,Exit.then])
    refine bodyPost_ret (results_cell_mid Tryz.results138 _ _ (w.heap.size+1) 0 LK _ rfl (World.rangeAt_setCells_same _ _ _ _ hth2) Tryz.underlying170 rfl hi1) rfl ⟨rfl,?_⟩
    exact below_setCells (by omega) _ _ _ hb
end Go.Proofs.YtcgkajlehdgpoaaGreatDoor
namespace Go.Proofs.YtcgkajlehdgpoaaGreatDoor
open Go.RowKit
theorem squareOf_16 (v:Value) (bs:Nat→Nat) (w:World) (hv:BytesIn w v 16 bs):Calls Tryz.prog 139 #[v] w fun e w'=>e = .returned (.agg (ints .u8 16 bs).toArray)∧Below w.heap.size w w':=by
 have h:=squareOf_any v 16 bs w hv
 rw [sqV_S (fun j hj=>fit16_full bs hj)] at h
 exact h
end Go.Proofs.YtcgkajlehdgpoaaGreatDoor
namespace Go.Proofs.YtcgkajlehdgpoaaGreatDoor
open Go.RowKit
theorem rowB {w:World} {g n cap:Nat} {X:Nat→Nat} (h:RowAt .u8 w g 0 n X) (hn:0<n) (hc:n≤cap):BytesIn w (.slice (some ⟨g,0,none⟩) n cap) n X := .inr ⟨g,0,cap,rfl,block_lt_of_cell (h 0 hn).1,hc,fun j hj=>(h j hj).1⟩
end Go.Proofs.YtcgkajlehdgpoaaGreatDoor
namespace Go.Proofs.YtcgkajlehdgpoaaGreatDoor
open Go.RowKit
theorem wpList_enter {P:Program} {w:World} {ops:Array Oper} {rest:List Oper} {o:Oper} {a:Act} {Q:Exit→Act→World→Prop} (d:Option Nat) (hgd:o.guard=none) (hd:o.dst=d) {f:FuncId} {v:Value} {R:Ending→World→Prop} (c:Calls P f #[v] w R) (hf:(callFunc f #[v]).run P w = .ok (.enter f #[v]) w)
 (x y:Operand) (ts:Array TypeId) (ho:o.op = .call { callee := .value x,args:=#[y],argTypes:=ts }) (hx:a.eval x = .func (.func f) #[] #[]) (hy:a.eval y=v)
 (h:∀ e w',R e w'→∃ r,e = .returned r∧wpList P ops Q rest (a.put d r) w'):wpList P ops Q (o :: rest) a w:=by
 subst hd
 refine wpList_plain hgd fun K hK => ?_
 have hrun:(execOp a.eval o).run P w = .ok (.enter f #[v]) w:=by
  simp [execOp,ho,resolve,Deferred.ofValue,hx,hy,invoke,hf]
 unfold Oper.wp
 rw [hrun,Oper.upon_enter]
 refine c.mono fun e w' hR => ?_
 obtain ⟨r,rfl,hk⟩:=h e w' hR
 exact hK _ _ hk
def stp (G:Nat→(Nat→Nat)→Nat→Nat) (X:Nat→Nat):Nat→Nat→Nat
 | 0=>X
 | n+1=>G n (stp G X n)
def StepsAt (w:World) (g n:Nat) (fs:Nat→FuncId):Prop:=g<w.heap.size∧∀ j,j<n→w.cell? ⟨g,j,none⟩=some (.func (.func (fs j)) #[] #[])
theorem StepsAt.below {w w':World} {g n B:Nat} {fs:Nat→FuncId} (h:StepsAt w g n fs) (hb:Below B w w') (hB:g<B):StepsAt w' g n fs:=⟨Nat.lt_of_lt_of_le h.1 hb.size,fun j hj=>(hb.cell (p:=⟨g,j,none⟩) hB).trans (h.2 j hj)⟩
set_option maxRecDepth 20000 in
set_option maxHeartbeats 4000000 in
theorem through_any (n:Nat) (hn:n<100) (fs:Nat→FuncId) (G:Nat→(Nat→Nat)→Nat→Nat) (hf:∀ j,j<n→∀ v W,(callFunc (fs j) #[v]).run Tryz.prog W = .ok (.enter (fs j) #[v]) W) (hc:∀ j,j<n→∀ X,B16 X→B16 (G j X)∧∀ W,Calls Tryz.prog (fs j) #[sqV X] W fun e w'=>e = .returned (sqV (G j X))∧Below W.heap.size W w')
 (X:Nat→Nat) (hX:B16 X) (g:Nat) (w:World) (hg:StepsAt w g n fs) :
 Calls Tryz.prog 141 #[sqV X,.slice (some ⟨g,0,none⟩) n n] w fun e w'=>e = .returned (sqV (stp G X n))∧Below w.heap.size w w':=by
 have hz:=zeroS
 obtain ⟨W,hW,hWs,hbW,hA,hC⟩:=two_new X (fun _=>0) w (zb 16) zb16 169 169
 have HW:=Hid.mk' hW.symm
 have hgW:=hg.below hbW hg.1
 have hgl:=hg.1
 have hB:∀ k,k≤n→B16 (stp G X k):=fun k=>by
  induction k with
  | zero=>exact fun _=>hX
  | succ k ih=>exact fun hk=>(hc k (by omega) _ (ih (by omega))).1
 have cs:∀ k,k<n→∀ W,Calls Tryz.prog (fs k) #[sqV (stp G X k)] W fun e w'=>e = .returned (sqV (stp G X (k+1)))∧Below W.heap.size W w':=fun k hk=>(hc k hk _ (hB k (by omega))).2
 have e0:X=stp G X 0:=rfl
 obtain ⟨Z,hZ⟩:∃ Z,Z=sqV (stp G X n):=⟨_,rfl⟩
 rw [←hZ]
 have HZ:=Hid.mk' hZ
 unfold sqV at cs ⊢
 rw [e0] at hA
 generalize stp G X=S at *
 clear hc hB hX hg hZ e0 hW
 go_enter Tryz.func141,Tryz.ntmps141
 go_wp2
 rw [←HW.out]
 go_loopw [9] (fun i wr=>∃ k:Nat,k≤n∧i = .int .i64 k∧RowAt .u8 wr w.heap.size 0 16 (S k)∧RowAt .u8 wr (w.heap.size+1) 0 16 (fun _=>0)∧StepsAt wr g n fs∧Below w.heap.size w wr∧w.heap.size+1<wr.heap.size) (fun i _=>n - (intOf i).toNat)
 case atStart=>exact ⟨0,Nat.zero_le _,rfl,hA,hC,hgW,hbW,by omega⟩
 case round =>
  clear hA hC hgW hbW hz
  obtain ⟨k,hk,rfl,hA,hC,hG,hb,hs⟩:=hrel
  by_cases hlt:k<n
  · have c1:=cs k hlt wr
    have hfk:=hf k hlt
    have rk:=hG.2 k hlt
    have hAr:=hA.range
    have hi1:=infoS (S k)
    have hi2:=infoSA (S (k+1))
    have ho:=oneU 16 (S (k+1))
    have hst:∀ W,RowAt .u8 W w.heap.size 0 16 (S k)→W.there w.heap.size 0 (ints .u8 16 (S (k+1))).toArray.size∧RowAt .u8 (W.setCells w.heap.size 0 (ints .u8 16 (S (k+1)))) w.heap.size 0 16 (S (k+1)):=fun W h=>⟨by rw [ints_size];exact h.there,h.stored⟩
    have Hst:=Hid.mk' hst
    clear cs hst hf
    generalize ints .u8 16 (S k)=LA at *
    generalize ints .u8 16 (S (k+1))=LB at *
    go_wp2_with (first
     | (refine wpList_load_mid rfl 169 _ rfl w.heap.size 0 rfl LA _ hAr Tryz.underlying169 rfl hi1 ?_)
     | (refine wpList_enter (some 15) rfl rfl c1 (hfk _ _) (.tmp 13) (.tmp 14) _ rfl rfl rfl ?_;clear c1;rintro e w1 ⟨rfl,hb1⟩;refine ⟨_,rfl,?_⟩;clear hAr;(have hA1:=hA.below hb1 (by omega));(have hC1:=hC.below hb1 (by omega));(have hG1:=hG.below hb1 hG.1);(have b1:=hb.trans (hb1.mono hb.size));(have hs1:=Nat.lt_of_lt_of_le hs hb1.size);(obtain ⟨hth,hA2⟩:=Hst.out w1 hA1))
     | (refine wpList_store_mid rfl 169 _ _ rfl w.heap.size 0 LB.toArray rfl rfl hth hi2 ho ?_))
    go_roundw
    case rel=>exact ⟨k+1,by omega,by go_num,hA2,hC1.farCells (by omega) _ _,hG1.below (below_setCells (Nat.le_refl w.heap.size) LB 0 w1 (Below.refl _ _)) hgl,below_setCells (Nat.le_refl _) _ _ _ b1,by rw [(setCells_same _ _ _ _).2.2.2];exact hs1⟩
    case measure=>simp [intOf];omega
  · obtain rfl:k=n:=by omega
    have hi1:=infoS (S k)
    have hi2:=infoSA (S k)
    have ho:=oneU 16 (S k)
    have hth:wr.there (w.heap.size+1) 0 (ints .u8 16 (S k)).toArray.size:=by rw [ints_size];exact hC.there
    have hth2:wr.there (w.heap.size+1) 0 (ints .u8 16 (S k)).length:=by rw [ints_len];exact hC.there
    have hAr:=hA.range
    have eZ:Z = .agg (ints .u8 16 (S k)).toArray:=HZ.out
    clear cs hf hG hA
    generalize ints .u8 16 (S k)=LA at *
    go_wp2_with (first
     | (refine wpList_load_mid rfl 169 _ rfl w.heap.size 0 rfl LA _ hAr Tryz.underlying169 rfl hi1 ?_)
     | (refine wpList_store_mid rfl 169 _ _ rfl (w.heap.size+1) 0 LA.toArray rfl rfl hth hi2 ho ?_))
    (try simp only [Exit.inBlock,Exit.then])
    refine bodyPost_ret (results_cell_mid Tryz.results141 _ _ (w.heap.size+1) 0 LA _ rfl (World.rangeAt_setCells_same _ _ _ _ hth2) Tryz.underlying169 rfl hi1) rfl ⟨by rw [eZ],?_⟩
    exact below_setCells (by omega) _ _ _ hb
end Go.Proofs.YtcgkajlehdgpoaaGreatDoor
namespace Go.Proofs.YtcgkajlehdgpoaaGreatDoor
open Go.RowKit
section
variable {P:Program} {md:Region.Mode} {ops:Array Oper} {Q:Exit→Act→World→Prop} {S:World→Prop} {fuel:Nat} {listed:Array Bool} {a:Act} {w:World}
theorem aG {i:Nat} {rs:List Nat} (oi:Oper) (v:Nat→Value) (cs:List Value) (t:TypeId) (hk:∀ u,Below w.heap.size w u→S u) (h:∀ w1 g,w.heap.size≤g→Below w.heap.size w w1→RW w1 g 0 cs→wpAnyH P md ops Q S fuel (listed.setIfInBounds i true) (a.put oi.dst (v g)) w1) (hs:AllReadyH P md ops Q S fuel listed a w rs)
 (hrun:(execOp a.eval oi).run P w = .ok (.value (v w.heap.size)) (w.alloc (.cells cs.toArray t)):=by kernel_rfl) (hi:ops[i]? = some oi:=by rfl) (hw:Region.wanted oi (yielded ops a.tmps)=true:=by rfl):AllReadyH P md ops Q S fuel listed a w (i :: rs):=by
 have hb:Below w.heap.size w (w.alloc (.cells cs.toArray t)):=bR.alloc (Nat.le_refl _) _
 refine AllReadyH.cons hi (fun K hK => ?_) hs
 rw [if_pos hw]
 unfold Oper.wp
 rw [hrun,Oper.upon_value]
 exact hK.out _ _ (hk _ hb) (fun _=>h _ _ (Nat.le_refl _) hb (RW.fresh w cs t))
theorem aL {i:Nat} {rs:List Nat} (oi:Oper) (ty k:Nat) {g off:Nat} {cs:List Value} {d:TypeDesc} (r:RW w g off cs) (hS:S w) (hu:P.underlying ty=some d) (hin:(P.info? ty).map (·.size)=some cs.length) (h:wpAnyH P md ops Q S fuel (listed.setIfInBounds i true) (a.put oi.dst (.agg cs.toArray)) w) (hs:AllReadyH P md ops Q S fuel listed a w rs)
 (hd:d.isRow=true:=by rfl) (ho:oi.op = .load ty (.tmp k):=by rfl) (hx:a.eval (.tmp k) = .pointer (some ⟨g,off,none⟩):=by rfl) (hi:ops[i]? = some oi:=by rfl) (hw:Region.wanted oi (yielded ops a.tmps)=true:=by rfl):AllReadyH P md ops Q S fuel listed a w (i :: rs):=by
 refine AllReadyH.cons hi (fun K hK => ?_) hs
 rw [if_pos hw]
 exact wp_load_mid ty _ ho g off hx cs d r.range hu hd hin (hK.out _ _ hS (fun _=>h))
theorem aT {i:Nat} {rs:List Nat} (oi:Oper) (ty x y:Nat) {g off:Nat} {cs:List Value} (ds:List Value) (r:RW w g off cs) (hl:ds.length=cs.length) (hk:S (w.setCells g off ds)) (hin:(P.info? ty).map (·.size)=some ds.toArray.size) (h1:ds.toArray.all (·.oneCell')=true) (h:RW (w.setCells g off ds) g off ds→wpAnyH P md ops Q S fuel (listed.setIfInBounds i true) (a.put oi.dst undef) (w.setCells g off ds)) (hs:AllReadyH P md ops Q S fuel listed a w rs)
 (ho:oi.op = .store ty (.tmp x) (.tmp y):=by rfl) (hx:a.eval (.tmp x) = .pointer (some ⟨g,off,none⟩):=by rfl) (hy:a.eval (.tmp y) = .agg ds.toArray:=by rfl) (hi:ops[i]? = some oi:=by rfl) (hw:Region.wanted oi (yielded ops a.tmps)=true:=by rfl):AllReadyH P md ops Q S fuel listed a w (i :: rs):=by
 refine AllReadyH.cons hi (fun K hK => ?_) hs
 rw [if_pos hw]
 exact wp_store_mid ty _ _ ho g off ds.toArray hx hy (by rw [List.size_toArray,hl];exact r.there) hin h1 (hK.out _ _ hk (fun _=>h (r.stored ds hl)))
end
end Go.Proofs.YtcgkajlehdgpoaaGreatDoor
namespace Go.Proofs.YtcgkajlehdgpoaaGreatDoor
open Go.RowKit
abbrev fnV (f:FuncId):Value := .func (.func f) #[] #[]
theorem steps_of {w:World} {g:Nat} (l:List FuncId) (h:RW w g 0 (l.map fnV)):StepsAt w g l.length (fun j=>l.getD j 0):=⟨h.lt,fun j hj=>by
 have:=h.range j (fnV (l.getD j 0)) (by simp [List.getElem?_eq_getElem hj])
 rwa [Nat.zero_add] at this⟩
theorem enter1 {f:FuncId} {v:Value} {W:World} (h:(callFunc f #[v]).run Tryz.prog W = .ok (.enter f #[v]) W):(callFunc f #[v]).run Tryz.prog W = .ok (.enter f #[v]) W:=h
theorem thr3 (X:Nat→Nat) (hX:B16 X) (g:Nat) (w:World) (h:RW w g 0 [fnV 142,fnV 143,fnV 144]) :
 Calls Tryz.prog 141 #[.agg (ints .u8 16 X).toArray,.slice (some ⟨g,0,none⟩) 3 3] w fun e w'=>e = .returned (.agg (ints .u8 16 (colN mT (rowN 1 (thrN boxN X)))).toArray)∧Below w.heap.size w w':=by
 have c:=through_any 3 (by decide) _ (fun j=>if j=0 then thrN boxN else if j=1 then tuN else mxN) (fun j hj v W=>by
  match j,hj with
  | 0,_=>exact enter1 (f:=142) (by kernel_rfl)
  | 1,_=>exact enter1 (f:=143) (by kernel_rfl)
  | 2,_=>exact enter1 (f:=144) (by kernel_rfl)) (fun j hj Y hY=>by
  match j,hj with
  | 0,_=>exact ⟨box_B hY,boxed_any Y hY⟩
  | 1,_=>exact ⟨tuN_B hY,turned_any Y⟩
  | 2,_=>exact ⟨mxN_B hY,mixed_any Y hY⟩) X hX g w (steps_of [142,143,144] h)
 have e:S16 (mxN (tuN (thrN boxN X))) (colN mT (rowN 1 (thrN boxN X))):=(mxN_S (tu_row _)).trans (mx_col _ (rowN_B (box_B hX) 1))
 rw [show stp (fun j=>if j=0 then thrN boxN else if j=1 then tuN else mxN) X 3=mxN (tuN (thrN boxN X)) from rfl,sqV_S e] at c
 exact c
theorem thr2 (X:Nat→Nat) (hX:B16 X) (g:Nat) (w:World) (h:RW w g 0 [fnV 142,fnV 143]) :
 Calls Tryz.prog 141 #[.agg (ints .u8 16 X).toArray,.slice (some ⟨g,0,none⟩) 2 2] w fun e w'=>e = .returned (.agg (ints .u8 16 (rowN 1 (thrN boxN X))).toArray)∧Below w.heap.size w w':=by
 have c:=through_any 2 (by decide) _ (fun j=>if j=0 then thrN boxN else tuN) (fun j hj v W=>by
  match j,hj with
  | 0,_=>exact enter1 (f:=142) (by kernel_rfl)
  | 1,_=>exact enter1 (f:=143) (by kernel_rfl)) (fun j hj Y hY=>by
  match j,hj with
  | 0,_=>exact ⟨box_B hY,boxed_any Y hY⟩
  | 1,_=>exact ⟨tuN_B hY,turned_any Y⟩) X hX g w (steps_of [142,143] h)
 rw [show stp (fun j=>if j=0 then thrN boxN else tuN) X 2=tuN (thrN boxN X) from rfl,sqV_S (tu_row _)] at c
 exact c
theorem plus_key (X K:Nat→Nat) (r:Nat) (hX:B16 X) (hK:∀ j,K j<256) (w:World) :
 Calls Tryz.prog 140 #[.agg (ints .u8 16 X).toArray,.agg (ints .u8 16 (fun j=>K (16*r+j))).toArray] w fun e w'=>e = .returned (.agg (ints .u8 16 (addN K r X)).toArray)∧Below w.heap.size w w':=kplus_any X _ hX (fun _ _=>hK _) w
theorem RowAt.rw {K:IntKind} {w:World} {g o n:Nat} {X:Nat→Nat} (h:RowAt K w g o n X) (hn:0<n):RW w g o (ints K n X):=⟨h.range,by rw [ints_len];exact h.there,block_lt_of_cell (h 0 hn).1⟩
theorem rowAt_of {K:IntKind} {w:World} {g o n:Nat} {X:Nat→Nat} (h:RW w g o (ints K n X)):RowAt K w g o n X:=fun j hj=>⟨h.range j _ (ints_at K n X j hj),(h.there j (by rw [ints_len];exact hj)).2⟩
theorem key_at {w:World} {g:Nat} {K:Nat→Nat} (h:RowAt .u8 w g 0 176 K) (r:Nat) (hr:r<11):RW w g (16*r) (ints .u8 16 (fun j=>K (16*r+j))):=(h.part (16*r) 16 (by omega)).rw (by decide)
end Go.Proofs.YtcgkajlehdgpoaaGreatDoor
