/- What the proof stands on: A8Math, A8Blk, A8Tab, A8Mix, A8Sq, A8Ops, A8Op2. -/
import Derived.Test.YtibdhadbflfdpaaGreatDoorBase
import Derived.Test.YtibdhadbflfdpaaGreatDoorLentM
import Derived.Deep.Cut
namespace Go.Proofs.YtibdhadbflfdpaaGreatDoor
def xt (x:Nat):Nat:=if 255<x*2 then (x*2) ^^^ 283 else x*2
def gmP (b:Nat):Nat→Nat→Nat × Nat
 | 0,a=>(0,a)
 | i+1,a=>(if b / 2 ^ i%2=1 then (gmP b i a).1 ^^^ (gmP b i a).2 else (gmP b i a).1,xt (gmP b i a).2)
def gm (a b:Nat):Nat:=(gmP b 8 a).1
theorem gmP_snd (b c:Nat):∀ i a,(gmP b i a).2=(gmP c i a).2
 | 0,_=>rfl
 | i+1,a=>by show xt (gmP b i a).2=xt (gmP c i a).2;rw [gmP_snd b c i a]
theorem bit_xor (x y i:Nat):(x ^^^ y) / 2 ^ i%2=(x / 2 ^ i%2+y / 2 ^ i%2)%2:=by
 have h:=Nat.testBit_xor x y i
 simp only [Nat.testBit_eq_decide_div_mod_eq] at h
 have a:=Nat.mod_two_eq_zero_or_one ((x ^^^ y) / 2 ^ i)
 have b:=Nat.mod_two_eq_zero_or_one (x / 2 ^ i)
 have c:=Nat.mod_two_eq_zero_or_one (y / 2 ^ i)
 rcases a with a | a <;> rcases b with b | b <;> rcases c with c | c <;> rw [a,b,c] at h ⊢ <;> first | rfl | (exact absurd h (by decide))
theorem xor_swap (a b c d:Nat):(a ^^^ b) ^^^ (c ^^^ d)=(a ^^^ c) ^^^ (b ^^^ d):=by
 rw [Nat.xor_assoc,←Nat.xor_assoc b c d,Nat.xor_comm b c,Nat.xor_assoc c b d,←Nat.xor_assoc]
theorem gmP_xor (x y a:Nat):∀ i,(gmP (x ^^^ y) i a).1=(gmP x i a).1 ^^^ (gmP y i a).1
 | 0=>(Nat.xor_self 0).symm
 | i+1=>by
  have ih:=gmP_xor x y a i
  have e1:=gmP_snd (x ^^^ y) x i a
  have e2:=gmP_snd y x i a
  have hb:=bit_xor x y i
  simp only [gmP]
  rw [ih,e1,e2,hb]
  have b:=Nat.mod_two_eq_zero_or_one (x / 2 ^ i)
  have c:=Nat.mod_two_eq_zero_or_one (y / 2 ^ i)
  generalize (gmP x i a).1=X
  generalize (gmP y i a).1=Y
  generalize (gmP x i a).2=D
  rcases b with b | b <;> rcases c with c | c <;> rw [b,c]
  · rfl
  · show (X ^^^ Y) ^^^ D=X ^^^ (Y ^^^ D)
    rw [Nat.xor_assoc]
  · show (X ^^^ Y) ^^^ D=(X ^^^ D) ^^^ Y
    rw [Nat.xor_assoc,Nat.xor_comm Y D,←Nat.xor_assoc]
  · show X ^^^ Y=(X ^^^ D) ^^^ (Y ^^^ D)
    rw [xor_swap,Nat.xor_self,Nat.xor_zero]
theorem gm_xor (a x y:Nat):gm a (x ^^^ y)=gm a x ^^^ gm a y:=gmP_xor x y a 8
def boxL:List Nat:=[99,124,119,123,242,107,111,197,48,1,103,43,254,215,171,118,202,130,201,125,250,89,71,240,173,212,162,175,156,164,114,192,183,253,147,38,54,63,247,204,52,165,229,241,113,216,49,21,4,199,35,195,24,150,5,154,7,18,128,226,235,39,178,117,9,131,44,26,27,110,90,160,82,59,214,179,41,227,47,132,83,209,0,237,32,252,177,91,106,203,190,57,74,76,88,207,208,239,170,251,67,77,51,133,69,249,2,127,80,60,159,168,81,163,64,143,146,157,56,245,188,182,218,33,16,255,243,210,205,12,19,236,95,151,68,23,196,167,126,61,100,93,25,115,96,129,79,220,34,42,144,136,70,238,184,20,222,94,11,219,224,50,58,10,73,6,36,92,194,211,172,98,145,149,228,121,231,200,55,109,141,213,78,169,108,86,244,234,101,122,174,8,186,120,37,46,28,166,180,198,232,221,116,31,75,189,139,138,112,62,181,102,72,3,246,14,97,53,87,185,134,193,29,158,225,248,152,17,105,217,142,148,155,30,135,233,206,85,40,223,140,161,137,13,191,230,66,104,65,153,45,15,176,84,187,22]
def unL:List Nat:=[82,9,106,213,48,54,165,56,191,64,163,158,129,243,215,251,124,227,57,130,155,47,255,135,52,142,67,68,196,222,233,203,84,123,148,50,166,194,35,61,238,76,149,11,66,250,195,78,8,46,161,102,40,217,36,178,118,91,162,73,109,139,209,37,114,248,246,100,134,104,152,22,212,164,92,204,93,101,182,146,108,112,72,80,253,237,185,218,94,21,70,87,167,141,157,132,144,216,171,0,140,188,211,10,247,228,88,5,184,179,69,6,208,44,30,143,202,63,15,2,193,175,189,3,1,19,138,107,58,145,17,65,79,103,220,234,151,242,207,206,240,180,230,115,150,172,116,34,231,173,53,133,226,249,55,232,28,117,223,110,71,241,26,113,29,41,197,137,111,183,98,14,170,24,190,27,252,86,62,75,198,210,121,32,154,219,192,254,120,205,90,244,31,221,168,51,136,7,199,49,177,18,16,89,39,128,236,95,96,81,127,169,25,181,74,13,45,229,122,159,147,201,156,239,160,224,59,77,174,42,245,176,200,235,187,60,131,83,153,97,23,43,4,126,186,119,214,38,225,105,20,99,85,33,12,125]
def boxN (x:Nat):Nat:=boxL.getD x 0
def unN (x:Nat):Nat:=unL.getD x 0
theorem all256 {p:Nat→Bool} (h:(List.range 256).all p=true) (x:Nat) (hx:x<256):p x=true:=List.all_eq_true.1 h x (List.mem_range.2 hx)
set_option maxRecDepth 100000 in
theorem box_ok:((List.range 256).all fun x=>unN (boxN x) == x && boxN (unN x) == x && decide (boxN x<256) && decide (unN x<256) && !(boxN x == x))=true:=by kernel_rfl
theorem box_all (x:Nat) (hx:x<256):unN (boxN x)=x∧boxN (unN x)=x∧boxN x<256∧unN x<256∧boxN x≠x:=by
 have h:=all256 box_ok x hx
 simp only [Bool.and_eq_true,beq_iff_eq,decide_eq_true_eq,Bool.not_eq_true',beq_eq_false_iff_ne] at h
 exact ⟨h.1.1.1.1,h.1.1.1.2,h.1.1.2,h.1.2,h.2⟩
def mT (k:Nat):Nat:=[2,3,1,1].getD k 0
def mB (k:Nat):Nat:=[14,11,13,9].getD k 0
def col1 (m:Nat→Nat) (b0 b1 b2 b3:Nat) (r:Nat):Nat:=gm (m ((0+4 - r)%4)) b0 ^^^ gm (m ((1+4 - r)%4)) b1 ^^^ gm (m ((2+4 - r)%4)) b2 ^^^ gm (m ((3+4 - r)%4)) b3
def colN (m:Nat→Nat) (b:Nat→Nat) (j:Nat):Nat:=col1 m (b (j / 4*4)) (b (j / 4*4+1)) (b (j / 4*4+2)) (b (j / 4*4+3)) (j%4)
def way (m n:Nat→Nat) (i k x:Nat):Nat:=gm (n ((0+4 - k)%4)) (gm (m ((i+4 - 0)%4)) x) ^^^ gm (n ((1+4 - k)%4)) (gm (m ((i+4 - 1)%4)) x) ^^^ gm (n ((2+4 - k)%4)) (gm (m ((i+4 - 2)%4)) x) ^^^ gm (n ((3+4 - k)%4)) (gm (m ((i+4 - 3)%4)) x)
end Go.Proofs.YtibdhadbflfdpaaGreatDoor
namespace Go.Proofs.YtibdhadbflfdpaaGreatDoor
def S16 (a b:Nat→Nat):Prop:=∀ j,j<16→a j=b j
def B16 (a:Nat→Nat):Prop:=∀ j,j<16→a j<256
theorem S16.symm {a b:Nat→Nat} (h:S16 a b):S16 b a:=fun j hj=>(h j hj).symm
theorem S16.trans {a b c:Nat→Nat} (h:S16 a b) (k:S16 b c):S16 a c:=fun j hj=>(h j hj).trans (k j hj)
theorem B16.of {a b:Nat→Nat} (h:B16 a) (e:S16 a b):B16 b:=fun j hj=>by rw [←e j hj];exact h j hj
def addN (w:Nat→Nat) (r:Nat) (b:Nat→Nat) (j:Nat):Nat:=b j ^^^ w (16*r+j)
def rowN (by_:Nat) (b:Nat→Nat) (j:Nat):Nat:=b (4*((j / 4+j%4*by_)%4)+j%4)
def thrN (s:Nat→Nat) (b:Nat→Nat) (j:Nat):Nat:=s (b j)
theorem addN_S {a b:Nat→Nat} (h:S16 a b) (w:Nat→Nat) (r:Nat):S16 (addN w r a) (addN w r b):=fun j hj=>by unfold addN;rw [h j hj]
theorem rowN_S {a b:Nat→Nat} (h:S16 a b) (y:Nat):S16 (rowN y a) (rowN y b):=fun j hj=>h _ (by omega)
theorem thrN_S {a b:Nat→Nat} (h:S16 a b) (s:Nat→Nat):S16 (thrN s a) (thrN s b):=fun j hj=>by unfold thrN;rw [h j hj]
theorem colN_S {a b:Nat→Nat} (h:S16 a b) (m:Nat→Nat):S16 (colN m a) (colN m b):=fun j hj=>by
 unfold colN
 rw [h (j / 4*4) (by omega),h (j / 4*4+1) (by omega),h (j / 4*4+2) (by omega),h (j / 4*4+3) (by omega)]
theorem xor_byte {a b:Nat} (ha:a<256) (hb:b<256):a ^^^ b<256:=Nat.xor_lt_two_pow (n:=8) ha hb
set_option maxRecDepth 100000 in
theorem gm_ok:((List.range 256).all fun x=>(List.range 4).all fun k=>decide (gm (mT k) x<256) && decide (gm (mB k) x<256))=true:=by kernel_rfl
theorem gm_byte (x k:Nat) (hx:x<256) (hk:k<4):gm (mT k) x<256∧gm (mB k) x<256:=by
 have h:=List.all_eq_true.1 (all256 gm_ok x hx) k (List.mem_range.2 hk)
 simp only [Bool.and_eq_true,decide_eq_true_eq] at h
 exact h
theorem addN_B {a w:Nat→Nat} (h:B16 a) (hw:∀ j,w j<256) (r:Nat):B16 (addN w r a):=fun j hj=>xor_byte (h j hj) (hw _)
theorem rowN_B {a:Nat→Nat} (h:B16 a) (y:Nat):B16 (rowN y a):=fun j hj=>h _ (by omega)
theorem box_B {a:Nat→Nat} (h:B16 a):B16 (thrN boxN a):=fun j hj=>(box_all _ (h j hj)).2.2.1
theorem colT_B {a:Nat→Nat} (h:B16 a):B16 (colN mT a):=fun j hj=>by
 unfold colN col1
 exact xor_byte (xor_byte (xor_byte (gm_byte _ _ (h _ (by omega)) (by omega)).1 (gm_byte _ _ (h _ (by omega)) (by omega)).1) (gm_byte _ _ (h _ (by omega)) (by omega)).1) (gm_byte _ _ (h _ (by omega)) (by omega)).1
theorem row_row (b:Nat→Nat):S16 (rowN 3 (rowN 1 b)) b∧S16 (rowN 1 (rowN 3 b)) b:=by
 constructor
 · intro j hj
   unfold rowN
   congr 1
   omega
 · intro j hj
   unfold rowN
   congr 1
   omega
theorem un_box {b:Nat→Nat} (h:B16 b):S16 (thrN unN (thrN boxN b)) b∧S16 (thrN boxN (thrN unN b)) b:=⟨fun j hj=>(box_all _ (h j hj)).1,fun j hj=>(box_all _ (h j hj)).2.1⟩
def blkS (w:Nat→Nat) (b:Nat→Nat):Nat→Nat→Nat
 | 0=>addN w 0 b
 | r+1=>addN w (r+1) (colN mT (rowN 1 (thrN boxN (blkS w b r))))
def blkN (w b:Nat→Nat):Nat→Nat:=addN w 10 (rowN 1 (thrN boxN (blkS w b 9)))
theorem blkS_B {w b:Nat→Nat} (hb:B16 b) (hw:∀ j,w j<256):∀ r,B16 (blkS w b r)
 | 0=>addN_B hb hw 0
 | r+1=>addN_B (colT_B (rowN_B (box_B (blkS_B hb hw r)) 1)) hw _
theorem blkN_B {w b:Nat→Nat} (hb:B16 b) (hw:∀ j,w j<256):B16 (blkN w b):=addN_B (rowN_B (box_B (blkS_B hb hw 9)) 1) hw 10
theorem undo {x:Nat→Nat} (h:B16 x):S16 (thrN unN (rowN 3 (rowN 1 (thrN boxN x)))) x:=(thrN_S (row_row _).1 unN).trans (un_box h).1
end Go.Proofs.YtibdhadbflfdpaaGreatDoor
namespace Go.Proofs.YtibdhadbflfdpaaGreatDoor
def pwL:List Nat:=[1,3,5,15,17,51,85,255,26,46,114,150,161,248,19,53,95,225,56,72,216,115,149,164,247,2,6,10,30,34,102,170,229,52,92,228,55,89,235,38,106,190,217,112,144,171,230,49,83,245,4,12,20,60,68,204,79,209,104,184,211,110,178,205,76,212,103,169,224,59,77,215,98,166,241,8,24,40,120,136,131,158,185,208,107,189,220,127,129,152,179,206,73,219,118,154,181,196,87,249,16,48,80,240,11,29,39,105,187,214,97,163,254,25,43,125,135,146,173,236,47,113,147,174,233,32,96,160,251,22,58,78,210,109,183,194,93,231,50,86,250,21,63,65,195,94,226,61,71,201,64,192,91,237,44,116,156,191,218,117,159,186,213,100,172,239,42,126,130,157,188,223,122,142,137,128,155,182,193,88,232,35,101,175,234,37,111,177,200,67,197,84,252,31,33,99,165,244,7,9,27,45,119,153,176,203,70,202,69,207,74,222,121,139,134,145,168,227,62,66,198,81,243,14,18,54,90,238,41,123,141,140,143,138,133,148,167,242,13,23,57,75,221,124,132,151,162,253,28,36,108,180,199,82,246]
def invL:List Nat:=[0,1,141,246,203,82,123,209,232,79,41,192,176,225,229,199,116,180,170,75,153,43,96,95,88,63,253,204,255,64,238,178,58,110,90,241,85,77,168,201,193,10,152,21,48,68,162,194,44,69,146,108,243,57,102,66,242,53,32,111,119,187,89,25,29,254,55,103,45,49,245,105,167,100,171,19,84,37,233,9,237,92,5,202,76,36,135,191,24,62,34,240,81,236,97,23,22,94,175,211,73,166,54,67,244,71,145,223,51,147,33,59,121,183,151,133,16,181,186,60,182,112,208,6,161,250,129,130,131,126,127,128,150,115,190,86,155,158,149,217,247,2,185,164,222,106,50,109,216,138,132,114,42,20,159,136,249,220,137,154,251,124,46,195,143,184,101,72,38,200,18,74,206,231,210,98,12,224,31,239,17,117,120,113,165,142,118,61,189,188,134,87,11,40,47,163,218,212,228,15,169,39,83,4,27,252,172,230,122,7,174,99,197,219,226,234,148,139,196,213,157,248,144,107,177,13,214,235,198,14,207,173,8,78,215,227,93,80,30,179,91,35,56,52,104,70,3,140,221,156,125,160,205,26,65,28]
def pwN (i:Nat):Nat:=pwL.getD i 0
def invN (x:Nat):Nat:=invL.getD x 0
theorem all_below {p:Nat→Bool} {n:Nat} (h:(List.range n).all p=true) (x:Nat) (hx:x<n):p x=true:=List.all_eq_true.1 h x (List.mem_range.2 hx)
theorem pw_ok:((List.range 255).all fun i=>decide (pwN i<256) && (gm (pwN i) 3 == pwN ((i+1)%255)))=true:=by kernel_rfl
theorem pw_all (i:Nat) (hi:i<255):pwN i<256∧gm (pwN i) 3=pwN ((i+1)%255):=by
 have h:=all_below pw_ok i hi
 simp only [Bool.and_eq_true,beq_iff_eq,decide_eq_true_eq] at h
 exact h
def invF:Nat→Nat→Nat
 | 0=>fun _=>0
 | i+1=>upd (invF i) (pwN i) (pwN ((255 - i)%255))
set_option maxRecDepth 100000 in
theorem inv_ok:((List.range 256).all fun x=>invF 255 x == invN x && decide (invN x<256))=true:=by kernel_rfl
theorem inv_all (x:Nat) (hx:x<256):invF 255 x=invN x∧invN x<256:=by
 have h:=all_below inv_ok x hx
 simp only [Bool.and_eq_true,beq_iff_eq,decide_eq_true_eq] at h
 exact h
def boxF (y:Nat):Nat→Nat
 | 0=>y ^^^ 99
 | n+1=>boxF y n ^^^ (y*2 ^ (n+1)%256 ||| y / 2 ^ (8 - (n+1)))
theorem boxF_ok:((List.range 256).all fun x=>boxF (invN x) 4 == boxN x)=true:=by kernel_rfl
theorem boxF_all (x:Nat) (hx:x<256):boxF (invN x) 4=boxN x:=by
 have h:=all_below boxF_ok x hx
 simp only [beq_iff_eq] at h
 exact h
def rcN:Nat→Nat
 | 0=>1
 | n+1=>gm (rcN n) 2
def kyT (w:Nat→Nat) (n k:Nat):Nat:=w (4*n - 16+k) ^^^ (if n%4=0 then (if k=0 then boxN (w (4*n - 4+1)) ^^^ rcN (n / 4 - 1) else boxN (w (4*n - 4+(k+1)%4))) else w (4*n - 4+k))
def kyS (key:Nat→Nat):Nat→Nat→Nat
 | 0=>key
 | n+1=>cat (4*(n+4)) (kyS key n) (kyT (kyS key n) (n+4))
def kyN (key:Nat→Nat):Nat→Nat:=kyS key 40
theorem rc_ok:((List.range 10).all fun n=>decide (rcN n<256))=true:=by kernel_rfl
theorem rc_lt (n:Nat) (hn:n<10):rcN n<256:=by
 have h:=all_below rc_ok n hn
 simpa using h
theorem kyS_lt {key:Nat→Nat} (hk:∀ j,key j<256):∀ n,n≤40→∀ j,kyS key n j<256
 | 0,_,j=>hk j
 | n+1,hn,j=>by
  have ih:=kyS_lt hk n (by omega)
  show cat (4*(n+4)) (kyS key n) (kyT (kyS key n) (n+4)) j<256
  refine cat_lt ih (fun k => ?_) j
  unfold kyT
  refine xor_byte (ih _) ?_
  split
  · split
    · exact xor_byte (box_all _ (ih _)).2.2.1 (rc_lt _ (by omega))
    · exact (box_all _ (ih _)).2.2.1
  · exact ih _
theorem kyN_lt {key:Nat→Nat} (hk:∀ j,key j<256):∀ j,kyN key j<256:=kyS_lt hk 40 (Nat.le_refl _)
end Go.Proofs.YtibdhadbflfdpaaGreatDoor
namespace Go.Proofs.YtibdhadbflfdpaaGreatDoor
def dbN (x:Nat):Nat:=(x*2%256) ^^^ (x / 128*27)
theorem db_ok:((List.range 256).all fun x=>dbN x == gm 2 x && dbN x == gm x 2 && (dbN x ^^^ x) == gm 3 x && gm 1 x == x && decide (dbN x<256) && gm 0 x == 0)=true:=by kernel_rfl
theorem db_all (x:Nat) (hx:x<256):dbN x=gm 2 x∧dbN x=gm x 2∧dbN x ^^^ x=gm 3 x∧gm 1 x=x∧dbN x<256∧gm 0 x=0:=by
 have h:=all256 db_ok x hx
 simp only [Bool.and_eq_true,beq_iff_eq,decide_eq_true_eq] at h
 exact ⟨h.1.1.1.1.1,h.1.1.1.1.2,h.1.1.1.2,h.1.1.2,h.1.2,h.2⟩
theorem db_xor (x y:Nat) (hx:x<256) (hy:y<256):dbN (x ^^^ y)=dbN x ^^^ dbN y:=by
 rw [(db_all _ (xor_byte hx hy)).1,(db_all _ hx).1,(db_all _ hy).1,gm_xor]
def mx1 (x0 x1 x2 x3 x y:Nat):Nat:=x ^^^ (x0 ^^^ x1 ^^^ x2 ^^^ x3) ^^^ dbN (x ^^^ y)
def mxN (b:Nat→Nat) (j:Nat):Nat:=mx1 (b (j - j%4)) (b (j - j%4+1)) (b (j - j%4+2)) (b (j - j%4+3)) (b j) (b (j - j%4+(j+1)%4))
theorem xor_can (a b:Nat):a ^^^ (a ^^^ b)=b:=by rw [←Nat.xor_assoc,Nat.xor_self,Nat.zero_xor]
theorem mx_col (b:Nat→Nat) (hb:B16 b):S16 (mxN b) (colN mT b):=fun j hj=>by
 unfold mxN colN
 rw [show j - j%4=j / 4*4 by omega]
 obtain ⟨q,r,hq,hr,rfl⟩:∃ q r,q<4∧r<4∧j=q*4+r:=⟨j / 4,j%4,by omega,by omega,by omega⟩
 rw [show (q*4+r) / 4=q by omega,show (q*4+r)%4=r by omega]
 have h0:b (q*4)<256:=hb _ (by omega)
 have h1:b (q*4+1)<256:=hb _ (by omega)
 have h2:b (q*4+2)<256:=hb _ (by omega)
 have h3:b (q*4+3)<256:=hb _ (by omega)
 have e:∀ a c:Nat,a<256→c<256→∀ d e,mx1 a c d e a c=gm 2 a ^^^ gm 3 c ^^^ d ^^^ e:=fun a c ha hc d e=>by
  unfold mx1
  rw [db_xor a c ha hc,←(db_all a ha).1,←(db_all c hc).2.2.1,Nat.xor_assoc a c d,Nat.xor_assoc a (c ^^^ d) e,xor_can]
  ac_rfl
 rcases (show r=0∨r=1∨r=2∨r=3 by omega) with rfl | rfl | rfl | rfl
 · rw [show (q*4+0+1)%4=1 by omega,Nat.add_zero]
   show _=gm 2 _ ^^^ gm 3 _ ^^^ gm 1 _ ^^^ gm 1 _
   rw [(db_all _ h2).2.2.2.1,(db_all _ h3).2.2.2.1]
   exact e _ _ h0 h1 _ _
 · rw [show (q*4+1+1)%4=2 by omega]
   show _=gm 1 _ ^^^ gm 2 _ ^^^ gm 3 _ ^^^ gm 1 _
   rw [(db_all _ h0).2.2.2.1,(db_all _ h3).2.2.2.1]
   have:=e _ _ h1 h2 (b (q*4)) (b (q*4+3))
   unfold mx1 at this ⊢
   refine Eq.trans ?_ (this.trans ?_) <;> ac_rfl
 · rw [show (q*4+2+1)%4=3 by omega]
   show _=gm 1 _ ^^^ gm 1 _ ^^^ gm 2 _ ^^^ gm 3 _
   rw [(db_all _ h0).2.2.2.1,(db_all _ h1).2.2.2.1]
   have:=e _ _ h2 h3 (b (q*4)) (b (q*4+1))
   unfold mx1 at this ⊢
   refine Eq.trans ?_ (this.trans ?_) <;> ac_rfl
 · rw [show (q*4+3+1)%4=0 by omega,Nat.add_zero]
   show _=gm 3 _ ^^^ gm 1 _ ^^^ gm 1 _ ^^^ gm 2 _
   rw [(db_all _ h1).2.2.2.1,(db_all _ h2).2.2.2.1]
   have:=e _ _ h3 h0 (b (q*4+1)) (b (q*4+2))
   unfold mx1 at this ⊢
   refine Eq.trans ?_ (this.trans ?_) <;> ac_rfl
theorem mxN_B {b:Nat→Nat} (h:B16 b):B16 (mxN b):=(colT_B h).of (mx_col b h).symm
theorem mxN_S {a b:Nat→Nat} (h:S16 a b):S16 (mxN a) (mxN b):=fun j hj=>by
 unfold mxN
 rw [h (j - j%4) (by omega),h (j - j%4+1) (by omega),h (j - j%4+2) (by omega),h (j - j%4+3) (by omega),h j hj,h (j - j%4+(j+1)%4) (by omega)]
def tuN (b:Nat→Nat) (j:Nat):Nat:=b ((j+4*(j%4))%16)
theorem tu_row (b:Nat→Nat):S16 (tuN b) (rowN 1 b):=fun j hj=>by
 unfold tuN rowN
 congr 1
 omega
theorem tuN_B {b:Nat→Nat} (h:B16 b):B16 (tuN b):=fun j hj=>h _ (by omega)
def wd0 (X:Nat→Nat) (p k:Nat):Nat:=if k=0 then boxN (X 13) ^^^ p else if k=3 then boxN (X 12) else boxN (X (13+k))
def nxN (X:Nat→Nat) (p:Nat) (j:Nat):Nat:=if j<4 then wd0 X p j ^^^ X j else nxN X p (j - 4) ^^^ X j
termination_by j
theorem nxN_lo (X:Nat→Nat) (p j:Nat) (h:j<4):nxN X p j=wd0 X p j ^^^ X j:=by rw [nxN,if_pos h]
theorem nxN_hi (X:Nat→Nat) (p j:Nat) (h:4≤j):nxN X p j=nxN X p (j - 4) ^^^ X j:=by rw [nxN,if_neg (by omega)]
theorem kyS_keep (key:Nat→Nat) (n:Nat):∀ d j,j<4*(n+4)→kyS key (n+d) j=kyS key n j
 | 0,_,_=>rfl
 | d+1,j,h=>by
  rw [show n+(d+1)=(n+d)+1 by omega]
  show cat (4*(n+d+4)) (kyS key (n+d)) _ j=_
  rw [cat_left (by omega)]
  exact kyS_keep key n d j h
theorem kyN_at (key:Nat→Nat) (n j:Nat) (hn:n≤40) (h:j<4*(n+4)):kyN key j=kyS key n j:=by
 have:=kyS_keep key n (40 - n) j h
 rwa [show n+(40 - n)=40 by omega] at this
theorem kyN_lo (key:Nat→Nat) (j:Nat) (h:j<16):kyN key j=key j:=kyN_at key 0 j (by decide) (by omega)
theorem kyN_word (key:Nat→Nat) (i k:Nat) (h4:4≤i) (h44:i<44) (hk:k<4):kyN key (4*i+k)=kyT (kyN key) i k:=by
 obtain ⟨n,rfl⟩:∃ n,i=n+4:=⟨i - 4,by omega⟩
 rw [kyN_at key (n+1) _ (by omega) (by omega)]
 show cat (4*(n+4)) (kyS key n) (kyT (kyS key n) (n+4)) (4*(n+4)+k)=_
 rw [cat_right]
 unfold kyT
 have e:∀ j,j<4*(n+4)→kyS key n j=kyN key j:=fun j h=>(kyN_at key n j (by omega) h).symm
 rw [e _ (by omega),e (4*(n+4) - 4+1) (by omega),e (4*(n+4) - 4+(k+1)%4) (by omega),e (4*(n+4) - 4+k) (by omega)]
theorem ky_next (key:Nat→Nat) (r:Nat) (hr:r<10):∀ j,j<16→nxN (fun i=>kyN key (16*r+i)) (rcN r) j=kyN key (16*(r+1)+j):=by
 intro j
 induction j using Nat.strongRecOn with
 | ind j ih =>
  intro hj
  have hw:=kyN_word key (4*(r+1)+j / 4) (j%4) (by omega) (by omega) (by omega)
  rw [show 4*(4*(r+1)+j / 4)+j%4=16*(r+1)+j by omega] at hw
  rw [hw]
  unfold kyT
  rw [show 4*(4*(r+1)+j / 4) - 16+j%4=16*r+j by omega]
  by_cases h4:j<4
  · rw [nxN_lo _ _ _ h4,if_pos (by omega),Nat.xor_comm]
    congr 1
    unfold wd0
    rw [show j%4=j by omega,show (4*(r+1)+j / 4) / 4 - 1=r by omega]
    by_cases h0:j=0
    · rw [if_pos h0,if_pos h0,show 4*(4*(r+1)+j / 4) - 4+1=16*r+13 by omega]
    · rw [if_neg h0,if_neg h0]
      by_cases h3:j=3
      · rw [if_pos h3,show 4*(4*(r+1)+j / 4) - 4+(j+1)%4=16*r+12 by omega]
      · rw [if_neg h3,show 4*(4*(r+1)+j / 4) - 4+(j+1)%4=16*r+(13+j) by omega]
  · rw [nxN_hi _ _ _ (by omega),ih (j - 4) (by omega) (by omega),if_neg (by omega),Nat.xor_comm]
    rw [show 4*(4*(r+1)+j / 4) - 4+j%4=16*(r+1)+(j - 4) by omega]
end Go.Proofs.YtibdhadbflfdpaaGreatDoor
namespace Go.Proofs.YtibdhadbflfdpaaGreatDoor
open Go.RowKit
def sqV (X:Nat→Nat):Value := .agg (ints .u8 16 X).toArray
theorem zeroS (w:World):Sem.run Tryz.prog (zeroValue 286) w = .ok (.agg (zb 16)) w:=by kernel_rfl
theorem zeroB (w:World):Sem.run Tryz.prog (zeroValue 300) w = .ok (.agg (zb 256)) w:=by kernel_rfl
theorem ints_size (K:IntKind) (n:Nat) (X:Nat→Nat):(ints K n X).toArray.size=n:=by rw [List.size_toArray,ints_len]
theorem infoS (X:Nat→Nat):(Tryz.prog.info? 286).map (·.size)=some (ints .u8 16 X).length:=by rw [ints_len];kernel_rfl
theorem infoSA (X:Nat→Nat):(Tryz.prog.info? 286).map (·.size)=some (ints .u8 16 X).toArray.size:=by rw [ints_size];kernel_rfl
theorem infoB (X:Nat→Nat):(Tryz.prog.info? 300).map (·.size)=some (ints .u8 256 X).length:=by rw [ints_len];kernel_rfl
theorem infoBA (X:Nat→Nat):(Tryz.prog.info? 300).map (·.size)=some (ints .u8 256 X).toArray.size:=by rw [ints_size];kernel_rfl
theorem oneU (n:Nat) (X:Nat→Nat):(ints .u8 n X).toArray.all (·.oneCell')=true:=all_oneCell_toArray (ints_one .u8 n X)
theorem RowAt.box (K:IntKind) (w:World) (n:Nat) (X:Nat→Nat) (t:TypeId):RowAt K (w.alloc (.cells (ints K n X).toArray t)) w.heap.size 0 n X:=RowAt.fresh (fun j hj=>by rw [List.getElem?_toArray];exact ints_at K n X j hj)
theorem RowAt.stored {K:IntKind} {w:World} {g n:Nat} {M L:Nat→Nat} (h:RowAt K w g 0 n M):RowAt K (w.setCells g 0 (ints K n L)) g 0 n L:=fun j hj=>by
 have hr:=World.rangeAt_setCells_same w g 0 (ints K n L) (by rw [ints_len];exact h.there)
 exact ⟨hr j _ (ints_at K n L j hj),(World.frozen?_setCells g (ints K n L) 0 w _).trans (h j hj).2⟩
theorem RowAt.farCells {K:IntKind} {w:World} {g o n:Nat} {L:Nat→Nat} (h:RowAt K w g o n L) {k:Nat} (hk:g≠k) (p:Nat) (vs:List Value):RowAt K (w.setCells k p vs) g o n L:=fun j hj=>by
 have hb:(w.setCells k p vs).heap[g]? = w.heap[g]?:=heap_setCells_other k vs p w g hk
 exact ⟨(World.cell?_of_block (w:=w) hb).trans (h j hj).1,(World.frozen?_of_block (w:=w) hb).trans (h j hj).2⟩
theorem RowAt.zero (w:World) (n:Nat) (t:TypeId):RowAt .u8 (w.alloc (.cells (zb n) t)) w.heap.size 0 n (fun _=>0):=RowAt.fresh (fun j hj=>zb_at n j hj)
theorem wpList_val {P:Program} {w:World} {ops:Array Oper} {rest:List Oper} {o:Oper} {a:Act} {Q:Exit→Act→World→Prop} (d:Option Nat) (v:Value) (hgd:o.guard=none) (hd:o.dst=d) (hrun:(execOp a.eval o).run P w = .ok (.value v) w)
 (h:wpList P ops Q rest (a.put d v) w):wpList P ops Q (o :: rest) a w:=by
 subst hd
 refine wpList_plain hgd fun K hK => ?_
 unfold Oper.wp
 rw [hrun,Oper.upon_value]
 exact hK _ _ h
theorem index_u8 {t n:Nat} (hu:Tryz.prog.underlying t=some (.array n 5)) (X:Nat→Nat) (k:Nat) (hk:k<n) (kk:IntKind) (W:World):(Instr.index t (.agg (ints .u8 n X).toArray) (.int kk k)).run Tryz.prog W = .ok (.int .u8 (X k)) W:=by
 have hs:∀ W,(sizeOf 5).run Tryz.prog W = .ok 1 W:=fun W=>by kernel_rfl
 have hx:(ints .u8 n X)[k]? = some (.int .u8 (X k)):=ints_at .u8 n X k hk
 simp [Instr.index,run_underlying hu,asIntOf,hk,hs,part,isAgg,run_underlying Tryz.underlying5,hx,Result.andThen]
set_option maxRecDepth 20000 in
set_option maxHeartbeats 2000000 in
theorem boxes_any (w:World) :
 Calls Tryz.prog 290 #[] w fun e w'=>e = .returned (.agg (ints .u8 256 boxN).toArray)∧Below w.heap.size w w':=by
 have hz:=zeroB
 have hb:Below w.heap.size w (w.alloc (.cells (zb 256) 300)):=(Below.refl _ _).alloc (Nat.le_refl _) _
 have hT:(w.alloc (.cells (zb 256) 300)).there w.heap.size 0 256:=(RowAt.zero w 256 _).there
 have hi1:=infoB boxN
 have hi2:=infoBA boxN
 have ho:=oneU 256 boxN
 have hth:(w.alloc (.cells (zb 256) 300)).there w.heap.size 0 (ints .u8 256 boxN).toArray.size:=by rw [ints_size];exact hT
 have hth2:(w.alloc (.cells (zb 256) 300)).there w.heap.size 0 (ints .u8 256 boxN).length:=by rw [ints_len];exact hT
 obtain ⟨L,hL⟩:∃ L,L=ints .u8 256 boxN:=⟨_,rfl⟩
 rw [←hL] at hi1 hi2 ho hth hth2 ⊢
 have HL:=Hid.mk' hL
 clear hL hT
 go_enter Tryz.func290,Tryz.ntmps290
 go_upto_region 1 with (fail)
 refine wp_region_list ?_
 refine wpList_val (some 1) (.agg L.toArray) rfl rfl (by rw [HL.out];kernel_rfl) ?_
 refine wpList_store_mid rfl 300 _ _ rfl w.heap.size 0 L.toArray rfl rfl hth hi2 ho ?_
 refine wpList_nil ?_
 simp only [Act.put,List.setIfInBounds_toArray,List.set_cons_zero,List.set_cons_succ]
 go_wp2
 (try simp only [Exit.inBlock,Exit.then])
 refine bodyPost_ret (results_cell_mid Tryz.results290 _ _ w.heap.size 0 L _ rfl (World.rangeAt_setCells_same _ _ _ _ hth2) Tryz.underlying300 rfl hi1) rfl ⟨rfl,?_⟩
 exact below_setCells (Nat.le_refl _) _ _ _ hb
end Go.Proofs.YtibdhadbflfdpaaGreatDoor
namespace Go.Proofs.YtibdhadbflfdpaaGreatDoor
open Go.RowKit
set_option maxHeartbeats 1000000 in
theorem double_any (x:Nat) (hx:x<256) (w:World) :
 Calls Tryz.prog 289 #[.int .u8 x] w fun e w'=>e = .returned (.int .u8 (dbN x))∧w'=w:=by
 have hq:=u8_xor_nat (x*2%256) (x / 128*27) (by omega) (by omega)
 have e:dbN x=(x*2%256) ^^^ (x / 128*27):=rfl
 rw [←e] at hq
 replace hq:bits .xor .u8 ((x:Int)*2%256) ((x:Int) / 128*27)=((dbN x:Nat):Int):=hq
 generalize dbN x=y at *
 clear e
 go_enter Tryz.func289,Tryz.ntmps289
 go_wp2
 go_ret
 exact ⟨rfl,rfl⟩
theorem two_new (X Y:Nat→Nat) (w:World) (L:Array Value) (hL:∀ j,j<16→L[j]? = some (.int .u8 (Y j))) (t u:TypeId):∃ W,(w.alloc (.cells (ints .u8 16 X).toArray t)).alloc (.cells L u)=W∧W.heap.size=w.heap.size+1+1∧Below w.heap.size w W∧RowAt .u8 W w.heap.size 0 16 X∧RowAt .u8 W (w.heap.size+1) 0 16 Y:=by
 refine ⟨_,rfl,by simp,((Below.refl _ _).alloc (Nat.le_refl _) _).alloc (by simp) _,(RowAt.box .u8 w 16 X t).alloc (by simp) _,?_⟩
 have:=RowAt.fresh (K := .u8) (w:=w.alloc (.cells (ints .u8 16 X).toArray t)) (t:=u) hL
 rwa [World.size_alloc] at this
theorem zb16:∀ j,j<16→(zb 16)[j]? = some (.int .u8 ((fun _=>0:Nat→Nat) j)):=fun j hj=>zb_at 16 j hj
theorem ints16 (X:Nat→Nat):∀ j,j<16→(ints .u8 16 X).toArray[j]? = some (.int .u8 (X j)):=fun j hj=>by rw [List.getElem?_toArray];exact ints_at _ _ _ j hj
def pr (Z X:Nat→Nat) (k j:Nat):Nat:=if j<k then Z j else X j
theorem pr_at (Z X:Nat→Nat) (k:Nat):pr Z X k k=X k:=if_neg (Nat.lt_irrefl k)
theorem pr_full (Z X:Nat→Nat) {n j:Nat} (h:j<n):pr Z X n j=Z j:=if_pos h
theorem pr_step (Z X:Nat→Nat) (k j:Nat):upd (pr Z X k) k (Z k) j=pr Z X (k+1) j:=by
 unfold upd pr
 by_cases e:j=k
 · subst e;rw [if_pos rfl,if_pos (by omega)]
 · rw [if_neg e]
   by_cases e2:j<k
   · rw [if_pos e2,if_pos (by omega)]
   · rw [if_neg e2,if_neg (by omega)]
theorem RowAt.next {w:World} {g n k:Nat} {Z X:Nat→Nat} (h:RowAt .u8 w g 0 n (pr Z X k)) (hk:k<n) {v:Int} (hv:v=(Z k:Int)):RowAt .u8 (w.setCell ⟨g,k,none⟩ (.int .u8 v)) g 0 n (pr Z X (k+1)):=by
 have hs:=h.set (i:=k) hk (v:=v) (u:=Z k) hv
 rw [Nat.zero_add] at hs
 exact hs.congr (fun j _=>pr_step Z X k j)
set_option maxRecDepth 20000 in
set_option maxHeartbeats 2000000 in
theorem kplus_any (X Y:Nat→Nat) (hX:B16 X) (hY:B16 Y) (w:World) :
 Calls Tryz.prog 278 #[sqV X,sqV Y] w fun e w'=>e = .returned (sqV (fun j=>X j ^^^ Y j))∧Below w.heap.size w w':=by
 have hz:=zeroS
 have hi3:=infoS Y
 obtain ⟨V,hV,hVs,hbV,hA0,hB0⟩:=two_new X Y w (ints .u8 16 Y).toArray (ints16 Y) 286 286
 obtain ⟨W,hW⟩:∃ W,W=V.alloc (.cells (zb 16) 286):=⟨_,rfl⟩
 have hbW:Below w.heap.size w W:=by rw [hW];exact hbV.alloc (by omega) _
 have hA:RowAt .u8 W w.heap.size 0 16 X:=by rw [hW];exact hA0.alloc (by omega) _
 have hB:RowAt .u8 W (w.heap.size+1) 0 16 Y:=by rw [hW];exact hB0.alloc (by omega) _
 have hC:RowAt .u8 W (w.heap.size+1+1) 0 16 (fun _=>0):=by rw [hW,←hVs];exact RowAt.zero V 16 _
 rw [←hV] at hW
 have HW:=Hid.mk' hW
 have hBr:=hB.range
 have hix:=fun k hk=>index_u8 Tryz.underlying286 Y k hk .i64
 unfold sqV
 obtain ⟨Z,hZ⟩:∃ Z:Nat→Nat,Z=fun j=>X j ^^^ Y j:=⟨_,rfl⟩
 rw [←hZ]
 have HZ:=Hid.mk' hZ
 clear hW hV hZ hA0 hB0 hbV hVs hB
 go_enter Tryz.func278,Tryz.ntmps278
 go_wp2_with (first
  | (rw [←HW.out];refine wpList_load_mid rfl 286 _ rfl (w.heap.size+1) 0 rfl (ints .u8 16 Y) _ hBr Tryz.underlying286 rfl hi3 ?_))
 go_loopw [8] (fun i wr=>∃ k:Nat,k≤16∧i = .int .i64 k∧RowAt .u8 wr w.heap.size 0 16 (pr Z X k)∧RowAt .u8 wr (w.heap.size+1+1) 0 16 (fun _=>0)∧Below w.heap.size w wr) (fun i _=>16 - (intOf i).toNat)
 case atStart=>exact ⟨0,Nat.zero_le _,rfl,hA,hC,hbW⟩
 case round =>
  clear hA hC hbW hBr hz
  obtain ⟨k,hk,rfl,hA,hC,hb⟩:=hrel
  by_cases hlt:k<16
  · obtain ⟨rk,fk⟩:=hA k hlt
    rw [Nat.zero_add] at rk fk
    have hi:=hix k hlt
    have hq:=u8_xor_nat (X k) (Y k) (hX k hlt) (hY k hlt)
    rw [pr_at] at rk
    have ez:((X k ^^^ Y k:Nat):Int)=(Z k:Int):=by rw [HZ.out]
    rw [ez] at hq
    have hs:=hA.next hlt (v:=(Z k:Int)) rfl
    clear hix ez
    go_wp2_with (rw [hi])
    go_roundw
    case rel=>exact ⟨k+1,by omega,by go_num,hs,hC.far (by show w.heap.size≠w.heap.size+1+1;omega) _,hb.setCell (Nat.le_refl _) _⟩
    case measure=>simp [intOf];omega
  · obtain rfl:k=16:=by omega
    have hA':RowAt .u8 wr w.heap.size 0 16 Z:=hA.congr (fun j hj=>pr_full Z X hj)
    have hi1:=infoS Z
    have hi2:=infoSA Z
    have ho:=oneU 16 Z
    have hth:wr.there (w.heap.size+1+1) 0 (ints .u8 16 Z).toArray.size:=by rw [ints_size];exact hC.there
    go_wp2_with (first
     | (refine wpList_load_mid rfl 286 _ rfl w.heap.size 0 rfl (ints .u8 16 Z) _ hA'.range Tryz.underlying286 rfl hi1 ?_)
     | (refine wpList_store_mid rfl 286 _ _ rfl (w.heap.size+1+1) 0 (ints .u8 16 Z).toArray rfl rfl hth hi2 ho ?_))
    (try simp only [Exit.inBlock,Exit.then])
    refine bodyPost_ret (results_cell_mid Tryz.results278 _ _ (w.heap.size+1+1) 0 (ints .u8 16 Z) _ rfl (World.rangeAt_setCells_same _ _ _ _ (by rw [ints_len];exact hC.there)) Tryz.underlying286 rfl hi1) rfl ⟨rfl,?_⟩
    exact below_setCells (by omega) _ _ _ hb
end Go.Proofs.YtibdhadbflfdpaaGreatDoor
namespace Go.Proofs.YtibdhadbflfdpaaGreatDoor
open Go.RowKit
def fit16 (n:Nat) (bs:Nat→Nat):Nat→Nat:=over (fun _=>0) 0 (Nat.min n 16) bs
theorem fit16_full (bs:Nat→Nat) {j:Nat} (h:j<16):fit16 16 bs j=bs j:=by
 unfold fit16 over
 rw [if_pos ⟨Nat.zero_le _,by rw [show Nat.min 16 16=16 from rfl];omega⟩,Nat.sub_zero]
set_option maxRecDepth 20000 in
set_option maxHeartbeats 2000000 in
theorem squareOf_any (v:Value) (n:Nat) (bs:Nat→Nat) (w:World) (hv:BytesIn w v n bs) :
 Calls Tryz.prog 277 #[v] w fun e w'=>e = .returned (sqV (fit16 n bs))∧Below w.heap.size w w':=by
 have hz:=zeroS
 have hsz:(Tryz.prog.info? 5).map (·.size)=some 1:=by kernel_rfl
 obtain ⟨xo,cx,rfl,-,-,hsrc⟩:=hv.src
 obtain ⟨W,hW⟩:∃ W,W=(w.alloc (.cells (zb 16) 286)).alloc (.cells (zb 16) 286):=⟨_,rfl⟩
 have hbW:Below w.heap.size w W:=by rw [hW];exact ((Below.refl _ _).alloc (Nat.le_refl _) _).alloc (by simp) _
 have hA:RowAt .u8 W w.heap.size 0 16 (fun _=>0):=by rw [hW];exact (RowAt.zero w 16 _).alloc (by simp) _
 have hB:RowAt .u8 W (w.heap.size+1) 0 16 (fun _=>0):=by
  have:=RowAt.zero (w.alloc (.cells (zb 16) 286)) 16 286
  rw [World.size_alloc] at this
  rw [hW];exact this
 have src:=hsrc W hbW
 have HW:=Hid.mk' hW
 have hth:=hB.there
 obtain ⟨m,hm⟩:∃ m,m=Nat.min n 16:=⟨_,rfl⟩
 have hR:=hB.splice 0 m bs (by rw [hm,Nat.zero_add];exact Nat.min_le_right _ _)
 rw [Nat.zero_add] at hR
 have eR:fit16 n bs=over (fun _=>0) 0 m bs:=by rw [hm];rfl
 rw [eR]
 generalize over (fun _=>0) 0 m bs=Z at *
 have hA':RowAt .u8 (W.setCells (w.heap.size+1) 0 (ints .u8 m bs)) w.heap.size 0 16 (fun _=>0):=hA.farCells (by omega) _ _
 have hb':Below w.heap.size w (W.setCells (w.heap.size+1) 0 (ints .u8 m bs)):=below_setCells (by omega) _ _ _ hbW
 obtain ⟨V,hV⟩:∃ V,V=W.setCells (w.heap.size+1) 0 (ints .u8 m bs):=⟨_,rfl⟩
 have HV:=Hid.mk' hV
 rw [←hV] at hR hA' hb'
 have hi1:=infoS Z
 have hi2:=infoSA Z
 have ho:=oneU 16 Z
 have hth2:V.there w.heap.size 0 (ints .u8 16 Z).toArray.size:=by rw [ints_size];exact hA'.there
 have hrg:=hR.range
 unfold sqV
 have Hm:=Hid.mk' hm
 clear hW hV hA hB hv hsrc eR hR hm
 go_enter Tryz.func277,Tryz.ntmps277
 go_wp2_with (first
  | (rw [←HW.out];refine wpList_copy_bytes rfl _ _ 22 22 rfl 5 Tryz.underlying22 hsz (w.heap.size+1) 0 16 16 xo n cx rfl rfl m bs src Hm.out hth ?_;rw [←HV.out])
  | (refine wpList_load_mid rfl 286 _ rfl (w.heap.size+1) 0 rfl (ints .u8 16 Z) _ hrg Tryz.underlying286 rfl hi1 ?_)
  | (refine wpList_store_mid rfl 286 _ _ rfl w.heap.size 0 (ints .u8 16 Z).toArray rfl rfl hth2 hi2 ho ?_))
 (try simp only [Exit.inBlock,Exit.then])
 refine bodyPost_ret (results_cell_mid Tryz.results277 _ _ w.heap.size 0 (ints .u8 16 Z) _ rfl (World.rangeAt_setCells_same _ _ _ _ (by rw [ints_len];exact hA'.there)) Tryz.underlying286 rfl hi1) rfl ⟨rfl,?_⟩
 exact below_setCells (Nat.le_refl _) _ _ _ hb'
set_option maxRecDepth 20000 in
set_option maxHeartbeats 2000000 in
theorem boxed_any (X:Nat→Nat) (hX:B16 X) (w:World) :
 Calls Tryz.prog 280 #[sqV X] w fun e w'=>e = .returned (sqV (thrN boxN X))∧Below w.heap.size w w':=by
 have hz:=zeroS
 have hzB:=zeroB
 have cb:=boxes_any
 have hi3:=infoS X
 have hj2:=infoBA boxN
 have hjo:=oneU 256 boxN
 have hix:=fun k hk=>index_u8 Tryz.underlying286 X k hk .i64
 obtain ⟨W,hW,hWs,hbW,hA,hC⟩:=two_new X (fun _=>0) w (zb 16) zb16 286 286
 have HW:=Hid.mk' hW.symm
 have cbW:=cb W
 obtain ⟨Z,hZ⟩:∃ Z:Nat→Nat,Z=thrN boxN X:=⟨_,rfl⟩
 have HZ:∀ j,boxN (X j)=Z j:=fun j=>by rw [hZ];rfl
 rw [←hZ]
 generalize boxN=F at *
 unfold sqV
 clear hW hZ cb
 go_enter Tryz.func280,Tryz.ntmps280
 go_upto_region 2 with (first
  | (rw [←HW.out];go_at_call 290;refine cbW.mono ?_;clear cbW;rintro e w1 ⟨rfl,hb1⟩;(have hT1:=RowAt.zero w1 256 300);(have hA1:=(hA.below hb1 (by omega)).alloc (by have:=hb1.size;omega) (.cells (zb 256) 300));(have hC1:=(hC.below hb1 (by omega)).alloc (by have:=hb1.size;omega) (.cells (zb 256) 300));(have b1:Below w.heap.size w (w1.alloc (.cells (zb 256) 300)):=(hbW.trans (hb1.mono (by omega))).alloc (by have:=hb1.size;omega) _);(have hth:(w1.alloc (.cells (zb 256) 300)).there w1.heap.size 0 (ints .u8 256 F).toArray.size:=by rw [ints_size];exact hT1.there);have hs1:=hb1.size;clear hb1 hA hC hbW)
  | (refine wpList_store_mid rfl 300 _ _ rfl w1.heap.size 0 (ints .u8 256 F).toArray rfl rfl hth hj2 hjo ?_))
 dsimp only [Act.put]
 have hT2:=hT1.stored (L:=F)
 have hA2:=hA1.farCells (show w.heap.size≠w1.heap.size by omega) 0 (ints .u8 256 F)
 have hC2:=hC1.farCells (show w.heap.size+1≠w1.heap.size by omega) 0 (ints .u8 256 F)
 have b2:=below_setCells (show w.heap.size≤w1.heap.size by omega) (ints .u8 256 F) 0 _ b1
 have hg:w.heap.size+1<w1.heap.size:=by omega
 generalize (w1.alloc (.cells (zb 256) 300)).setCells w1.heap.size 0 (ints .u8 256 F)=V at *
 generalize w1.heap.size=g at *
 have hAr:=hA2.range
 clear hT1 hA1 hC1 b1 hth hs1 hzB hz hj2 hjo HW
 go_wp2_with (first
  | (refine wpList_load_mid rfl 286 _ rfl w.heap.size 0 rfl (ints .u8 16 X) _ hAr Tryz.underlying286 rfl hi3 ?_))
 clear hAr
 go_loopw [8] (fun i wr=>∃ k:Nat,k≤16∧i = .int .i64 k∧RowAt .u8 wr w.heap.size 0 16 (pr Z X k)∧RowAt .u8 wr g 0 256 F∧RowAt .u8 wr (w.heap.size+1) 0 16 (fun _=>0)∧Below w.heap.size w wr) (fun i _=>16 - (intOf i).toNat)
 case atStart=>exact ⟨0,Nat.zero_le _,rfl,hA2,hT2,hC2,b2⟩
 case round =>
  clear hA2 hT2 hC2 b2
  obtain ⟨k,hk,rfl,hA,hT,hC,hb⟩:=hrel
  by_cases hlt:k<16
  · obtain ⟨rk,fk⟩:=hA k hlt
    rw [Nat.zero_add] at rk fk
    rw [pr_at] at rk
    have hi:=hix k hlt
    obtain ⟨rt,-⟩:=hT (X k) (hX k hlt)
    rw [Nat.zero_add,HZ] at rt
    have hxk:=hX k hlt
    have hs:=hA.next hlt (v:=(Z k:Int)) rfl
    clear hix
    go_wp2_with (rw [hi])
    go_roundw
    case rel=>exact ⟨k+1,by omega,by go_num,hs,hT.far (by show w.heap.size≠g;omega) _,hC.far (by show w.heap.size≠w.heap.size+1;omega) _,hb.setCell (Nat.le_refl _) _⟩
    case measure=>simp [intOf];omega
  · obtain rfl:k=16:=by omega
    have hA':RowAt .u8 wr w.heap.size 0 16 Z:=hA.congr (fun j hj=>pr_full Z X hj)
    have hi1:=infoS Z
    have hi2:=infoSA Z
    have ho:=oneU 16 Z
    have hth:wr.there (w.heap.size+1) 0 (ints .u8 16 Z).toArray.size:=by rw [ints_size];exact hC.there
    go_wp2_with (first
     | (refine wpList_load_mid rfl 286 _ rfl w.heap.size 0 rfl (ints .u8 16 Z) _ hA'.range Tryz.underlying286 rfl hi1 ?_)
     | (refine wpList_store_mid rfl 286 _ _ rfl (w.heap.size+1) 0 (ints .u8 16 Z).toArray rfl rfl hth hi2 ho ?_))
    (try simp only [Exit.inBlock,Exit.then])
    refine bodyPost_ret (results_cell_mid Tryz.results280 _ _ (w.heap.size+1) 0 (ints .u8 16 Z) _ rfl (World.rangeAt_setCells_same _ _ _ _ (by rw [ints_len];exact hC.there)) Tryz.underlying286 rfl hi1) rfl ⟨rfl,?_⟩
    exact below_setCells (by omega) _ _ _ hb
set_option maxRecDepth 20000 in
set_option maxHeartbeats 2000000 in
theorem turned_any (X:Nat→Nat) (w:World) :
 Calls Tryz.prog 281 #[sqV X] w fun e w'=>e = .returned (sqV (tuN X))∧Below w.heap.size w w':=by
 have hz:=zeroS
 obtain ⟨V,hV,hVs,hbV,hA0,hB0⟩:=two_new X (fun _=>0) w (zb 16) zb16 286 286
 obtain ⟨W,hW⟩:∃ W,W=V.alloc (.cells (zb 16) 286):=⟨_,rfl⟩
 have hbW:Below w.heap.size w W:=by rw [hW];exact hbV.alloc (by omega) _
 have hA:RowAt .u8 W w.heap.size 0 16 X:=by rw [hW];exact hA0.alloc (by omega) _
 have hB:RowAt .u8 W (w.heap.size+1) 0 16 (fun _=>0):=by rw [hW];exact hB0.alloc (by omega) _
 have hC:RowAt .u8 W (w.heap.size+1+1) 0 16 (fun _=>0):=by rw [hW,←hVs];exact RowAt.zero V 16 _
 rw [←hV] at hW
 have HW:=Hid.mk' hW
 unfold sqV
 obtain ⟨Z,hZ⟩:∃ Z:Nat→Nat,Z=tuN X:=⟨_,rfl⟩
 have HZ:∀ j,X ((j+4*(j%4))%16)=Z j:=fun j=>by rw [hZ];rfl
 rw [←hZ]
 clear hW hV hZ hA0 hB0 hbV hVs
 go_enter Tryz.func281,Tryz.ntmps281
 go_wp2
 rw [←HW.out]
 go_loopw [5] (fun i wr=>∃ k:Nat,k≤16∧i = .int .i64 k∧RowAt .u8 wr w.heap.size 0 16 X∧RowAt .u8 wr (w.heap.size+1) 0 16 (fun _=>0)∧RowAt .u8 wr (w.heap.size+1+1) 0 16 (pr Z (fun _=>0) k)∧Below w.heap.size w wr) (fun i _=>16 - (intOf i).toNat)
 case atStart=>exact ⟨0,Nat.zero_le _,rfl,hA,hB,hC,hbW⟩
 case round =>
  clear hA hB hC hbW hz
  obtain ⟨k,hk,rfl,hA,hB,hC,hb⟩:=hrel
  by_cases hlt:k<16
  · obtain ⟨rk,fk⟩:=hC k hlt
    rw [Nat.zero_add] at rk fk
    obtain ⟨rx,-⟩:=hA ((k+4*(k%4))%16) (by omega)
    rw [Nat.zero_add,HZ] at rx
    have q1:(((k:Int)+4*((k:Int)%4))%16).toNat=(k+4*(k%4))%16:=by omega
    have q2:(0:Int)≤((k:Int)+4*((k:Int)%4))%16∧((k:Int)+4*((k:Int)%4))%16<16:=by omega
    have hs:=hC.next hlt (v:=(Z k:Int)) rfl
    clear HZ
    go_wp2
    go_roundw
    case rel=>exact ⟨k+1,by omega,by go_num,hA.far (by show w.heap.size+1+1≠w.heap.size;omega) _,hB.far (by show w.heap.size+1+1≠w.heap.size+1;omega) _,hs,hb.setCell (by show w.heap.size≤w.heap.size+1+1;omega) _⟩
    case measure=>simp [intOf];omega
  · obtain rfl:k=16:=by omega
    have hA':RowAt .u8 wr (w.heap.size+1+1) 0 16 Z:=hC.congr (fun j hj=>pr_full Z _ hj)
    have hi1:=infoS Z
    have hi2:=infoSA Z
    have ho:=oneU 16 Z
    have hth:wr.there (w.heap.size+1) 0 (ints .u8 16 Z).toArray.size:=by rw [ints_size];exact hB.there
    go_wp2_with (first
     | (refine wpList_load_mid rfl 286 _ rfl (w.heap.size+1+1) 0 rfl (ints .u8 16 Z) _ hA'.range Tryz.underlying286 rfl hi1 ?_)
     | (refine wpList_store_mid rfl 286 _ _ rfl (w.heap.size+1) 0 (ints .u8 16 Z).toArray rfl rfl hth hi2 ho ?_))
    (try simp only [Exit.inBlock,Exit.then])
    refine bodyPost_ret (results_cell_mid Tryz.results281 _ _ (w.heap.size+1) 0 (ints .u8 16 Z) _ rfl (World.rangeAt_setCells_same _ _ _ _ (by rw [ints_len];exact hB.there)) Tryz.underlying286 rfl hi1) rfl ⟨rfl,?_⟩
    exact below_setCells (by omega) _ _ _ hb
end Go.Proofs.YtibdhadbflfdpaaGreatDoor
