/- What the proof stands on: G9Math, G9Byt, G9RT, G9Pad, G9RF, G9RH. -/
import Derived.Test.YtibdhadbflfdpaaGreatDoorA8MathM
import Derived.Test.YtibdhadbflfdpaaGreatDoorA8RBlk
import Derived.Test.YtibdhadbflfdpaaGreatDoorBase
namespace Go.Proofs.YtibdhadbflfdpaaGreatDoor
abbrev V8:=BitVec 128
abbrev vZ:V8:=BitVec.ofNat 128 0
abbrev v1:V8:=BitVec.ofNat 128 1
abbrev vC:V8:=BitVec.ofNat 128 135
def gX (v:V8):V8:=(v <<< 1) ^^^ (if v.msb then vC else vZ)
def gXp:Nat→V8→V8
 | 0,a=>a
 | i+1,a=>gX (gXp i a)
def gT (b:V8):Nat→V8→V8
 | 0,_=>vZ
 | i+1,a=>gT b i a ^^^ (if b.getLsbD i then gXp i a else vZ)
def gTm (a b:V8):V8:=gT b 128 a
end Go.Proofs.YtibdhadbflfdpaaGreatDoor
namespace Go.Proofs.YtibdhadbflfdpaaGreatDoor
def gbitN (X:Nat→Nat) (i:Nat):Bool:=(X (i / 8)).testBit (7 - i%8)
def tvN (X:Nat→Nat):Nat→V8
 | 0=>vZ
 | i+1=>tvN X i ^^^ (if gbitN X i then BitVec.twoPow 128 i else vZ)
def toV (X:Nat→Nat):V8:=tvN X 128
theorem tvN_bit (X:Nat→Nat) (j:Nat):∀ i,i≤128→(tvN X i).getLsbD j=(decide (j<i) && gbitN X j)
 | 0,_=>by
  show (vZ:V8).getLsbD j=_
  simp
 | i+1,hi=>by
  show (tvN X i ^^^ (if gbitN X i then BitVec.twoPow 128 i else vZ)).getLsbD j=_
  rw [BitVec.getLsbD_xor,tvN_bit X j i (by omega)]
  by_cases h:gbitN X i
  · rw [if_pos h,BitVec.getLsbD_twoPow]
    by_cases e:i=j
    · subst e
      simp [h]
      omega
    · have:decide (i=j)=false:=decide_eq_false e
      simp only [this,Bool.and_false,Bool.xor_false]
      congr 1
      exact decide_eq_decide.2 ⟨fun h=>by omega,fun h=>by omega⟩
  · rw [if_neg h]
    by_cases e:i=j
    · subst e
      simp [h]
    · simp only [BitVec.getLsbD_zero,Bool.xor_false]
      congr 1
      exact decide_eq_decide.2 ⟨fun h=>by omega,fun h=>by omega⟩
theorem toV_bit (X:Nat→Nat) (j:Nat) (hj:j<128):(toV X).getLsbD j=gbitN X j:=by
 unfold toV
 rw [tvN_bit X j 128 (Nat.le_refl _),decide_eq_true hj,Bool.true_and]
theorem toV_S {X Y:Nat→Nat} (h:S16 X Y):toV X=toV Y:=by
 apply BitVec.eq_of_getLsbD_eq
 intro j hj
 rw [toV_bit X j hj,toV_bit Y j hj]
 unfold gbitN
 rw [h (j / 8) (by omega)]
theorem toV_xor (X Y:Nat→Nat):toV (fun j=>X j ^^^ Y j)=toV X ^^^ toV Y:=by
 apply BitVec.eq_of_getLsbD_eq
 intro j hj
 rw [BitVec.getLsbD_xor,toV_bit _ j hj,toV_bit X j hj,toV_bit Y j hj]
 unfold gbitN
 rw [Nat.testBit_xor]
def byB (v:V8) (j:Nat):Nat→Nat
 | 0=>0
 | t+1=>byB v j t ||| (if v.getLsbD (8*j+(7 - t)) then 2 ^ t else 0)
def byV (v:V8) (j:Nat):Nat:=byB v j 8
theorem byB_bit (v:V8) (j t:Nat):∀ n,(byB v j n).testBit t=(decide (t<n) && v.getLsbD (8*j+(7 - t)))
 | 0=>by simp [byB]
 | n+1=>by
  show (byB v j n ||| (if v.getLsbD (8*j+(7 - n)) then 2 ^ n else 0)).testBit t=_
  rw [Nat.testBit_or,byB_bit v j t n]
  by_cases e:t=n
  · subst e
    by_cases h:v.getLsbD (8*j+(7 - t))
    · rw [if_pos h,Nat.testBit_two_pow_self];simp [h]
    · rw [if_neg h];simp [h]
  · have e1:(if v.getLsbD (8*j+(7 - n))=true then 2 ^ n else 0).testBit t=false:=by
     split
     · rw [Nat.testBit_two_pow];simp;omega
     · simp
    rw [e1,Bool.or_false]
    congr 1
    exact decide_eq_decide.2 ⟨fun h=>by omega,fun h=>by omega⟩
theorem byB_lt (v:V8) (j:Nat):∀ n,byB v j n<2 ^ n
 | 0=>(by decide:0<1)
 | n+1=>by
  show (byB v j n ||| (if v.getLsbD (8*j+(7 - n)) then 2 ^ n else 0))<2 ^ (n+1)
  refine Nat.or_lt_two_pow (Nat.lt_trans (byB_lt v j n) (Nat.pow_lt_pow_right (by decide) (by omega))) ?_
  split
  · exact Nat.pow_lt_pow_right (by decide) (by omega)
  · exact Nat.two_pow_pos _
theorem byV_lt (v:V8) (j:Nat):byV v j<256:=byB_lt v j 8
theorem byV_toV {X:Nat→Nat} (hX:B16 X):S16 (byV (toV X)) X:=fun j hj=>by
 apply Nat.eq_of_testBit_eq
 intro t
 unfold byV
 rw [byB_bit]
 by_cases h:t<8
 · rw [decide_eq_true h,Bool.true_and,toV_bit X _ (by omega)]
   unfold gbitN
   rw [show (8*j+(7 - t)) / 8=j by omega,show 7 - (8*j+(7 - t))%8=t by omega]
 · rw [decide_eq_false h,Bool.false_and]
   exact (Nat.testBit_lt_two_pow (Nat.lt_of_lt_of_le (hX j hj) (Nat.pow_le_pow_right (n:=2) (by decide) (show 8≤t by omega)))).symm
theorem toV_byV (v:V8):toV (byV v)=v:=by
 apply BitVec.eq_of_getLsbD_eq
 intro i hi
 rw [toV_bit _ i hi]
 unfold gbitN byV
 rw [byB_bit,decide_eq_true (by omega),Bool.true_and]
 congr 1
 omega
theorem toV_inj {X Y:Nat→Nat} (hX:B16 X) (hY:B16 Y) (h:toV X=toV Y):S16 X Y:=((byV_toV hX).symm.trans (by rw [h];exact fun _ _=>rfl)).trans (byV_toV hY)
def shN (X:Nat→Nat) (j:Nat):Nat:=if j=0 then (if gbitN X 127 then X 0 / 2 ^^^ 225 else X 0 / 2) else (X j / 2 ||| X (j - 1)*128%256)
theorem shN_B {X:Nat→Nat} (hX:B16 X):B16 (shN X):=fun j hj=>by
 unfold shN
 have h:=hX j hj
 split
 · subst_vars
   split
   · exact xor_byte (by omega) (by decide)
   · omega
 · exact Nat.or_lt_two_pow (n:=8) (show X j / 2<2 ^ 8 by omega) (Nat.mod_lt _ (by decide))
theorem c135:∀ i,i<8→(vC:V8).getLsbD i=(225:Nat).testBit (7 - i):=by decide
theorem c135':∀ i,i<128→8≤i→(vC:V8).getLsbD i=false:=by decide +kernel
theorem gX_bit (v:V8) (i:Nat) (hi:i<128):(gX v).getLsbD i=((decide (0<i) && v.getLsbD (i - 1)) ^^ (v.getLsbD 127 && (vC:V8).getLsbD i)):=by
 unfold gX
 rw [BitVec.getLsbD_xor,BitVec.getLsbD_shiftLeft]
 have hm:v.msb=v.getLsbD 127:=rfl
 rw [hm]
 have e1:(decide (i<128) && !decide (i<1) && v.getLsbD (i - 1))=(decide (0<i) && v.getLsbD (i - 1)):=by
  rw [decide_eq_true hi,Bool.true_and]
  congr 1
  by_cases h:i<1
  · rw [decide_eq_true h,decide_eq_false (by omega)];rfl
  · rw [decide_eq_false h,decide_eq_true (by omega)];rfl
 rw [e1]
 congr 1
 by_cases h:v.getLsbD 127
 · rw [if_pos h,h,Bool.true_and]
 · rw [if_neg h,eq_false_of_ne_true h,Bool.false_and]
   exact BitVec.getLsbD_zero
theorem sh_gX {X:Nat→Nat} (hX:B16 X):toV (shN X)=gX (toV X):=by
 apply BitVec.eq_of_getLsbD_eq
 intro i hi
 rw [toV_bit _ i hi,gX_bit _ i hi,toV_bit X 127 (by decide)]
 unfold gbitN
 by_cases hj:i / 8=0
 · have hi8:i<8:=by omega
   rw [hj,show i%8=i by omega]
   have e:(shN X 0).testBit (7 - i)=((X 0 / 2).testBit (7 - i) ^^ (gbitN X 127 && (225:Nat).testBit (7 - i))):=by
    unfold shN
    rw [if_pos rfl]
    by_cases h:gbitN X 127
    · rw [if_pos h,Nat.testBit_xor,h,Bool.true_and]
    · rw [if_neg h];simp [h]
   rw [e,←c135 i hi8]
   congr 1
   rw [Nat.testBit_div_two]
   by_cases h0:i=0
   · subst h0
     simp only [Nat.lt_irrefl,decide_false,Bool.false_and]
     exact Nat.testBit_lt_two_pow (hX 0 (by decide))
   · rw [decide_eq_true (by omega),Bool.true_and,toV_bit X _ (by omega)]
     unfold gbitN
     rw [show (i - 1) / 8=0 by omega,show 7 - (i - 1)%8=7 - i+1 by omega]
 · rw [c135' i hi (by omega),Bool.and_false,Bool.xor_false,decide_eq_true (by omega),Bool.true_and,toV_bit X _ (by omega)]
   unfold gbitN shN
   rw [if_neg hj,Nat.testBit_or,Nat.testBit_div_two]
   by_cases h0:i%8=0
   · rw [h0,show (i - 1) / 8=i / 8 - 1 by omega,show 7 - (i - 1)%8=0 by omega]
     rw [Nat.testBit_lt_two_pow (show X (i / 8)<2 ^ (7 - 0+1) from hX _ (by omega)),Bool.false_or]
     show (X (i / 8 - 1)*2 ^ 7%2 ^ 8).testBit 7=_
     rw [Nat.testBit_mod_two_pow,Nat.testBit_mul_two_pow]
     simp
   · rw [show (i - 1) / 8=i / 8 by omega,show 7 - (i - 1)%8=7 - i%8+1 by omega]
     have e:(X (i / 8 - 1)*128%256).testBit (7 - i%8)=false:=by
      show (X (i / 8 - 1)*2 ^ 7%2 ^ 8).testBit (7 - i%8)=false
      rw [Nat.testBit_mod_two_pow,Nat.testBit_mul_two_pow,decide_eq_false (show ¬7 - i%8≥7 by omega)]
      simp
     rw [e,Bool.or_false]
def tmN (a b:Nat→Nat) (j:Nat):Nat:=byV (gTm (toV a) (toV b)) j
theorem tmN_lt (a b:Nat→Nat) (j:Nat):tmN a b j<256:=byV_lt _ j
def tmX (a:Nat→Nat):Nat→Nat→Nat
 | 0=>a
 | i+1=>shN (tmX a i)
def tmP (a b:Nat→Nat):Nat→Nat→Nat
 | 0=>fun _=>0
 | i+1=>if gbitN b i then fun j=>tmP a b i j ^^^ tmX a i j else tmP a b i
theorem tmX_B {a:Nat→Nat} (ha:B16 a):∀ i,B16 (tmX a i)
 | 0=>ha
 | i+1=>shN_B (tmX_B ha i)
theorem tmP_B {a b:Nat→Nat} (ha:B16 a):∀ i,B16 (tmP a b i)
 | 0=>fun _ _=>(by decide:0<256)
 | i+1=>by
  unfold tmP
  split
  · exact fun j hj=>xor_byte (tmP_B ha i j hj) (tmX_B ha i j hj)
  · exact tmP_B ha i
theorem tmX_V {a:Nat→Nat} (ha:B16 a):∀ i,toV (tmX a i)=gXp i (toV a)
 | 0=>rfl
 | i+1=>by show toV (shN (tmX a i))=gX (gXp i (toV a));rw [sh_gX (tmX_B ha i),tmX_V ha i]
theorem toV_zero:toV (fun _=>0)=vZ:=by
 apply BitVec.eq_of_getLsbD_eq
 intro j hj
 rw [toV_bit _ j hj]
 simp [gbitN]
theorem tmP_V {a:Nat→Nat} (b:Nat→Nat) (ha:B16 a):∀ i,i≤128→toV (tmP a b i)=gT (toV b) i (toV a)
 | 0,_=>toV_zero
 | i+1,hi=>by
  show toV (if gbitN b i then fun j=>tmP a b i j ^^^ tmX a i j else tmP a b i)=gT (toV b) i (toV a) ^^^ (if (toV b).getLsbD i then gXp i (toV a) else vZ)
  rw [toV_bit b i (by omega)]
  by_cases h:gbitN b i
  · rw [if_pos h,if_pos h,toV_xor,tmP_V b ha i (by omega),tmX_V ha i]
  · rw [if_neg h,if_neg h,tmP_V b ha i (by omega),BitVec.xor_zero]
theorem tmP_tm {a:Nat→Nat} (b:Nat→Nat) (ha:B16 a):S16 (tmP a b 128) (tmN a b):=by
 have h:=byV_toV (tmP_B (b:=b) ha 128)
 rw [tmP_V b ha 128 (Nat.le_refl _)] at h
 exact h.symm
end Go.Proofs.YtibdhadbflfdpaaGreatDoor
namespace Go.Proofs.YtibdhadbflfdpaaGreatDoor
open Go.RowKit
theorem bit_fact (x k:Nat) (hx:x<256):(bits .and .u8 ((x:Int) / 2 ^ k) 1 == 1)=x.testBit k:=by
 have q1:=u8_and_nat (x / 2 ^ k) 1 (Nat.lt_of_le_of_lt (Nat.div_le_self _ _) hx) (by decide)
 rw [Nat.and_one_is_mod] at q1
 have q2:bits .and .u8 ((x:Int) / 2 ^ k) 1=((x / 2 ^ k%2:Nat):Int):=by rw [←q1];simp
 rw [q2,Nat.testBit_eq_decide_div_mod_eq]
 by_cases h:x / 2 ^ k%2=1
 · rw [h];rfl
 · have h0:x / 2 ^ k%2=0:=by omega
   rw [h0];rfl
set_option maxHeartbeats 1000000 in
theorem bit_any (v:Value) (X:Nat→Nat) (i:Nat) (hi:i<128) (hX:B16 X) (w:World) (hv:BytesIn w v 16 X) :
 Calls Tryz.prog 285 #[v,.int .i64 i] w fun e w'=>e = .returned (.bool (gbitN X i))∧w'=w:=by
 obtain ⟨bb,ob,cb,rfl,hbb,hcb,hcell⟩:=hv.resolve_left (fun ⟨_,_,h⟩=>by omega)
 have r:=hcell (i / 8) (by omega)
 have hq:=bit_fact (X (i / 8)) (7 - i%8) (hX _ (by omega))
 rw [show (X (i / 8)).testBit (7 - i%8)=gbitN X i from rfl] at hq
 generalize gbitN X i=B at *
 generalize X (i / 8)=x at *
 have q1:(0:Int)≤(i:Int) / 8∧(i:Int) / 8<16:=by omega
 have q2:((i:Int) / 8).toNat=i / 8:=by omega
 have q3:(7 - (i:Int)%8).toNat=7 - i%8:=by omega
 have q4:(0:Int)≤7 - (i:Int)%8∧7 - (i:Int)%8<8:=by omega
 clear hcell hX hv
 go_enter Tryz.func285,Tryz.ntmps285
 go_wp2
 go_ret
 exact ⟨rfl,rfl⟩
def shK (X:Nat→Nat) (k j:Nat):Nat:=if k<j then (X j / 2 ||| X (j - 1)*128%256) else X j
set_option maxRecDepth 20000 in
set_option maxHeartbeats 8000000 in
theorem rtm_any (v u:Value) (a b:Nat→Nat) (ha:B16 a) (hbB:B16 b) (w:World) (hv:BytesIn w v 16 a) (hu:BytesIn w u 16 b) :
 Calls Tryz.prog 268 #[v,u] w fun e w'=>∃ s,e = .returned s∧RowF w.heap.size w' s 16 (tmN a b)∧Below w.heap.size w w':=by
 have hmk:=make_bytes w 16 16 rfl (by decide)
 have hp0:=RowAt.zero w 16 5
 have b1:Below w.heap.size w (w.alloc (.cells (zb 16) 5)):=(Below.refl _ _).alloc (Nat.le_refl _) _
 have hW1:(w.alloc (.cells (zb 16) 5)).heap.size=w.heap.size+1:=by simp
 obtain ⟨xv,cv,rfl,hxn,-,hsrc⟩:=hv.src
 generalize w.alloc (.cells (zb 16) 5)=W at *
 have bA:Below W.heap.size W (W.alloc (.cells #[] 5)):=(Below.refl _ _).alloc (Nat.le_refl _) _
 have src0:=hsrc _ (below_next b1 bA)
 have hfin:=tmP_tm b ha
 have hP0:tmP a b 0=fun _=>0:=rfl
 have hX0:tmX a 0=a:=rfl
 obtain ⟨xu,cu,rfl,-,-,-⟩:=hu.src
 generalize tmN a b=Z at *
 have HW1:=Hid.mk' hW1
 clear hsrc hv bA hW1
 go_enter Tryz.func268,Tryz.ntmps268
 go_wp2_with (first
  | rw [hmk]
  | (at_builtin;refine wpList_append_empty rfl (.tmp 12) (.tmp 13) rfl W.heap.size a _ rfl rfl xv 16 cv rfl src0 hxn (by decide) (Nat.le_refl _) ?_;intro v2 w2 own2 hb2;(obtain ⟨gx,cx,hv2,hgx,-,hcx,hx0⟩:=own2.form.resolve_left (fun h=>by omega));subst hv2;clear src0 own2))
 have hW1:=HW1.out
 have hp1:=hp0.still hb2
 have bw0:=below_next b1 hb2
 have ngx:w.heap.size<gx:=by omega
 clear hp0 hb2 b1 hW1 hgx hmk hxn
 go_loopw [7] (fun i wr=>∃ k:Nat,k≤128∧i = .int .i64 k∧RowAt .u8 wr w.heap.size 0 16 (tmP a b k)∧RowAt .u8 wr gx 0 16 (tmX a k)∧Below w.heap.size w wr) (fun i _=>128 - (intOf i).toNat)
 case atStart=>exact ⟨0,Nat.zero_le _,rfl,hp1,hx0,bw0⟩
 case round =>
  clear hp1 hx0 bw0
  obtain ⟨i,hi,rfl,hp,hx,bw⟩:=hrel
  by_cases hlt:i<128
  · have cb:=bit_any (.slice xu 16 cu) b i hlt hbB wr (hu.keep bw)
    have hnx:tmP a b (i+1)=if gbitN b i then fun j=>tmP a b i j ^^^ tmX a i j else tmP a b i:=rfl
    have hii:(0:Int)≤(i:Int)∧(i:Int)<128:=by omega
    by_cases hbit:gbitN b i=true
    · rw [if_pos hbit] at hnx
      rw [hbit] at cb
      have hpB:=tmP_B (b:=b) ha i
      have hxB:=tmX_B ha i
      obtain ⟨Q,hQ⟩:∃ Q,Q=tmP a b i:=⟨_,rfl⟩
      obtain ⟨X,hX⟩:∃ X,X=tmX a i:=⟨_,rfl⟩
      obtain ⟨Q2,hQ2⟩:∃ Q2,Q2=tmP a b (i+1):=⟨_,rfl⟩
      rw [←hQ,←hX,←hQ2] at hnx
      rw [←hQ] at hp hpB
      rw [←hX] at hx hxB
      have hqe:∀ j,Q j ^^^ X j=Q2 j:=fun j=>by rw [hnx]
      clear hnx hbit
      go_upto_region 7 with (go_at_call 285;refine cb.mono ?_;clear cb;rintro e w3 ⟨rfl,hw3⟩;subst hw3)
      go_wp2
      go_loopw [8] (fun k wq=>∃ m:Nat,m≤16∧k = .int .i64 m∧RowAt .u8 wq w.heap.size 0 16 (pr Q2 Q m)∧RowAt .u8 wq gx 0 16 X∧Below w.heap.size w wq) (fun k _=>16 - (intOf k).toNat)
      case atStart=>exact ⟨0,Nat.zero_le _,rfl,hp,hx,bw⟩
      case round =>
       clear hp hx bw
       obtain ⟨m,hm,rfl,hp,hx,bw⟩:=hrel
       by_cases hlm:m<16
       · obtain ⟨r1,f1⟩:=hp m hlm
         obtain ⟨r2,-⟩:=hx m hlm
         rw [Nat.zero_add] at r1 f1 r2
         rw [pr_at] at r1
         have hq:=u8_xor_nat (Q m) (X m) (hpB m hlm) (hxB m hlm)
         rw [hqe m] at hq
         have hs:=hp.next hlm (v:=(Q2 m:Int)) rfl
         have q1:(0:Int)≤(m:Int)∧(m:Int)<16:=by omega
         have m1:m+1≤16:=by omega
         have n1:¬w.heap.size=gx:=by omega
         clear hqe hpB hxB hQ hX hQ2 hfin hP0 hX0 ha hbB hu
         go_wp2
         go_region
         go_wp2
         go_roundw
         case rel=>exact ⟨m+1,m1,by go_num,hs.drew,(hx.far (by show w.heap.size≠gx;omega) _).drew,(bw.setCell (Nat.le_refl _) _).drew⟩
         case measure=>simp [intOf];omega
       · obtain rfl:m=16:=by omega
         replace hp:=hp.congr (fun j hj=>pr_full Q2 Q hj)
         rw [hQ2] at hp
         clear hqe hpB hQ hQ2
         rw [hX] at hx
         clear hxB hX
         have ct:=bit_any (.slice (some ⟨gx,0,none⟩) 16 cx) (tmX a i) 127 (by decide) (tmX_B ha i)
         have hxw:=hx
         go_upto_region 12 with (go_at_call 285;refine (ct _ (rowB hxw (by decide) hcx)).mono ?_;clear ct;rintro e w9 ⟨rfl,hw9⟩;subst hw9)
         obtain ⟨top,htop⟩:∃ top,top=gbitN (tmX a i) 127:=⟨_,rfl⟩
         rw [←htop]
         have hxB:=tmX_B ha i
         have hsn:∀ j,tmX a (i+1) j=shN (tmX a i) j:=fun _=>rfl
         have hpB:=tmP_B (b:=b) ha (i+1)
         generalize hX:tmX a i=X at *
         clear hxw
         go_wp2
         go_loopw [10] (fun k wq=>∃ m:Nat,m≤15∧k = .int .i64 m∧RowAt .u8 wq gx 0 16 (shK X m)∧RowAt .u8 wq w.heap.size 0 16 (tmP a b (i+1))∧Below w.heap.size w wq) (fun k _=>(intOf k).toNat)
         case atStart=>exact ⟨15,Nat.le_refl _,rfl,hx.congr (fun j hj=>by unfold shK;rw [if_neg (by omega)]),hp,bw⟩
         case round =>
          clear hx hp bw
          obtain ⟨m,hm,rfl,hx,hp,bw⟩:=hrel
          by_cases h0:0<m
          · obtain ⟨n,rfl⟩:∃ n,m=n+1:=⟨m - 1,by omega⟩
            obtain ⟨r1,f1⟩:=hx (n+1) (by omega)
            obtain ⟨r2,-⟩:=hx n (by omega)
            rw [Nat.zero_add] at r1 f1 r2
            rw [show shK X (n+1) (n+1)=X (n+1) from if_neg (by omega)] at r1
            rw [show shK X (n+1) n=X n from if_neg (by omega)] at r2
            have b1:=hxB (n+1) (by omega)
            have b2:=hxB n (by omega)
            have hq:=u8_or_nat (X (n+1) / 2) (X n*128%256) (by omega) (Nat.mod_lt _ (by decide))
            have hs:=hx.set (i:=n+1) (by omega) (v:=((X (n+1) / 2 ||| X n*128%256:Nat):Int)) (u:=X (n+1) / 2 ||| X n*128%256) rfl
            rw [Nat.zero_add] at hs
            replace hs:=hs.congr (Y:=shK X n) (fun j _=>by
             unfold upd shK
             by_cases e:j=n+1
             · subst e;rw [if_pos rfl,if_pos (by omega)];rfl
             · rw [if_neg e]
               by_cases e2:n+1<j
               · rw [if_pos e2,if_pos (by omega)]
               · rw [if_neg e2,if_neg (by omega)])
            obtain ⟨y,hy⟩:∃ y,y=X (n+1) / 2 ||| X n*128%256:=⟨_,rfl⟩
            rw [←hy] at hq hs
            push_cast at hq
            generalize X (n+1)=x1 at *
            generalize X n=x0 at *
            have q1:(0:Int)<((n+1:Nat):Int):=by omega
            have q2:((n+1:Nat):Int) - 1=(n:Int):=by omega
            have q2':IntKind.i64.wrap (((n+1:Nat):Int) - 1)=(n:Int):=by simp only [IntKind.wrap_i64];omega
            have q3:(0:Int)≤((n+1:Nat):Int)∧((n+1:Nat):Int)<16:=by omega
            have q4:(0:Int)≤(n:Int)∧(n:Int)<16:=by omega
            have q5:((n+1:Nat):Int).toNat=n+1:=by omega
            have m1:n≤15:=by omega
            clear hy hsn hX htop hxB hpB ha hbB
            go_wp2
            go_region
            go_wp2
            go_roundw
            case rel=>exact ⟨n,m1,by go_num,hs.drew,(hp.far (by show gx≠w.heap.size;omega) _).drew,(bw.setCell (by show w.heap.size≤gx;omega) _).drew⟩
            case measure=>simp [intOf]
          · obtain rfl:m=0:=by omega
            obtain ⟨r1,f1⟩:=hx 0 (by decide)
            rw [Nat.zero_add] at r1 f1
            rw [show shK X 0 0=X 0 from if_neg (by omega)] at r1
            have b1:=hxB 0 (by decide)
            have m1:i+1≤128:=by omega
            have hx1:=hx.set (i:=0) (by decide) (v:=((X 0 / 2:Nat):Int)) (u:=X 0 / 2) rfl
            have hp1:=hp.far (a:=⟨gx,0,none⟩) (by show gx≠w.heap.size;omega) (.int .u8 ((X 0 / 2:Nat):Int))
            have bw1:=bw.setCell (p:=⟨gx,0,none⟩) (by show w.heap.size≤gx;omega) (.int .u8 ((X 0 / 2:Nat):Int))
            by_cases ht:top=true
            · have hxf:∀ j,j<16→upd (upd (shK X 0) 0 (X 0 / 2)) 0 (X 0 / 2 ^^^ 225) j=tmX a (i+1) j:=fun j _=>by
               rw [hsn]
               unfold shN upd shK
               rw [←htop,ht]
               by_cases e:j=0
               · subst e;rw [if_pos rfl,if_pos rfl,if_pos rfl]
               · rw [if_neg e,if_neg e,if_neg e,if_pos (by omega)]
              obtain ⟨r2,f2⟩:=hx1 0 (by decide)
              rw [Nat.zero_add] at r2 f2
              have hq:=u8_xor_nat (X 0 / 2) 225 (by omega) (by decide)
              push_cast at hq
              have hx2:=(hx1.set (i:=0) (by decide) (v:=((X 0 / 2 ^^^ 225:Nat):Int)) (u:=X 0 / 2 ^^^ 225) rfl).congr hxf
              have hp2:=hp1.far (a:=⟨gx,0,none⟩) (by show gx≠w.heap.size;omega) (.int .u8 ((X 0 / 2 ^^^ 225:Nat):Int))
              have bw2:=bw1.setCell (p:=⟨gx,0,none⟩) (by show w.heap.size≤gx;omega) (.int .u8 ((X 0 / 2 ^^^ 225:Nat):Int))
              push_cast at hx2 hp2 bw2
              clear hxf hsn hX hxB hpB hx hp bw hx1 hp1 bw1 htop
              subst ht
              go_wp2
              go_roundw
              case rel=>exact ⟨i+1,m1,by go_num,hp2,hx2,bw2⟩
              case measure=>simp [intOf];omega
            · have hxf:∀ j,j<16→upd (shK X 0) 0 (X 0 / 2) j=tmX a (i+1) j:=fun j _=>by
               rw [hsn]
               unfold shN upd shK
               rw [←htop]
               by_cases e:j=0
               · subst e;rw [if_pos rfl,if_pos rfl,if_neg ht]
               · rw [if_neg e,if_neg e,if_pos (by omega)]
              have hx2:=hx1.congr hxf
              have hp2:=hp1
              have bw2:=bw1
              push_cast at hx2 hp2 bw2
              have ht':top=false:=eq_false_of_ne_true ht
              clear hxf hsn hX hxB hpB hx hp bw hx1 hp1 bw1 htop ht
              subst ht'
              go_wp2
              go_roundw
              case rel=>exact ⟨i+1,m1,by go_num,hp2,hx2,bw2⟩
              case measure=>simp [intOf];omega
    · have hbf:gbitN b i=false:=eq_false_of_ne_true hbit
      rw [if_neg hbit] at hnx
      rw [hbf] at cb
      rw [←hnx] at hp
      clear hnx hbit
      go_upto_region 11 with (go_at_call 285;refine cb.mono ?_;clear cb;rintro e w3 ⟨rfl,hw3⟩;subst hw3)
      have ct:=bit_any (.slice (some ⟨gx,0,none⟩) 16 cx) (tmX a i) 127 (by decide) (tmX_B ha i)
      have hxw:=hx
      go_upto_region 12 with (go_at_call 285;refine (ct _ (rowB hxw (by decide) hcx)).mono ?_;clear ct;rintro e w9 ⟨rfl,hw9⟩;subst hw9)
      obtain ⟨top,htop⟩:∃ top,top=gbitN (tmX a i) 127:=⟨_,rfl⟩
      rw [←htop]
      have hxB:=tmX_B ha i
      have hsn:∀ j,tmX a (i+1) j=shN (tmX a i) j:=fun _=>rfl
      have hpB:=tmP_B (b:=b) ha (i+1)
      generalize hX:tmX a i=X at *
      clear hxw
      go_wp2
      go_loopw [10] (fun k wq=>∃ m:Nat,m≤15∧k = .int .i64 m∧RowAt .u8 wq gx 0 16 (shK X m)∧RowAt .u8 wq w.heap.size 0 16 (tmP a b (i+1))∧Below w.heap.size w wq) (fun k _=>(intOf k).toNat)
      case atStart=>exact ⟨15,Nat.le_refl _,rfl,hx.congr (fun j hj=>by unfold shK;rw [if_neg (by omega)]),hp,bw⟩
      case round =>
       clear hx hp bw
       obtain ⟨m,hm,rfl,hx,hp,bw⟩:=hrel
       by_cases h0:0<m
       · obtain ⟨n,rfl⟩:∃ n,m=n+1:=⟨m - 1,by omega⟩
         obtain ⟨r1,f1⟩:=hx (n+1) (by omega)
         obtain ⟨r2,-⟩:=hx n (by omega)
         rw [Nat.zero_add] at r1 f1 r2
         rw [show shK X (n+1) (n+1)=X (n+1) from if_neg (by omega)] at r1
         rw [show shK X (n+1) n=X n from if_neg (by omega)] at r2
         have b1:=hxB (n+1) (by omega)
         have b2:=hxB n (by omega)
         have hq:=u8_or_nat (X (n+1) / 2) (X n*128%256) (by omega) (Nat.mod_lt _ (by decide))
         have hs:=hx.set (i:=n+1) (by omega) (v:=((X (n+1) / 2 ||| X n*128%256:Nat):Int)) (u:=X (n+1) / 2 ||| X n*128%256) rfl
         rw [Nat.zero_add] at hs
         replace hs:=hs.congr (Y:=shK X n) (fun j _=>by
          unfold upd shK
          by_cases e:j=n+1
          · subst e;rw [if_pos rfl,if_pos (by omega)];rfl
          · rw [if_neg e]
            by_cases e2:n+1<j
            · rw [if_pos e2,if_pos (by omega)]
            · rw [if_neg e2,if_neg (by omega)])
         obtain ⟨y,hy⟩:∃ y,y=X (n+1) / 2 ||| X n*128%256:=⟨_,rfl⟩
         rw [←hy] at hq hs
         push_cast at hq
         generalize X (n+1)=x1 at *
         generalize X n=x0 at *
         have q1:(0:Int)<((n+1:Nat):Int):=by omega
         have q2:((n+1:Nat):Int) - 1=(n:Int):=by omega
         have q2':IntKind.i64.wrap (((n+1:Nat):Int) - 1)=(n:Int):=by simp only [IntKind.wrap_i64];omega
         have q3:(0:Int)≤((n+1:Nat):Int)∧((n+1:Nat):Int)<16:=by omega
         have q4:(0:Int)≤(n:Int)∧(n:Int)<16:=by omega
         have q5:((n+1:Nat):Int).toNat=n+1:=by omega
         have m1:n≤15:=by omega
         clear hy hsn hX htop hxB hpB ha hbB
         go_wp2
         go_region
         go_wp2
         go_roundw
         case rel=>exact ⟨n,m1,by go_num,hs.drew,(hp.far (by show gx≠w.heap.size;omega) _).drew,(bw.setCell (by show w.heap.size≤gx;omega) _).drew⟩
         case measure=>simp [intOf]
       · obtain rfl:m=0:=by omega
         obtain ⟨r1,f1⟩:=hx 0 (by decide)
         rw [Nat.zero_add] at r1 f1
         rw [show shK X 0 0=X 0 from if_neg (by omega)] at r1
         have b1:=hxB 0 (by decide)
         have m1:i+1≤128:=by omega
         have hx1:=hx.set (i:=0) (by decide) (v:=((X 0 / 2:Nat):Int)) (u:=X 0 / 2) rfl
         have hp1:=hp.far (a:=⟨gx,0,none⟩) (by show gx≠w.heap.size;omega) (.int .u8 ((X 0 / 2:Nat):Int))
         have bw1:=bw.setCell (p:=⟨gx,0,none⟩) (by show w.heap.size≤gx;omega) (.int .u8 ((X 0 / 2:Nat):Int))
         by_cases ht:top=true
         · have hxf:∀ j,j<16→upd (upd (shK X 0) 0 (X 0 / 2)) 0 (X 0 / 2 ^^^ 225) j=tmX a (i+1) j:=fun j _=>by
            rw [hsn]
            unfold shN upd shK
            rw [←htop,ht]
            by_cases e:j=0
            · subst e;rw [if_pos rfl,if_pos rfl,if_pos rfl]
            · rw [if_neg e,if_neg e,if_neg e,if_pos (by omega)]
           obtain ⟨r2,f2⟩:=hx1 0 (by decide)
           rw [Nat.zero_add] at r2 f2
           have hq:=u8_xor_nat (X 0 / 2) 225 (by omega) (by decide)
           push_cast at hq
           have hx2:=(hx1.set (i:=0) (by decide) (v:=((X 0 / 2 ^^^ 225:Nat):Int)) (u:=X 0 / 2 ^^^ 225) rfl).congr hxf
           have hp2:=hp1.far (a:=⟨gx,0,none⟩) (by show gx≠w.heap.size;omega) (.int .u8 ((X 0 / 2 ^^^ 225:Nat):Int))
           have bw2:=bw1.setCell (p:=⟨gx,0,none⟩) (by show w.heap.size≤gx;omega) (.int .u8 ((X 0 / 2 ^^^ 225:Nat):Int))
           push_cast at hx2 hp2 bw2
           clear hxf hsn hX hxB hpB hx hp bw hx1 hp1 bw1 htop
           subst ht
           go_wp2
           go_roundw
           case rel=>exact ⟨i+1,m1,by go_num,hp2,hx2,bw2⟩
           case measure=>simp [intOf];omega
         · have hxf:∀ j,j<16→upd (shK X 0) 0 (X 0 / 2) j=tmX a (i+1) j:=fun j _=>by
            rw [hsn]
            unfold shN upd shK
            rw [←htop]
            by_cases e:j=0
            · subst e;rw [if_pos rfl,if_pos rfl,if_neg ht]
            · rw [if_neg e,if_neg e,if_pos (by omega)]
           have hx2:=hx1.congr hxf
           have hp2:=hp1
           have bw2:=bw1
           push_cast at hx2 hp2 bw2
           have ht':top=false:=eq_false_of_ne_true ht
           clear hxf hsn hX hxB hpB hx hp bw hx1 hp1 bw1 htop ht
           subst ht'
           go_wp2
           go_roundw
           case rel=>exact ⟨i+1,m1,by go_num,hp2,hx2,bw2⟩
           case measure=>simp [intOf];omega
  · obtain rfl:i=128:=by omega
    have hp':=hp.congr hfin
    clear hfin
    go_wp2
    go_ret
    exact ⟨_,rfl,⟨w.heap.size,16,rfl,Nat.le_refl _,Nat.le_refl _,hp'⟩,bw⟩
end Go.Proofs.YtibdhadbflfdpaaGreatDoor
namespace Go.Proofs.YtibdhadbflfdpaaGreatDoor
def pad (n:Nat):Nat:=(n+15) / 16*16
def gpadN (n:Nat) (X:Nat→Nat) (j:Nat):Nat:=if j<n then X j else 0
theorem padN_lt {n:Nat} {X:Nat→Nat} (h:∀ j,X j<256) (j:Nat):gpadN n X j<256:=by
 unfold gpadN
 split
 · exact h j
 · decide
def be4 (n j:Nat):Nat:=n / 2 ^ (8*(3 - j))%256
def lnN (n j:Nat):Nat:=if j<4 then 0 else be4 (8*n) (j - 4)
theorem be4_lt (n j:Nat):be4 n j<256:=Nat.mod_lt _ (by decide)
end Go.Proofs.YtibdhadbflfdpaaGreatDoor
namespace Go.Proofs.YtibdhadbflfdpaaGreatDoor
open Go.RowKit
def slLen:Value→Nat
 | .slice _ n _=>n
 | _=>0
theorem Own.sl {base:Nat} {w:World} {v:Value} {n:Nat} {X:Nat→Nat} (h:Own base w v n X):∃ xo c,v = .slice xo n c:=by
 rcases h.form with ⟨rfl,rfl⟩ | ⟨g,cap,rfl,_⟩
 · exact ⟨none,0,rfl⟩
 · exact ⟨_,cap,rfl⟩
theorem Own.srcOf {base:Nat} {w:World} {v:Value} {n:Nat} {X:Nat→Nat} (h:Own base w v n X):∃ xo c,v = .slice xo n c∧(xo=none→c=0)∧∀ w',Below w.heap.size w w'→Src w' xo n X:=by
 rcases h.form with ⟨rfl,rfl⟩ | ⟨g,cap,rfl,_,hg,_,hr⟩
 · exact ⟨none,0,rfl,fun _=>rfl,fun _ _ => .inl rfl⟩
 · exact ⟨_,cap,rfl,(fun h=>by cases h),fun w' hb => .inr ⟨g,0,rfl,fun j hj=>((hr.still hb) j hj).1⟩⟩
theorem Own.bytesOf {base:Nat} {w:World} {v:Value} {n:Nat} {X:Nat→Nat} (h:Own base w v n X):BytesIn w v n X:=by
 rcases h.form with ⟨rfl,rfl⟩ | ⟨g,cap,rfl,_,hg,hc,hr⟩
 · exact .inl ⟨none,rfl,rfl⟩
 · exact .inr ⟨g,0,cap,rfl,hg,hc,fun j hj=>(hr j hj).1⟩
set_option maxRecDepth 20000 in
set_option maxHeartbeats 4000000 in
theorem full_any (v:Value) (n:Nat) (bs:Nat→Nat) (w:World) (hv:BytesIn w v n bs) (hn:n<140737488355300) :
 Calls Tryz.prog 241 #[v] w fun e w'=>∃ s,e = .returned s∧Own w.heap.size w' s (pad n) (gpadN n bs)∧Below w.heap.size w w':=by
 obtain ⟨xv,cv,rfl,hxn,-,hsrc⟩:=hv.src
 have src0:=hsrc _ ((Below.refl _ _).alloc (Nat.le_refl _) (.cells #[] 5))
 clear hsrc hv
 go_enter Tryz.func241,Tryz.ntmps241
 go_wp2_with (at_builtin;refine wpList_append_empty rfl (.tmp 4) (.tmp 5) rfl w.heap.size bs _ rfl rfl xv n cv rfl src0 hxn (by omega) (Nat.le_refl _) ?_;intro v1 w1 own1 hb1;clear src0)
 go_loopw [3] (fun o wr=>∃ m:Nat,n≤m∧m≤pad n∧Own w.heap.size wr o m (gpadN n bs)∧Below w.heap.size w wr) (fun o _=>pad n - slLen o)
 case atStart=>exact ⟨n,Nat.le_refl _,by unfold pad;omega,own1.congr (fun j hj=>by unfold gpadN;rw [if_pos hj]),hb1⟩
 case round =>
  clear own1 hb1
  obtain ⟨m,hnm,hmp,own,b⟩:=hrel
  obtain ⟨xo,c,rfl⟩:=own.sl
  by_cases h16:m%16=0
  · have e:m=pad n:=by unfold pad at *;omega
    have q:((m:Int)%16 != 0)=false:=by
     have:(m:Int)%16=0:=by omega
     rw [this];rfl
    subst e
    go_wp2
    go_ret
    exact ⟨_,rfl,own,b⟩
  · have hlt:m<pad n:=by
     rcases Nat.lt_or_ge m (pad n) with h | h
     · exact h
     · have:m=pad n:=Nat.le_antisymm hmp h
       unfold pad at this;omega
    have q:((m:Int)%16 != 0)=true:=bne_iff_ne.2 (by omega)
    have hF:(0:Int)=((gpadN n bs m:Nat):Int):=by unfold gpadN;rw [if_neg (by omega)];rfl
    have HF:=Hid.mk' hF
    clear hF
    have hs:=b.size
    have hm2:m+1≤140737488355328:=by unfold pad at hlt;omega
    go_wp2_with (at_builtin;refine wpList_append_next rfl (.tmp 11) (.tmp 12) rfl w.heap.size _ m (gpadN n bs) _ rfl own rfl HF.out hm2 hs ?_;intro v2 w2 own2 hb2;(have b2:=b.trans hb2);clear own;(obtain ⟨xo2,c2,hv2⟩:=own2.sl);subst hv2)
    go_roundw
    case rel=>exact ⟨m+1,by omega,hlt,own2,b2⟩
    case measure=>show pad n - (m+1)<pad n - m;omega
set_option maxHeartbeats 1000000 in
theorem glength_any (n:Nat) (hn:n<1000000) (w:World) :
 Calls Tryz.prog 242 #[.int .i64 n] w fun e w'=>∃ s,e = .returned s∧RowS w' s 8 (lnN n)∧Below w.heap.size w w':=by
 have e1:IntKind.i64.wrap (8*(n:Int))=8*(n:Int):=by simp only [IntKind.wrap_i64];omega
 go_enter Tryz.func242,Tryz.ntmps242
 go_wp2
 go_ret
 refine ⟨_,rfl,⟨w.heap.size,8,rfl,Nat.le_refl _,RowAt.fresh (fun j hj => ?_)⟩,(Below.refl _ _).alloc (Nat.le_refl _) _⟩
 have e:∀ {x:Int} {y:Nat},x=(y:Int)→some (Value.int .u8 x)=some (.int .u8 (y:Int)):=fun h=>by rw [h]
 rcases (show j=0∨j=1∨j=2∨j=3∨j=4∨j=5∨j=6∨j=7 by omega) with rfl | rfl | rfl | rfl | rfl | rfl | rfl | rfl
 · exact e rfl
 · exact e rfl
 · exact e rfl
 · exact e rfl
 · exact e (by show _=((8*n / 16777216%256:Nat):Int);omega)
 · exact e (by show _=((8*n / 65536%256:Nat):Int);omega)
 · exact e (by show _=((8*n / 256%256:Nat):Int);omega)
 · exact e (by show _=((8*n / 1%256:Nat):Int);omega)
def ctN (nonce:Nat→Nat) (n j:Nat):Nat:=if j<12 then nonce j else be4 n (j - 12)
theorem ctN_B {nonce:Nat→Nat} (h:∀ j,nonce j<256) (n:Nat):B16 (ctN nonce n):=fun j _=>by
 unfold ctN
 split
 · exact h j
 · exact be4_lt _ _
def ctB (ks nonce:Nat→Nat) (n:Nat):Nat→Nat:=blkN (kyN ks) (ctN nonce n)
theorem ctB_B {ks nonce:Nat→Nat} (hk:∀ j,ks j<256) (h:∀ j,nonce j<256) (n:Nat):B16 (ctB ks nonce n):=blkN_B (ctN_B h n) (kyN_lt hk)
set_option maxRecDepth 20000 in
set_option maxHeartbeats 2000000 in
theorem counter_any (v u:Value) (ks nn:Nat→Nat) (n:Nat) (hn:n<1000000) (hks:∀ j,ks j<256) (hnn:∀ j,nn j<256) (w:World) (hv:BytesIn w v 16 ks) (hu:BytesIn w u 12 nn) :
 Calls Tryz.prog 238 #[v,u,.int .i64 n] w fun e w'=>∃ s,e = .returned s∧RowF w.heap.size w' s 16 (ctB ks nn n)∧Below w.heap.size w w':=by
 obtain ⟨xu,cu,rfl,hxn,-,hsrc⟩:=hu.src
 have src0:=hsrc _ ((Below.refl _ _).alloc (Nat.le_refl _) (.cells #[] 5))
 have cB:=fun x W hb hx=>rBlock_fresh v x ks (ctN nn n) hks (ctN_B hnn n) W (hv.keep hb) hx
 rw [show blkN (kyN ks) (ctN nn n)=ctB ks nn n from rfl] at cB
 obtain ⟨xv,cv,rfl,-,-,-⟩:=hv.src
 have hcat:∀ j,j<16→cat 12 nn (be4 n) j=ctN nn n j:=fun j _=>rfl
 have hbe:∀ (W:World),Src (W.alloc (.cells #[.int .u8 ((n:Int) / 16777216),.int .u8 ((n:Int) / 65536),.int .u8 ((n:Int) / 256%256),.int .u8 ((n:Int)%256)] 5)) (some ⟨W.heap.size,0,none⟩) 4 (be4 n):=fun W => .inr ⟨W.heap.size,0,rfl,fun j hj=>by
  have e:∀ {x:Int} {y:Nat},x=(y:Int)→some (Value.int .u8 x)=some (.int .u8 (y:Int)):=fun h=>by rw [h]
  rw [Nat.zero_add]
  rcases (show j=0∨j=1∨j=2∨j=3 by omega) with rfl | rfl | rfl | rfl
  · simp only [World.cell?_alloc_new]
    exact e (by show _=((n / 16777216%256:Nat):Int);omega)
  · simp only [World.cell?_alloc_new]
    exact e (by show _=((n / 65536%256:Nat):Int);omega)
  · simp only [World.cell?_alloc_new]
    exact e (by show _=((n / 256%256:Nat):Int);omega)
  · simp only [World.cell?_alloc_new]
    exact e (by show _=((n / 1%256:Nat):Int);omega)⟩
 clear hsrc hu hv hks hnn
 generalize ctB ks nn n=Z at *
 go_enter Tryz.func238,Tryz.ntmps238
 go_wp2_with (first
  | (at_builtin;refine wpList_append_empty rfl (.tmp 10) (.tmp 11) rfl w.heap.size nn _ rfl rfl xu 12 cu rfl src0 hxn (by decide) (Nat.le_refl _) ?_;intro v1 w1 own1 hb1;clear src0;have hs1:=hb1.size)
  | (at_builtin;refine wpList_append_bytes rfl (.tmp 12) (.tmp 24) rfl w.heap.size v1 12 nn rfl (own1.alloc _) _ 4 4 (be4 n) rfl (hbe w1) (fun h=>by cases h) (by decide) (by simp only [World.size_alloc];omega) ?_;intro v2 w2 own2 grow2;(have b2:=Own.grown (hb1.alloc hs1 _) grow2 (own1.alloc _) (Nat.le_refl _) (by simp only [World.size_alloc];omega));(have cB2:=cB v2 w2 b2 ((own2.congr hcat).bytesOf));clear cB own1 own2 grow2 hb1)
  | (go_at_call 239;refine cB2.mono ?_;clear cB2;rintro e w3 ⟨s3,rfl,r3,hb3⟩))
 go_ret
 exact ⟨s3,rfl,r3.mono b2.size,below_next b2 hb3⟩
end Go.Proofs.YtibdhadbflfdpaaGreatDoor
namespace Go.Proofs.YtibdhadbflfdpaaGreatDoor
open Go.RowKit
def hsS (h X:Nat→Nat):Nat→Nat→Nat
 | 0=>fun _=>0
 | k+1=>tmN (fun j=>hsS h X k j ^^^ X (16*k+j)) h
def hsN (h:Nat→Nat) (n:Nat) (X:Nat→Nat):Nat→Nat:=hsS h (gpadN n X) (pad n / 16)
theorem hsS_lt (h X:Nat→Nat) (k j:Nat):hsS h X k j<256:=by
 cases k with
 | zero=>exact (by decide:0<256)
 | succ k=>exact tmN_lt _ _ j
set_option maxRecDepth 20000 in
set_option maxHeartbeats 8000000 in
theorem rHash_good (v u:Value) (n:Nat) (hs bs:Nat→Nat) (hB:B16 hs) (hbs:∀ j,bs j<256) (hn:n<140737488355300) (w:World) (hv:BytesIn w v 16 hs) (hu:BytesIn w u n bs) :
 Calls Tryz.prog 240 #[v,u] w fun e w'=>∃ s,e = .returned (.tuple #[s,.int .i64 0])∧RowF w.heap.size w' s 16 (hsN hs n bs)∧Below w.heap.size w w':=by
 have hmk:=make_bytes w 16 16 rfl (by decide)
 have hy0:=RowAt.zero w 16 5
 have b1:Below w.heap.size w (w.alloc (.cells (zb 16) 5)):=(Below.refl _ _).alloc (Nat.le_refl _) _
 have hW1:(w.alloc (.cells (zb 16) 5)).heap.size=w.heap.size+1:=by simp
 have cf:=fun W hb=>full_any u n bs W (hu.keep hb) (by omega)
 have cf1:=cf _ b1
 have hpl:pad n<140737488355328:=by unfold pad;omega
 have hp16:pad n%16=0:=by unfold pad;omega
 have hXl:∀ j,gpadN n bs j<256:=padN_lt hbs
 have hfin:hsN hs n bs=hsS hs (gpadN n bs) (pad n / 16):=rfl
 have hst:∀ k,hsS hs (gpadN n bs) (k+1)=tmN (fun j=>hsS hs (gpadN n bs) k j ^^^ gpadN n bs (16*k+j)) hs:=fun _=>rfl
 have hsl:=hsS_lt hs (gpadN n bs)
 have hs0:hsS hs (gpadN n bs) 0=fun _=>0:=rfl
 have ct:=fun k x W hb hx=>rtm_any x v (fun j=>hsS hs (gpadN n bs) k j ^^^ gpadN n bs (16*k+j)) hs (fun j _=>xor_byte (hsl k j) (hXl _)) hB W hx (hv.keep hb)
 obtain ⟨Hs,hHs⟩:∃ Hs,Hs=hsS hs (gpadN n bs):=⟨_,rfl⟩
 simp only [←hHs] at hst ct hsl hs0 hfin
 simp only [←hst] at ct
 generalize hN:pad n=N at *
 generalize gpadN n bs=X at *
 rw [hfin]
 obtain ⟨xv,cv,rfl,-,-,-⟩:=hv.src
 obtain ⟨xu,cu,rfl,-,-,-⟩:=hu.src
 generalize w.alloc (.cells (zb 16) 5)=W at *
 have HW1:=Hid.mk' hW1
 obtain ⟨Z,hZ⟩:∃ Z,Z=Hs (N / 16):=⟨_,rfl⟩
 rw [←hZ]
 have HZ:=Hid.mk' hZ
 clear hv hu cf hW1 hHs hfin hZ hN hst hB
 go_enter Tryz.func240,Tryz.ntmps240
 go_wp2_with (first
  | rw [hmk]
  | (go_at_call 241;refine cf1.mono ?_;clear cf1;rintro e w2 ⟨s2,rfl,own2,hb2⟩;(obtain ⟨xo,cx,hv2⟩:=own2.sl);subst hv2))
 have hW1:=HW1.out
 have hy1:=hy0.still hb2
 have bw0:=below_next b1 hb2
 have nW:w.heap.size<W.heap.size:=by omega
 clear hy0 b1 hW1 HW1 hmk
 by_cases h0:N=0
 · subst h0
   have hz:Z=Hs 0:=HZ.out
   rw [hs0] at hz
   subst hz
   clear ct hsl hXl hs0 own2 hpl hp16
   go_loopw [6,8] (fun y i wr=>y = .slice (some ⟨w.heap.size,0,none⟩) 16 16∧i = .int .i64 0∧wr=w2) (fun _ _ _=>0)
   case atStart=>exact ⟨rfl,rfl,rfl⟩
   case round =>
    obtain ⟨rfl,rfl,hwr⟩:=hrel
    subst hwr
    go_wp2
    go_ret2
    exact ⟨_,rfl,⟨w.heap.size,16,rfl,Nat.le_refl _,Nat.le_refl _,hy1⟩,bw0⟩
 · obtain ⟨gx,cx',hvx,hgx,hgxl,-,hx0⟩:=own2.form.resolve_left (fun h=>h0 h.2)
   cases hvx
   have nyx:w.heap.size≠gx:=by omega
   rw [←hs0] at hy1
   clear own2 hb2 hs0
   go_loopw [6,8] (fun y i wr=>∃ k gy cy:Nat,16*k≤N∧y = .slice (some ⟨gy,0,none⟩) 16 cy∧16≤cy∧i = .int .i64 ((16*k:Nat):Int)∧w.heap.size≤gy∧gy≠gx∧RowAt .u8 wr gy 0 16 (Hs k)∧RowAt .u8 wr gx 0 N X∧Below w.heap.size w wr) (fun _ i _=>N - (intOf i).toNat)
   case atStart=>exact ⟨0,w.heap.size,16,Nat.zero_le _,rfl,Nat.le_refl _,rfl,Nat.le_refl _,nyx,hy1,hx0,bw0⟩
   case round =>
    clear hy1 hx0 bw0 nyx
    obtain ⟨k,gy,cy,hk,rfl,hcy,rfl,wgy,nyx,hy,hx,bw⟩:=hrel
    by_cases hlt:16*k<N
    · have hlt':((16*k:Nat):Int)<(N:Int):=by omega
      have hfit:16*k+16≤N:=by omega
      have c1:=ct k
      have hyl:=hsl k
      obtain ⟨Y,hYe⟩:∃ Y,Y=Hs k:=⟨_,rfl⟩
      rw [←hYe] at hy hyl c1
      obtain ⟨Y2,hY2⟩:∃ Y2:Nat→Nat,Y2=fun j=>Y j ^^^ X (16*k+j):=⟨_,rfl⟩
      have hqe:∀ j,Y j ^^^ X (16*k+j)=Y2 j:=fun j=>by rw [hY2]
      rw [←hY2] at c1
      clear hY2 hYe ct
      go_wp2
      go_loopw [9] (fun q wq=>∃ m:Nat,m≤16∧q = .int .i64 m∧RowAt .u8 wq gy 0 16 (pr Y2 Y m)∧RowAt .u8 wq gx 0 N X∧Below w.heap.size w wq) (fun q _=>16 - (intOf q).toNat)
      case atStart=>exact ⟨0,Nat.zero_le _,rfl,hy,hx,bw⟩
      case round =>
       clear hy hx bw
       obtain ⟨m,hm,rfl,hy,hx,bw⟩:=hrel
       by_cases hlm:m<16
       · obtain ⟨r1,f1⟩:=hy m hlm
         obtain ⟨r2,-⟩:=hx (16*k+m) (by omega)
         rw [Nat.zero_add] at r1 f1 r2
         rw [pr_at] at r1
         have hq:=u8_xor_nat (Y m) (X (16*k+m)) (hyl m) (hXl _)
         rw [hqe m] at hq
         have hs:=hy.next hlm (v:=(Y2 m:Int)) rfl
         have q1:(0:Int)≤(m:Int)∧(m:Int)<16:=by omega
         have q2:(0:Int)≤16*(k:Int)+(m:Int)∧16*(k:Int)+(m:Int)<(N:Int):=by omega
         have q3:(16*(k:Int)+(m:Int)).toNat=16*k+m:=by omega
         have q4:IntKind.i64.wrap (16*(k:Int)+(m:Int))=16*(k:Int)+(m:Int):=by simp only [IntKind.wrap_i64];omega
         have q5:((16*k:Nat):Int)=16*(k:Int):=by omega
         have m1:m+1≤16:=by omega
         have n1:¬gy=gx:=nyx
         clear hqe hyl hXl c1 hsl
         go_wp2
         go_region
         go_wp2
         go_roundw
         case rel=>exact ⟨m+1,m1,by go_num,hs.drew,(hx.far (by show gy≠gx;exact nyx) _).drew,(bw.setCell wgy _).drew⟩
         case measure=>simp [intOf];omega
       · obtain rfl:m=16:=by omega
         replace hy:=hy.congr (fun j hj=>pr_full Y2 Y hj)
         have c2:=c1 _ wr bw (rowB hy (by decide) hcy)
         have m1:16*(k+1)≤N:=by omega
         have e1:((16*k:Nat):Int)+16=((16*(k+1):Nat):Int):=by omega
         have e2:IntKind.i64.wrap (((16*k:Nat):Int)+16)=((16*(k+1):Nat):Int):=by simp only [IntKind.wrap_i64];omega
         have gxl:gx<wr.heap.size:=block_lt_of_cell (hx 0 (by omega)).1
         clear hqe hyl hXl c1 hsl
         go_wp2_with (go_at_call 268;refine c2.mono ?_;clear c2;rintro e w5 ⟨s5,rfl,⟨g5,c5,hs5,hg5,hc5,r5⟩,hb5⟩;subst hs5)
         go_roundw
         case rel=>exact ⟨k+1,g5,c5,m1,rfl,hc5,by go_num,Nat.le_trans bw.size hg5,by omega,r5,hx.still hb5,below_next bw hb5⟩
         case measure=>simp [intOf];omega
    · have hke:k=N / 16:=by omega
      have hlt':¬((16*k:Nat):Int)<(N:Int):=by omega
      have hZ:=HZ.out
      rw [←hke] at hZ
      rw [←hZ] at hy
      clear ct hsl hXl hZ hke
      go_wp2
      go_ret2
      exact ⟨_,rfl,⟨gy,cy,rfl,wgy,hcy,hy⟩,bw⟩
end Go.Proofs.YtibdhadbflfdpaaGreatDoor
