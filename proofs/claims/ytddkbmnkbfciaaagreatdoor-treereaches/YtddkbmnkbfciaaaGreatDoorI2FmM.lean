/- What the proof stands on: I2Fm, I2Tz, I2At, I2Ca, I2Cb. -/
import Derived.Test.YtddkbmnkbfciaaaGreatDoorN3SM
import Derived.Lib.TrailingZeros
namespace Go.Proofs.YtddkbmnkbfciaaaGreatDoor
open Go.RowKit
def fltN:Value→Nat
 | .float _ b=>b
 | _=>0
theorem mod_tab (d:Nat) (hd:d<64) (h2:2≤d):(FloatKind.f64.format.order (FB d) 4611686018427387904=some .gt∨FloatKind.f64.format.order (FB d) 4611686018427387904=some .eq)∧(FloatKind.f64.format.order (frB d) 4602678819172646912 == some .lt)=false∧1≤Nat.log2 d∧Nat.log2 d≤5∧floatBits .sub .f64 (FB d) (FB (2 ^ (Nat.log2 d - 1+1)))=some (FB (d - 2 ^ Nat.log2 d))∧FB (d - 2 ^ Nat.log2 d)<FB d∧(d - 2 ^ Nat.log2 d)%2=d%2:=by
 have h:(List.range 64).all (fun d=>decide (d<2) || ((FloatKind.f64.format.order (FB d) 4611686018427387904 == some .gt || FloatKind.f64.format.order (FB d) 4611686018427387904 == some .eq) && (FloatKind.f64.format.order (frB d) 4602678819172646912 == some .lt) == false && decide (1≤Nat.log2 d) && decide (Nat.log2 d≤5) && floatBits .sub .f64 (FB d) (FB (2 ^ (Nat.log2 d - 1+1))) == some (FB (d - 2 ^ Nat.log2 d)) && decide (FB (d - 2 ^ Nat.log2 d)<FB d) && (d - 2 ^ Nat.log2 d)%2 == d%2))=true:=by kernel_rfl
 have:=List.all_eq_true.1 h d (List.mem_range.2 hd)
 simp only [Bool.and_eq_true,Bool.or_eq_true,beq_iff_eq,decide_eq_true_eq] at this
 obtain ⟨⟨⟨⟨⟨⟨a,b⟩,c⟩,d⟩,e⟩,f⟩,g⟩:=this.resolve_left (by omega)
 exact ⟨a,b,c,d,e,f,g⟩
theorem less_tab (d:Nat) (h2:d<2):FloatKind.f64.format.order (FB d) 4611686018427387904=some .lt:=by
 rcases (show d=0∨d=1 by omega) with rfl | rfl <;> kernel_rfl
theorem mod_any (c:Nat) (hc:c<64) (w:World):Calls Tryz.prog 225 #[.float .f64 (FB c),.float .f64 4611686018427387904] w fun e w'=>e = .returned (.float .f64 (FB (c%2)))∧w=w':=by
 have F2:=fin1_tab 2 (by decide) (by decide)
 rw [show FB 2=4611686018427387904 by kernel_rfl,show frB 2=4602678819172646912 by kernel_rfl,show ((Nat.log2 2+1:Nat):Int)=2 by kernel_rfl] at F2
 have F0:=fin_tab c (by omega)
 have c1:=isInf_any _ F0 w
 have c2:=isNaN_any _ F0 w
 have c3:=isNaN_any _ F2.fin w
 have c4:=abs_any _ F2.fin w
 have c5:=Frexp_any _ _ _ F2 w
 have h2:=F2.pos
 have hx:(FloatKind.f64.format.order (FB c) 0 == some .lt)=false:=by rcases F0.neg with h | h <;> rw [h] <;> rfl
 generalize hx0:FB c=x at *
 have HX0:=Hid.mk' hx0
 clear F2 F0 hx0
 go_enter Tryz.func225,Tryz.ntmps225
 go_wp2_with (first
  | (go_at_call 252;refine c1.mono ?_;clear c1;rintro e w1 ⟨rfl,hw⟩;subst hw)
  | (go_at_call 251;refine c2.mono ?_;clear c2;rintro e w1 ⟨rfl,hw⟩;subst hw)
  | (go_at_call 251;refine c3.mono ?_;clear c3;rintro e w1 ⟨rfl,hw⟩;subst hw)
  | (go_at_call 255;refine c4.mono ?_;clear c4;rintro e w1 ⟨rfl,hw⟩;subst hw)
  | (go_at_call 256;refine c5.mono ?_;clear c5;rintro e w1 ⟨rfl,hw⟩;subst hw))
 go_loopw [7] (fun r wr=>(∃ d:Nat,d<64∧r = .float .f64 (FB d)∧Hid (d%2=c%2))∧wr=w) (fun r _=>fltN r)
 case atStart=>exact ⟨⟨c,hc,by rw [HX0.out],Hid.mk' rfl⟩,rfl⟩
 case round =>
  obtain ⟨⟨d,hd,rfl,HD⟩,rfl⟩:=hrel
  by_cases h2d:d<2
  · have hl:=less_tab d h2d
    have hdd:d=c%2:=by have:=HD.out;omega
    have HP:Hid (FB d=FB (c%2)):=Hid.mk' (by rw [←hdd])
    generalize FB d=y at *
    clear hdd HD HX0
    go_wp2
    go_ret
    refine ⟨?_,rfl⟩
    rw [←HP.out]
    rfl
  · obtain ⟨g1,g2,g3,g4,g5,g6,g7⟩:=mod_tab d hd (by omega)
    have c6:=Frexp_any _ _ _ (fin1_tab d (by omega) (by omega)) wr
    have c7:=Ldexp_any (Nat.log2 d - 1) (by omega) wr
    have g8:∀ W,(binOp .sub 142 (.float .f64 (FB d)) (.float .f64 (FB (2 ^ (Nat.log2 d - 1+1))))).run Tryz.prog W = .ok (.float .f64 (FB (d - 2 ^ Nat.log2 d))) W:=fun W=>run_float_arith W .sub _ .f64 _ _ _ g5
    have u1:wrap64 (((Nat.log2 d+1:Nat):Int) - 2)=((Nat.log2 d - 1:Nat):Int):=by unfold wrap64;omega
    have HE:Hid ((d - 2 ^ Nat.log2 d)%2=c%2):=g7.trans HD.out
    have hlt:d - 2 ^ Nat.log2 d<64:=Nat.lt_of_le_of_lt (Nat.sub_le _ _) hd
    generalize FB (2 ^ (Nat.log2 d - 1+1))=q at *
    generalize d - 2 ^ Nat.log2 d=d' at *
    obtain ⟨z1,hz1⟩:∃ z:Int,z=((Nat.log2 d+1:Nat):Int):=⟨_,rfl⟩
    obtain ⟨z2,hz2⟩:∃ z:Int,z=((Nat.log2 d - 1:Nat):Int):=⟨_,rfl⟩
    rw [←hz1] at c6 u1
    rw [←hz2] at c7 u1
    have HM:Hid (FB d'<FB d):=g6
    clear hz1 hz2 g3 g4 g5 g6 g7 HX0
    generalize frB d=fr at *
    have g1':(FloatKind.f64.format.order (FB d) 4611686018427387904 == some .gt || FloatKind.f64.format.order (FB d) 4611686018427387904 == some .eq)=true:=by rcases g1 with h | h <;> rw [h] <;> rfl
    clear g1
    go_wp2_with (first
     | (go_at_call 256;refine c6.mono ?_;clear c6;rintro e w1 ⟨rfl,hw⟩;subst hw)
     | (go_at_call 257;refine c7.mono ?_;clear c7;rintro e w1 ⟨rfl,hw⟩;subst hw))
    go_roundw
    case rel=>exact ⟨⟨d',hlt,rfl,HE⟩,trivial⟩
    case measure=>exact HM.out
theorem Mod_any (c:Nat) (hc:c<64) (w:World):Calls Tryz.prog 180 #[.float .f64 (FB c),.float .f64 4611686018427387904] w fun e w'=>e = .returned (.float .f64 (FB (c%2)))∧w=w':=by
 have k:=mod_any c hc w
 generalize FB (c%2)=v at *
 generalize FB c=x at *
 go_enter Tryz.func180,Tryz.ntmps180
 go_wp2_with (go_at_call 225;refine k.mono ?_;clear k;rintro e w1 ⟨rfl,hw⟩;subst hw)
 go_ret
 exact ⟨rfl,rfl⟩
def flrB (x:Nat):Option Nat:=if (FloatKind.f64.decode x).isNaN then none else some (FloatKind.f64.encode ((FloatKind.f64.decode x).integral .down))
theorem flr_in (x r:Nat) (h:flrB x=some r):Extern.MathFloor.toIntegral "math.archFloor" .down #[.float .f64 x]=pure (.float .f64 r):=by
 unfold flrB at h
 suffices hh:∀ d,FloatKind.f64.decode x=d→d.isNaN=false→Extern.MathFloor.toIntegral "math.archFloor" .down #[.float .f64 x]=pure (.float .f64 (FloatKind.f64.encode (d.integral .down))) by
  cases hn:(FloatKind.f64.decode x).isNaN with
  | true=>rw [hn] at h;cases h
  | false=>rw [hn] at h;cases h;exact hh _ rfl hn
 intro d hd hn
 cases d with
 | nan s t=>cases hn
 | number a b c =>
  conv=>lhs;whnf
  rw [hd]
 | infinity a =>
  conv=>lhs;whnf
  rw [hd]
theorem flr_run (x r:Nat) (h:flrB x=some r) (W:World):(callFunc 220 #[.float .f64 x]).run Tryz.prog W = .ok (.value (.float .f64 r)) W:=by
 rw [run_callFunc_extern (e:=Extern.MathFloor.toIntegral "math.archFloor" .down) Tryz.func220 (by kernel_rfl) (by kernel_rfl) (by kernel_rfl) (by kernel_rfl),flr_in x r h]
 rfl
theorem Floor_any (x r:Nat) (h:flrB x=some r) (w:World):Calls Tryz.prog 177 #[.float .f64 x] w fun e w'=>e = .returned (.float .f64 r)∧w=w':=by
 have k:=flr_run x r h
 clear h
 go_enter Tryz.func177,Tryz.ntmps177
 go_wp2
 go_ret
 exact ⟨rfl,rfl⟩
def halfB (b:Nat):Nat:=((floatBits .quo .f64 (FB b) 4611686018427387904).getD 0)
theorem step_tab (b:Nat) (hb:b<64):floatBits .quo .f64 (FB b) 4611686018427387904=some (halfB b)∧flrB (halfB b)=some (FB (b / 2))∧floatBits .add .f64 (FB b) 4607182418800017408=some (FB (b+1))∧floatBits .mul .f64 4611686018427387904 (FB b)=some (FB (2*b))∧(0<b→floatBits .sub .f64 (FB b) 4607182418800017408=some (FB (b - 1)))∧floatBits .add .f64 (FB b) 0=some (FB b)∧floatBits .sub .f64 (FB b) 0=some (FB b):=by
 have h:(List.range 64).all (fun b=>floatBits .quo .f64 (FB b) 4611686018427387904 == some (halfB b) && flrB (halfB b) == some (FB (b / 2)) && floatBits .add .f64 (FB b) 4607182418800017408 == some (FB (b+1)) && floatBits .mul .f64 4611686018427387904 (FB b) == some (FB (2*b)) && (b == 0 || floatBits .sub .f64 (FB b) 4607182418800017408 == some (FB (b - 1))) && floatBits .add .f64 (FB b) 0 == some (FB b) && floatBits .sub .f64 (FB b) 0 == some (FB b))=true:=by kernel_rfl
 have:=List.all_eq_true.1 h b (List.mem_range.2 hb)
 simp only [Bool.and_eq_true,Bool.or_eq_true,beq_iff_eq] at this
 obtain ⟨⟨⟨⟨⟨⟨a1,a2⟩,a3⟩,a4⟩,a5⟩,a6⟩,a7⟩:=this
 exact ⟨a1,a2,a3,a4,fun h=>a5.resolve_left (by omega),a6,a7⟩
theorem above_any (a b:Nat) (ha:a<64) (hb:b<64) (w:World):Calls Tryz.prog 112 #[.complex .f64 (FB a) (FB b)] w fun e w'=>e = .returned (.complex .f64 (FB (a+1)) (FB (b / 2)))∧w=w':=by
 obtain ⟨-,-,s1,-⟩:=step_tab a ha
 obtain ⟨s2,s3,-⟩:=step_tab b hb
 have k:=Floor_any _ _ s3 w
 have r1:∀ W,_:=fun W=>run_float_arith (P:=Tryz.prog) W .add 142 .f64 _ _ _ s1
 have r2:∀ W,_:=fun W=>run_float_arith (P:=Tryz.prog) W .quo 142 .f64 _ _ _ s2
 clear s1 s2 s3
 generalize FB (a+1)=v1 at *
 generalize FB a=x at *
 generalize halfB b=h at *
 generalize FB (b / 2)=v2 at *
 generalize FB b=y at *
 go_enter Tryz.func112,Tryz.ntmps112
 go_wp2_with (go_at_call 177;refine k.mono ?_;clear k;rintro e w1 ⟨rfl,hw⟩;subst hw)
 go_ret
 exact ⟨rfl,rfl⟩
theorem leftOf_any (a b:Nat) (ha:a<64) (h0:0<a) (hb:b<64) (w:World):Calls Tryz.prog 114 #[.complex .f64 (FB a) (FB b)] w fun e w'=>e = .returned (.complex .f64 (FB (a - 1)) (FB (2*b)))∧w=w':=by
 obtain ⟨-,-,-,-,s1,-⟩:=step_tab a ha
 obtain ⟨-,-,-,s2,-⟩:=step_tab b hb
 have r1:∀ W,_:=fun W=>run_float_arith (P:=Tryz.prog) W .sub 142 .f64 _ _ _ (s1 h0)
 have r2:∀ W,_:=fun W=>run_float_arith (P:=Tryz.prog) W .mul 142 .f64 _ _ _ s2
 clear s1 s2
 generalize FB (a - 1)=v1 at *
 generalize FB a=x at *
 generalize FB (2*b)=v2 at *
 generalize FB b=y at *
 go_enter Tryz.func114,Tryz.ntmps114
 go_wp2
 go_ret
 exact ⟨rfl,rfl⟩
theorem cadd_run (a b c d x y:Nat) (h1:floatBits .add .f64 a c=some x) (h2:floatBits .add .f64 b d=some y) (W:World):(binOp .add 140 (.complex .f64 a b) (.complex .f64 c d)).run Tryz.prog W = .ok (.complex .f64 x y) W:=by
 replace h1:FloatKind.f64.format.add a c=some x:=h1
 replace h2:FloatKind.f64.format.add b d=some y:=h2
 simp [binOp,Op.complexOp,Op.Complex.arith,Op.floatArith,h1,h2]
theorem csub_run (a b c d x y:Nat) (h1:floatBits .sub .f64 a c=some x) (h2:floatBits .sub .f64 b d=some y) (W:World):(binOp .sub 140 (.complex .f64 a b) (.complex .f64 c d)).run Tryz.prog W = .ok (.complex .f64 x y) W:=by
 replace h1:FloatKind.f64.format.sub a c=some x:=h1
 replace h2:FloatKind.f64.format.sub b d=some y:=h2
 simp [binOp,Op.complexOp,Op.Complex.arith,Op.floatArith,h1,h2]
def othN (b:Nat):Nat:=if b%2=0 then b+1 else b - 1
theorem beside_any (a b:Nat) (ha:a<64) (hb:b<64) (w:World):Calls Tryz.prog 115 #[.complex .f64 (FB a) (FB b)] w fun e w'=>e = .returned (.complex .f64 (FB a) (FB (othN b)))∧w=w':=by
 obtain ⟨-,-,-,-,-,s1,s2⟩:=step_tab a ha
 obtain ⟨-,-,s3,-,s4,-,-⟩:=step_tab b hb
 have k:=Mod_any b hb w
 unfold othN
 by_cases h0:b%2=0
 · rw [h0,show FB 0=0 by kernel_rfl] at k
   rw [if_pos h0]
   have r:=cadd_run _ _ _ _ _ _ s1 s3
   have o:FloatKind.f64.format.order 0 0=some .eq:=by kernel_rfl
   clear s1 s2 s3 s4 h0
   generalize FB a=x at *
   generalize FB (b+1)=v at *
   generalize FB b=y at *
   go_enter Tryz.func115,Tryz.ntmps115
   go_wp2_with (go_at_call 180;refine k.mono ?_;clear k;rintro e w1 ⟨rfl,hw⟩;subst hw)
   go_ret
   exact ⟨rfl,rfl⟩
 · rw [show b%2=1 by omega,show FB 1=4607182418800017408 by kernel_rfl] at k
   rw [if_neg h0]
   have r:=csub_run _ _ _ _ _ _ s2 (s4 (by omega))
   have o:FloatKind.f64.format.order 4607182418800017408 0=some .gt:=by kernel_rfl
   clear s1 s2 s3 s4 h0
   generalize FB a=x at *
   generalize FB (b - 1)=v at *
   generalize FB b=y at *
   go_enter Tryz.func115,Tryz.ntmps115
   go_wp2_with (go_at_call 180;refine k.mono ?_;clear k;rintro e w1 ⟨rfl,hw⟩;subst hw)
   go_ret
   exact ⟨rfl,rfl⟩
end Go.Proofs.YtddkbmnkbfciaaaGreatDoor
namespace Go.Proofs.YtddkbmnkbfciaaaGreatDoor
open Go.RowKit
structure DbT (w:World):Prop where
 lt:3<w.heap.size
 cell:∀ j,j<64→w.cell? ⟨3,j,none⟩=some (.int .u8 ((Lib.deBruijn64tab.getD j 0:Nat):Int))
theorem DbT.keep {w w':World} (h:DbT w) (hb:Below w.heap.size w w'):DbT w' :=
 ⟨Nat.lt_of_lt_of_le h.lt hb.size,fun j hj=>(hb.cell (p:=⟨3,j,none⟩) h.lt).trans (h.cell j hj)⟩
set_option maxHeartbeats 1000000 in
theorem tz_core (x k idx:Nat) (w:World) (hx0:((x:Int) == 0)=false)
 (key:IntKind.u64.wrap (bits BinOp.and IntKind.u64 (x:Int) (IntKind.u64.wrap (-(x:Int)))*285870213051353865) / 288230376151711744=(idx:Int))
 (hi:idx<64) (hk:k<64) (hcell:w.cell? ⟨3,idx,none⟩=some (.int .u8 k)) :
 Calls Tryz.prog 219 #[.int .u64 x] w fun e w'=>e = .returned (.int .i64 k)∧w=w':=by
 go_enter Tryz.func219,Tryz.ntmps219
 go_wp2_with (simp only [key])
 go_ret
 exact ⟨rfl,rfl⟩
theorem tz_key (x a:Nat) (hx:x<18446744073709551616) (hx0:x≠0) (hlow:x &&& (18446744073709551616 - x)=a) :
 IntKind.u64.wrap (bits BinOp.and IntKind.u64 (x:Int) (IntKind.u64.wrap (-(x:Int)))*285870213051353865) / 288230376151711744=((a*285870213051353865%18446744073709551616 / 288230376151711744:Nat):Int):=by
 have e1:IntKind.u64.wrap (-(x:Int))=((18446744073709551616 - x:Nat):Int):=by rw [IntKind.wrap_u64];omega
 rw [e1,bits_and_u64_nat x _ hx (by omega),hlow,IntKind.wrap_u64]
 omega
theorem tz_any (x:Nat) (hx:x<18446744073709551616) (hx0:x≠0) (w:World) (hT:DbT w) :
 Calls Tryz.prog 219 #[.int .u64 x] w fun e w'=>e = .returned (.int .i64 (Lib.ctz 64 x))∧w=w':=by
 obtain ⟨hlow,hk⟩:=Lib.lowest_bit 64 x hx0 hx
 obtain ⟨hi,htab⟩:=Lib.deBruijn64_at _ hk
 have hcell:=hT.cell _ hi
 rw [htab] at hcell
 exact tz_core x _ _ w (by simp;omega) (tz_key x _ hx hx0 hlow) hi hk hcell
theorem ctz_lev:∀ f x,x<2 ^ f→Lib.ctzFrom (f+1) (2 ^ (f+1) - 1 - x)=levF (f+1) x
 | 0,x,h=>by
  have:x=0:=by simpa using h
  subst this
  rfl
 | f+1,x,h=>by
  have e:2 ^ (f+1+1)=2*2 ^ (f+1):=by rw [Nat.pow_succ 2 (f+1),Nat.mul_comm]
  have e':2 ^ (f+1)=2*2 ^ f:=by rw [Nat.pow_succ 2 f,Nat.mul_comm]
  show (if (2 ^ (f+1+1) - 1 - x)%2=1 then 0 else 1+Lib.ctzFrom (f+1) ((2 ^ (f+1+1) - 1 - x) / 2))=(if x%2=1 then levF (f+1) (x / 2)+1 else 0)
  by_cases ho:x%2=1
  · rw [if_neg (by omega),if_pos ho,show (2 ^ (f+1+1) - 1 - x) / 2=2 ^ (f+1) - 1 - x / 2 by omega,ctz_lev f (x / 2) (by omega),Nat.add_comm]
  · rw [if_pos (by omega),if_neg ho]
theorem ctz_levN (x:Nat) (h:x<9223372036854775808):Lib.ctz 64 (18446744073709551615 - x)=levN x:=by
 unfold Lib.ctz
 rw [if_neg (by omega)]
 exact ctz_lev 63 x h
def levA (x:Int):Int:=if x<0 then -1 else (levN x.toNat:Int)
theorem not_u64 (y:Nat) (h:y<9223372036854775808):bits BinOp.xor IntKind.u64 IntKind.u64.max (y:Int)=((18446744073709551615 - y:Nat):Int):=by
 show IntKind.u64.wrap ((BitVec.ofInt 64 IntKind.u64.max ^^^ BitVec.ofInt 64 (y:Int)).toNat:Int)=_
 rw [show BitVec.ofInt 64 IntKind.u64.max=BitVec.allOnes 64 by decide,BitVec.allOnes_xor,BitVec.toNat_not,BitVec.ofInt_natCast,BitVec.toNat_ofNat,Nat.mod_eq_of_lt (by omega),IntKind.wrap_u64]
 omega
theorem iLevel_any (x:Int) (hx:x≤9223372036854775807) (w:World) (hT:DbT w):Calls Tryz.prog 176 #[.int .i64 x] w fun e w'=>e = .returned (.int .i64 (levA x))∧w=w':=by
 unfold levA
 by_cases h:x<0
 · rw [if_pos h]
   go_enter Tryz.func176,Tryz.ntmps176
   go_wp2
   go_ret
   exact ⟨rfl,rfl⟩
 · rw [if_neg h]
   obtain ⟨y,rfl⟩:∃ y:Nat,x=(y:Int):=⟨x.toNat,by omega⟩
   have hy:y<9223372036854775808:=by omega
   rw [Int.toNat_natCast]
   have c:=tz_any (18446744073709551615 - y) (by omega) (by omega) w hT
   rw [ctz_levN y hy] at c
   have hn:=not_u64 y hy
   have hs:IntKind.u64.signed=false:=rfl
   have h0:(0:Int)≤(y:Int):=by omega
   clear hT
   generalize 18446744073709551615 - y=z at *
   go_enter Tryz.func176,Tryz.ntmps176
   go_wp2_with (go_at_call 219;refine c.mono ?_;clear c;rintro e w1 ⟨rfl,hw⟩;subst hw)
   go_ret
   exact ⟨rfl,rfl⟩
end Go.Proofs.YtddkbmnkbfciaaaGreatDoor
namespace Go.Proofs.YtddkbmnkbfciaaaGreatDoor
open Go.RowKit
set_option maxRecDepth 20000 in
theorem len64_at (w:World):Calls Tryz.prog 223 #[.int .u64 64] w fun e w'=>e = .returned (.int .i64 7)∧w=w':=by
 go_enter Tryz.func223,Tryz.ntmps223
 go_wp2
 go_ret
 refine ⟨congrArg Ending.returned (congrArg (Value.int IntKind.i64) ?_),rfl⟩
 kernel_rfl
theorem len_at (w:World):Calls Tryz.prog 179 #[.int .u64 64] w fun e w'=>e = .returned (.int .i64 7)∧w=w':=by
 have c:=len64_at w
 go_enter Tryz.func179,Tryz.ntmps179
 go_wp2_with (go_at_call 223;refine c.mono ?_;clear c;rintro e w1 ⟨rfl,hw⟩;subst hw)
 go_ret
 exact ⟨rfl,rfl⟩
def wbB (x r:Nat) (e:Int):Bool:=((FloatKind.f64.format.order x 0 == some .gt || FloatKind.f64.format.order x 0 == some .eq) && FloatKind.f64.format.order x (floatOfInt .f64 e) == some .lt) && FloatKind.f64.format.order x r == some .eq
theorem whole_any (x:Nat) (e:Int) (r:Nat) (h:flrB x=some r) (w:World):Calls Tryz.prog 178 #[.float .f64 x,.int .i64 e] w fun o w'=>o = .returned (.bool (wbB x r e))∧w=w':=by
 have c:=Floor_any x r h w
 clear h
 unfold wbB
 generalize hA:(FloatKind.f64.format.order x 0 == some .gt || FloatKind.f64.format.order x 0 == some .eq)=A at *
 generalize hB:(FloatKind.f64.format.order x (floatOfInt .f64 e) == some .lt)=B at *
 generalize hC:(FloatKind.f64.format.order x r == some .eq)=C at *
 cases A <;> cases B <;> cases C <;>
 · go_enter Tryz.func178,Tryz.ntmps178
   go_wp2_with (go_at_call 177;refine c.mono ?_;clear c;rintro e w1 ⟨rfl,hw⟩;subst hw)
   go_ret
   exact ⟨rfl,rfl⟩
theorem und_float:(Tryz.prog.underlying 142).isSome=true:=by kernel_rfl
def LevE (z e:Int):Prop:=(z=0∧e=64)∨(z=1∧e=32)∨(z=2∧e=16)∨(z=3∧e=8)∨(z=4∧e=4)∨(z=5∧e=2)∨(z=6∧e=1)
theorem at_yes (x:Nat) (z e:Int) (hz:LevE z e) (l1:flrB x=some x) (l2:wbB x x 7=true) (l3:floatToIntVal .f64 x .i64=some z) (y:Nat) (c:Int) (c0:0≤c) (cE:c<e) (h:flrB y=some y) (hw:wbB y y e=true) (h3:floatToIntVal .f64 y .i64=some c) (v:Int) (hv:v=c*2 ^ (z.toNat+1)+2 ^ z.toNat - 1) (w:World):Calls Tryz.prog 113 #[.complex .f64 x y] w fun o w'=>o = .returned (.int .i64 v)∧Below w.heap.size w w':=by
 have c1:=whole_any x 7 _ l1 w
 rw [l2] at c1
 have c2:=whole_any y e y h w
 rw [hw] at c2
 have k:=len_at w
 have cv:∀ W,_:=fun W=>run_convert_float_int (P:=Tryz.prog) W 142 3 .f64 .i64 _ _ und_float Tryz.underlying3 l3
 have cw:∀ W,_:=fun W=>run_convert_float_int (P:=Tryz.prog) W 142 3 .f64 .i64 _ _ und_float Tryz.underlying3 h3
 have HV:=Hid.mk' hv
 clear h hw l1 l2 l3 h3 hv
 rcases hz with ⟨rfl,rfl⟩ | ⟨rfl,rfl⟩ | ⟨rfl,rfl⟩ | ⟨rfl,rfl⟩ | ⟨rfl,rfl⟩ | ⟨rfl,rfl⟩ | ⟨rfl,rfl⟩ <;>
 · go_enter Tryz.func113,Tryz.ntmps113
   go_wp2_with (first
    | (go_at_call 179;refine k.mono ?_;clear k;rintro e w1 ⟨rfl,hw⟩;subst hw)
    | (go_at_call 178;refine c1.mono ?_;clear c1;rintro e w1 ⟨rfl,hw⟩;subst hw)
    | (go_at_call 178;refine c2.mono ?_;clear c2;rintro e w1 ⟨rfl,hw⟩;subst hw))
   go_region
   go_wp2
   go_ret
   refine ⟨congrArg Ending.returned (congrArg (Value.int IntKind.i64) ?_),(Below.refl _ _).drew⟩
   rw [HV.out]
   simp
theorem lev_tab (l:Nat) (hl:l<7):flrB (FB l)=some (FB l)∧wbB (FB l) (FB l) 7=true∧floatToIntVal .f64 (FB l) .i64=some (l:Int)∧LevE (l:Int) ((64 / 2 ^ l:Nat):Int):=by
 rcases (show l=0∨l=1∨l=2∨l=3∨l=4∨l=5∨l=6 by omega) with rfl | rfl | rfl | rfl | rfl | rfl | rfl <;> exact ⟨by kernel_rfl,by kernel_rfl,by kernel_rfl,by unfold LevE;simp⟩
theorem col_tab (l c:Nat) (hl:l<7) (hc:c<79):flrB (FB c)=some (FB c)∧floatToIntVal .f64 (FB c) .i64=some (c:Int)∧wbB (FB c) (FB c) ((64 / 2 ^ l:Nat):Int)=decide (c<64 / 2 ^ l):=by
 have h:(List.range 79).all (fun c=>flrB (FB c) == some (FB c) && floatToIntVal .f64 (FB c) .i64 == some (c:Int) && (List.range 7).all fun l=>wbB (FB c) (FB c) ((64 / 2 ^ l:Nat):Int) == decide (c<64 / 2 ^ l))=true:=by kernel_rfl
 have:=List.all_eq_true.1 h c (List.mem_range.2 hc)
 simp only [Bool.and_eq_true,beq_iff_eq] at this
 refine ⟨this.1.1,this.1.2,?_⟩
 have:=List.all_eq_true.1 this.2 l (List.mem_range.2 hl)
 exact beq_iff_eq.1 this
def plcN (l c:Nat):Nat:=c*2 ^ (l+1)+2 ^ l - 1
theorem at_in (l c:Nat) (hl:l<7) (hc:c<64 / 2 ^ l) (w:World):Calls Tryz.prog 113 #[.complex .f64 (FB l) (FB c)] w fun o w'=>o = .returned (.int .i64 (plcN l c:Int))∧Below w.heap.size w w':=by
 have h64:64 / 2 ^ l≤64:=Nat.div_le_self _ _
 obtain ⟨l1,l2,l3,l4⟩:=lev_tab l hl
 obtain ⟨c1,c2,c3⟩:=col_tab l c hl (by omega)
 refine at_yes (FB l) (l:Int) ((64 / 2 ^ l:Nat):Int) l4 l1 l2 l3 (FB c) (c:Int) (by omega) (by omega) c1 (by rw [c3];simpa using hc) c2 _ ?_ w
 unfold plcN
 have:1≤2 ^ l:=Nat.one_le_two_pow
 rw [Int.toNat_natCast,Int.natCast_sub (by omega)]
 simp
theorem lc_tab:∀ y,y<127→levN y<7∧colN y<64 / 2 ^ levN y∧plcN (levN y) (colN y)=y:=by
 have h:(List.range 127).all (fun y=>decide (levN y<7) && decide (colN y<64 / 2 ^ levN y) && plcN (levN y) (colN y) == y)=true:=by kernel_rfl
 intro y hy
 have:=List.all_eq_true.1 h y (List.mem_range.2 hy)
 simp only [Bool.and_eq_true,beq_iff_eq,decide_eq_true_eq] at this
 exact ⟨this.1.1,this.1.2,this.2⟩
theorem cl_tab:∀ l c,l<7→c<64 / 2 ^ l→plcN l c<127∧levN (plcN l c)=l∧colN (plcN l c)=c:=by
 have h:(List.range 7).all (fun l=>(List.range (64 / 2 ^ l)).all fun c=>decide (plcN l c<127) && levN (plcN l c) == l && colN (plcN l c) == c)=true:=by kernel_rfl
 intro l c hl hc
 have:=List.all_eq_true.1 (List.all_eq_true.1 h l (List.mem_range.2 hl)) c (List.mem_range.2 hc)
 simp only [Bool.and_eq_true,beq_iff_eq,decide_eq_true_eq] at this
 exact ⟨this.1.1,this.1.2,this.2⟩
end Go.Proofs.YtddkbmnkbfciaaaGreatDoor
namespace Go.Proofs.YtddkbmnkbfciaaaGreatDoor
open Go.RowKit
theorem may_tab (l:Int) (h0:0<l) (h1:l≤64):(bits BinOp.and .i64 l (l - 1) == 0)=mayB l:=by
 obtain ⟨n,rfl⟩:∃ n:Nat,l=(n:Int):=⟨l.toNat,by omega⟩
 have h:(List.range 65).all (fun n=>n == 0 || (bits BinOp.and .i64 (n:Int) ((n:Int) - 1) == 0) == mayB (n:Int))=true:=by kernel_rfl
 have:=List.all_eq_true.1 h n (List.mem_range.2 (by omega))
 simp only [Bool.or_eq_true,beq_iff_eq] at this
 exact this.resolve_left (by omega)
theorem may_in {l:Int} (h:mayB l=true):0<l∧l≤64:=by
 have:=mayB_cases h
 omega
theorem allowed_any (l:Int) (w:World):Calls Tryz.prog 109 #[.int .i64 l] w fun e w'=>e = .returned (.bool (mayB l))∧w=w':=by
 by_cases h:0<l∧l≤64
 · obtain ⟨h0,h1⟩:=h
   have ht:=may_tab l h0 h1
   have hw:wrap64 (l - 1)=l - 1:=by unfold wrap64;omega
   generalize mayB l=A at *
   cases A <;>
   · go_enter Tryz.func109,Tryz.ntmps109
     go_wp2
     go_ret
     exact ⟨rfl,rfl⟩
 · have hm:mayB l=false:=by
    cases hm:mayB l with
    | false=>rfl
    | true=>exact absurd (may_in hm) h
   rw [hm]
   by_cases h0:0<l
   · have h1:¬l≤64:=by omega
     clear h hm
     go_enter Tryz.func109,Tryz.ntmps109
     go_wp2
     go_ret
     exact ⟨rfl,rfl⟩
   · clear h hm
     go_enter Tryz.func109,Tryz.ntmps109
     go_wp2
     go_ret
     exact ⟨rfl,rfl⟩
theorem iWidth_any (l:Int) (w:World):Calls Tryz.prog 75 #[.int .i64 l] w fun e w'=>e = .returned (.int .i64 (if mayB l then 2*l - 1 else -1))∧w=w':=by
 have c:=allowed_any l w
 cases hm:mayB l with
 | false =>
  rw [hm] at c
  go_enter Tryz.func75,Tryz.ntmps75
  go_wp2_with (go_at_call 109;refine c.mono ?_;clear c;rintro e w1 ⟨rfl,hw⟩;subst hw)
  go_ret
  exact ⟨rfl,rfl⟩
 | true =>
  rw [hm] at c
  obtain ⟨h0,h1⟩:=may_in hm
  have e1:IntKind.i64.wrap (2*l)=2*l:=by simp only [IntKind.wrap_i64];omega
  have e2:IntKind.i64.wrap (2*l - 1)=2*l - 1:=by simp only [IntKind.wrap_i64];omega
  clear hm
  go_enter Tryz.func75,Tryz.ntmps75
  go_wp2_with (go_at_call 109;refine c.mono ?_;clear c;rintro e w1 ⟨rfl,hw⟩;subst hw)
  go_ret
  exact ⟨rfl,rfl⟩
theorem iRoot_any (l:Int) (w:World):Calls Tryz.prog 42 #[.int .i64 l] w fun e w'=>e = .returned (.int .i64 (if mayB l then l - 1 else -1))∧w=w':=by
 have c:=allowed_any l w
 cases hm:mayB l with
 | false =>
  rw [hm] at c
  go_enter Tryz.func42,Tryz.ntmps42
  go_wp2_with (go_at_call 109;refine c.mono ?_;clear c;rintro e w1 ⟨rfl,hw⟩;subst hw)
  go_ret
  exact ⟨rfl,rfl⟩
 | true =>
  rw [hm] at c
  obtain ⟨h0,h1⟩:=may_in hm
  have e2:IntKind.i64.wrap (l - 1)=l - 1:=by simp only [IntKind.wrap_i64];omega
  clear hm
  go_enter Tryz.func42,Tryz.ntmps42
  go_wp2_with (go_at_call 109;refine c.mono ?_;clear c;rintro e w1 ⟨rfl,hw⟩;subst hw)
  go_ret
  exact ⟨rfl,rfl⟩
theorem hasLeaf_any (i l:Int) (w:World):Calls Tryz.prog 110 #[.int .i64 i,.int .i64 l] w fun e w'=>e = .returned (.bool (theB i l))∧w=w':=by
 have c:=allowed_any l w
 unfold theB
 generalize mayB l=A at *
 by_cases h0:0≤i <;> by_cases h1:i<l <;> cases A <;>
 · simp only [h0,h1,decide_true,decide_false,Bool.and_true,Bool.and_false]
   go_enter Tryz.func110,Tryz.ntmps110
   go_wp2_with (go_at_call 109;refine c.mono ?_;clear c;rintro e w1 ⟨rfl,hw⟩;subst hw)
   first
    | (go_ret;exact ⟨rfl,rfl⟩)
    | (rw [decide_eq_false (Int.not_lt.2 h1)];go_ret;exact ⟨rfl,rfl⟩)
theorem iPlace_out (x:Int) (h:x<0∨127≤x) (w:World):Calls Tryz.prog 111 #[.int .i64 x] w fun e w'=>e = .returned (.complex .f64 13830554455654793216 0)∧Below w.heap.size w w':=by
 by_cases h0:x<0
 · clear h
   go_enter Tryz.func111,Tryz.ntmps111
   go_wp2
   go_ret
   exact ⟨rfl,Below.refl _ _⟩
 · have h1:127≤x:=by omega
   clear h
   go_enter Tryz.func111,Tryz.ntmps111
   go_wp2
   go_ret
   exact ⟨rfl,Below.refl _ _⟩
theorem iPlace_in (y:Nat) (hy:y<127) (w:World) (hT:DbT w):Calls Tryz.prog 111 #[.int .i64 (y:Int)] w fun e w'=>e = .returned (.complex .f64 (FB (levN y)) (FB (colN y)))∧Below w.heap.size w w':=by
 have c:=iLevel_any (y:Int) (by omega) w hT
 have e9:levA (y:Int)=(levN y:Int):=by unfold levA;rw [if_neg (by omega),Int.toNat_natCast]
 rw [e9] at c
 obtain ⟨h6,-,-⟩:=lc_tab y hy
 have hcol:colN y=y / 2 ^ (levN y+1):=rfl
 rw [hcol]
 have t0:¬(y:Int)<0:=by omega
 have t1:¬(127:Int)≤(y:Int):=by omega
 clear hT e9 hcol
 generalize levN y=l at *
 rcases (show l=0∨l=1∨l=2∨l=3∨l=4∨l=5∨l=6 by omega) with rfl | rfl | rfl | rfl | rfl | rfl | rfl <;>
 · go_enter Tryz.func111,Tryz.ntmps111
   go_wp2_with (go_at_call 176;refine c.mono ?_;clear c;rintro e w1 ⟨rfl,hw⟩;subst hw)
   go_ret
   exact ⟨rfl,Below.refl _ _⟩
theorem left_tab:∀ y,y<127→y%2=1→0<levN y∧2*colN y<64 / 2 ^ (levN y - 1)∧plcN (levN y - 1) (2*colN y)=lftN y∧othN (2*colN y)<64 / 2 ^ (levN y - 1)∧plcN (levN y - 1) (othN (2*colN y))=rgtN y:=by
 have h:(List.range 127).all (fun y=>y%2 == 0 || (decide (0<levN y) && decide (2*colN y<64 / 2 ^ (levN y - 1)) && plcN (levN y - 1) (2*colN y) == lftN y && decide (othN (2*colN y)<64 / 2 ^ (levN y - 1)) && plcN (levN y - 1) (othN (2*colN y)) == rgtN y))=true:=by kernel_rfl
 intro y hy ho
 have:=List.all_eq_true.1 h y (List.mem_range.2 hy)
 simp only [Bool.and_eq_true,Bool.or_eq_true,beq_iff_eq,decide_eq_true_eq] at this
 obtain ⟨⟨⟨⟨a,b⟩,c⟩,d⟩,e⟩:=this.resolve_left (by omega)
 exact ⟨a,b,c,d,e⟩
theorem real_tab (l:Nat) (hl:l<7):FloatKind.f64.format.order (FB l) 4607182418800017408=if l=0 then some .lt else if l=1 then some .eq else some .gt:=by
 rcases (show l=0∨l=1∨l=2∨l=3∨l=4∨l=5∨l=6 by omega) with rfl | rfl | rfl | rfl | rfl | rfl | rfl <;> kernel_rfl
theorem real_pos (l:Nat) (hl:l<7) (h0:0<l):(FloatKind.f64.format.order (FB l) 4607182418800017408 == some .lt)=false:=by
 rw [real_tab l hl,if_neg (by omega)]
 split <;> rfl
theorem neg_real:FloatKind.f64.format.order 13830554455654793216 4607182418800017408=some .lt:=by kernel_rfl
theorem inn_cases (x:Int):(∃ y:Nat,x=(y:Int)∧y<127∧y%2=1∧innB x=true)∨(∃ y:Nat,x=(y:Int)∧y<127∧¬y%2=1∧innB x=false)∨((x<0∨127≤x)∧innB x=false):=by
 by_cases h:x<0∨127≤x
 · refine .inr (.inr ⟨h,?_⟩)
   unfold innB
   rcases h with h | h
   · simp;omega
   · simp;omega
 · obtain ⟨y,rfl⟩:∃ y:Nat,x=(y:Int):=⟨x.toNat,by omega⟩
   by_cases ho:y%2=1
   · refine .inl ⟨y,rfl,by omega,ho,?_⟩
     unfold innB
     simp
     omega
   · refine .inr (.inl ⟨y,rfl,by omega,ho,?_⟩)
     unfold innB
     simp
     omega
set_option maxHeartbeats 1000000 in
theorem iLeft_any (x:Int) (w:World) (hT:DbT w):Calls Tryz.prog 44 #[.int .i64 x] w fun e w'=>e = .returned (.tuple #[.int .i64 (lftA x).1,.bool (lftA x).2])∧Below w.heap.size w w':=by
 unfold lftA
 rcases inn_cases x with ⟨y,rfl,hy,ho,hi⟩ | ⟨y,rfl,hy,ho,hi⟩ | ⟨h,hi⟩
 · rw [hi]
   obtain ⟨t0,t1,t2,-,-⟩:=left_tab y hy ho
   obtain ⟨u1,u2,-⟩:=lc_tab y hy
   have u3:64 / 2 ^ levN y≤64:=Nat.div_le_self _ _
   have c1:=iPlace_in y hy w hT
   have c2:=leftOf_any (levN y) (colN y) (by omega) t0 (by omega)
   have c3:=at_in (levN y - 1) (2*colN y) (by omega) t1
   rw [t2] at c3
   have r:=real_pos (levN y) u1 t0
   simp only [if_true,Int.toNat_natCast]
   generalize FB (levN y)=a at *
   generalize FB (colN y)=b at *
   generalize FB (levN y - 1)=a' at *
   generalize FB (2*colN y)=b' at *
   clear hT hi t0 t1 t2 u1 u2 u3 ho
   go_enter Tryz.func44,Tryz.ntmps44
   go_wp2_with (first
    | (go_at_call 111;refine c1.mono ?_;clear c1;rintro e w1 ⟨rfl,b1⟩)
    | (go_at_call 114;refine (c2 _).mono ?_;clear c2;rintro e w2 ⟨rfl,hw⟩;subst hw)
    | (go_at_call 113;refine (c3 _).mono ?_;clear c3;rintro e w3 ⟨rfl,b3⟩))
   go_ret2
   exact ⟨rfl,below_next b1 b3⟩
 · rw [hi]
   have c1:=iPlace_in y hy w hT
   rw [levN_even ho] at c1
   have r:=real_tab 0 (by decide)
   rw [if_pos rfl] at r
   generalize FB 0=a at *
   generalize FB (colN y)=b at *
   clear hT hi
   go_enter Tryz.func44,Tryz.ntmps44
   go_wp2_with (go_at_call 111;refine c1.mono ?_;clear c1;rintro e w1 ⟨rfl,b1⟩)
   go_ret2
   exact ⟨rfl,b1⟩
 · rw [hi]
   have c1:=iPlace_out x h w
   have r:=neg_real
   clear hT hi h
   go_enter Tryz.func44,Tryz.ntmps44
   go_wp2_with (go_at_call 111;refine c1.mono ?_;clear c1;rintro e w1 ⟨rfl,b1⟩)
   go_ret2
   exact ⟨rfl,b1⟩
set_option maxHeartbeats 1000000 in
theorem iRight_any (x:Int) (w:World) (hT:DbT w):Calls Tryz.prog 45 #[.int .i64 x] w fun e w'=>e = .returned (.tuple #[.int .i64 (rgtA x).1,.bool (rgtA x).2])∧Below w.heap.size w w':=by
 unfold rgtA
 rcases inn_cases x with ⟨y,rfl,hy,ho,hi⟩ | ⟨y,rfl,hy,ho,hi⟩ | ⟨h,hi⟩
 · rw [hi]
   obtain ⟨t0,t1,-,t3,t2⟩:=left_tab y hy ho
   have h1:64 / 2 ^ (levN y - 1)≤64:=Nat.div_le_self _ _
   obtain ⟨u1,u2,-⟩:=lc_tab y hy
   have u3:64 / 2 ^ levN y≤64:=Nat.div_le_self _ _
   have c1:=iPlace_in y hy w hT
   have c2:=leftOf_any (levN y) (colN y) (by omega) t0 (by omega)
   have c4:=beside_any (levN y - 1) (2*colN y) (by omega) (by omega)
   have c3:=at_in (levN y - 1) (othN (2*colN y)) (by omega) t3
   rw [t2] at c3
   have r:=real_pos (levN y) u1 t0
   simp only [if_true,Int.toNat_natCast]
   generalize FB (levN y)=a at *
   generalize FB (colN y)=b at *
   generalize FB (levN y - 1)=a' at *
   generalize FB (othN (2*colN y))=b2 at *
   generalize FB (2*colN y)=b' at *
   clear hT hi t0 t1 t2 t3 h1 u1 u2 u3 ho
   go_enter Tryz.func45,Tryz.ntmps45
   go_wp2_with (first
    | (go_at_call 111;refine c1.mono ?_;clear c1;rintro e w1 ⟨rfl,b1⟩)
    | (go_at_call 114;refine (c2 _).mono ?_;clear c2;rintro e w2 ⟨rfl,hw⟩;subst hw)
    | (go_at_call 115;refine (c4 _).mono ?_;clear c4;rintro e w2 ⟨rfl,hw⟩;subst hw)
    | (go_at_call 113;refine (c3 _).mono ?_;clear c3;rintro e w3 ⟨rfl,b3⟩))
   go_ret2
   exact ⟨rfl,below_next b1 b3⟩
 · rw [hi]
   have c1:=iPlace_in y hy w hT
   rw [levN_even ho] at c1
   have r:=real_tab 0 (by decide)
   rw [if_pos rfl] at r
   generalize FB 0=a at *
   generalize FB (colN y)=b at *
   clear hT hi
   go_enter Tryz.func45,Tryz.ntmps45
   go_wp2_with (go_at_call 111;refine c1.mono ?_;clear c1;rintro e w1 ⟨rfl,b1⟩)
   go_ret2
   exact ⟨rfl,b1⟩
 · rw [hi]
   have c1:=iPlace_out x h w
   have r:=neg_real
   clear hT hi h
   go_enter Tryz.func45,Tryz.ntmps45
   go_wp2_with (go_at_call 111;refine c1.mono ?_;clear c1;rintro e w1 ⟨rfl,b1⟩)
   go_ret2
   exact ⟨rfl,b1⟩
end Go.Proofs.YtddkbmnkbfciaaaGreatDoor
namespace Go.Proofs.YtddkbmnkbfciaaaGreatDoor
open Go.RowKit
theorem may_mem {l:Int} (h:mayB l=true):l∈[1,2,4,8,16,32,64]:=by
 rcases mayB_cases h with rfl | rfl | rfl | rfl | rfl | rfl | rfl <;> simp
theorem par_tab {l:Int} (h:mayB l=true) (y:Nat) (hy:(y:Int)<2*l - 1) (hr:¬(y:Int)=l - 1):y<127∧parN (y:Int) l=some (plcN (levN y+1) (colN y / 2))∧levN y+1<7∧colN y / 2<64 / 2 ^ (levN y+1)∧((lftN (plcN (levN y+1) (colN y / 2)):Int)+(rgtN (plcN (levN y+1) (colN y / 2)):Int) - (y:Int)=(plcN (levN y) (othN (colN y)):Int))∧othN (colN y)<64 / 2 ^ levN y:=by
 have hh:[1,2,4,8,16,32,64].all (fun l:Int=>(List.range (widN l)).all fun y=>(y:Int) == l - 1 || (decide (y<127) && parN (y:Int) l == some (plcN (levN y+1) (colN y / 2)) && decide (levN y+1<7) && decide (colN y / 2<64 / 2 ^ (levN y+1)) && ((lftN (plcN (levN y+1) (colN y / 2)):Int)+(rgtN (plcN (levN y+1) (colN y / 2)):Int) - (y:Int) == (plcN (levN y) (othN (colN y)):Int)) && decide (othN (colN y)<64 / 2 ^ levN y)))=true:=by kernel_rfl
 have hw:widN l=(2*l - 1).toNat:=by unfold widN;rw [if_pos h]
 have:=List.all_eq_true.1 (List.all_eq_true.1 hh l (may_mem h)) y (List.mem_range.2 (by rw [hw];omega))
 simp only [Bool.and_eq_true,Bool.or_eq_true,beq_iff_eq,decide_eq_true_eq] at this
 obtain ⟨⟨⟨⟨⟨a,b⟩,c⟩,d⟩,e⟩,f⟩:=this.resolve_left hr
 exact ⟨a,b,c,d,e,f⟩
theorem root_no {l:Int} (h:mayB l=true):parN (l - 1) l=none:=by
 rcases mayB_cases h with rfl | rfl | rfl | rfl | rfl | rfl | rfl <;> kernel_rfl
end Go.Proofs.YtddkbmnkbfciaaaGreatDoor
