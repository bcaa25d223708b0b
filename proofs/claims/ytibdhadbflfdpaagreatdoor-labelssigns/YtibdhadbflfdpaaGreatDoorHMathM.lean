/- What the proof stands on: HMath, HSmall, HSpread. -/
import Derived.Test.YtibdhadbflfdpaaGreatDoorLentM
import Derived.Test.YtibdhadbflfdpaaGreatDoorRows
import Derived.BigQuiet
import Derived.Deep.MidRow
import Derived.Deep.QuietTactic
import Derived.Deep.RegionHeld3
import Derived.Laws.Bits64
import Derived.Laws.Bits64b
import Derived.Laws.BitsAllLaws
import Derived.WalkKit
import Derived.WalkLawsBesides
import Derived.WalkSpells
namespace Go.Proofs.YtibdhadbflfdpaaGreatDoor
open Nat renaming le_refl → JW
open Nat renaming mod_lt → JZ
open Nat renaming zero_add → J0
open Go renaming block_lt_of_cell → J5
open Go
structure Ru where
 m:Nat
 rounds:Nat
 s0:Nat × Nat × Nat
 s1:Nat × Nat × Nat
 l0:Nat × Nat × Nat
 l1:Nat × Nat × Nat
def rn:Ru:=⟨32,64,(7,18,3),(17,19,10),(2,13,22),(6,11,25)⟩
def aA:Ru:=⟨64,80,(1,8,7),(19,61,6),(28,34,39),(14,18,41)⟩
def zh (m x n:Nat):Nat:=(x / 2 ^ n) ||| (x*2 ^ (m - n)%2 ^ m)
def wD (m x:Nat) (n:Nat × Nat × Nat):Nat:=zh m x n.1 ^^^ zh m x n.2.1 ^^^ zh m x n.2.2
def wH (m x:Nat) (n:Nat × Nat × Nat):Nat:=zh m x n.1 ^^^ zh m x n.2.1 ^^^ (x / 2 ^ n.2.2)
theorem dm (m x n:Nat) (hx:x<2 ^ m):zh m x n<2 ^ m :=
 Nat.or_lt_two_pow (Nat.lt_of_le_of_lt (Nat.div_le_self _ _) hx) (JZ _ (Nat.two_pow_pos m))
theorem Bv (x n:Nat) (hx:x<4294967296) :
 bits .or .u32 ((x:Int) / 2 ^ n) ((x:Int)*2 ^ (32 - n)%4294967296)=((zh 32 x n:Nat):Int):=by
 have e1:(x:Int) / 2 ^ n=((x / 2 ^ n:Nat):Int):=by simp
 have e2:(x:Int)*2 ^ (32 - n)%4294967296=((x*2 ^ (32 - n)%4294967296:Nat):Int):=by simp
 rw [e1,e2,u32_or_nat _ _ (Nat.lt_of_le_of_lt (Nat.div_le_self _ _) hx) (JZ _ (by decide))];rfl
theorem BU (x n:Nat) (hx:x<18446744073709551616) :
 bits .or .u64 ((x:Int) / 2 ^ n) ((x:Int)*2 ^ (64 - n)%18446744073709551616)=((zh 64 x n:Nat):Int):=by
 have e1:(x:Int) / 2 ^ n=((x / 2 ^ n:Nat):Int):=by simp
 have e2:(x:Int)*2 ^ (64 - n)%18446744073709551616=((x*2 ^ (64 - n)%18446744073709551616:Nat):Int):=by simp
 rw [e1,e2,bits_or_u64_nat _ _ (Nat.lt_of_le_of_lt (Nat.div_le_self _ _) hx) (JZ _ (by decide))];rfl
open Go.RowKit
theorem nJ (x n:Nat) (hx:x<4294967296) (hn:n≤32) (w:World) :
 Calls Tryz.prog 253 #[.int .u32 x,.int .u64 n,.int .u64 32] w fun e w'=>e = .returned (.int .u32 (zh 32 x n))∧w'=w:=by
 go_enter Tryz.func253,Tryz.ntmps253;go_wp2;go_ret;exact ⟨eJ (Bv x n hx),rfl⟩
theorem jt (x a b c:Nat) (hx:x<4294967296) (ha:a≤32) (hb:b≤32) (hc:c≤32) (w:World) :
 Calls Tryz.prog 224 #[.int .u32 x,.agg #[.int .u64 a,.int .u64 b,.int .u64 c],.int .u64 32] w fun e w'=>e = .returned (.int .u32 (wD 32 x (a,b,c)))∧Below w.heap.size w w':=by
 go_enter Tryz.func224,Tryz.ntmps224;go_wp2;go_quiet ((go_at_call 253;exact Calls.quiet_of_same (nJ _ _ hx (by assumption) _)));go_wp2;go_ret;refine ⟨eJ ?_,bU ((Below.refl _ _).alloc (JW _) _) _⟩;rw [u32_xor_nat _ _ (dm 32 x a hx) (dm 32 x b hx),u32_xor_nat _ _ (Nat.xor_lt_two_pow (dm 32 x a hx) (dm 32 x b hx)) (dm 32 x c hx)];rfl
theorem nf (x a b c:Nat) (hx:x<4294967296) (ha:a≤32) (hb:b≤32) (hc:c≤32) (w:World) :
 Calls Tryz.prog 252 #[.int .u32 x,.agg #[.int .u64 a,.int .u64 b,.int .u64 c],.int .u64 32] w fun e w'=>e = .returned (.int .u32 (wH 32 x (a,b,c)))∧Below w.heap.size w w':=by
 go_enter Tryz.func252,Tryz.ntmps252;go_wp2;go_quiet ((go_at_call 253;exact Calls.quiet_of_same (nJ _ _ hx (by assumption) _)));go_wp2;go_ret;refine ⟨eJ ?_,bU ((Below.refl _ _).alloc (JW _) _) _⟩
 have e1:(x:Int) / 2 ^ c=((x / 2 ^ c:Nat):Int):=by simp
 rw [e1,u32_xor_nat _ _ (dm 32 x a hx) (dm 32 x b hx),u32_xor_nat _ _ (Nat.xor_lt_two_pow (dm 32 x a hx) (dm 32 x b hx)) (Nat.lt_of_le_of_lt (Nat.div_le_self _ _) hx)];rfl
theorem jG (x:Nat) (_hx:x<18446744073709551616) (w:World) :
 Calls Tryz.prog 184 #[.int .u64 x,(.agg #[.int .i64 32,.int .i64 64,.int .u64 7,.int .u64 18,.int .u64 3,.int .u64 17,.int .u64 19,.int .u64 10,.int .u64 2,.int .u64 13,.int .u64 22,.int .u64 6,.int .u64 11,.int .u64 25])] w fun e w'=>e = .returned (.int .u32 ((x / 2 ^ (64 - 32):Nat):Int))∧Below w.heap.size w w':=by
 go_enter Tryz.func184,Tryz.ntmps184;go_wp2;go_ret;refine ⟨eJ ?_,((Below.refl _ _).alloc (JW _) _)⟩;simp
 try omega
theorem cG (w:World) :
 Calls Tryz.prog 185 #[(.agg #[.int .i64 32,.int .i64 64,.int .u64 7,.int .u64 18,.int .u64 3,.int .u64 17,.int .u64 19,.int .u64 10,.int .u64 2,.int .u64 13,.int .u64 22,.int .u64 6,.int .u64 11,.int .u64 25])] w fun e w'=>e = .returned (.int .i64 64)∧Below w.heap.size w w':=by
 go_enter Tryz.func185,Tryz.ntmps185;go_wp2;go_ret;exact ⟨rfl,((Below.refl _ _).alloc (JW _) _)⟩
theorem oh (x n:Nat) (hx:x<18446744073709551616) (hn:n≤64) (w:World) :
 Calls Tryz.prog 270 #[.int .u64 x,.int .u64 n,.int .u64 64] w fun e w'=>e = .returned (.int .u64 (zh 64 x n))∧w'=w:=by
 go_enter Tryz.func270,Tryz.ntmps270;go_wp2;go_ret;exact ⟨eJ (BU x n hx),rfl⟩
theorem jE (x a b c:Nat) (hx:x<18446744073709551616) (ha:a≤64) (hb:b≤64) (hc:c≤64) (w:World) :
 Calls Tryz.prog 244 #[.int .u64 x,.agg #[.int .u64 a,.int .u64 b,.int .u64 c],.int .u64 64] w fun e w'=>e = .returned (.int .u64 (wD 64 x (a,b,c)))∧Below w.heap.size w w':=by
 go_enter Tryz.func244,Tryz.ntmps244;go_wp2;go_quiet ((go_at_call 270;exact Calls.quiet_of_same (oh _ _ hx (by assumption) _)));go_wp2;go_ret;refine ⟨eJ ?_,bU ((Below.refl _ _).alloc (JW _) _) _⟩;rw [u64_xor_nat _ _ (dm 64 x a hx) (dm 64 x b hx),u64_xor_nat _ _ (Nat.xor_lt_two_pow (dm 64 x a hx) (dm 64 x b hx)) (dm 64 x c hx)];rfl
theorem ng (x a b c:Nat) (hx:x<18446744073709551616) (ha:a≤64) (hb:b≤64) (hc:c≤64) (w:World) :
 Calls Tryz.prog 269 #[.int .u64 x,.agg #[.int .u64 a,.int .u64 b,.int .u64 c],.int .u64 64] w fun e w'=>e = .returned (.int .u64 (wH 64 x (a,b,c)))∧Below w.heap.size w w':=by
 go_enter Tryz.func269,Tryz.ntmps269;go_wp2;go_quiet ((go_at_call 270;exact Calls.quiet_of_same (oh _ _ hx (by assumption) _)));go_wp2;go_ret;refine ⟨eJ ?_,bU ((Below.refl _ _).alloc (JW _) _) _⟩
 have e1:(x:Int) / 2 ^ c=((x / 2 ^ c:Nat):Int):=by simp
 rw [e1,u64_xor_nat _ _ (dm 64 x a hx) (dm 64 x b hx),u64_xor_nat _ _ (Nat.xor_lt_two_pow (dm 64 x a hx) (dm 64 x b hx)) (Nat.lt_of_le_of_lt (Nat.div_le_self _ _) hx)];rfl
theorem jA (x:Nat) (_hx:x<18446744073709551616) (w:World) :
 Calls Tryz.prog 205 #[.int .u64 x,(.agg #[.int .i64 64,.int .i64 80,.int .u64 1,.int .u64 8,.int .u64 7,.int .u64 19,.int .u64 61,.int .u64 6,.int .u64 28,.int .u64 34,.int .u64 39,.int .u64 14,.int .u64 18,.int .u64 41])] w fun e w'=>e = .returned (.int .u64 ((x / 2 ^ (64 - 64):Nat):Int))∧Below w.heap.size w w':=by
 go_enter Tryz.func205,Tryz.ntmps205;go_wp2;go_ret;refine ⟨eJ ?_,((Below.refl _ _).alloc (JW _) _)⟩;simp
 try omega
theorem cC (w:World) :
 Calls Tryz.prog 185 #[(.agg #[.int .i64 64,.int .i64 80,.int .u64 1,.int .u64 8,.int .u64 7,.int .u64 19,.int .u64 61,.int .u64 6,.int .u64 28,.int .u64 34,.int .u64 39,.int .u64 14,.int .u64 18,.int .u64 41])] w fun e w'=>e = .returned (.int .i64 128)∧Below w.heap.size w w':=by
 go_enter Tryz.func185,Tryz.ntmps185;go_wp2;go_ret;exact ⟨rfl,((Below.refl _ _).alloc (JW _) _)⟩
def fill (m sz:Nat) (bs:Nat→Nat):Nat→Nat→Nat
 | 0=>fun _=>0
 | i+1=>bK (fill m sz bs i) (i / sz) ((fill m sz bs i (i / sz)*256%2 ^ m) ||| bs i)
def i9 (r:Ru) (X:Nat→Nat) (k:Nat):Nat:=(wH r.m (X (k+14)) r.s1+X (k+9)+wH r.m (X (k+1)) r.s0+X k)%2 ^ r.m
def eo (r:Ru) (X:Nat→Nat):Nat→Nat→Nat
 | 0=>X
 | k+1=>bK (eo r X k) (k+16) (i9 r (eo r X k) k)
theorem kj {m sz:Nat} {bs:Nat→Nat} (hb:∀ j,bs j<2 ^ m):∀ i j,fill m sz bs i j<2 ^ m
 | 0,_=>Nat.two_pow_pos m
 | i+1,j=>by
  unfold fill bK
  split
  · exact Nat.or_lt_two_pow (JZ _ (Nat.two_pow_pos m)) (hb i)
  · exact kj hb i j
theorem gY {r:Ru} {X:Nat→Nat} (hX:∀ j,X j<2 ^ r.m):∀ k j,eo r X k j<2 ^ r.m
 | 0,j=>hX j
 | k+1,j=>by
  unfold eo bK
  split
  · exact JZ _ (Nat.two_pow_pos _)
  · exact gY hX k j
def pH:Array Value:=Array.replicate 80 (.int .u32 0)
theorem yr (w:World):Sem.run Tryz.prog (zeroValue 247) w = .ok (.agg pH) w:=by kernel_rfl
theorem nI (j:Nat) (h:j<80):pH[j]? = some (.int .u32 0):=by simp [pH,h]
def pW:Array Value:=Array.replicate 80 (.int .u64 0)
theorem yl (w:World):Sem.run Tryz.prog (zeroValue 250) w = .ok (.agg pW) w:=by kernel_rfl
theorem nn (j:Nat) (h:j<80):pW[j]? = some (.int .u64 0):=by simp [pW,h]
theorem n9 {W w1:World} (h:Below (W.heap.size+1) (W.alloc (.cells #[.int .i64 32,.int .i64 64,.int .u64 7,.int .u64 18,.int .u64 3,.int .u64 17,.int .u64 19,.int .u64 10,.int .u64 2,.int .u64 13,.int .u64 22,.int .u64 6,.int .u64 11,.int .u64 25] 158)) w1) (B:Nat) (hB:B=W.heap.size):w1.cell? ⟨B,0,none⟩=some (.int .i64 32)∧w1.cell? ⟨B,1,none⟩=some (.int .i64 64)∧w1.cell? ⟨B,2,none⟩=some (.int .u64 7)∧w1.cell? ⟨B,3,none⟩=some (.int .u64 18)∧w1.cell? ⟨B,4,none⟩=some (.int .u64 3)∧w1.cell? ⟨B,5,none⟩=some (.int .u64 17)∧w1.cell? ⟨B,6,none⟩=some (.int .u64 19)∧w1.cell? ⟨B,7,none⟩=some (.int .u64 10)∧w1.cell? ⟨B,8,none⟩=some (.int .u64 2)∧w1.cell? ⟨B,9,none⟩=some (.int .u64 13)∧w1.cell? ⟨B,10,none⟩=some (.int .u64 22)∧w1.cell? ⟨B,11,none⟩=some (.int .u64 6)∧w1.cell? ⟨B,12,none⟩=some (.int .u64 11)∧w1.cell? ⟨B,13,none⟩=some (.int .u64 25):=by
 subst hB
 have hc:∀ j,w1.cell? ⟨W.heap.size,j,none⟩=(W.alloc (.cells #[.int .i64 32,.int .i64 64,.int .u64 7,.int .u64 18,.int .u64 3,.int .u64 17,.int .u64 19,.int .u64 10,.int .u64 2,.int .u64 13,.int .u64 22,.int .u64 6,.int .u64 11,.int .u64 25] 158)).cell? ⟨W.heap.size,j,none⟩:=fun j=>h.cell (p:=⟨W.heap.size,j,none⟩) (Nat.lt_succ_self _)
 simp only [hc];simp
theorem ol {W w1:World} (h:Below (W.heap.size+1) (W.alloc (.cells #[.int .i64 64,.int .i64 80,.int .u64 1,.int .u64 8,.int .u64 7,.int .u64 19,.int .u64 61,.int .u64 6,.int .u64 28,.int .u64 34,.int .u64 39,.int .u64 14,.int .u64 18,.int .u64 41] 158)) w1) (B:Nat) (hB:B=W.heap.size):w1.cell? ⟨B,0,none⟩=some (.int .i64 64)∧w1.cell? ⟨B,1,none⟩=some (.int .i64 80)∧w1.cell? ⟨B,2,none⟩=some (.int .u64 1)∧w1.cell? ⟨B,3,none⟩=some (.int .u64 8)∧w1.cell? ⟨B,4,none⟩=some (.int .u64 7)∧w1.cell? ⟨B,5,none⟩=some (.int .u64 19)∧w1.cell? ⟨B,6,none⟩=some (.int .u64 61)∧w1.cell? ⟨B,7,none⟩=some (.int .u64 6)∧w1.cell? ⟨B,8,none⟩=some (.int .u64 28)∧w1.cell? ⟨B,9,none⟩=some (.int .u64 34)∧w1.cell? ⟨B,10,none⟩=some (.int .u64 39)∧w1.cell? ⟨B,11,none⟩=some (.int .u64 14)∧w1.cell? ⟨B,12,none⟩=some (.int .u64 18)∧w1.cell? ⟨B,13,none⟩=some (.int .u64 41):=by
 subst hB
 have hc:∀ j,w1.cell? ⟨W.heap.size,j,none⟩=(W.alloc (.cells #[.int .i64 64,.int .i64 80,.int .u64 1,.int .u64 8,.int .u64 7,.int .u64 19,.int .u64 61,.int .u64 6,.int .u64 28,.int .u64 34,.int .u64 39,.int .u64 14,.int .u64 18,.int .u64 41] 158)).cell? ⟨W.heap.size,j,none⟩:=fun j=>h.cell (p:=⟨W.heap.size,j,none⟩) (Nat.lt_succ_self _)
 simp only [hc];simp
theorem EF (a b c d:Nat):((((a:Int)+b)%4294967296+c)%4294967296+d)%4294967296=(((a+b+c+d)%2 ^ 32:Nat):Int):=by
 have e:(2:Nat) ^ 32=4294967296:=rfl;rw [e];omega
theorem BO (X:Nat→Nat) (k:Nat):((((wH 32 (X (k+14)) (17,19,10):Int)+X (k+9))%4294967296+wH 32 (X (k+1)) (7,18,3))%4294967296+X k)%4294967296=((i9 rn X k:Nat):Int) :=
 EF _ _ _ _
theorem yx (a b c d:Nat):((((a:Int)+b)%18446744073709551616+c)%18446744073709551616+d)%18446744073709551616=(((a+b+c+d)%2 ^ 64:Nat):Int):=by
 have e:(2:Nat) ^ 64=18446744073709551616:=rfl;rw [e];omega
theorem BC (X:Nat→Nat) (k:Nat):((((wH 64 (X (k+14)) (19,61,6):Int)+X (k+9))%18446744073709551616+wH 64 (X (k+1)) (1,8,7))%18446744073709551616+X k)%18446744073709551616=((i9 aA X k:Nat):Int) :=
 yx _ _ _ _
theorem GU (x b:Nat) (hb:b<256):bits .or .u32 ((x:Int)*256%4294967296) ((b:Int)%4294967296)=((x*256%2 ^ 32 ||| b:Nat):Int):=by
 have e1:(x:Int)*256%4294967296=((x*256%4294967296:Nat):Int):=by simp
 have e2:(b:Int)%4294967296=((b:Nat):Int):=by omega
 rw [e1,e2,u32_or_nat _ _ (JZ _ (by decide)) (by omega)]
set_option maxRecDepth 20000 in
set_option maxHeartbeats 1000000 in
theorem sM (bb ob cap:Nat) (bs:Nat→Nat) (hbs:∀ j,bs j<256) (w:World) (hcell:∀ j,j<64→w.cell? ⟨bb,ob+j,none⟩=some (.int .u8 (bs j))) :
 Calls Tryz.prog 223 #[(.agg #[.int .i64 32,.int .i64 64,.int .u64 7,.int .u64 18,.int .u64 3,.int .u64 17,.int .u64 19,.int .u64 10,.int .u64 2,.int .u64 13,.int .u64 22,.int .u64 6,.int .u64 11,.int .u64 25]),.slice (some ⟨bb,ob,none⟩) 64 cap] w fun e w'=>e = .returned (.agg (au .u32 80 (eo rn (fill 32 4 bs 64) (64 - 16))).toArray)∧Below w.heap.size w w':=by
 have hz:=yr;have hbb:bb<w.heap.size:=J5 (hcell 0 (by decide));go_enter Tryz.func223,Tryz.ntmps223;go_wp2;clear hz;go_loopw [19] (fun i wr=>∃ k:Nat,k≤64∧i = .int .i64 k∧ah .u32 wr (w.heap.size+1+1) 0 80 (fill 32 4 bs k)∧ah .u32 wr (w.heap.size+1) 0 80 (fun _=>0)∧Below (w.heap.size+1) (w.alloc (.cells #[.int .i64 32,.int .i64 64,.int .u64 7,.int .u64 18,.int .u64 3,.int .u64 17,.int .u64 19,.int .u64 10,.int .u64 2,.int .u64 13,.int .u64 22,.int .u64 6,.int .u64 11,.int .u64 25] 158)) wr) (fun i _=>64 - (intOf i).toNat)
 case atStart =>
  refine ⟨0,Nat.zero_le _,rfl,?_,?_,?_⟩
  · have:=ah.fresh (K := .u32) (w:=(w.alloc (.cells #[.int .i64 32,.int .i64 64,.int .u64 7,.int .u64 18,.int .u64 3,.int .u64 17,.int .u64 19,.int .u64 10,.int .u64 2,.int .u64 13,.int .u64 22,.int .u64 6,.int .u64 11,.int .u64 25] 158)).alloc (.cells pH 247)) (t:=247) (X:=fill 32 4 bs 0) (n:=80) (fun j hj=>nI j hj)
    simpa using this
  · have:=(ah.fresh (K := .u32) (w:=w.alloc (.cells #[.int .i64 32,.int .i64 64,.int .u64 7,.int .u64 18,.int .u64 3,.int .u64 17,.int .u64 19,.int .u64 10,.int .u64 2,.int .u64 13,.int .u64 22,.int .u64 6,.int .u64 11,.int .u64 25] 158)) (t:=247) (X:=fun _=>0) (n:=80) (fun j hj=>nI j hj)).alloc (by simp) (.cells pH 247)
    simpa using this
  · exact ((Below.refl _ _).alloc (by simp) _).alloc (by simp) _
 case round =>
  obtain ⟨k,hk,rfl,hrow,hres,hbel⟩:=hrel
  by_cases hlt:k<64
  · have hc:=(hbel.cell (p:=⟨bb,ob+k,none⟩) (Nat.lt_succ_of_lt hbb)).trans ((World.cell?_alloc_lt _ _ _ hbb).trans (hcell k hlt))
    have hr:=hrow (k / 4) (by omega);obtain ⟨hr1,hr2⟩:=hr;rw [J0] at hr1 hr2
    have hq:k / 4<80:=by omega
    clear hcell;go_wp2;go_region;go_wp2;go_roundw
    case rel =>
     have h1:=hrow.set hq (GU (fill 32 4 bs k (k / 4)) (bs k) (hbs k));rw [J0] at h1;exact ⟨k+1,hlt,by go_num,h1.drew,(hres.far (by simp) _).drew,(hbel.setCell (by simp) _).drew⟩
    case measure=>simp [intOf];omega
  · have hke:k=64:=by omega
    subst hke;clear hcell hlt hk;have hu:∀ j,fill 32 4 bs 64 j<2 ^ 32:=kj (fun j=>Nat.lt_of_lt_of_le (hbs j) (by decide)) 64
    obtain ⟨X,hX⟩:∃ X,X=fill 32 4 bs 64:=⟨_,rfl⟩
    have HX:Hid (X=fill 32 4 bs 64):=hX;rw [←hX] at hrow hu;clear hX;have hr1:=(n9 hbel _ rfl).2.1;go_wp2;clear hr1;go_loopw [10] (fun t w2=>∃ k:Nat,k≤64 - 16∧t = .int .i64 ((k:Int)+16)∧ah .u32 w2 (w.heap.size+1+1) 0 80 (eo rn X k)∧ah .u32 w2 (w.heap.size+1) 0 80 (fun _=>0)∧Below (w.heap.size+1) (w.alloc (.cells #[.int .i64 32,.int .i64 64,.int .u64 7,.int .u64 18,.int .u64 3,.int .u64 17,.int .u64 19,.int .u64 10,.int .u64 2,.int .u64 13,.int .u64 22,.int .u64 6,.int .u64 11,.int .u64 25] 158)) w2) (fun t _=>64 - (intOf t).toNat)
    case atStart=>exact ⟨0,Nat.zero_le _,rfl,hrow,hres,hbel⟩
    case round =>
     clear hrow hres hbel;obtain ⟨k,hk,rfl,hrow,hres,hbel⟩:=hrel;have hsz:=hbel.size;rw [World.size_alloc] at hsz
     by_cases hlt:k<64 - 16
     · obtain ⟨c0,c1,c2,c3,c4,c5,c6,c7,-⟩:=n9 hbel _ rfl
       have hN:w.heap.size+1+1<wr.heap.size:=J5 (hrow 0 (by decide)).1
       have q0:w.heap.size<wr.heap.size:=by omega
       have hS:∀ w':World,dO (w.heap.size+1+1) (k+16) wr w'→∀ q,q<k+16→w'.cell? ⟨w.heap.size+1+1,q,none⟩=wr.cell? ⟨w.heap.size+1+1,q,none⟩:=fun w' h q hq=>h.cell _ _ hN (fun _=>by omega)
       have hS':∀ w':World,dO (w.heap.size+1+1) (k+16) wr w'→∀ q,w'.cell? ⟨w.heap.size,q,none⟩=wr.cell? ⟨w.heap.size,q,none⟩:=fun w' h q=>h.cell _ _ q0 (fun e=>by omega)
       have hF:∀ w':World,dO (w.heap.size+1+1) (k+16) wr w'→∀ q,w'.frozen? ⟨w.heap.size+1+1,q,none⟩=wr.frozen? ⟨w.heap.size+1+1,q,none⟩:=fun w' h q=>h.frozen _ _ hN
       have hb0:Below wr.heap.size wr wr.drew:=(Below.refl _ _).drew;have r14:=(hrow (k+14) (by omega)).1;have r9:=(hrow (k+9) (by omega)).1;have r1:=(hrow (k+1) (by omega)).1;have r0:=(hrow k (by omega)).1;have rf:=(hrow (k+16) (by omega)).2;have rg:=(hrow (k+16) (by omega)).1;rw [J0] at r14 r9 r1 r0 rf rg;have u14:eo rn X k (k+14)<4294967296:=gY (r:=rn) hu k (k+14);have u1:eo rn X k (k+1)<4294967296:=gY (r:=rn) hu k (k+1)
       have hki:(k:Int)<64 - 16:=by omega
       have x14:IntKind.i64.wrap ((k:Int)+16 - 2)=(k:Int)+14:=by simp only [IntKind.wrap_i64];omega
       have x9:IntKind.i64.wrap ((k:Int)+16 - 7)=(k:Int)+9:=by simp only [IntKind.wrap_i64];omega
       have x1:IntKind.i64.wrap ((k:Int)+16 - 15)=(k:Int)+1:=by simp only [IntKind.wrap_i64];omega
       have k80:k<80:=by omega
       have x0:IntKind.i64.wrap (k:Int)=(k:Int):=by simp only [IntKind.wrap_i64];omega
       have y14:((k:Int)+14).toNat=k+14:=by omega
       have y9:((k:Int)+9).toNat=k+9:=by omega
       have y1:((k:Int)+1).toNat=k+1:=by omega
       have y16:((k:Int)+16).toNat=k+16:=by omega
       have l14:(0:Int)≤(k:Int)+14∧(k:Int)+14<80:=by omega
       have l9:(0:Int)≤(k:Int)+9∧(k:Int)+9<80:=by omega
       have l1:(0:Int)≤(k:Int)+1∧(k:Int)+1<80:=by omega
       have l0:(0:Int)≤(k:Int)∧(k:Int)<80:=by omega
       have l16:(0:Int)≤(k:Int)+16∧(k:Int)+16<80:=by omega
       go_wp2
       go_region_held3 (fun w'=>dO (w.heap.size+1+1) (k+16) wr w') (first | exact dO.of_below (by assumption) | exact dO.set (by assumption) _) (first
        | (go_at_call 252;refine (nf _ _ _ _ (by assumption) (by decide) (by decide) (by decide) _).mono ?_;rintro e w' ⟨rfl,hb⟩;have hbn:=aa (W:=wr) (by assumption) hb;have rgn:=(hbn.cell (p:=⟨w.heap.size+1+1,k+16,none⟩) hN).trans rg))
       clear hS hS' hF hb0 r14 r9 r1 r0 x14 x9 x1 x0 y14 y9 y1 y16 l14 l9 l1 l0 l16;go_wp2;go_roundw
       case rel =>
        repeat apply Exists.intro
        refine ⟨?_,rfl⟩;have h1:=(hrow.below hbn hN).set (i:=k+16) (by omega) (BO (eo rn X k) k);rw [J0] at h1;exact ⟨k+1,by omega,by go_num,h1,(hres.below hbn (by omega)).far (by simp) _,(hbel.trans (hbn.mono (by omega))).setCell (by simp) _⟩
       case measure=>simp [intOf];omega
     · have hke:k=64 - 16:=by omega
       subst hke;have c1:=(n9 hbel _ rfl).2.1
       have ht:wr.there (w.heap.size+1) 0 (au .u32 80 (eo rn X (64 - 16))).toArray.size:=by simp only [List.size_toArray,ak];exact hres.there
       have hi:(Tryz.prog.info? 247).map (·.size)=some (au .u32 80 (eo rn X (64 - 16))).toArray.size:=by simp only [List.size_toArray,ak];kernel_rfl
       have hi':(Tryz.prog.info? 247).map (·.size)=some (au .u32 80 (eo rn X (64 - 16))).length:=by rw [ak];kernel_rfl
       have hone:=all_oneCell_toArray (bW .u32 80 (eo rn X (64 - 16)))
       go_wp2_with (first
        | (refine wpList_load_mid rfl 247 _ rfl _ 0 rfl _ _ hrow.range Tryz.underlying247 rfl hi' ?_)
        | (refine wpList_store_mid rfl 247 _ _ rfl _ 0 _ rfl rfl ht hi hone ?_))
       refine bodyPost_ret (v := .agg (au .u32 80 (eo rn X (64 - 16))).toArray) (ai Tryz.results223 _ _ (w.heap.size+1) 0 _ _ rfl (World.rangeAt_setCells_same _ _ _ _ (by rw [ak];exact hres.there)) Tryz.underlying247 rfl hi') rfl ⟨by rw [HX.out],?_⟩;exact ac (by omega) _ _ _ (((Below.refl _ _).alloc (JW _) _).trans (hbel.mono (by omega)))
theorem Cj (x b:Nat) (hb:b<256):bits .or .u64 ((x:Int)*256%18446744073709551616) ((b:Int)%18446744073709551616)=((x*256%2 ^ 64 ||| b:Nat):Int):=by
 have e1:(x:Int)*256%18446744073709551616=((x*256%18446744073709551616:Nat):Int):=by simp
 have e2:(b:Int)%18446744073709551616=((b:Nat):Int):=by omega
 rw [e1,e2,u64_or_nat _ _ (JZ _ (by decide)) (by omega)]
set_option maxRecDepth 20000 in
set_option maxHeartbeats 1000000 in
theorem sm (bb ob cap:Nat) (bs:Nat→Nat) (hbs:∀ j,bs j<256) (w:World) (hcell:∀ j,j<128→w.cell? ⟨bb,ob+j,none⟩=some (.int .u8 (bs j))) :
 Calls Tryz.prog 243 #[(.agg #[.int .i64 64,.int .i64 80,.int .u64 1,.int .u64 8,.int .u64 7,.int .u64 19,.int .u64 61,.int .u64 6,.int .u64 28,.int .u64 34,.int .u64 39,.int .u64 14,.int .u64 18,.int .u64 41]),.slice (some ⟨bb,ob,none⟩) 128 cap] w fun e w'=>e = .returned (.agg (au .u64 80 (eo aA (fill 64 8 bs 128) (80 - 16))).toArray)∧Below w.heap.size w w':=by
 have hz:=yl;have hbb:bb<w.heap.size:=J5 (hcell 0 (by decide));go_enter Tryz.func243,Tryz.ntmps243;go_wp2;clear hz;go_loopw [19] (fun i wr=>∃ k:Nat,k≤128∧i = .int .i64 k∧ah .u64 wr (w.heap.size+1+1) 0 80 (fill 64 8 bs k)∧ah .u64 wr (w.heap.size+1) 0 80 (fun _=>0)∧Below (w.heap.size+1) (w.alloc (.cells #[.int .i64 64,.int .i64 80,.int .u64 1,.int .u64 8,.int .u64 7,.int .u64 19,.int .u64 61,.int .u64 6,.int .u64 28,.int .u64 34,.int .u64 39,.int .u64 14,.int .u64 18,.int .u64 41] 158)) wr) (fun i _=>128 - (intOf i).toNat)
 case atStart =>
  refine ⟨0,Nat.zero_le _,rfl,?_,?_,?_⟩
  · have:=ah.fresh (K := .u64) (w:=(w.alloc (.cells #[.int .i64 64,.int .i64 80,.int .u64 1,.int .u64 8,.int .u64 7,.int .u64 19,.int .u64 61,.int .u64 6,.int .u64 28,.int .u64 34,.int .u64 39,.int .u64 14,.int .u64 18,.int .u64 41] 158)).alloc (.cells pW 250)) (t:=250) (X:=fill 64 8 bs 0) (n:=80) (fun j hj=>nn j hj)
    simpa using this
  · have:=(ah.fresh (K := .u64) (w:=w.alloc (.cells #[.int .i64 64,.int .i64 80,.int .u64 1,.int .u64 8,.int .u64 7,.int .u64 19,.int .u64 61,.int .u64 6,.int .u64 28,.int .u64 34,.int .u64 39,.int .u64 14,.int .u64 18,.int .u64 41] 158)) (t:=250) (X:=fun _=>0) (n:=80) (fun j hj=>nn j hj)).alloc (by simp) (.cells pW 250)
    simpa using this
  · exact ((Below.refl _ _).alloc (by simp) _).alloc (by simp) _
 case round =>
  obtain ⟨k,hk,rfl,hrow,hres,hbel⟩:=hrel
  by_cases hlt:k<128
  · have hc:=(hbel.cell (p:=⟨bb,ob+k,none⟩) (Nat.lt_succ_of_lt hbb)).trans ((World.cell?_alloc_lt _ _ _ hbb).trans (hcell k hlt))
    have hr:=hrow (k / 8) (by omega);obtain ⟨hr1,hr2⟩:=hr;rw [J0] at hr1 hr2
    have hq:k / 8<80:=by omega
    clear hcell;go_wp2;go_region;go_wp2;go_roundw
    case rel =>
     have h1:=hrow.set hq (Cj (fill 64 8 bs k (k / 8)) (bs k) (hbs k));rw [J0] at h1;exact ⟨k+1,hlt,by go_num,h1.drew,(hres.far (by simp) _).drew,(hbel.setCell (by simp) _).drew⟩
    case measure=>simp [intOf];omega
  · have hke:k=128:=by omega
    subst hke;clear hcell hlt hk;have hu:∀ j,fill 64 8 bs 128 j<2 ^ 64:=kj (fun j=>Nat.lt_of_lt_of_le (hbs j) (by decide)) 128
    obtain ⟨X,hX⟩:∃ X,X=fill 64 8 bs 128:=⟨_,rfl⟩
    have HX:Hid (X=fill 64 8 bs 128):=hX;rw [←hX] at hrow hu;clear hX;have hr1:=(ol hbel _ rfl).2.1;go_wp2;clear hr1;go_loopw [10] (fun t w2=>∃ k:Nat,k≤80 - 16∧t = .int .i64 ((k:Int)+16)∧ah .u64 w2 (w.heap.size+1+1) 0 80 (eo aA X k)∧ah .u64 w2 (w.heap.size+1) 0 80 (fun _=>0)∧Below (w.heap.size+1) (w.alloc (.cells #[.int .i64 64,.int .i64 80,.int .u64 1,.int .u64 8,.int .u64 7,.int .u64 19,.int .u64 61,.int .u64 6,.int .u64 28,.int .u64 34,.int .u64 39,.int .u64 14,.int .u64 18,.int .u64 41] 158)) w2) (fun t _=>80 - (intOf t).toNat)
    case atStart=>exact ⟨0,Nat.zero_le _,rfl,hrow,hres,hbel⟩
    case round =>
     clear hrow hres hbel;obtain ⟨k,hk,rfl,hrow,hres,hbel⟩:=hrel;have hsz:=hbel.size;rw [World.size_alloc] at hsz
     by_cases hlt:k<80 - 16
     · obtain ⟨c0,c1,c2,c3,c4,c5,c6,c7,-⟩:=ol hbel _ rfl
       have hN:w.heap.size+1+1<wr.heap.size:=J5 (hrow 0 (by decide)).1
       have q0:w.heap.size<wr.heap.size:=by omega
       have hS:∀ w':World,dO (w.heap.size+1+1) (k+16) wr w'→∀ q,q<k+16→w'.cell? ⟨w.heap.size+1+1,q,none⟩=wr.cell? ⟨w.heap.size+1+1,q,none⟩:=fun w' h q hq=>h.cell _ _ hN (fun _=>by omega)
       have hS':∀ w':World,dO (w.heap.size+1+1) (k+16) wr w'→∀ q,w'.cell? ⟨w.heap.size,q,none⟩=wr.cell? ⟨w.heap.size,q,none⟩:=fun w' h q=>h.cell _ _ q0 (fun e=>by omega)
       have hF:∀ w':World,dO (w.heap.size+1+1) (k+16) wr w'→∀ q,w'.frozen? ⟨w.heap.size+1+1,q,none⟩=wr.frozen? ⟨w.heap.size+1+1,q,none⟩:=fun w' h q=>h.frozen _ _ hN
       have hb0:Below wr.heap.size wr wr.drew:=(Below.refl _ _).drew;have r14:=(hrow (k+14) (by omega)).1;have r9:=(hrow (k+9) (by omega)).1;have r1:=(hrow (k+1) (by omega)).1;have r0:=(hrow k (by omega)).1;have rf:=(hrow (k+16) (by omega)).2;have rg:=(hrow (k+16) (by omega)).1;rw [J0] at r14 r9 r1 r0 rf rg;have u14:eo aA X k (k+14)<18446744073709551616:=gY (r:=aA) hu k (k+14);have u1:eo aA X k (k+1)<18446744073709551616:=gY (r:=aA) hu k (k+1)
       have hki:(k:Int)<80 - 16:=by omega
       have x14:IntKind.i64.wrap ((k:Int)+16 - 2)=(k:Int)+14:=by simp only [IntKind.wrap_i64];omega
       have x9:IntKind.i64.wrap ((k:Int)+16 - 7)=(k:Int)+9:=by simp only [IntKind.wrap_i64];omega
       have x1:IntKind.i64.wrap ((k:Int)+16 - 15)=(k:Int)+1:=by simp only [IntKind.wrap_i64];omega
       have k80:k<80:=by omega
       have x0:IntKind.i64.wrap (k:Int)=(k:Int):=by simp only [IntKind.wrap_i64];omega
       have y14:((k:Int)+14).toNat=k+14:=by omega
       have y9:((k:Int)+9).toNat=k+9:=by omega
       have y1:((k:Int)+1).toNat=k+1:=by omega
       have y16:((k:Int)+16).toNat=k+16:=by omega
       have l14:(0:Int)≤(k:Int)+14∧(k:Int)+14<80:=by omega
       have l9:(0:Int)≤(k:Int)+9∧(k:Int)+9<80:=by omega
       have l1:(0:Int)≤(k:Int)+1∧(k:Int)+1<80:=by omega
       have l0:(0:Int)≤(k:Int)∧(k:Int)<80:=by omega
       have l16:(0:Int)≤(k:Int)+16∧(k:Int)+16<80:=by omega
       go_wp2
       go_region_held3 (fun w'=>dO (w.heap.size+1+1) (k+16) wr w') (first | exact dO.of_below (by assumption) | exact dO.set (by assumption) _) (first
        | (go_at_call 269;refine (ng _ _ _ _ (by assumption) (by decide) (by decide) (by decide) _).mono ?_;rintro e w' ⟨rfl,hb⟩;have hbn:=aa (W:=wr) (by assumption) hb;have rgn:=(hbn.cell (p:=⟨w.heap.size+1+1,k+16,none⟩) hN).trans rg))
       clear hS hS' hF hb0 r14 r9 r1 r0 x14 x9 x1 x0 y14 y9 y1 y16 l14 l9 l1 l0 l16;go_wp2;go_roundw
       case rel =>
        repeat apply Exists.intro
        refine ⟨?_,rfl⟩;have h1:=(hrow.below hbn hN).set (i:=k+16) (by omega) (BC (eo aA X k) k);rw [J0] at h1;exact ⟨k+1,by omega,by go_num,h1,(hres.below hbn (by omega)).far (by simp) _,(hbel.trans (hbn.mono (by omega))).setCell (by simp) _⟩
       case measure=>simp [intOf];omega
     · have hke:k=80 - 16:=by omega
       subst hke;have c1:=(ol hbel _ rfl).2.1
       have ht:wr.there (w.heap.size+1) 0 (au .u64 80 (eo aA X (80 - 16))).toArray.size:=by simp only [List.size_toArray,ak];exact hres.there
       have hi:(Tryz.prog.info? 250).map (·.size)=some (au .u64 80 (eo aA X (80 - 16))).toArray.size:=by simp only [List.size_toArray,ak];kernel_rfl
       have hi':(Tryz.prog.info? 250).map (·.size)=some (au .u64 80 (eo aA X (80 - 16))).length:=by rw [ak];kernel_rfl
       have hone:=all_oneCell_toArray (bW .u64 80 (eo aA X (80 - 16)))
       go_wp2_with (first
        | (refine wpList_load_mid rfl 250 _ rfl _ 0 rfl _ _ hrow.range Tryz.underlying250 rfl hi' ?_)
        | (refine wpList_store_mid rfl 250 _ _ rfl _ 0 _ rfl rfl ht hi hone ?_))
       refine bodyPost_ret (v := .agg (au .u64 80 (eo aA X (80 - 16))).toArray) (ai Tryz.results243 _ _ (w.heap.size+1) 0 _ _ rfl (World.rangeAt_setCells_same _ _ _ _ (by rw [ak];exact hres.there)) Tryz.underlying250 rfl hi') rfl ⟨by rw [HX.out],?_⟩;exact ac (by omega) _ _ _ (((Below.refl _ _).alloc (JW _) _).trans (hbel.mono (by omega)))
end Go.Proofs.YtibdhadbflfdpaaGreatDoor
