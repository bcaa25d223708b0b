/- What the proof stands on: Bts, HMath, HSmall, HSpread. -/
import Derived.Test.YtcgkajlehdgpoaaGreatDoorBaseM
import Derived.Test.YtcgkajlehdgpoaaGreatDoorRows
import Derived.BigQuiet
import Derived.Deep.MidRow
import Derived.Deep.QuietTactic
import Derived.Deep.RegionHeld3
import Derived.Laws.Bits64
import Derived.Laws.Bits64b
import Derived.Laws.BitsAllLaws
import Derived.WalkKit
import Derived.WalkLawsBesides
import Derived.WalkSpells
namespace Go.Proofs.YtcgkajlehdgpoaaGreatDoor
def byt (n j:Nat):Nat:=n / 256 ^ j%256
theorem byt_lt (n j:Nat):byt n j<256:=Nat.mod_lt _ (by decide)
def ofB (bs:Nat→Nat):Nat→Nat
 | 0=>0
 | k+1=>ofB bs k+256 ^ k*bs k
theorem ofB_lt (bs:Nat→Nat) (hb:∀ j,bs j<256):∀ k,ofB bs k<256 ^ k
 | 0=>Nat.one_pos
 | k+1=>by
  have h:=ofB_lt bs hb k
  have h2:256 ^ k*bs k≤256 ^ k*255:=Nat.mul_le_mul_left _ (by have:=hb k;omega)
  rw [ofB,Nat.pow_succ]
  omega
theorem ofB_congr {a b:Nat→Nat}:∀ k,(∀ j,j<k→a j=b j)→ofB a k=ofB b k
 | 0,_=>rfl
 | k+1,h=>by rw [ofB,ofB,ofB_congr k (fun j hj=>h j (by omega)),h k (by omega)]
theorem pow_B (a:Nat):18446744073709551616 ^ a=2 ^ (64*a):=by
 rw [show (18446744073709551616:Nat)=2 ^ 64 from rfl,←Nat.pow_mul]
theorem pow_b (a:Nat):256 ^ a=2 ^ (8*a):=by
 rw [show (256:Nat)=2 ^ 8 from rfl,←Nat.pow_mul]
theorem word_byte (n k:Nat):lw n (k / 8) / 2 ^ (k%8*8)%256=byt n k:=by
 unfold lw byt
 rw [←Nat.mod_mul_right_div_self,Nat.mod_mod_of_dvd,Nat.mod_mul_right_div_self,Nat.div_div_eq_div_mul,pow_B,pow_b,←Nat.pow_add]
 · congr 4;omega
 · rw [show (256:Nat)=2 ^ 8 from rfl,show (18446744073709551616:Nat)=2 ^ 64 from rfl,←Nat.pow_add]
   exact Nat.pow_dvd_pow 2 (by omega)
theorem word_byte_int (n k:Nat):(lw n (k / 8):Int) / 2 ^ (k%8*8)%256=((byt n k:Nat):Int):=by
 rw [←word_byte];simp
theorem word_more (bs:Nat→Nat) (hb:∀ j,bs j<256) (k a:Nat):lw (ofB bs (k+1)) a=if a=k / 8 then lw (ofB bs k) a ||| bs k*2 ^ (k%8*8) else lw (ofB bs k) a:=by
 have hV:=ofB_lt bs hb k
 have hbk:=hb k
 rw [ofB]
 generalize hv:ofB bs k=V at hV ⊢
 clear hv
 unfold lw
 rw [pow_b] at hV ⊢
 rw [pow_B]
 have hk:8*k=64*(k / 8)+k%8*8:=by omega
 have hc:k%8*8+8≤64:=by omega
 rw [hk,Nat.pow_add] at hV
 rw [hk,Nat.pow_add]
 generalize hA:k / 8=A at *
 generalize k%8*8=c at *
 clear hk hA
 have hBp:0<2 ^ (64*A):=Nat.two_pow_pos _
 have hcp:0<2 ^ c:=Nat.two_pow_pos _
 have h2:2 ^ c*bs k+2 ^ c≤18446744073709551616:=by
  have:2 ^ c*256≤18446744073709551616:=by
   rw [show (256:Nat)=2 ^ 8 from rfl,show (18446744073709551616:Nat)=2 ^ 64 from rfl,←Nat.pow_add]
   exact Nat.pow_le_pow_right (by decide) hc
  have h3:2 ^ c*bs k≤2 ^ c*255:=Nat.mul_le_mul_left _ (by omega)
  omega
 rcases Nat.lt_trichotomy a A with h | h | h
 · rw [if_neg (by omega)]
   have e:64*A=64*a+(64+64*(A - a - 1)):=by omega
   rw [e,Nat.pow_add,Nat.mul_assoc,Nat.mul_assoc,Nat.add_mul_div_left _ _ (Nat.two_pow_pos _),Nat.pow_add,Nat.mul_assoc,show (2:Nat) ^ 64=18446744073709551616 from rfl,Nat.add_mul_mod_self_left]
 · subst h
   rw [if_pos rfl,Nat.mul_assoc,Nat.add_mul_div_left _ _ hBp]
   have hq:V / 2 ^ (64*a)<2 ^ c:=Nat.div_lt_of_lt_mul hV
   rw [Nat.mod_eq_of_lt (by omega),Nat.mod_eq_of_lt (by omega),Nat.or_comm,Nat.mul_comm (bs k)]
   have:=Nat.two_pow_add_eq_or_of_lt hq (bs k)
   omega
 · rw [if_neg (by omega)]
   have e:64*a=64*A+(64+64*(a - A - 1)):=by omega
   have hle:2 ^ (64*A)*18446744073709551616≤2 ^ (64*a):=by
    rw [show (18446744073709551616:Nat)=2 ^ 64 from rfl,←Nat.pow_add]
    exact Nat.pow_le_pow_right (by decide) (by omega)
   have h5:V+2 ^ (64*A)*2 ^ c*bs k<2 ^ (64*A)*(2 ^ c*bs k+2 ^ c):=by
    rw [Nat.mul_add,Nat.mul_assoc];omega
   have h6:2 ^ (64*A)*(2 ^ c*bs k+2 ^ c)≤2 ^ (64*A)*18446744073709551616:=Nat.mul_le_mul_left _ h2
   rw [Nat.div_eq_of_lt (by omega),Nat.div_eq_of_lt (by omega)]
theorem ofB_byt (n:Nat):∀ k,ofB (byt n) k=n%256 ^ k
 | 0=>by rw [ofB,Nat.pow_zero,Nat.mod_one]
 | k+1=>by
  rw [ofB,ofB_byt n k,Nat.pow_succ,Nat.mod_mul]
  rfl
theorem or_byte (V b k:Nat) (hV:V<18446744073709551616) (hb:b<256):bits .or .u64 (V:Int) (IntKind.u64.wrap ((b:Int)*2 ^ (k%8*8)))=((V ||| b*2 ^ (k%8*8):Nat):Int):=by
 have h2:b*2 ^ (k%8*8)<18446744073709551616:=by
  have h1:2 ^ (k%8*8)≤2 ^ 56:=Nat.pow_le_pow_right (by decide) (by omega)
  have h3:b*2 ^ (k%8*8)≤255*2 ^ 56:=Nat.mul_le_mul (by omega) h1
  omega
 have e:IntKind.u64.wrap ((b:Int)*2 ^ (k%8*8))=((b*2 ^ (k%8*8):Nat):Int):=by
  rw [IntKind.wrap_u64]
  have e1:(b:Int)*2 ^ (k%8*8)=((b*2 ^ (k%8*8):Nat):Int):=by simp
  rw [e1];omega
 rw [e,bits_or_u64_nat _ _ hV h2]
end Go.Proofs.YtcgkajlehdgpoaaGreatDoor
namespace Go.Proofs.YtcgkajlehdgpoaaGreatDoor
open Go
structure Ru where
 m:Nat
 rounds:Nat
 s0:Nat × Nat × Nat
 s1:Nat × Nat × Nat
 l0:Nat × Nat × Nat
 l1:Nat × Nat × Nat
def rn:Ru:=⟨32,64,(7,18,3),(17,19,10),(2,13,22),(6,11,25)⟩
def rw6:Ru:=⟨64,80,(1,8,7),(19,61,6),(28,34,39),(14,18,41)⟩
def rot (m x n:Nat):Nat:=(x / 2 ^ n) ||| (x*2 ^ (m - n)%2 ^ m)
def hi3 (m x:Nat) (n:Nat × Nat × Nat):Nat:=rot m x n.1 ^^^ rot m x n.2.1 ^^^ rot m x n.2.2
def lo3 (m x:Nat) (n:Nat × Nat × Nat):Nat:=rot m x n.1 ^^^ rot m x n.2.1 ^^^ (x / 2 ^ n.2.2)
theorem rot_lt (m x n:Nat) (hx:x<2 ^ m):rot m x n<2 ^ m :=
 Nat.or_lt_two_pow (Nat.lt_of_le_of_lt (Nat.div_le_self _ _) hx) (Nat.mod_lt _ (Nat.two_pow_pos m))
theorem rot32_eq (x n:Nat) (hx:x<4294967296) :
 bits .or .u32 ((x:Int) / 2 ^ n) ((x:Int)*2 ^ (32 - n)%4294967296)=((rot 32 x n:Nat):Int):=by
 have e1:(x:Int) / 2 ^ n=((x / 2 ^ n:Nat):Int):=by simp
 have e2:(x:Int)*2 ^ (32 - n)%4294967296=((x*2 ^ (32 - n)%4294967296:Nat):Int):=by simp
 rw [e1,e2,u32_or_nat _ _ (Nat.lt_of_le_of_lt (Nat.div_le_self _ _) hx) (Nat.mod_lt _ (by decide))]
 rfl
end Go.Proofs.YtcgkajlehdgpoaaGreatDoor
namespace Go.Proofs.YtcgkajlehdgpoaaGreatDoor
open Go.RowKit
theorem turn32_any (x n:Nat) (hx:x<4294967296) (hn:n≤32) (w:World) :
 Calls Tryz.prog 191 #[.int .u32 x,.int .u64 n,.int .u64 32] w fun e w'=>e = .returned (.int .u32 (rot 32 x n))∧w'=w:=by
 go_enter Tryz.func191,Tryz.ntmps191
 go_wp2
 go_ret
 exact ⟨retInt (rot32_eq x n hx),rfl⟩
theorem turnAll32_any (x a b c:Nat) (hx:x<4294967296) (ha:a≤32) (hb:b≤32) (hc:c≤32) (w:World) :
 Calls Tryz.prog 184 #[.int .u32 x,.agg #[.int .u64 a,.int .u64 b,.int .u64 c],.int .u64 32] w fun e w'=>e = .returned (.int .u32 (hi3 32 x (a,b,c)))∧Below w.heap.size w w':=by
 go_enter Tryz.func184,Tryz.ntmps184
 go_wp2
 go_quiet ((go_at_call 191;exact Calls.quiet_of_same (turn32_any _ _ hx (by assumption) _)))
 go_wp2
 go_ret
 refine ⟨retInt ?_,below_drewN ((Below.refl _ _).alloc (Nat.le_refl _) _) _⟩
 rw [u32_xor_nat _ _ (rot_lt 32 x a hx) (rot_lt 32 x b hx),u32_xor_nat _ _ (Nat.xor_lt_two_pow (rot_lt 32 x a hx) (rot_lt 32 x b hx)) (rot_lt 32 x c hx)]
 rfl
theorem turnShift32_any (x a b c:Nat) (hx:x<4294967296) (ha:a≤32) (hb:b≤32) (hc:c≤32) (w:World) :
 Calls Tryz.prog 190 #[.int .u32 x,.agg #[.int .u64 a,.int .u64 b,.int .u64 c],.int .u64 32] w fun e w'=>e = .returned (.int .u32 (lo3 32 x (a,b,c)))∧Below w.heap.size w w':=by
 go_enter Tryz.func190,Tryz.ntmps190
 go_wp2
 go_quiet ((go_at_call 191;exact Calls.quiet_of_same (turn32_any _ _ hx (by assumption) _)))
 go_wp2
 go_ret
 refine ⟨retInt ?_,below_drewN ((Below.refl _ _).alloc (Nat.le_refl _) _) _⟩
 have e1:(x:Int) / 2 ^ c=((x / 2 ^ c:Nat):Int):=by simp
 rw [e1,u32_xor_nat _ _ (rot_lt 32 x a hx) (rot_lt 32 x b hx),u32_xor_nat _ _ (Nat.xor_lt_two_pow (rot_lt 32 x a hx) (rot_lt 32 x b hx)) (Nat.lt_of_le_of_lt (Nat.div_le_self _ _) hx)]
 rfl
theorem highest32_any (x:Nat) (_hx:x<18446744073709551616) (w:World) :
 Calls Tryz.prog 168 #[.int .u64 x,(.agg #[.int .i64 32,.int .i64 64,.int .u64 7,.int .u64 18,.int .u64 3,.int .u64 17,.int .u64 19,.int .u64 10,.int .u64 2,.int .u64 13,.int .u64 22,.int .u64 6,.int .u64 11,.int .u64 25])] w fun e w'=>e = .returned (.int .u32 ((x / 2 ^ (64 - 32):Nat):Int))∧Below w.heap.size w w':=by
 go_enter Tryz.func168,Tryz.ntmps168
 go_wp2
 go_ret
 refine ⟨retInt ?_,((Below.refl _ _).alloc (Nat.le_refl _) _)⟩
 simp
 try omega
theorem blockSize32_any (w:World) :
 Calls Tryz.prog 169 #[(.agg #[.int .i64 32,.int .i64 64,.int .u64 7,.int .u64 18,.int .u64 3,.int .u64 17,.int .u64 19,.int .u64 10,.int .u64 2,.int .u64 13,.int .u64 22,.int .u64 6,.int .u64 11,.int .u64 25])] w fun e w'=>e = .returned (.int .i64 64)∧Below w.heap.size w w':=by
 go_enter Tryz.func169,Tryz.ntmps169
 go_wp2
 go_ret
 exact ⟨rfl,((Below.refl _ _).alloc (Nat.le_refl _) _)⟩
end Go.Proofs.YtcgkajlehdgpoaaGreatDoor
namespace Go.Proofs.YtcgkajlehdgpoaaGreatDoor
open Go.RowKit
def fill (m sz:Nat) (bs:Nat→Nat):Nat→Nat→Nat
 | 0=>fun _=>0
 | i+1=>upd (fill m sz bs i) (i / sz) ((fill m sz bs i (i / sz)*256%2 ^ m) ||| bs i)
def nextW (r:Ru) (X:Nat→Nat) (k:Nat):Nat:=(lo3 r.m (X (k+14)) r.s1+X (k+9)+lo3 r.m (X (k+1)) r.s0+X k)%2 ^ r.m
def sch (r:Ru) (X:Nat→Nat):Nat→Nat→Nat
 | 0=>X
 | k+1=>upd (sch r X k) (k+16) (nextW r (sch r X k) k)
theorem fill_lt {m sz:Nat} {bs:Nat→Nat} (hb:∀ j,bs j<2 ^ m):∀ i j,fill m sz bs i j<2 ^ m
 | 0,_=>Nat.two_pow_pos m
 | i+1,j=>by
  unfold fill upd
  split
  · exact Nat.or_lt_two_pow (Nat.mod_lt _ (Nat.two_pow_pos m)) (hb i)
  · exact fill_lt hb i j
theorem sch_lt {r:Ru} {X:Nat→Nat} (hX:∀ j,X j<2 ^ r.m):∀ k j,sch r X k j<2 ^ r.m
 | 0,j=>hX j
 | k+1,j=>by
  unfold sch upd
  split
  · exact Nat.mod_lt _ (Nat.two_pow_pos _)
  · exact sch_lt hX k j
def zs32:Array Value:=Array.replicate 80 (.int .u32 0)
theorem zero221 (w:World):Sem.run Tryz.prog (zeroValue 221) w = .ok (.agg zs32) w:=by kernel_rfl
theorem zs32_at (j:Nat) (h:j<80):zs32[j]? = some (.int .u32 0):=by simp [zs32,h]
theorem rbox32 {W w1:World} (h:Below (W.heap.size+1) (W.alloc (.cells #[.int .i64 32,.int .i64 64,.int .u64 7,.int .u64 18,.int .u64 3,.int .u64 17,.int .u64 19,.int .u64 10,.int .u64 2,.int .u64 13,.int .u64 22,.int .u64 6,.int .u64 11,.int .u64 25] 184)) w1) (B:Nat) (hB:B=W.heap.size):w1.cell? ⟨B,0,none⟩=some (.int .i64 32)∧w1.cell? ⟨B,1,none⟩=some (.int .i64 64)∧w1.cell? ⟨B,2,none⟩=some (.int .u64 7)∧w1.cell? ⟨B,3,none⟩=some (.int .u64 18)∧w1.cell? ⟨B,4,none⟩=some (.int .u64 3)∧w1.cell? ⟨B,5,none⟩=some (.int .u64 17)∧w1.cell? ⟨B,6,none⟩=some (.int .u64 19)∧w1.cell? ⟨B,7,none⟩=some (.int .u64 10)∧w1.cell? ⟨B,8,none⟩=some (.int .u64 2)∧w1.cell? ⟨B,9,none⟩=some (.int .u64 13)∧w1.cell? ⟨B,10,none⟩=some (.int .u64 22)∧w1.cell? ⟨B,11,none⟩=some (.int .u64 6)∧w1.cell? ⟨B,12,none⟩=some (.int .u64 11)∧w1.cell? ⟨B,13,none⟩=some (.int .u64 25):=by
 subst hB
 have hc:∀ j,w1.cell? ⟨W.heap.size,j,none⟩=(W.alloc (.cells #[.int .i64 32,.int .i64 64,.int .u64 7,.int .u64 18,.int .u64 3,.int .u64 17,.int .u64 19,.int .u64 10,.int .u64 2,.int .u64 13,.int .u64 22,.int .u64 6,.int .u64 11,.int .u64 25] 184)).cell? ⟨W.heap.size,j,none⟩:=fun j=>h.cell (p:=⟨W.heap.size,j,none⟩) (Nat.lt_succ_self _)
 simp only [hc]
 simp
theorem rbox64 {W w1:World} (h:Below (W.heap.size+1) (W.alloc (.cells #[.int .i64 64,.int .i64 80,.int .u64 1,.int .u64 8,.int .u64 7,.int .u64 19,.int .u64 61,.int .u64 6,.int .u64 28,.int .u64 34,.int .u64 39,.int .u64 14,.int .u64 18,.int .u64 41] 184)) w1) (B:Nat) (hB:B=W.heap.size):w1.cell? ⟨B,0,none⟩=some (.int .i64 64)∧w1.cell? ⟨B,1,none⟩=some (.int .i64 80)∧w1.cell? ⟨B,2,none⟩=some (.int .u64 1)∧w1.cell? ⟨B,3,none⟩=some (.int .u64 8)∧w1.cell? ⟨B,4,none⟩=some (.int .u64 7)∧w1.cell? ⟨B,5,none⟩=some (.int .u64 19)∧w1.cell? ⟨B,6,none⟩=some (.int .u64 61)∧w1.cell? ⟨B,7,none⟩=some (.int .u64 6)∧w1.cell? ⟨B,8,none⟩=some (.int .u64 28)∧w1.cell? ⟨B,9,none⟩=some (.int .u64 34)∧w1.cell? ⟨B,10,none⟩=some (.int .u64 39)∧w1.cell? ⟨B,11,none⟩=some (.int .u64 14)∧w1.cell? ⟨B,12,none⟩=some (.int .u64 18)∧w1.cell? ⟨B,13,none⟩=some (.int .u64 41):=by
 subst hB
 have hc:∀ j,w1.cell? ⟨W.heap.size,j,none⟩=(W.alloc (.cells #[.int .i64 64,.int .i64 80,.int .u64 1,.int .u64 8,.int .u64 7,.int .u64 19,.int .u64 61,.int .u64 6,.int .u64 28,.int .u64 34,.int .u64 39,.int .u64 14,.int .u64 18,.int .u64 41] 184)).cell? ⟨W.heap.size,j,none⟩:=fun j=>h.cell (p:=⟨W.heap.size,j,none⟩) (Nat.lt_succ_self _)
 simp only [hc]
 simp
theorem sum4_32 (a b c d:Nat):((((a:Int)+b)%4294967296+c)%4294967296+d)%4294967296=(((a+b+c+d)%2 ^ 32:Nat):Int):=by
 have e:(2:Nat) ^ 32=4294967296:=rfl
 rw [e];omega
theorem nextW_32 (X:Nat→Nat) (k:Nat):((((lo3 32 (X (k+14)) (17,19,10):Int)+X (k+9))%4294967296+lo3 32 (X (k+1)) (7,18,3))%4294967296+X k)%4294967296=((nextW rn X k:Nat):Int) :=
 sum4_32 _ _ _ _
theorem or8_32 (x b:Nat) (hb:b<256):bits .or .u32 ((x:Int)*256%4294967296) ((b:Int)%4294967296)=((x*256%2 ^ 32 ||| b:Nat):Int):=by
 have e1:(x:Int)*256%4294967296=((x*256%4294967296:Nat):Int):=by simp
 have e2:(b:Int)%4294967296=((b:Nat):Int):=by omega
 rw [e1,e2,u32_or_nat _ _ (Nat.mod_lt _ (by decide)) (by omega)]
set_option maxRecDepth 20000 in
set_option maxHeartbeats 1000000 in
theorem spread32_any (bb ob cap:Nat) (bs:Nat→Nat) (hbs:∀ j,bs j<256) (w:World) (hcell:∀ j,j<64→w.cell? ⟨bb,ob+j,none⟩=some (.int .u8 (bs j))) :
 Calls Tryz.prog 183 #[(.agg #[.int .i64 32,.int .i64 64,.int .u64 7,.int .u64 18,.int .u64 3,.int .u64 17,.int .u64 19,.int .u64 10,.int .u64 2,.int .u64 13,.int .u64 22,.int .u64 6,.int .u64 11,.int .u64 25]),.slice (some ⟨bb,ob,none⟩) 64 cap] w fun e w'=>e = .returned (.agg (ints .u32 80 (sch rn (fill 32 4 bs 64) (64 - 16))).toArray)∧Below w.heap.size w w':=by
 have hz:=zero221
 have hbb:bb<w.heap.size:=block_lt_of_cell (hcell 0 (by decide))
 go_enter Tryz.func183,Tryz.ntmps183
 go_wp2
 clear hz
 go_loopw [19] (fun i wr=>∃ k:Nat,k≤64∧i = .int .i64 k∧RowAt .u32 wr (w.heap.size+1+1) 0 80 (fill 32 4 bs k)∧RowAt .u32 wr (w.heap.size+1) 0 80 (fun _=>0)∧Below (w.heap.size+1) (w.alloc (.cells #[.int .i64 32,.int .i64 64,.int .u64 7,.int .u64 18,.int .u64 3,.int .u64 17,.int .u64 19,.int .u64 10,.int .u64 2,.int .u64 13,.int .u64 22,.int .u64 6,.int .u64 11,.int .u64 25] 184)) wr) (fun i _=>64 - (intOf i).toNat)
 case atStart =>
  refine ⟨0,Nat.zero_le _,rfl,?_,?_,?_⟩
  · have:=RowAt.fresh (K := .u32) (w:=(w.alloc (.cells #[.int .i64 32,.int .i64 64,.int .u64 7,.int .u64 18,.int .u64 3,.int .u64 17,.int .u64 19,.int .u64 10,.int .u64 2,.int .u64 13,.int .u64 22,.int .u64 6,.int .u64 11,.int .u64 25] 184)).alloc (.cells zs32 221)) (t:=221) (X:=fill 32 4 bs 0) (n:=80) (fun j hj=>zs32_at j hj)
    simpa using this
  · have:=(RowAt.fresh (K := .u32) (w:=w.alloc (.cells #[.int .i64 32,.int .i64 64,.int .u64 7,.int .u64 18,.int .u64 3,.int .u64 17,.int .u64 19,.int .u64 10,.int .u64 2,.int .u64 13,.int .u64 22,.int .u64 6,.int .u64 11,.int .u64 25] 184)) (t:=221) (X:=fun _=>0) (n:=80) (fun j hj=>zs32_at j hj)).alloc (by simp) (.cells zs32 221)
    simpa using this
  · exact ((Below.refl _ _).alloc (by simp) _).alloc (by simp) _
 case round =>
  obtain ⟨k,hk,rfl,hrow,hres,hbel⟩:=hrel
  by_cases hlt:k<64
  · have hc:=(hbel.cell (p:=⟨bb,ob+k,none⟩) (Nat.lt_succ_of_lt hbb)).trans ((World.cell?_alloc_lt _ _ _ hbb).trans (hcell k hlt))
    have hr:=hrow (k / 4) (by omega)
    obtain ⟨hr1,hr2⟩:=hr
    rw [Nat.zero_add] at hr1 hr2
    have hq:k / 4<80:=by omega
    clear hcell
    go_wp2
    go_region
    go_wp2
    go_roundw
    case rel =>
     have h1:=hrow.set hq (or8_32 (fill 32 4 bs k (k / 4)) (bs k) (hbs k))
     rw [Nat.zero_add] at h1
     exact ⟨k+1,hlt,by go_num,h1.drew,(hres.far (by simp) _).drew,(hbel.setCell (by simp) _).drew⟩
    case measure=>simp [intOf];omega
  · have hke:k=64:=by omega
    subst hke
    clear hcell hlt hk
    have hu:∀ j,fill 32 4 bs 64 j<2 ^ 32:=fill_lt (fun j=>Nat.lt_of_lt_of_le (hbs j) (by decide)) 64
    obtain ⟨X,hX⟩:∃ X,X=fill 32 4 bs 64:=⟨_,rfl⟩
    have HX:Hid (X=fill 32 4 bs 64):=hX
    rw [←hX] at hrow hu
    clear hX
    have hr1:=(rbox32 hbel _ rfl).2.1
    go_wp2
    clear hr1
    go_loopw [10] (fun t w2=>∃ k:Nat,k≤64 - 16∧t = .int .i64 ((k:Int)+16)∧RowAt .u32 w2 (w.heap.size+1+1) 0 80 (sch rn X k)∧RowAt .u32 w2 (w.heap.size+1) 0 80 (fun _=>0)∧Below (w.heap.size+1) (w.alloc (.cells #[.int .i64 32,.int .i64 64,.int .u64 7,.int .u64 18,.int .u64 3,.int .u64 17,.int .u64 19,.int .u64 10,.int .u64 2,.int .u64 13,.int .u64 22,.int .u64 6,.int .u64 11,.int .u64 25] 184)) w2) (fun t _=>64 - (intOf t).toNat)
    case atStart=>exact ⟨0,Nat.zero_le _,rfl,hrow,hres,hbel⟩
    case round =>
     clear hrow hres hbel
     obtain ⟨k,hk,rfl,hrow,hres,hbel⟩:=hrel
     have hsz:=hbel.size
     rw [World.size_alloc] at hsz
     by_cases hlt:k<64 - 16
     · obtain ⟨c0,c1,c2,c3,c4,c5,c6,c7,-⟩:=rbox32 hbel _ rfl
       have hN:w.heap.size+1+1<wr.heap.size:=block_lt_of_cell (hrow 0 (by decide)).1
       have q0:w.heap.size<wr.heap.size:=by omega
       have hS:∀ w':World,Near (w.heap.size+1+1) (k+16) wr w'→∀ q,q<k+16→w'.cell? ⟨w.heap.size+1+1,q,none⟩=wr.cell? ⟨w.heap.size+1+1,q,none⟩:=fun w' h q hq=>h.cell _ _ hN (fun _=>by omega)
       have hS':∀ w':World,Near (w.heap.size+1+1) (k+16) wr w'→∀ q,w'.cell? ⟨w.heap.size,q,none⟩=wr.cell? ⟨w.heap.size,q,none⟩:=fun w' h q=>h.cell _ _ q0 (fun e=>by omega)
       have hF:∀ w':World,Near (w.heap.size+1+1) (k+16) wr w'→∀ q,w'.frozen? ⟨w.heap.size+1+1,q,none⟩=wr.frozen? ⟨w.heap.size+1+1,q,none⟩:=fun w' h q=>h.frozen _ _ hN
       have hb0:Below wr.heap.size wr wr.drew:=(Below.refl _ _).drew
       have r14:=(hrow (k+14) (by omega)).1
       have r9:=(hrow (k+9) (by omega)).1
       have r1:=(hrow (k+1) (by omega)).1
       have r0:=(hrow k (by omega)).1
       have rf:=(hrow (k+16) (by omega)).2
       have rg:=(hrow (k+16) (by omega)).1
       rw [Nat.zero_add] at r14 r9 r1 r0 rf rg
       have u14:sch rn X k (k+14)<4294967296:=sch_lt (r:=rn) hu k (k+14)
       have u1:sch rn X k (k+1)<4294967296:=sch_lt (r:=rn) hu k (k+1)
       have hki:(k:Int)<64 - 16:=by omega
       have x14:IntKind.i64.wrap ((k:Int)+16 - 2)=(k:Int)+14:=by simp only [IntKind.wrap_i64];omega
       have x9:IntKind.i64.wrap ((k:Int)+16 - 7)=(k:Int)+9:=by simp only [IntKind.wrap_i64];omega
       have x1:IntKind.i64.wrap ((k:Int)+16 - 15)=(k:Int)+1:=by simp only [IntKind.wrap_i64];omega
       have k80:k<80:=by omega
       have x0:IntKind.i64.wrap (k:Int)=(k:Int):=by simp only [IntKind.wrap_i64];omega
       have y14:((k:Int)+14).toNat=k+14:=by omega
       have y9:((k:Int)+9).toNat=k+9:=by omega
       have y1:((k:Int)+1).toNat=k+1:=by omega
       have y16:((k:Int)+16).toNat=k+16:=by omega
       have l14:(0:Int)≤(k:Int)+14∧(k:Int)+14<80:=by omega
       have l9:(0:Int)≤(k:Int)+9∧(k:Int)+9<80:=by omega
       have l1:(0:Int)≤(k:Int)+1∧(k:Int)+1<80:=by omega
       have l0:(0:Int)≤(k:Int)∧(k:Int)<80:=by omega
       have l16:(0:Int)≤(k:Int)+16∧(k:Int)+16<80:=by omega
       go_wp2
       go_region_held3 (fun w'=>Near (w.heap.size+1+1) (k+16) wr w') (first | exact Near.of_below (by assumption) | exact Near.set (by assumption) _) (first
        | (go_at_call 190;refine (turnShift32_any _ _ _ _ (by assumption) (by decide) (by decide) (by decide) _).mono ?_;rintro e w' ⟨rfl,hb⟩;have hbn:=below_next (W:=wr) (by assumption) hb;have rgn:=(hbn.cell (p:=⟨w.heap.size+1+1,k+16,none⟩) hN).trans rg))
       clear hS hS' hF hb0 r14 r9 r1 r0 x14 x9 x1 x0 y14 y9 y1 y16 l14 l9 l1 l0 l16
       go_wp2
       go_roundw
       case rel =>
        repeat apply Exists.intro
        refine ⟨?_,rfl⟩
        have h1:=(hrow.below hbn hN).set (i:=k+16) (by omega) (nextW_32 (sch rn X k) k)
        rw [Nat.zero_add] at h1
        exact ⟨k+1,by omega,by go_num,h1,(hres.below hbn (by omega)).far (by simp) _,(hbel.trans (hbn.mono (by omega))).setCell (by simp) _⟩
       case measure=>simp [intOf];omega
     · have hke:k=64 - 16:=by omega
       subst hke
       have c1:=(rbox32 hbel _ rfl).2.1
       have ht:wr.there (w.heap.size+1) 0 (ints .u32 80 (sch rn X (64 - 16))).toArray.size:=by simp only [List.size_toArray,ints_len];exact hres.there
       have hi:(Tryz.prog.info? 221).map (·.size)=some (ints .u32 80 (sch rn X (64 - 16))).toArray.size:=by simp only [List.size_toArray,ints_len];kernel_rfl
       have hi':(Tryz.prog.info? 221).map (·.size)=some (ints .u32 80 (sch rn X (64 - 16))).length:=by rw [ints_len];kernel_rfl
       have hone:=all_oneCell_toArray (ints_one .u32 80 (sch rn X (64 - 16)))
       go_wp2_with (first
        | (refine wpList_load_mid rfl 221 _ rfl _ 0 rfl _ _ hrow.range Tryz.underlying221 rfl hi' ?_)
        | (refine wpList_store_mid rfl 221 _ _ rfl _ 0 _ rfl rfl ht hi hone ?_))
       refine bodyPost_ret (v := .agg (ints .u32 80 (sch rn X (64 - 16))).toArray) (results_cell_mid Tryz.results183 _ _ (w.heap.size+1) 0 _ _ rfl (World.rangeAt_setCells_same _ _ _ _ (by rw [ints_len];exact hres.there)) Tryz.underlying221 rfl hi') rfl ⟨by rw [HX.out],?_⟩
       exact below_setCells (by omega) _ _ _ (((Below.refl _ _).alloc (Nat.le_refl _) _).trans (hbel.mono (by omega)))
end Go.Proofs.YtcgkajlehdgpoaaGreatDoor
