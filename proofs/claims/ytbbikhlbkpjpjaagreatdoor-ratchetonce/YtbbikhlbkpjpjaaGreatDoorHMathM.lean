/- What the proof stands on: HMath, HSmall, HSpread, HMix. -/
import Derived.Test.YtbbikhlbkpjpjaaGreatDoorR8TM
import Derived.Test.YtbbikhlbkpjpjaaGreatDoorRows
import Derived.BigQuiet
import Derived.Deep.MidRow
import Derived.Deep.QuietTactic
import Derived.Deep.RegionHeld3
import Derived.Laws.Bits64
import Derived.Laws.Bits64b
import Derived.Laws.BitsAllLaws
import Derived.WalkKit
import Derived.WalkLawsBesides
import Derived.WalkSpells
namespace Go.Proofs.YtbbikhlbkpjpjaaGreatDoor
open Go
structure Ru where
 m:Nat
 rounds:Nat
 s0:Nat × Nat × Nat
 s1:Nat × Nat × Nat
 l0:Nat × Nat × Nat
 l1:Nat × Nat × Nat
def rn:Ru:=⟨32,64,(7,18,3),(17,19,10),(2,13,22),(6,11,25)⟩
def rw6:Ru:=⟨64,80,(1,8,7),(19,61,6),(28,34,39),(14,18,41)⟩
def rot (m x n:Nat):Nat:=(x / 2 ^ n) ||| (x*2 ^ (m - n)%2 ^ m)
def hi3 (m x:Nat) (n:Nat × Nat × Nat):Nat:=rot m x n.1 ^^^ rot m x n.2.1 ^^^ rot m x n.2.2
def lo3 (m x:Nat) (n:Nat × Nat × Nat):Nat:=rot m x n.1 ^^^ rot m x n.2.1 ^^^ (x / 2 ^ n.2.2)
theorem rot_lt (m x n:Nat) (hx:x<2 ^ m):rot m x n<2 ^ m :=
 Nat.or_lt_two_pow (Nat.lt_of_le_of_lt (Nat.div_le_self _ _) hx) (Nat.mod_lt _ (Nat.two_pow_pos m))
theorem rot32_eq (x n:Nat) (hx:x<4294967296) :
 bits .or .u32 ((x:Int) / 2 ^ n) ((x:Int)*2 ^ (32 - n)%4294967296)=((rot 32 x n:Nat):Int):=by
 have e1:(x:Int) / 2 ^ n=((x / 2 ^ n:Nat):Int):=by simp
 have e2:(x:Int)*2 ^ (32 - n)%4294967296=((x*2 ^ (32 - n)%4294967296:Nat):Int):=by simp
 rw [e1,e2,u32_or_nat _ _ (Nat.lt_of_le_of_lt (Nat.div_le_self _ _) hx) (Nat.mod_lt _ (by decide))]
 rfl
end Go.Proofs.YtbbikhlbkpjpjaaGreatDoor
namespace Go.Proofs.YtbbikhlbkpjpjaaGreatDoor
open Go.RowKit
theorem turn32_any (x n:Nat) (hx:x<4294967296) (hn:n≤32) (w:World) :
 Calls Tryz.prog 169 #[.int .u32 x,.int .u64 n,.int .u64 32] w fun e w'=>e = .returned (.int .u32 (rot 32 x n))∧w'=w:=by
 go_enter Tryz.func169,Tryz.ntmps169
 go_wp2
 go_ret
 exact ⟨retInt (rot32_eq x n hx),rfl⟩
theorem turnAll32_any (x a b c:Nat) (hx:x<4294967296) (ha:a≤32) (hb:b≤32) (hc:c≤32) (w:World) :
 Calls Tryz.prog 165 #[.int .u32 x,.agg #[.int .u64 a,.int .u64 b,.int .u64 c],.int .u64 32] w fun e w'=>e = .returned (.int .u32 (hi3 32 x (a,b,c)))∧Below w.heap.size w w':=by
 go_enter Tryz.func165,Tryz.ntmps165
 go_wp2
 go_quiet ((go_at_call 169;exact Calls.quiet_of_same (turn32_any _ _ hx (by assumption) _)))
 go_wp2
 go_ret
 refine ⟨retInt ?_,below_drewN ((Below.refl _ _).alloc (Nat.le_refl _) _) _⟩
 rw [u32_xor_nat _ _ (rot_lt 32 x a hx) (rot_lt 32 x b hx),u32_xor_nat _ _ (Nat.xor_lt_two_pow (rot_lt 32 x a hx) (rot_lt 32 x b hx)) (rot_lt 32 x c hx)]
 rfl
theorem turnShift32_any (x a b c:Nat) (hx:x<4294967296) (ha:a≤32) (hb:b≤32) (hc:c≤32) (w:World) :
 Calls Tryz.prog 168 #[.int .u32 x,.agg #[.int .u64 a,.int .u64 b,.int .u64 c],.int .u64 32] w fun e w'=>e = .returned (.int .u32 (lo3 32 x (a,b,c)))∧Below w.heap.size w w':=by
 go_enter Tryz.func168,Tryz.ntmps168
 go_wp2
 go_quiet ((go_at_call 169;exact Calls.quiet_of_same (turn32_any _ _ hx (by assumption) _)))
 go_wp2
 go_ret
 refine ⟨retInt ?_,below_drewN ((Below.refl _ _).alloc (Nat.le_refl _) _) _⟩
 have e1:(x:Int) / 2 ^ c=((x / 2 ^ c:Nat):Int):=by simp
 rw [e1,u32_xor_nat _ _ (rot_lt 32 x a hx) (rot_lt 32 x b hx),u32_xor_nat _ _ (Nat.xor_lt_two_pow (rot_lt 32 x a hx) (rot_lt 32 x b hx)) (Nat.lt_of_le_of_lt (Nat.div_le_self _ _) hx)]
 rfl
theorem highest32_any (x:Nat) (_hx:x<18446744073709551616) (w:World) :
 Calls Tryz.prog 156 #[.int .u64 x,(.agg #[.int .i64 32,.int .i64 64,.int .u64 7,.int .u64 18,.int .u64 3,.int .u64 17,.int .u64 19,.int .u64 10,.int .u64 2,.int .u64 13,.int .u64 22,.int .u64 6,.int .u64 11,.int .u64 25])] w fun e w'=>e = .returned (.int .u32 ((x / 2 ^ (64 - 32):Nat):Int))∧Below w.heap.size w w':=by
 go_enter Tryz.func156,Tryz.ntmps156
 go_wp2
 go_ret
 refine ⟨retInt ?_,((Below.refl _ _).alloc (Nat.le_refl _) _)⟩
 simp
 try omega
theorem blockSize32_any (w:World) :
 Calls Tryz.prog 157 #[(.agg #[.int .i64 32,.int .i64 64,.int .u64 7,.int .u64 18,.int .u64 3,.int .u64 17,.int .u64 19,.int .u64 10,.int .u64 2,.int .u64 13,.int .u64 22,.int .u64 6,.int .u64 11,.int .u64 25])] w fun e w'=>e = .returned (.int .i64 64)∧Below w.heap.size w w':=by
 go_enter Tryz.func157,Tryz.ntmps157
 go_wp2
 go_ret
 exact ⟨rfl,((Below.refl _ _).alloc (Nat.le_refl _) _)⟩
end Go.Proofs.YtbbikhlbkpjpjaaGreatDoor
namespace Go.Proofs.YtbbikhlbkpjpjaaGreatDoor
open Go.RowKit
def fill (m sz:Nat) (bs:Nat→Nat):Nat→Nat→Nat
 | 0=>fun _=>0
 | i+1=>upd (fill m sz bs i) (i / sz) ((fill m sz bs i (i / sz)*256%2 ^ m) ||| bs i)
def nextW (r:Ru) (X:Nat→Nat) (k:Nat):Nat:=(lo3 r.m (X (k+14)) r.s1+X (k+9)+lo3 r.m (X (k+1)) r.s0+X k)%2 ^ r.m
def sch (r:Ru) (X:Nat→Nat):Nat→Nat→Nat
 | 0=>X
 | k+1=>upd (sch r X k) (k+16) (nextW r (sch r X k) k)
theorem fill_lt {m sz:Nat} {bs:Nat→Nat} (hb:∀ j,bs j<2 ^ m):∀ i j,fill m sz bs i j<2 ^ m
 | 0,_=>Nat.two_pow_pos m
 | i+1,j=>by
  unfold fill upd
  split
  · exact Nat.or_lt_two_pow (Nat.mod_lt _ (Nat.two_pow_pos m)) (hb i)
  · exact fill_lt hb i j
theorem sch_lt {r:Ru} {X:Nat→Nat} (hX:∀ j,X j<2 ^ r.m):∀ k j,sch r X k j<2 ^ r.m
 | 0,j=>hX j
 | k+1,j=>by
  unfold sch upd
  split
  · exact Nat.mod_lt _ (Nat.two_pow_pos _)
  · exact sch_lt hX k j
def zs32:Array Value:=Array.replicate 80 (.int .u32 0)
theorem zero208 (w:World):Sem.run Tryz.prog (zeroValue 208) w = .ok (.agg zs32) w:=by kernel_rfl
theorem zs32_at (j:Nat) (h:j<80):zs32[j]? = some (.int .u32 0):=by simp [zs32,h]
theorem rbox32 {W w1:World} (h:Below (W.heap.size+1) (W.alloc (.cells #[.int .i64 32,.int .i64 64,.int .u64 7,.int .u64 18,.int .u64 3,.int .u64 17,.int .u64 19,.int .u64 10,.int .u64 2,.int .u64 13,.int .u64 22,.int .u64 6,.int .u64 11,.int .u64 25] 189)) w1) (B:Nat) (hB:B=W.heap.size):w1.cell? ⟨B,0,none⟩=some (.int .i64 32)∧w1.cell? ⟨B,1,none⟩=some (.int .i64 64)∧w1.cell? ⟨B,2,none⟩=some (.int .u64 7)∧w1.cell? ⟨B,3,none⟩=some (.int .u64 18)∧w1.cell? ⟨B,4,none⟩=some (.int .u64 3)∧w1.cell? ⟨B,5,none⟩=some (.int .u64 17)∧w1.cell? ⟨B,6,none⟩=some (.int .u64 19)∧w1.cell? ⟨B,7,none⟩=some (.int .u64 10)∧w1.cell? ⟨B,8,none⟩=some (.int .u64 2)∧w1.cell? ⟨B,9,none⟩=some (.int .u64 13)∧w1.cell? ⟨B,10,none⟩=some (.int .u64 22)∧w1.cell? ⟨B,11,none⟩=some (.int .u64 6)∧w1.cell? ⟨B,12,none⟩=some (.int .u64 11)∧w1.cell? ⟨B,13,none⟩=some (.int .u64 25):=by
 subst hB
 have hc:∀ j,w1.cell? ⟨W.heap.size,j,none⟩=(W.alloc (.cells #[.int .i64 32,.int .i64 64,.int .u64 7,.int .u64 18,.int .u64 3,.int .u64 17,.int .u64 19,.int .u64 10,.int .u64 2,.int .u64 13,.int .u64 22,.int .u64 6,.int .u64 11,.int .u64 25] 189)).cell? ⟨W.heap.size,j,none⟩:=fun j=>h.cell (p:=⟨W.heap.size,j,none⟩) (Nat.lt_succ_self _)
 simp only [hc]
 simp
theorem rbox64 {W w1:World} (h:Below (W.heap.size+1) (W.alloc (.cells #[.int .i64 64,.int .i64 80,.int .u64 1,.int .u64 8,.int .u64 7,.int .u64 19,.int .u64 61,.int .u64 6,.int .u64 28,.int .u64 34,.int .u64 39,.int .u64 14,.int .u64 18,.int .u64 41] 189)) w1) (B:Nat) (hB:B=W.heap.size):w1.cell? ⟨B,0,none⟩=some (.int .i64 64)∧w1.cell? ⟨B,1,none⟩=some (.int .i64 80)∧w1.cell? ⟨B,2,none⟩=some (.int .u64 1)∧w1.cell? ⟨B,3,none⟩=some (.int .u64 8)∧w1.cell? ⟨B,4,none⟩=some (.int .u64 7)∧w1.cell? ⟨B,5,none⟩=some (.int .u64 19)∧w1.cell? ⟨B,6,none⟩=some (.int .u64 61)∧w1.cell? ⟨B,7,none⟩=some (.int .u64 6)∧w1.cell? ⟨B,8,none⟩=some (.int .u64 28)∧w1.cell? ⟨B,9,none⟩=some (.int .u64 34)∧w1.cell? ⟨B,10,none⟩=some (.int .u64 39)∧w1.cell? ⟨B,11,none⟩=some (.int .u64 14)∧w1.cell? ⟨B,12,none⟩=some (.int .u64 18)∧w1.cell? ⟨B,13,none⟩=some (.int .u64 41):=by
 subst hB
 have hc:∀ j,w1.cell? ⟨W.heap.size,j,none⟩=(W.alloc (.cells #[.int .i64 64,.int .i64 80,.int .u64 1,.int .u64 8,.int .u64 7,.int .u64 19,.int .u64 61,.int .u64 6,.int .u64 28,.int .u64 34,.int .u64 39,.int .u64 14,.int .u64 18,.int .u64 41] 189)).cell? ⟨W.heap.size,j,none⟩:=fun j=>h.cell (p:=⟨W.heap.size,j,none⟩) (Nat.lt_succ_self _)
 simp only [hc]
 simp
theorem sum4_32 (a b c d:Nat):((((a:Int)+b)%4294967296+c)%4294967296+d)%4294967296=(((a+b+c+d)%2 ^ 32:Nat):Int):=by
 have e:(2:Nat) ^ 32=4294967296:=rfl
 rw [e];omega
theorem nextW_32 (X:Nat→Nat) (k:Nat):((((lo3 32 (X (k+14)) (17,19,10):Int)+X (k+9))%4294967296+lo3 32 (X (k+1)) (7,18,3))%4294967296+X k)%4294967296=((nextW rn X k:Nat):Int) :=
 sum4_32 _ _ _ _
theorem or8_32 (x b:Nat) (hb:b<256):bits .or .u32 ((x:Int)*256%4294967296) ((b:Int)%4294967296)=((x*256%2 ^ 32 ||| b:Nat):Int):=by
 have e1:(x:Int)*256%4294967296=((x*256%4294967296:Nat):Int):=by simp
 have e2:(b:Int)%4294967296=((b:Nat):Int):=by omega
 rw [e1,e2,u32_or_nat _ _ (Nat.mod_lt _ (by decide)) (by omega)]
set_option maxRecDepth 20000 in
set_option maxHeartbeats 1000000 in
theorem spread32_any (bb ob cap:Nat) (bs:Nat→Nat) (hbs:∀ j,bs j<256) (w:World) (hcell:∀ j,j<64→w.cell? ⟨bb,ob+j,none⟩=some (.int .u8 (bs j))) :
 Calls Tryz.prog 164 #[(.agg #[.int .i64 32,.int .i64 64,.int .u64 7,.int .u64 18,.int .u64 3,.int .u64 17,.int .u64 19,.int .u64 10,.int .u64 2,.int .u64 13,.int .u64 22,.int .u64 6,.int .u64 11,.int .u64 25]),.slice (some ⟨bb,ob,none⟩) 64 cap] w fun e w'=>e = .returned (.agg (ints .u32 80 (sch rn (fill 32 4 bs 64) (64 - 16))).toArray)∧Below w.heap.size w w':=by
 have hz:=zero208
 have hbb:bb<w.heap.size:=block_lt_of_cell (hcell 0 (by decide))
 go_enter Tryz.func164,Tryz.ntmps164
 go_wp2
 clear hz
 go_loopw [19] (fun i wr=>∃ k:Nat,k≤64∧i = .int .i64 k∧RowAt .u32 wr (w.heap.size+1+1) 0 80 (fill 32 4 bs k)∧RowAt .u32 wr (w.heap.size+1) 0 80 (fun _=>0)∧Below (w.heap.size+1) (w.alloc (.cells #[.int .i64 32,.int .i64 64,.int .u64 7,.int .u64 18,.int .u64 3,.int .u64 17,.int .u64 19,.int .u64 10,.int .u64 2,.int .u64 13,.int .u64 22,.int .u64 6,.int .u64 11,.int .u64 25] 189)) wr) (fun i _=>64 - (intOf i).toNat)
 case atStart =>
  refine ⟨0,Nat.zero_le _,rfl,?_,?_,?_⟩
  · have:=RowAt.fresh (K := .u32) (w:=(w.alloc (.cells #[.int .i64 32,.int .i64 64,.int .u64 7,.int .u64 18,.int .u64 3,.int .u64 17,.int .u64 19,.int .u64 10,.int .u64 2,.int .u64 13,.int .u64 22,.int .u64 6,.int .u64 11,.int .u64 25] 189)).alloc (.cells zs32 208)) (t:=208) (X:=fill 32 4 bs 0) (n:=80) (fun j hj=>zs32_at j hj)
    simpa using this
  · have:=(RowAt.fresh (K := .u32) (w:=w.alloc (.cells #[.int .i64 32,.int .i64 64,.int .u64 7,.int .u64 18,.int .u64 3,.int .u64 17,.int .u64 19,.int .u64 10,.int .u64 2,.int .u64 13,.int .u64 22,.int .u64 6,.int .u64 11,.int .u64 25] 189)) (t:=208) (X:=fun _=>0) (n:=80) (fun j hj=>zs32_at j hj)).alloc (by simp) (.cells zs32 208)
    simpa using this
  · exact ((Below.refl _ _).alloc (by simp) _).alloc (by simp) _
 case round =>
  obtain ⟨k,hk,rfl,hrow,hres,hbel⟩:=hrel
  by_cases hlt:k<64
  · have hc:=(hbel.cell (p:=⟨bb,ob+k,none⟩) (Nat.lt_succ_of_lt hbb)).trans ((World.cell?_alloc_lt _ _ _ hbb).trans (hcell k hlt))
    have hr:=hrow (k / 4) (by omega)
    obtain ⟨hr1,hr2⟩:=hr
    rw [Nat.zero_add] at hr1 hr2
    have hq:k / 4<80:=by omega
    clear hcell
    go_wp2
    go_region
    go_wp2
    go_roundw
    case rel =>
     have h1:=hrow.set hq (or8_32 (fill 32 4 bs k (k / 4)) (bs k) (hbs k))
     rw [Nat.zero_add] at h1
     exact ⟨k+1,hlt,by go_num,h1.drew,(hres.far (by simp) _).drew,(hbel.setCell (by simp) _).drew⟩
    case measure=>simp [intOf];omega
  · have hke:k=64:=by omega
    subst hke
    clear hcell hlt hk
    have hu:∀ j,fill 32 4 bs 64 j<2 ^ 32:=fill_lt (fun j=>Nat.lt_of_lt_of_le (hbs j) (by decide)) 64
    obtain ⟨X,hX⟩:∃ X,X=fill 32 4 bs 64:=⟨_,rfl⟩
    have HX:Hid (X=fill 32 4 bs 64):=hX
    rw [←hX] at hrow hu
    clear hX
    have hr1:=(rbox32 hbel _ rfl).2.1
    go_wp2
    clear hr1
    go_loopw [10] (fun t w2=>∃ k:Nat,k≤64 - 16∧t = .int .i64 ((k:Int)+16)∧RowAt .u32 w2 (w.heap.size+1+1) 0 80 (sch rn X k)∧RowAt .u32 w2 (w.heap.size+1) 0 80 (fun _=>0)∧Below (w.heap.size+1) (w.alloc (.cells #[.int .i64 32,.int .i64 64,.int .u64 7,.int .u64 18,.int .u64 3,.int .u64 17,.int .u64 19,.int .u64 10,.int .u64 2,.int .u64 13,.int .u64 22,.int .u64 6,.int .u64 11,.int .u64 25] 189)) w2) (fun t _=>64 - (intOf t).toNat)
    case atStart=>exact ⟨0,Nat.zero_le _,rfl,hrow,hres,hbel⟩
    case round =>
     clear hrow hres hbel
     obtain ⟨k,hk,rfl,hrow,hres,hbel⟩:=hrel
     have hsz:=hbel.size
     rw [World.size_alloc] at hsz
     by_cases hlt:k<64 - 16
     · obtain ⟨c0,c1,c2,c3,c4,c5,c6,c7,-⟩:=rbox32 hbel _ rfl
       have hN:w.heap.size+1+1<wr.heap.size:=block_lt_of_cell (hrow 0 (by decide)).1
       have q0:w.heap.size<wr.heap.size:=by omega
       have hS:∀ w':World,Near (w.heap.size+1+1) (k+16) wr w'→∀ q,q<k+16→w'.cell? ⟨w.heap.size+1+1,q,none⟩=wr.cell? ⟨w.heap.size+1+1,q,none⟩:=fun w' h q hq=>h.cell _ _ hN (fun _=>by omega)
       have hS':∀ w':World,Near (w.heap.size+1+1) (k+16) wr w'→∀ q,w'.cell? ⟨w.heap.size,q,none⟩=wr.cell? ⟨w.heap.size,q,none⟩:=fun w' h q=>h.cell _ _ q0 (fun e=>by omega)
       have hF:∀ w':World,Near (w.heap.size+1+1) (k+16) wr w'→∀ q,w'.frozen? ⟨w.heap.size+1+1,q,none⟩=wr.frozen? ⟨w.heap.size+1+1,q,none⟩:=fun w' h q=>h.frozen _ _ hN
       have hb0:Below wr.heap.size wr wr.drew:=(Below.refl _ _).drew
       have r14:=(hrow (k+14) (by omega)).1
       have r9:=(hrow (k+9) (by omega)).1
       have r1:=(hrow (k+1) (by omega)).1
       have r0:=(hrow k (by omega)).1
       have rf:=(hrow (k+16) (by omega)).2
       have rg:=(hrow (k+16) (by omega)).1
       rw [Nat.zero_add] at r14 r9 r1 r0 rf rg
       have u14:sch rn X k (k+14)<4294967296:=sch_lt (r:=rn) hu k (k+14)
       have u1:sch rn X k (k+1)<4294967296:=sch_lt (r:=rn) hu k (k+1)
       have hki:(k:Int)<64 - 16:=by omega
       have x14:IntKind.i64.wrap ((k:Int)+16 - 2)=(k:Int)+14:=by simp only [IntKind.wrap_i64];omega
       have x9:IntKind.i64.wrap ((k:Int)+16 - 7)=(k:Int)+9:=by simp only [IntKind.wrap_i64];omega
       have x1:IntKind.i64.wrap ((k:Int)+16 - 15)=(k:Int)+1:=by simp only [IntKind.wrap_i64];omega
       have k80:k<80:=by omega
       have x0:IntKind.i64.wrap (k:Int)=(k:Int):=by simp only [IntKind.wrap_i64];omega
       have y14:((k:Int)+14).toNat=k+14:=by omega
       have y9:((k:Int)+9).toNat=k+9:=by omega
       have y1:((k:Int)+1).toNat=k+1:=by omega
       have y16:((k:Int)+16).toNat=k+16:=by omega
       have l14:(0:Int)≤(k:Int)+14∧(k:Int)+14<80:=by omega
       have l9:(0:Int)≤(k:Int)+9∧(k:Int)+9<80:=by omega
       have l1:(0:Int)≤(k:Int)+1∧(k:Int)+1<80:=by omega
       have l0:(0:Int)≤(k:Int)∧(k:Int)<80:=by omega
       have l16:(0:Int)≤(k:Int)+16∧(k:Int)+16<80:=by omega
       go_wp2
       go_region_held3 (fun w'=>Near (w.heap.size+1+1) (k+16) wr w') (first | exact Near.of_below (by assumption) | exact Near.set (by assumption) _) (first
        | (go_at_call 168;refine (turnShift32_any _ _ _ _ (by assumption) (by decide) (by decide) (by decide) _).mono ?_;rintro e w' ⟨rfl,hb⟩;have hbn:=below_next (W:=wr) (by assumption) hb;have rgn:=(hbn.cell (p:=⟨w.heap.size+1+1,k+16,none⟩) hN).trans rg))
       clear hS hS' hF hb0 r14 r9 r1 r0 x14 x9 x1 x0 y14 y9 y1 y16 l14 l9 l1 l0 l16
       go_wp2
       go_roundw
       case rel =>
        repeat apply Exists.intro
        refine ⟨?_,rfl⟩
        have h1:=(hrow.below hbn hN).set (i:=k+16) (by omega) (nextW_32 (sch rn X k) k)
        rw [Nat.zero_add] at h1
        exact ⟨k+1,by omega,by go_num,h1,(hres.below hbn (by omega)).far (by simp) _,(hbel.trans (hbn.mono (by omega))).setCell (by simp) _⟩
       case measure=>simp [intOf];omega
     · have hke:k=64 - 16:=by omega
       subst hke
       have c1:=(rbox32 hbel _ rfl).2.1
       have ht:wr.there (w.heap.size+1) 0 (ints .u32 80 (sch rn X (64 - 16))).toArray.size:=by simp only [List.size_toArray,ints_len];exact hres.there
       have hi:(Tryz.prog.info? 208).map (·.size)=some (ints .u32 80 (sch rn X (64 - 16))).toArray.size:=by simp only [List.size_toArray,ints_len];kernel_rfl
       have hi':(Tryz.prog.info? 208).map (·.size)=some (ints .u32 80 (sch rn X (64 - 16))).length:=by rw [ints_len];kernel_rfl
       have hone:=all_oneCell_toArray (ints_one .u32 80 (sch rn X (64 - 16)))
       go_wp2_with (first
        | (refine wpList_load_mid rfl 208 _ rfl _ 0 rfl _ _ hrow.range Tryz.underlying208 rfl hi' ?_)
        | (refine wpList_store_mid rfl 208 _ _ rfl _ 0 _ rfl rfl ht hi hone ?_))
       refine bodyPost_ret (v := .agg (ints .u32 80 (sch rn X (64 - 16))).toArray) (results_cell_mid Tryz.results164 _ _ (w.heap.size+1) 0 _ _ rfl (World.rangeAt_setCells_same _ _ _ _ (by rw [ints_len];exact hres.there)) Tryz.underlying208 rfl hi') rfl ⟨by rw [HX.out],?_⟩
       exact below_setCells (by omega) _ _ _ (((Below.refl _ _).alloc (Nat.le_refl _) _).trans (hbel.mono (by omega)))
end Go.Proofs.YtbbikhlbkpjpjaaGreatDoor
namespace Go.Proofs.YtbbikhlbkpjpjaaGreatDoor
open Go.RowKit
structure St where
 a:Nat
 b:Nat
 c:Nat
 d:Nat
 e:Nat
 f:Nat
 g:Nat
 h:Nat
def chS (m e f g:Nat):Nat:=(e &&& f) ^^^ ((2 ^ m - 1 - e) &&& g)
def majS (a b c:Nat):Nat:=(a &&& b) ^^^ (a &&& c) ^^^ (b &&& c)
def t1S (r:Ru) (kt wt:Nat) (s:St):Nat:=(s.h+hi3 r.m s.e r.l1+chS r.m s.e s.f s.g+kt+wt)%2 ^ r.m
def t2S (r:Ru) (s:St):Nat:=(hi3 r.m s.a r.l0+majS s.a s.b s.c)%2 ^ r.m
def stepS (r:Ru) (kt wt:Nat) (s:St):St:=⟨(t1S r kt wt s+t2S r s)%2 ^ r.m,s.a,s.b,s.c,(s.d+t1S r kt wt s)%2 ^ r.m,s.e,s.f,s.g⟩
def roundsS (r:Ru) (K W:Nat→Nat) (s:St):Nat→St
 | 0=>s
 | t+1=>stepS r (K t / 2 ^ (64 - r.m)) (W t) (roundsS r K W s t)
def addS (r:Ru) (s x:St):St:=⟨(s.a+x.a)%2 ^ r.m,(s.b+x.b)%2 ^ r.m,(s.c+x.c)%2 ^ r.m,(s.d+x.d)%2 ^ r.m,(s.e+x.e)%2 ^ r.m,(s.f+x.f)%2 ^ r.m,(s.g+x.g)%2 ^ r.m,(s.h+x.h)%2 ^ r.m⟩
def blockS (r:Ru) (K:Nat→Nat) (bs:Nat→Nat) (s:St):St:=addS r s (roundsS r K (sch r (fill r.m (r.m / 8) bs (2*r.m)) (r.rounds - 16)) s r.rounds)
structure St.lt (p:Nat) (s:St):Prop where
 a:s.a<p
 b:s.b<p
 c:s.c<p
 d:s.d<p
 e:s.e<p
 f:s.f<p
 g:s.g<p
 h:s.h<p
theorem stepS_lt {r:Ru} {kt wt:Nat} {s:St} (h:s.lt (2 ^ r.m)):(stepS r kt wt s).lt (2 ^ r.m) :=
 ⟨Nat.mod_lt _ (Nat.two_pow_pos _),h.a,h.b,h.c,Nat.mod_lt _ (Nat.two_pow_pos _),h.e,h.f,h.g⟩
theorem roundsS_lt {r:Ru} {K W:Nat→Nat} {s:St} (h:s.lt (2 ^ r.m)):∀ t,(roundsS r K W s t).lt (2 ^ r.m)
 | 0=>h
 | t+1=>stepS_lt (roundsS_lt h t)
theorem addS_lt {r:Ru} {s x:St}:(addS r s x).lt (2 ^ r.m):=by constructor <;> exact Nat.mod_lt _ (Nat.two_pow_pos _)
def St.at (s:St):Nat→Nat
 | 0=>s.a
 | 1=>s.b
 | 2=>s.c
 | 3=>s.d
 | 4=>s.e
 | 5=>s.f
 | 6=>s.g
 | _=>s.h
def St.vals (K:IntKind) (s:St):Array Value:=#[.int K s.a,.int K s.b,.int K s.c,.int K s.d,.int K s.e,.int K s.f,.int K s.g,.int K s.h]
theorem RowAt.st {K:IntKind} {w:World} {b:Nat} {s:St} (h:RowAt K w b 0 8 s.at):w.cell? ⟨b,0,none⟩=some (.int K s.a)∧w.cell? ⟨b,1,none⟩=some (.int K s.b)∧w.cell? ⟨b,2,none⟩=some (.int K s.c)∧w.cell? ⟨b,3,none⟩=some (.int K s.d)∧w.cell? ⟨b,4,none⟩=some (.int K s.e)∧w.cell? ⟨b,5,none⟩=some (.int K s.f)∧w.cell? ⟨b,6,none⟩=some (.int K s.g)∧w.cell? ⟨b,7,none⟩=some (.int K s.h) :=
 ⟨(h 0 (by decide)).1,(h 1 (by decide)).1,(h 2 (by decide)).1,(h 3 (by decide)).1,(h 4 (by decide)).1,(h 5 (by decide)).1,(h 6 (by decide)).1,(h 7 (by decide)).1⟩
def Rules32 (w1:World) (B:Nat):Prop:=w1.cell? ⟨B,0,none⟩=some (.int .i64 32)∧w1.cell? ⟨B,1,none⟩=some (.int .i64 64)∧w1.cell? ⟨B,2,none⟩=some (.int .u64 7)∧w1.cell? ⟨B,3,none⟩=some (.int .u64 18)∧w1.cell? ⟨B,4,none⟩=some (.int .u64 3)∧w1.cell? ⟨B,5,none⟩=some (.int .u64 17)∧w1.cell? ⟨B,6,none⟩=some (.int .u64 19)∧w1.cell? ⟨B,7,none⟩=some (.int .u64 10)∧w1.cell? ⟨B,8,none⟩=some (.int .u64 2)∧w1.cell? ⟨B,9,none⟩=some (.int .u64 13)∧w1.cell? ⟨B,10,none⟩=some (.int .u64 22)∧w1.cell? ⟨B,11,none⟩=some (.int .u64 6)∧w1.cell? ⟨B,12,none⟩=some (.int .u64 11)∧w1.cell? ⟨B,13,none⟩=some (.int .u64 25)
theorem Rules32.below {w1 w2:World} {B n:Nat} (h:Rules32 w1 B) (hb:Below n w1 w2) (hB:B<n):Rules32 w2 B:=by
 have hc:∀ j,w2.cell? ⟨B,j,none⟩=w1.cell? ⟨B,j,none⟩:=fun j=>hb.cell (p:=⟨B,j,none⟩) hB
 unfold Rules32 at *
 simp only [hc]
 exact h
theorem Rules32.of_box {W w1:World} (h:Below (W.heap.size+1) (W.alloc (.cells #[.int .i64 32,.int .i64 64,.int .u64 7,.int .u64 18,.int .u64 3,.int .u64 17,.int .u64 19,.int .u64 10,.int .u64 2,.int .u64 13,.int .u64 22,.int .u64 6,.int .u64 11,.int .u64 25] 189)) w1):Rules32 w1 W.heap.size:=rbox32 h _ rfl
theorem not_32 (e:Nat) (he:e<4294967296):bits .xor .u32 IntKind.u32.max e=((2 ^ 32 - 1 - e:Nat):Int):=by
 have h1:IntKind.u32.max=((4294967295:Nat):Int):=rfl
 rw [h1,u32_xor_nat _ _ (by decide) he]
 have h2:=congrArg BitVec.toNat (BitVec.not_def (x:=BitVec.ofNat 32 e))
 rw [BitVec.toNat_not,BitVec.toNat_xor,BitVec.toNat_allOnes,BitVec.toNat_ofNat,Nat.mod_eq_of_lt he] at h2
 rw [h2]
theorem ch_32 (e f g:Nat) (he:e<4294967296) (hf:f<4294967296) (hg:g<4294967296):bits .xor .u32 (bits .and .u32 e f) (bits .and .u32 (bits .xor .u32 IntKind.u32.max e) g)=((chS 32 e f g:Nat):Int):=by
 rw [not_32 e he,u32_and_nat _ _ he hf,u32_and_nat _ _ (Nat.lt_of_le_of_lt (Nat.sub_le _ _) (by decide)) hg,u32_xor_nat _ _ (Nat.and_lt_two_pow (n:=32) _ hf) (Nat.and_lt_two_pow (n:=32) _ hg)]
 rfl
theorem maj_32 (a b c:Nat) (ha:a<4294967296) (hb:b<4294967296) (hc:c<4294967296):bits .xor .u32 (bits .xor .u32 (bits .and .u32 a b) (bits .and .u32 a c)) (bits .and .u32 b c)=((majS a b c:Nat):Int):=by
 rw [u32_and_nat _ _ ha hb,u32_and_nat _ _ ha hc,u32_and_nat _ _ hb hc,u32_xor_nat _ _ (Nat.and_lt_two_pow (n:=32) _ hb) (Nat.and_lt_two_pow (n:=32) _ hc),u32_xor_nat _ _ (Nat.xor_lt_two_pow (n:=32) (Nat.and_lt_two_pow (n:=32) _ hb) (Nat.and_lt_two_pow (n:=32) _ hc)) (Nat.and_lt_two_pow (n:=32) _ hc)]
 rfl
theorem t1_32 (x:St) (hx:x.lt 4294967296) (kk wt:Nat) (ki:Int) (hki:ki=(kk:Int)):((((((x.h:Int)+hi3 32 x.e (6,11,25))%4294967296+bits .xor .u32 (bits .and .u32 x.e x.f) (bits .and .u32 (bits .xor .u32 IntKind.u32.max x.e) x.g))%4294967296+ki)%4294967296+wt)%4294967296)=((t1S rn kk wt x:Nat):Int):=by
 rw [ch_32 _ _ _ hx.e hx.f hx.g,hki]
 show _=(((x.h+hi3 32 x.e (6,11,25)+chS 32 x.e x.f x.g+kk+wt)%4294967296:Nat):Int)
 generalize hi3 32 x.e (6,11,25)=A
 generalize chS 32 x.e x.f x.g=B
 omega
theorem t2_32 (x:St) (hx:x.lt 4294967296):((hi3 32 x.a (2,13,22):Int)+bits .xor .u32 (bits .xor .u32 (bits .and .u32 x.a x.b) (bits .and .u32 x.a x.c)) (bits .and .u32 x.b x.c))%4294967296=((t2S rn x:Nat):Int):=by
 rw [maj_32 _ _ _ hx.a hx.b hx.c]
 rfl
structure MixIn32 (w w2:World) (s:St) (W:Nat→Nat) (N:Nat):Prop where
 rules:Rules32 w2 w.heap.size
 state:RowAt .u32 w2 (w.heap.size+1) 0 8 s.at
 res:RowAt .u32 w2 (w.heap.size+1+1) 0 8 (fun _=>0)
 row:RowAt .u32 w2 N 0 80 W
 old:Below w.heap.size w w2
 far:w.heap.size+1+1<N
theorem MixIn32.below {w w2 w3:World} {s:St} {W:Nat→Nat} {N:Nat} (h:MixIn32 w w2 s W N) (hb:Below w2.heap.size w2 w3):MixIn32 w w3 s W N:=by
 have hN:N<w2.heap.size:=block_lt_of_cell (h.row 0 (by decide)).1
 have:=h.far
 exact ⟨h.rules.below hb (by omega),h.state.below hb (by omega),h.res.below hb (by omega),h.row.below hb hN,h.old.trans (hb.mono h.old.size),h.far⟩
theorem mixIn32 {w w1:World} {s:St} {W:Nat→Nat} (h:Below (((w.alloc (.cells #[.int .i64 32,.int .i64 64,.int .u64 7,.int .u64 18,.int .u64 3,.int .u64 17,.int .u64 19,.int .u64 10,.int .u64 2,.int .u64 13,.int .u64 22,.int .u64 6,.int .u64 11,.int .u64 25] 189)).alloc (.cells #[.int .u32 s.a,.int .u32 s.b,.int .u32 s.c,.int .u32 s.d,.int .u32 s.e,.int .u32 s.f,.int .u32 s.g,.int .u32 s.h] 182)).alloc (.cells #[.int .u32 0,.int .u32 0,.int .u32 0,.int .u32 0,.int .u32 0,.int .u32 0,.int .u32 0,.int .u32 0] 182)).heap.size (((w.alloc (.cells #[.int .i64 32,.int .i64 64,.int .u64 7,.int .u64 18,.int .u64 3,.int .u64 17,.int .u64 19,.int .u64 10,.int .u64 2,.int .u64 13,.int .u64 22,.int .u64 6,.int .u64 11,.int .u64 25] 189)).alloc (.cells #[.int .u32 s.a,.int .u32 s.b,.int .u32 s.c,.int .u32 s.d,.int .u32 s.e,.int .u32 s.f,.int .u32 s.g,.int .u32 s.h] 182)).alloc (.cells #[.int .u32 0,.int .u32 0,.int .u32 0,.int .u32 0,.int .u32 0,.int .u32 0,.int .u32 0,.int .u32 0] 182)) w1) :
 MixIn32 w ((w1.alloc (.cells zs32 208)).setCells w1.heap.size 0 (ints .u32 80 W)) s W w1.heap.size:=by
 have hz:=h.size
 simp only [World.size_alloc] at hz h
 have g1:Below (w.heap.size+1) (w.alloc (.cells #[.int .i64 32,.int .i64 64,.int .u64 7,.int .u64 18,.int .u64 3,.int .u64 17,.int .u64 19,.int .u64 10,.int .u64 2,.int .u64 13,.int .u64 22,.int .u64 6,.int .u64 11,.int .u64 25] 189)) w1:=(((Below.refl _ _).alloc (by simp) _).alloc (by simp) _).trans (h.mono (by omega))
 have g2:RowAt .u32 w1 (w.heap.size+1) 0 8 s.at:=by
  have a0:RowAt .u32 ((w.alloc (.cells #[.int .i64 32,.int .i64 64,.int .u64 7,.int .u64 18,.int .u64 3,.int .u64 17,.int .u64 19,.int .u64 10,.int .u64 2,.int .u64 13,.int .u64 22,.int .u64 6,.int .u64 11,.int .u64 25] 189)).alloc (.cells #[.int .u32 s.a,.int .u32 s.b,.int .u32 s.c,.int .u32 s.d,.int .u32 s.e,.int .u32 s.f,.int .u32 s.g,.int .u32 s.h] 182)) (w.heap.size+1) 0 8 s.at:=by
   have:=RowAt.fresh (K := .u32) (w:=w.alloc (.cells #[.int .i64 32,.int .i64 64,.int .u64 7,.int .u64 18,.int .u64 3,.int .u64 17,.int .u64 19,.int .u64 10,.int .u64 2,.int .u64 13,.int .u64 22,.int .u64 6,.int .u64 11,.int .u64 25] 189)) (cs:=#[.int .u32 s.a,.int .u32 s.b,.int .u32 s.c,.int .u32 s.d,.int .u32 s.e,.int .u32 s.f,.int .u32 s.g,.int .u32 s.h]) (t:=182) (n:=8) (X:=s.at) (fun j hj=>by
    match j,hj with
    | 0,_=>rfl
    | 1,_=>rfl
    | 2,_=>rfl
    | 3,_=>rfl
    | 4,_=>rfl
    | 5,_=>rfl
    | 6,_=>rfl
    | 7,_=>rfl)
   simpa using this
  exact (a0.alloc (by simp) _).below h (by omega)
 have g3:RowAt .u32 w1 (w.heap.size+1+1) 0 8 (fun _=>0):=by
  have a0:RowAt .u32 (((w.alloc (.cells #[.int .i64 32,.int .i64 64,.int .u64 7,.int .u64 18,.int .u64 3,.int .u64 17,.int .u64 19,.int .u64 10,.int .u64 2,.int .u64 13,.int .u64 22,.int .u64 6,.int .u64 11,.int .u64 25] 189)).alloc (.cells #[.int .u32 s.a,.int .u32 s.b,.int .u32 s.c,.int .u32 s.d,.int .u32 s.e,.int .u32 s.f,.int .u32 s.g,.int .u32 s.h] 182)).alloc (.cells #[.int .u32 0,.int .u32 0,.int .u32 0,.int .u32 0,.int .u32 0,.int .u32 0,.int .u32 0,.int .u32 0] 182)) (w.heap.size+1+1) 0 8 (fun _=>0):=by
   have:=RowAt.fresh (K := .u32) (w:=(w.alloc (.cells #[.int .i64 32,.int .i64 64,.int .u64 7,.int .u64 18,.int .u64 3,.int .u64 17,.int .u64 19,.int .u64 10,.int .u64 2,.int .u64 13,.int .u64 22,.int .u64 6,.int .u64 11,.int .u64 25] 189)).alloc (.cells #[.int .u32 s.a,.int .u32 s.b,.int .u32 s.c,.int .u32 s.d,.int .u32 s.e,.int .u32 s.f,.int .u32 s.g,.int .u32 s.h] 182)) (cs:=#[.int .u32 0,.int .u32 0,.int .u32 0,.int .u32 0,.int .u32 0,.int .u32 0,.int .u32 0,.int .u32 0]) (t:=182) (n:=8) (X:=fun _=>0) (fun j hj=>by
    match j,hj with
    | 0,_=>rfl
    | 1,_=>rfl
    | 2,_=>rfl
    | 3,_=>rfl
    | 4,_=>rfl
    | 5,_=>rfl
    | 6,_=>rfl
    | 7,_=>rfl)
   simpa using this
  exact a0.below h (by omega)
 have hnew:RowAt .u32 (w1.alloc (.cells zs32 208)) w1.heap.size 0 80 (fun _=>0):=RowAt.fresh (fun j hj=>zs32_at j hj)
 have hb2:Below w1.heap.size w1 ((w1.alloc (.cells zs32 208)).setCells w1.heap.size 0 (ints .u32 80 W)):=below_setCells (Nat.le_refl _) _ _ _ ((Below.refl _ _).alloc (Nat.le_refl _) _)
 have ho:Below w.heap.size w w1:=((((Below.refl _ _).alloc (Nat.le_refl _) _).alloc (by simp) _).alloc (by simp only [World.size_alloc];omega) _).trans (h.mono (by omega))
 refine ⟨(Rules32.of_box g1).below hb2 (by omega),g2.below hb2 (by omega),g3.below hb2 (by omega),fun j hj=>⟨?_,?_⟩,ho.trans (hb2.mono (by omega)),by omega⟩
 · exact World.rangeAt_setCells_same _ _ _ _ (by rw [ints_len];exact hnew.there) j _ (ints_at _ _ _ j hj)
 · rw [World.frozen?_setCells];exact (hnew j hj).2
set_option maxRecDepth 20000 in
set_option maxHeartbeats 1000000 in
theorem mix32_any (K:Nat→Nat) (hK:∀ j,K j<18446744073709551616) (s:St) (hs:s.lt 4294967296) (bb ob cap:Nat) (bs:Nat→Nat) (hbs:∀ j,bs j<256) (w:World)
 (hcub:∀ j,j<80→w.cell? ⟨5,j,none⟩=some (.int .u64 (K j))) (hcell:∀ j,j<64→w.cell? ⟨bb,ob+j,none⟩=some (.int .u8 (bs j))) :
 Calls Tryz.prog 158 #[(.agg #[.int .i64 32,.int .i64 64,.int .u64 7,.int .u64 18,.int .u64 3,.int .u64 17,.int .u64 19,.int .u64 10,.int .u64 2,.int .u64 13,.int .u64 22,.int .u64 6,.int .u64 11,.int .u64 25]),.agg #[.int .u32 s.a,.int .u32 s.b,.int .u32 s.c,.int .u32 s.d,.int .u32 s.e,.int .u32 s.f,.int .u32 s.g,.int .u32 s.h],.slice (some ⟨bb,ob,none⟩) 64 cap] w
  fun e w'=>e = .returned (.agg (St.vals .u32 (blockS rn K bs s)))∧Below w.heap.size w w':=by
 have hz:=zero208
 have hbb:bb<w.heap.size:=block_lt_of_cell (hcell 0 (by decide))
 have h3:5<w.heap.size:=block_lt_of_cell (hcub 0 (by decide))
 have hcell':∀ j,j<64→(((w.alloc (.cells #[.int .i64 32,.int .i64 64,.int .u64 7,.int .u64 18,.int .u64 3,.int .u64 17,.int .u64 19,.int .u64 10,.int .u64 2,.int .u64 13,.int .u64 22,.int .u64 6,.int .u64 11,.int .u64 25] 189)).alloc (.cells #[.int .u32 s.a,.int .u32 s.b,.int .u32 s.c,.int .u32 s.d,.int .u32 s.e,.int .u32 s.f,.int .u32 s.g,.int .u32 s.h] 182)).alloc (.cells #[.int .u32 0,.int .u32 0,.int .u32 0,.int .u32 0,.int .u32 0,.int .u32 0,.int .u32 0,.int .u32 0] 182)).cell? ⟨bb,ob+j,none⟩=some (.int .u8 (bs j)):=fun j hj=>by
  rw [World.cell?_alloc_lt _ _ _ (by simp;omega),World.cell?_alloc_lt _ _ _ (by simp;omega),World.cell?_alloc_lt _ _ _ hbb];exact hcell j hj
 have hW:∀ j,sch rn (fill 32 4 bs 64) (64 - 16) j<4294967296:=sch_lt (r:=rn) (fill_lt (fun j=>Nat.lt_of_lt_of_le (hbs j) (by decide)) 64) _
 obtain ⟨W,hW'⟩:∃ W,W=sch rn (fill 32 4 bs 64) (64 - 16):=⟨_,rfl⟩
 have HW:Hid (W=sch rn (fill 32 4 bs 64) (64 - 16)):=hW'
 have hsp:=spread32_any bb ob cap bs hbs (((w.alloc (.cells #[.int .i64 32,.int .i64 64,.int .u64 7,.int .u64 18,.int .u64 3,.int .u64 17,.int .u64 19,.int .u64 10,.int .u64 2,.int .u64 13,.int .u64 22,.int .u64 6,.int .u64 11,.int .u64 25] 189)).alloc (.cells #[.int .u32 s.a,.int .u32 s.b,.int .u32 s.c,.int .u32 s.d,.int .u32 s.e,.int .u32 s.f,.int .u32 s.g,.int .u32 s.h] 182)).alloc (.cells #[.int .u32 0,.int .u32 0,.int .u32 0,.int .u32 0,.int .u32 0,.int .u32 0,.int .u32 0,.int .u32 0] 182)) hcell'
 rw [←hW'] at hW hsp
 clear hW' hcell hcell'
 have hi:(Tryz.prog.info? 208).map (·.size)=some (ints .u32 80 W).toArray.size:=by simp only [List.size_toArray,ints_len];kernel_rfl
 have hone:=all_oneCell_toArray (ints_one .u32 80 W)
 go_enter Tryz.func158,Tryz.ntmps158
 go_wp2_with (first
  | (go_at_call 164;refine hsp.mono ?_;clear hsp;rintro e w1 ⟨rfl,hb1⟩;have HM:=mixIn32 (W:=W) hb1;have ht:(w1.alloc (.cells zs32 208)).there w1.heap.size 0 (ints .u32 80 W).toArray.size:=(by simp only [List.size_toArray,ints_len];exact (RowAt.fresh (K := .u32) (X:=fun _=>0) (fun j hj=>zs32_at j hj)).there);clear hb1)
  | (refine wpList_store_mid rfl 208 _ _ rfl _ 0 _ rfl rfl ht hi hone ?_;rw [List.toList_toArray];obtain ⟨w2,hw2⟩:∃ w2,w2=(w1.alloc (.cells zs32 208)).setCells w1.heap.size 0 (ints .u32 80 W):=⟨_,rfl⟩;rw [←hw2] at HM ⊢;clear hw2 ht hi hone hz;have p0:=HM.rules.1;have p1:=HM.rules.2.1;obtain ⟨q0,q1,q2,q3,q4,q5,q6,q7⟩:=HM.state.st))
 go_quiet (fail)
 go_wp2
 clear p0 p1 q0 q1 q2 q3 q4 q5 q6 q7
 go_loopw [9,10,11,12,13,14,15,16,44] (fun a b c d e f g h i wr=>∃ k:Nat,k≤64∧i = .int .i64 k∧a = .int .u32 (roundsS rn K W s k).a∧b = .int .u32 (roundsS rn K W s k).b∧c = .int .u32 (roundsS rn K W s k).c∧d = .int .u32 (roundsS rn K W s k).d∧e = .int .u32 (roundsS rn K W s k).e∧f = .int .u32 (roundsS rn K W s k).f∧g = .int .u32 (roundsS rn K W s k).g∧h = .int .u32 (roundsS rn K W s k).h∧MixIn32 w wr s W w1.heap.size) (fun _ _ _ _ _ _ _ _ i _=>64 - (intOf i).toNat)
 case atStart=>exact ⟨0,Nat.zero_le _,rfl,rfl,rfl,rfl,rfl,rfl,rfl,rfl,rfl,HM.below (below_drewN (Below.refl _ _) _)⟩
 case round =>
  clear HM
  obtain ⟨k,hk,rfl,rfl,rfl,rfl,rfl,rfl,rfl,rfl,rfl,HM⟩:=hrel
  by_cases hlt:k<64
  · have hx:(roundsS rn K W s k).lt 4294967296:=roundsS_lt (r:=rn) hs k
    obtain ⟨x,hxe⟩:∃ x,x=roundsS rn K W s k:=⟨_,rfl⟩
    have HX:Hid (x=roundsS rn K W s k):=hxe
    rw [←hxe] at hx ⊢
    clear hxe
    obtain ⟨p0,p1,p2,p3,p4,p5,p6,p7,p8,p9,p10,p11,p12,p13⟩:=HM.rules
    have hN:w1.heap.size<wr.heap.size:=block_lt_of_cell (HM.row 0 (by decide)).1
    have hM:=HM.far
    have g3:5<wr.heap.size:=by omega
    have g0:w.heap.size<wr.heap.size:=by omega
    have ck:wr.cell? ⟨5,k,none⟩=some (.int .u64 (K k)):=(HM.old.cell (p:=⟨5,k,none⟩) h3).trans (hcub k (by omega))
    have wk:wr.cell? ⟨w1.heap.size,k,none⟩=some (.int .u32 (W k)):=by have:=(HM.row k (by omega)).1;rw [Nat.zero_add] at this;exact this
    have hS:∀ w':World,Below wr.heap.size wr w'→∀ b o,b<wr.heap.size→w'.cell? ⟨b,o,none⟩=wr.cell? ⟨b,o,none⟩:=fun w' h b o hb=>h.cell (p:=⟨b,o,none⟩) hb
    have hb0:Below wr.heap.size wr wr.drew:=(Below.refl _ _).drew
    have hxe:=hx.e
    have hxa:=hx.a
    have hKk:=hK k
    have k80:k<80:=by omega
    have ki:(0:Int)≤(k:Int)∧(k:Int)<80:=by omega
    clear hcub
    go_wp2
    go_region_held3 (fun w'=>Below wr.heap.size wr w') (assumption) (first
     | (go_at_call 165;refine (turnAll32_any _ _ _ _ hxe (by decide) (by decide) (by decide) _).mono ?_;rintro e w' ⟨rfl,hb⟩;have hbn:=below_next (W:=wr) (by assumption) hb)
     | (go_at_call 156;refine (highest32_any _ hKk _).mono ?_;rintro e w' ⟨rfl,hb⟩;have hbn:=below_next (W:=wr) (by assumption) hb))
    clear ck wk hS hb0 hKk
    have q8:w'.cell? ⟨w.heap.size,8,none⟩=some (.int .u64 2):=(hbn.cell (p:=⟨w.heap.size,8,none⟩) g0).trans p8
    have q9:w'.cell? ⟨w.heap.size,9,none⟩=some (.int .u64 13):=(hbn.cell (p:=⟨w.heap.size,9,none⟩) g0).trans p9
    have q10:w'.cell? ⟨w.heap.size,10,none⟩=some (.int .u64 22):=(hbn.cell (p:=⟨w.heap.size,10,none⟩) g0).trans p10
    clear p0 p1 p2 p3 p4 p5 p6 p7 p8 p9 p10 p11 p12 p13
    go_wp2_with (go_at_call 165;refine (turnAll32_any _ _ _ _ hxa (by decide) (by decide) (by decide) _).mono ?_;rintro e w5 ⟨rfl,hb5⟩;have hbn5:=below_next (W:=wr) hbn hb5;clear q8 q9 q10)
    go_roundw
    case rel =>
     have hx':roundsS rn K W s (k+1)=stepS rn (K k / 2 ^ (64 - 32)) (W k) x:=by rw [HX.out];rfl
     have e1:=t1_32 x hx (K k / 2 ^ (64 - 32)) (W k) ((K k:Int) / 4294967296) (by simp)
     have e2:=t2_32 x hx
     refine ⟨k+1,hlt,by go_num,?_⟩
     rw [hx']
     try simp only [IntKind.wrap_u32']
     rw [e1,e2]
     exact ⟨rfl,rfl,rfl,rfl,rfl,rfl,rfl,rfl,HM.below hbn5⟩
    case measure=>simp [intOf];omega
  · have hke:k=64:=by omega
    subst hke
    obtain ⟨x,hxe⟩:∃ x,x=roundsS rn K W s 64:=⟨_,rfl⟩
    have HX:Hid (x=roundsS rn K W s 64):=hxe
    rw [←hxe]
    clear hxe
    obtain ⟨q0,q1,q2,q3,q4,q5,q6,q7⟩:=HM.state.st
    have ht:wr.there (w.heap.size+1+1) 0 8:=HM.res.there
    clear hcub
    go_wp2_with (refine wpList_store_mid rfl 182 _ _ rfl _ 0 _ rfl rfl ht (by kernel_rfl) (by simp [Value.oneCell']) ?_)
    have hbl:blockS rn K bs s=addS rn s x:=by rw [HX.out,HW.out];rfl
    refine bodyPost_ret (results_cell_mid Tryz.results158 _ _ (w.heap.size+1+1) 0 _ _ rfl (World.rangeAt_setCells_same _ _ _ _ ht) Tryz.underlying182 rfl (by kernel_rfl)) rfl ⟨?_,below_setCells (by omega) _ _ _ HM.old⟩
    rw [hbl]
    rfl
def Rules64 (w1:World) (B:Nat):Prop:=w1.cell? ⟨B,0,none⟩=some (.int .i64 64)∧w1.cell? ⟨B,1,none⟩=some (.int .i64 80)∧w1.cell? ⟨B,2,none⟩=some (.int .u64 1)∧w1.cell? ⟨B,3,none⟩=some (.int .u64 8)∧w1.cell? ⟨B,4,none⟩=some (.int .u64 7)∧w1.cell? ⟨B,5,none⟩=some (.int .u64 19)∧w1.cell? ⟨B,6,none⟩=some (.int .u64 61)∧w1.cell? ⟨B,7,none⟩=some (.int .u64 6)∧w1.cell? ⟨B,8,none⟩=some (.int .u64 28)∧w1.cell? ⟨B,9,none⟩=some (.int .u64 34)∧w1.cell? ⟨B,10,none⟩=some (.int .u64 39)∧w1.cell? ⟨B,11,none⟩=some (.int .u64 14)∧w1.cell? ⟨B,12,none⟩=some (.int .u64 18)∧w1.cell? ⟨B,13,none⟩=some (.int .u64 41)
theorem Rules64.below {w1 w2:World} {B n:Nat} (h:Rules64 w1 B) (hb:Below n w1 w2) (hB:B<n):Rules64 w2 B:=by
 have hc:∀ j,w2.cell? ⟨B,j,none⟩=w1.cell? ⟨B,j,none⟩:=fun j=>hb.cell (p:=⟨B,j,none⟩) hB
 unfold Rules64 at *
 simp only [hc]
 exact h
theorem Rules64.of_box {W w1:World} (h:Below (W.heap.size+1) (W.alloc (.cells #[.int .i64 64,.int .i64 80,.int .u64 1,.int .u64 8,.int .u64 7,.int .u64 19,.int .u64 61,.int .u64 6,.int .u64 28,.int .u64 34,.int .u64 39,.int .u64 14,.int .u64 18,.int .u64 41] 189)) w1):Rules64 w1 W.heap.size:=rbox64 h _ rfl
structure MixIn64 (w w2:World) (s:St) (W:Nat→Nat) (N:Nat):Prop where
 rules:Rules64 w2 w.heap.size
 state:RowAt .u64 w2 (w.heap.size+1) 0 8 s.at
 res:RowAt .u64 w2 (w.heap.size+1+1) 0 8 (fun _=>0)
 row:RowAt .u64 w2 N 0 80 W
 old:Below w.heap.size w w2
 far:w.heap.size+1+1<N
theorem MixIn64.below {w w2 w3:World} {s:St} {W:Nat→Nat} {N:Nat} (h:MixIn64 w w2 s W N) (hb:Below w2.heap.size w2 w3):MixIn64 w w3 s W N:=by
 have hN:N<w2.heap.size:=block_lt_of_cell (h.row 0 (by decide)).1
 have:=h.far
 exact ⟨h.rules.below hb (by omega),h.state.below hb (by omega),h.res.below hb (by omega),h.row.below hb hN,h.old.trans (hb.mono h.old.size),h.far⟩
end Go.Proofs.YtbbikhlbkpjpjaaGreatDoor
