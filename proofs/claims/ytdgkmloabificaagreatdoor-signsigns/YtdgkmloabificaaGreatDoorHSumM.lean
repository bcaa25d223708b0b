/- What the proof stands on: HSum, HTop, HRefSmall, HRefWords, HPlain, HCert, HConsts, Fit, SClamp, SMath, SgMath, PApi7, PSome, SgTimes, SgKey. -/
import Derived.Test.YtdgkmloabificaaGreatDoorBaseM
import Derived.Test.YtdgkmloabificaaGreatDoorHSpreadM
import Derived.Test.YtdgkmloabificaaGreatDoorLimbsM
import Derived.Test.YtdgkmloabificaaGreatDoorRDec6M
import Derived.Test.YtdgkmloabificaaGreatDoorRRatioM
import Derived.ArgAppend
import Derived.Deep.AppendLies
import Derived.Deep.Cut
import Derived.Deep.RegionLawGrows
import Derived.Deep.RegionWith
import Derived.Deep.Upon
namespace Go.Proofs.YtdgkmloabificaaGreatDoor
open Go.RowKit
def endS (r:Ru) (K:Nat→Nat) (s:St) (R:Nat→Nat) (c:Nat):St:=(writeE r K s R c (padN r c) (padF r c)).1
def outB (m:Nat) (s:St) (j:Nat):Nat:=s.at (j / (m / 8)) / 2 ^ (m - 8 - j%(m / 8)*8)%256
def outG (m:Nat) (s:St):Nat→Nat→Nat
 | 0=>fun _=>0
 | k+1=>upd (outG m s k) k (outB m s k)
theorem outG_at (m:Nat) (s:St):∀ k j,j<k→outG m s k j=outB m s j
 | k+1,j,h=>by
  unfold outG upd
  by_cases e:j=k
  · rw [if_pos e,e]
  · rw [if_neg e];exact outG_at m s k j (by omega)
theorem padF_lt (r:Ru) (c:Nat):∀ j,padF r c j<256:=by
 suffices h:∀ N i j,padG N c i j<256 from h _ _
 intro N i
 induction i with
 | zero =>
  intro j;unfold padG upd;split
  · omega
  · exact Nat.zero_lt_succ _
 | succ i ih =>
  intro j;unfold padG upd;split
  · exact Nat.mod_lt _ (by decide)
  · exact ih j
theorem padN64_le (c:Nat):padN rw6 c≤200:=by
 show 1+(4*64 - 1 - 64 / 4 - c%(2*64))%(2*64)+64 / 4≤200
 omega
set_option maxRecDepth 20000 in
set_option maxHeartbeats 1000000 in
theorem sum64_any (K:Nat→Nat) (hK:∀ j,K j<18446744073709551616) (s:St) (hs:s.lt 18446744073709551616) (R:Nat→Nat) (hR:∀ j,R j<256) (c:Nat) (hc:c<2305843009213693952) (w:World)
 (hcub:∀ j,j<80→w.cell? ⟨4,j,none⟩=some (.int .u64 (K j))) :
 Calls Tryz.prog 80 #[.agg (engVals .u64 s R c).toArray,(.agg #[.int .i64 64,.int .i64 80,.int .u64 1,.int .u64 8,.int .u64 7,.int .u64 19,.int .u64 61,.int .u64 6,.int .u64 28,.int .u64 34,.int .u64 39,.int .u64 14,.int .u64 18,.int .u64 41])] w
  fun e w'=>∃ g,e = .returned (.slice (some ⟨g,0,none⟩) 64 64)∧w.heap.size≤g∧RowAt .u8 w' g 0 64 (outB 64 (endS rw6 K s R c))∧Below w.heap.size w w':=by
 have h3:4<w.heap.size:=block_lt_of_cell (hcub 0 (by decide))
 obtain ⟨W2,hW2⟩:∃ W2,W2=(w.alloc (.cells (engVals .u64 s R c).toArray 109)).alloc (.cells #[.int .i64 64,.int .i64 80,.int .u64 1,.int .u64 8,.int .u64 7,.int .u64 19,.int .u64 61,.int .u64 6,.int .u64 28,.int .u64 34,.int .u64 39,.int .u64 14,.int .u64 18,.int .u64 41] 113):=⟨_,rfl⟩
 have hE:EngAt .u64 W2 w.heap.size 0 s R c:=by rw [hW2];exact (EngAt.fresh w s R c 109).below ((Below.refl _ _).alloc (Nat.le_refl _) _)
 have hRu:Rules64 W2 (w.heap.size+1):=by
  have:=Rules64.of_box (W:=w.alloc (.cells (engVals .u64 s R c).toArray 109)) (w1:=W2) (by rw [hW2];exact Below.refl _ _)
  rw [World.size_alloc] at this;exact this
 have hcub2:∀ j,j<80→W2.cell? ⟨4,j,none⟩=some (.int .u64 (K j)):=fun j hj=>by
  rw [hW2,World.cell?_alloc_lt _ _ _ (by simp;omega),World.cell?_alloc_lt _ _ _ h3];exact hcub j hj
 have hB2:Below w.heap.size w W2:=by rw [hW2];exact ((Below.refl _ _).alloc (Nat.le_refl _) _).alloc (by simp) _
 have hz2:W2.heap.size=w.heap.size+1+1:=by rw [hW2];simp
 have HW2:Hid (W2=(w.alloc (.cells (engVals .u64 s R c).toArray 109)).alloc (.cells #[.int .i64 64,.int .i64 80,.int .u64 1,.int .u64 8,.int .u64 7,.int .u64 19,.int .u64 61,.int .u64 6,.int .u64 28,.int .u64 34,.int .u64 39,.int .u64 14,.int .u64 18,.int .u64 41] 113)):=hW2
 clear hW2
 go_enter Tryz.func80,Tryz.ntmps80
 go_wp2
 rw [←HW2.out]
 obtain ⟨p0,p1,p2,p3,p4,p5,p6,p7,p8,p9,p10,p11,p12,p13⟩:=id hRu
 have hcn:=hE.cnt
 rw [Nat.zero_add] at hcn
 have hb0:Below W2.heap.size W2 W2.drew:=(Below.refl _ _).drew
 have hpad:=padding64_any c hc W2.drew
 have HZ2:Hid (W2.heap.size=w.heap.size+1+1):=hz2
 clear hz2 hcub
 have hw:∀ (w1:World) (g:Nat),W2.drew.heap.size≤g→RowAt .u8 w1 g 0 (padN rw6 c) (padF rw6 c)→Below W2.drew.heap.size W2.drew w1 →
  Rules64 w1 (w.heap.size+1)∧Calls Tryz.prog 79 #[.pointer (some ⟨w.heap.size,0,none⟩),(.agg #[.int .i64 64,.int .i64 80,.int .u64 1,.int .u64 8,.int .u64 7,.int .u64 19,.int .u64 61,.int .u64 6,.int .u64 28,.int .u64 34,.int .u64 39,.int .u64 14,.int .u64 18,.int .u64 41]),.slice (some ⟨g,0,none⟩) (padN rw6 c) (padN rw6 c)] w1
   fun e w'=>e = .returned (.tuple #[])∧EngAt .u64 w' w.heap.size 0 (writeE rw6 K s R c (padN rw6 c) (padF rw6 c)).1 (writeE rw6 K s R c (padN rw6 c) (padF rw6 c)).2 (c+padN rw6 c)∧Rules64 w' (w.heap.size+1)∧Below w.heap.size w w':=fun w1 g hg hrow hb=>by
  have hb':=below_next hb0 hb
  have hz:=HZ2.out
  have hg':w.heap.size+1+1≤g:=by simp only [World.size_drew] at hg;omega
  have hR1:=hRu.below hb' (by omega)
  refine ⟨hR1,(write64_any K hK s hs R hR w.heap.size 0 c (padN rw6 c) _ (padF rw6 c) (padF_lt _ _) w1 (hE.below hb') (fun j hj=>(hb'.cell (p:=⟨4,j,none⟩) (by show 4<_;omega)).trans (hcub2 j hj)) (by omega) (.inr ⟨g,0,_,rfl,by omega,Nat.le_refl _,fun j hj=>(hrow j hj).1⟩) (by have:=padN64_le c;omega)).mono ?_⟩
  rintro e w' ⟨rfl,hE',hO'⟩
  have hs':=hb'.size
  exact ⟨rfl,hE',hR1.same (fun q=>hO'.cell' (by omega) (by omega)),hB2.trans ((hb'.mono (by omega)).trans (hO'.below (Nat.le_refl _) (by omega)))⟩
 go_cut [] from 8 (fun wc=>EngAt .u64 wc w.heap.size 0 (writeE rw6 K s R c (padN rw6 c) (padF rw6 c)).1 (writeE rw6 K s R c (padN rw6 c) (padF rw6 c)).2 (c+padN rw6 c)∧Rules64 wc (w.heap.size+1)∧Below w.heap.size w wc)
 case first =>
  go_region_with (first
   | (go_at_call 113;refine hpad.mono ?_;rintro e w1 ⟨g,rfl,hg,hrow,hb1⟩;obtain ⟨⟨r0,r1,r2,r3,r4,r5,r6,r7,r8,r9,r10,r11,r12,r13⟩,hwc⟩:=hw w1 g hg hrow hb1)
   | (go_at_call 79;refine hwc.mono ?_;rintro e w5 ⟨rfl,hE5,hR5,hB5⟩))
  all_goals
   go_wp2
   go_meet
   case rel=>exact ⟨hE5,hR5,hB5⟩
 case rest =>
  obtain ⟨hE5,hR5,hB5⟩:=hcut
  have hs5:(writeE rw6 K s R c (padN rw6 c) (padF rw6 c)).1.lt 18446744073709551616:=(writeE_lt (r:=rw6) hs hR (padF_lt _ _)).1
  have HS5:Hid (endS rw6 K s R c=(writeE rw6 K s R c (padN rw6 c) (padF rw6 c)).1):=(rfl:endS rw6 K s R c=(writeE rw6 K s R c (padN rw6 c) (padF rw6 c)).1)
  have hst:=hE5.st
  obtain ⟨x,hx⟩:∃ x,x=(writeE rw6 K s R c (padN rw6 c) (padF rw6 c)).1:=⟨_,rfl⟩
  have HX:Hid (x=(writeE rw6 K s R c (padN rw6 c) (padF rw6 c)).1):=hx
  rw [←hx] at hs5 hst
  clear hx
  have c0:=hR5.1
  have hmk:=fun W=>make_bytes W 64 64 rfl (by decide)
  clear hw hpad hb0 hcn p0 p1 p2 p3 p4 p5 p6 p7 p8 p9 p10 p11 p12 p13 hRu hcub2 hE hB2 HW2 HZ2 hE5
  have hwl:w.heap.size<wc.heap.size:=block_lt_of_cell (hst 0 (by decide)).1
  have hwl1:w.heap.size+1<wc.heap.size:=block_lt_of_cell c0
  go_wp2
  clear hmk
  go_loopw [22] (fun i wr=>∃ k:Nat,k≤64∧i = .int .i64 k∧RowAt .u8 wr wc.heap.size 0 64 (outG 64 x k)∧Below wc.heap.size wc wr) (fun i _=>64 - (intOf i).toNat)
  case atStart=>exact ⟨0,Nat.zero_le _,rfl,RowAt.fresh (fun j hj=>zb_at 64 j hj),(Below.refl _ _).alloc (Nat.le_refl _) _⟩
  case round =>
   obtain ⟨k,hk,rfl,hrow,hbel⟩:=hrel
   by_cases hlt:k<64
   · have rs:wr.cell? ⟨w.heap.size,k / 8,none⟩=some (.int .u64 (x.at (k / 8))):=by
      have:=(hst (k / 8) (by omega)).1
      rw [Nat.zero_add] at this
      exact (hbel.cell (p:=⟨w.heap.size,k / 8,none⟩) hwl).trans this
     have rr:wr.cell? ⟨w.heap.size+1,0,none⟩=some (.int .i64 64):=(hbel.cell (p:=⟨w.heap.size+1,0,none⟩) hwl1).trans c0
     obtain ⟨rg,rf⟩:=hrow k hlt
     rw [Nat.zero_add] at rg rf
     have hq:k / 8<8:=by omega
     go_wp2
     go_region
     go_wp2
     go_roundw
     case rel =>
      have h1:=hrow.set (i:=k) hlt (v:=(x.at (k / 8):Int) / 2 ^ (64 - 8 - k%8*8)%256) (u:=outB 64 x k) (by show _=((x.at (k / (64 / 8)) / 2 ^ (64 - 8 - k%(64 / 8)*8)%256:Nat):Int);simp)
      rw [Nat.zero_add] at h1
      exact ⟨k+1,by omega,by go_num,h1.drew,(hbel.setCell (Nat.le_refl _) _).drew⟩
     case measure=>simp [intOf];omega
   · have hke:k=64:=by omega
     subst hke
     go_wp2
     go_ret
     refine ⟨wc.heap.size,rfl,hB5.size,hrow.cong (fun j hj => ?_),hB5.trans (hbel.mono hB5.size)⟩
     rw [outG_at _ _ _ _ hj,HS5.out,←HX.out]
end Go.Proofs.YtdgkmloabificaaGreatDoor
namespace Go.Proofs.YtdgkmloabificaaGreatDoor
open Go.RowKit
structure HTab (w:World) (K q:Nat→Nat):Prop where
 cubes:∀ j,j<80→w.cell? ⟨4,j,none⟩=some (.int .u64 (K j))
 squares:∀ j,j<8→w.cell? ⟨3,j,none⟩=some (.int .u64 (q j))
 narrow:Rules32 w 1
 wide:Rules64 w 0
 Klt:∀ j,K j<18446744073709551616
 qlt:∀ j,q j<18446744073709551616
theorem HTab.size {w:World} {K q:Nat→Nat} (h:HTab w K q):4<w.heap.size:=block_lt_of_cell (h.cubes 0 (by decide))
theorem HTab.below {w w':World} {K q:Nat→Nat} (h:HTab w K q) {n:Nat} (hb:Below n w w') (hn:4<n):HTab w' K q :=
 ⟨fun j hj=>(hb.cell (p:=⟨4,j,none⟩) hn).trans (h.cubes j hj),fun j hj=>(hb.cell (p:=⟨3,j,none⟩) (by show 3<n;omega)).trans (h.squares j hj),h.narrow.below hb (by omega),h.wide.below hb (by omega),h.Klt,h.qlt⟩
theorem firstS_lt (r:Ru) (q:Nat→Nat) (hm:r.m≤64) (hq:∀ j,q j<18446744073709551616):(firstS r q).lt (2 ^ r.m):=by
 have h:∀ j,q j / 2 ^ (64 - r.m)<2 ^ r.m:=fun j=>by
  rw [Nat.div_lt_iff_lt_mul (Nat.two_pow_pos _),←Nat.pow_add,show r.m+(64 - r.m)=64 by omega];exact hq j
 exact ⟨h 0,h 1,h 2,h 3,h 4,h 5,h 6,h 7⟩
def hashS (r:Ru) (K q:Nat→Nat) (n:Nat) (bs:Nat→Nat):St:=endS r K (writeE r K (firstS r q) (fun _=>0) 0 n bs).1 (writeE r K (firstS r q) (fun _=>0) 0 n bs).2 n
theorem BytesIn.away {w w':World} {v:Value} {n:Nat} {bs:Nat→Nat} (h:BytesIn w v n bs) (hb:Below w.heap.size w w') {b:Nat} (hn:w.heap.size≤b):Bytes w' b v n bs:=by
 rcases h with h | ⟨bb,ob,cap,rfl,h1,h2,h3⟩
 · exact .inl h
 · exact .inr ⟨bb,ob,cap,rfl,by omega,h2,fun j hj=>(hb.cell (p:=⟨bb,ob+j,none⟩) h1).trans (h3 j hj)⟩
theorem there_new64 (w:World):(w.alloc (.cells zeng64 109)).there w.heap.size 0 137:=(EngAt.fresh (K := .u64) w zSt (fun _=>0) 0 109).there
set_option maxRecDepth 20000 in
set_option maxHeartbeats 1000000 in
theorem Sum512_any (K q:Nat→Nat) (v:Value) (n:Nat) (bs:Nat→Nat) (hbs:∀ j,bs j<256) (w:World) (hT:HTab w K q) (hv:BytesIn w v n bs) (hn:n<2305843009213693952) :
 Calls Tryz.prog 37 #[v] w
  fun e w'=>∃ g,e = .returned (.slice (some ⟨g,0,none⟩) 64 64)∧w.heap.size≤g∧RowAt .u8 w' g 0 64 (outB 64 (hashS rw6 K q n bs))∧Below w.heap.size w w':=by
 have hz:=zero109
 obtain ⟨p0,p1,p2,p3,p4,p5,p6,p7,p8,p9,p10,p11,p12,p13⟩:=id hT.wide
 have hst:=start64_any q hT.qlt w hT.squares
 have hi:=isz109 .u64 (firstS rw6 q) (fun _=>0) 0
 have hone:=all_oneCell_toArray (engVals_one .u64 (firstS rw6 q) (fun _=>0) 0)
 have hF:(firstS rw6 q).lt 18446744073709551616:=firstS_lt rw6 q (by decide) hT.qlt
 have hkey:∀ w1:World,Below w.heap.size w w1→(w1.alloc (.cells zeng64 109)).there w1.heap.size 0 (engVals .u64 (firstS rw6 q) (fun _=>0) 0).toArray.size∧∀ w2,w2=(w1.alloc (.cells zeng64 109)).setCells w1.heap.size 0 (engVals .u64 (firstS rw6 q) (fun _=>0) 0)→Rules64 w2 0∧Calls Tryz.prog 79 #[.pointer (some ⟨w1.heap.size,0,none⟩),(.agg #[.int .i64 64,.int .i64 80,.int .u64 1,.int .u64 8,.int .u64 7,.int .u64 19,.int .u64 61,.int .u64 6,.int .u64 28,.int .u64 34,.int .u64 39,.int .u64 14,.int .u64 18,.int .u64 41]),v] w2 fun e w'=>e = .returned (.tuple #[])∧Rules64 w' 0∧EngAt .u64 w' w1.heap.size 0 (writeE rw6 K (firstS rw6 q) (fun _=>0) 0 n bs).1 (writeE rw6 K (firstS rw6 q) (fun _=>0) 0 n bs).2 n∧Below w.heap.size w w'∧∀ j,j<80→w'.cell? ⟨4,j,none⟩=some (.int .u64 (K j)):=fun w1 hb1=>by
  refine ⟨by simp only [List.size_toArray,engVals_len];exact there_new64 w1,fun w2 hw2 => ?_⟩
  have h3:=hT.size
  have hs1:=hb1.size
  have hE:EngAt .u64 w2 w1.heap.size 0 (firstS rw6 q) (fun _=>0) 0:=by rw [hw2];exact EngAt.stored (there_new64 w1) _ _ _
  have hb2:Below w1.heap.size w1 w2:=by rw [hw2];exact below_setCells (Nat.le_refl _) _ _ _ ((Below.refl _ _).alloc (Nat.le_refl _) _)
  have hb3:Below w.heap.size w w2:=hb1.trans (hb2.mono hs1)
  have hT2:=hT.below hb3 h3
  refine ⟨hT2.wide,(write64_any K hT.Klt (firstS rw6 q) hF (fun _=>0) (fun _=>by decide) w1.heap.size 0 0 n v bs hbs w2 hE hT2.cubes (by omega) (hv.away hb3 hs1) (by omega)).mono ?_⟩
  rintro e w' ⟨rfl,hE',hO'⟩
  have hl:w1.heap.size<w2.heap.size:=block_lt_of_cell hE.cnt
  have hb4:Below w.heap.size w w':=hb3.trans (hO'.below hs1 (by omega))
  have hT3:=hT.below hb4 h3
  rw [Nat.zero_add] at hE'
  exact ⟨rfl,hT3.wide,hE',hb4,hT3.cubes⟩
 have hX:=writeE_lt (r:=rw6) (K:=K) (c:=0) (n:=n) hF (fun _=>(by decide:(0:Nat)<256)) hbs
 obtain ⟨X,hXe⟩:∃ X,X=writeE rw6 K (firstS rw6 q) (fun _=>0) 0 n bs:=⟨_,rfl⟩
 have HX:Hid (X=writeE rw6 K (firstS rw6 q) (fun _=>0) 0 n bs):=hXe
 rw [←hXe] at hkey hX
 have hsum:=fun w' h=>sum64_any K hT.Klt X.1 hX.1 X.2 hX.2 n hn w' h
 clear hXe hv hT hF
 go_enter Tryz.func37,Tryz.ntmps37
 go_wp2_with (first
  | (go_at_call 78;refine hst.mono ?_;clear hst;rintro e w1 ⟨rfl,hb1⟩;obtain ⟨ht,hk2⟩:=hkey w1 hb1;clear hkey)
  | (refine wpList_store_mid rfl 109 _ _ rfl _ 0 _ rfl rfl ht hi hone ?_;rw [List.toList_toArray];obtain ⟨w2,hw2⟩:∃ w2,w2=(w1.alloc (.cells zeng64 109)).setCells w1.heap.size 0 (engVals .u64 (firstS rw6 q) (fun _=>0) 0):=⟨_,rfl⟩;obtain ⟨⟨r0,r1,r2,r3,r4,r5,r6,r7,r8,r9,r10,r11,r12,r13⟩,hwr⟩:=hk2 w2 hw2;rw [←hw2];clear hw2 hk2 ht hi hone hz)
  | (go_at_call 79;refine hwr.mono ?_;clear hwr;rintro e w5 ⟨rfl,⟨t0,t1,t2,t3,t4,t5,t6,t7,t8,t9,t10,t11,t12,t13⟩,hE5,hB5,hc5⟩)
  | (refine wpList_load_mid rfl 109 _ rfl _ 0 rfl _ _ hE5.range Tryz.underlying109 rfl (by rw [engVals_len];kernel_rfl) ?_)
  | (go_at_call 80;refine (hsum w5 hc5).mono ?_;rintro e w6 ⟨g,rfl,hg,hrow,hb6⟩))
 go_ret
 have e:hashS rw6 K q n bs=endS rw6 K X.1 X.2 n:=by rw [HX.out];rfl
 rw [e]
 exact ⟨g,rfl,Nat.le_trans hB5.size hg,hrow,hB5.trans (hb6.mono hB5.size)⟩
end Go.Proofs.YtdgkmloabificaaGreatDoor
namespace Go.Proofs.YtdgkmloabificaaGreatDoor
open Go.RowKit
structure Lists32 (w:World) (g0 g1 g2 g3:Nat):Prop where
 a0:w.cell? ⟨g0,0,none⟩=some (.int .i64 7)
 a1:w.cell? ⟨g0,1,none⟩=some (.int .i64 18)
 a2:w.cell? ⟨g0,2,none⟩=some (.int .i64 3)
 b0:w.cell? ⟨g1,0,none⟩=some (.int .i64 17)
 b1:w.cell? ⟨g1,1,none⟩=some (.int .i64 19)
 b2:w.cell? ⟨g1,2,none⟩=some (.int .i64 10)
 c0:w.cell? ⟨g2,0,none⟩=some (.int .i64 2)
 c1:w.cell? ⟨g2,1,none⟩=some (.int .i64 13)
 c2:w.cell? ⟨g2,2,none⟩=some (.int .i64 22)
 d0:w.cell? ⟨g3,0,none⟩=some (.int .i64 6)
 d1:w.cell? ⟨g3,1,none⟩=some (.int .i64 11)
 d2:w.cell? ⟨g3,2,none⟩=some (.int .i64 25)
theorem Lists32.below {w w':World} {g0 g1 g2 g3:Nat} (h:Lists32 w g0 g1 g2 g3) (hb:Below w.heap.size w w'):Lists32 w' g0 g1 g2 g3:=by
 have k:∀ {g j:Nat} {v:Value},w.cell? ⟨g,j,none⟩=some v→w'.cell? ⟨g,j,none⟩=some v:=fun {g j v} e=>(hb.cell (p:=⟨g,j,none⟩) (block_lt_of_cell e)).trans e
 exact ⟨k h.a0,k h.a1,k h.a2,k h.b0,k h.b1,k h.b2,k h.c0,k h.c1,k h.c2,k h.d0,k h.d1,k h.d2⟩
def ZBox32 (W:World) (B g0 g1 g2 g3:Nat):Prop:=W.cell? ⟨B,0,none⟩=some (.int .i64 32)∧W.cell? ⟨B,1,none⟩=some (.int .i64 64)∧W.cell? ⟨B,2,none⟩=some (.int .i64 64)∧W.cell? ⟨B,3,none⟩=some (.slice (some ⟨g0,0,none⟩) 3 3)∧W.cell? ⟨B,4,none⟩=some (.slice (some ⟨g1,0,none⟩) 3 3)∧W.cell? ⟨B,5,none⟩=some (.slice (some ⟨g2,0,none⟩) 3 3)∧W.cell? ⟨B,6,none⟩=some (.slice (some ⟨g3,0,none⟩) 3 3)
theorem ZBox32.below {w w':World} {B g0 g1 g2 g3:Nat} (h:ZBox32 w B g0 g1 g2 g3) (hb:Below w.heap.size w w'):ZBox32 w' B g0 g1 g2 g3:=by
 have k:∀ {g j:Nat} {v:Value},w.cell? ⟨g,j,none⟩=some v→w'.cell? ⟨g,j,none⟩=some v:=fun {g j v} e=>(hb.cell (p:=⟨g,j,none⟩) (block_lt_of_cell e)).trans e
 obtain ⟨h0,h1,h2,h3,h4,h5,h6⟩:=h
 exact ⟨k h0,k h1,k h2,k h3,k h4,k h5,k h6⟩
structure Lists64 (w:World) (g0 g1 g2 g3:Nat):Prop where
 a0:w.cell? ⟨g0,0,none⟩=some (.int .i64 1)
 a1:w.cell? ⟨g0,1,none⟩=some (.int .i64 8)
 a2:w.cell? ⟨g0,2,none⟩=some (.int .i64 7)
 b0:w.cell? ⟨g1,0,none⟩=some (.int .i64 19)
 b1:w.cell? ⟨g1,1,none⟩=some (.int .i64 61)
 b2:w.cell? ⟨g1,2,none⟩=some (.int .i64 6)
 c0:w.cell? ⟨g2,0,none⟩=some (.int .i64 28)
 c1:w.cell? ⟨g2,1,none⟩=some (.int .i64 34)
 c2:w.cell? ⟨g2,2,none⟩=some (.int .i64 39)
 d0:w.cell? ⟨g3,0,none⟩=some (.int .i64 14)
 d1:w.cell? ⟨g3,1,none⟩=some (.int .i64 18)
 d2:w.cell? ⟨g3,2,none⟩=some (.int .i64 41)
theorem Lists64.below {w w':World} {g0 g1 g2 g3:Nat} (h:Lists64 w g0 g1 g2 g3) (hb:Below w.heap.size w w'):Lists64 w' g0 g1 g2 g3:=by
 have k:∀ {g j:Nat} {v:Value},w.cell? ⟨g,j,none⟩=some v→w'.cell? ⟨g,j,none⟩=some v:=fun {g j v} e=>(hb.cell (p:=⟨g,j,none⟩) (block_lt_of_cell e)).trans e
 exact ⟨k h.a0,k h.a1,k h.a2,k h.b0,k h.b1,k h.b2,k h.c0,k h.c1,k h.c2,k h.d0,k h.d1,k h.d2⟩
theorem cut64_any (g0 g1 g2 g3 x:Nat) (hx:x<18446744073709551616) (w:World) :
 Calls Tryz.prog 132 #[(.agg #[.int .i64 64,.int .i64 128,.int .i64 80,.slice (some ⟨g0,0,none⟩) 3 3,.slice (some ⟨g1,0,none⟩) 3 3,.slice (some ⟨g2,0,none⟩) 3 3,.slice (some ⟨g3,0,none⟩) 3 3]),.int .u64 x] w fun e w'=>e = .returned (.int .u64 ((x%2 ^ 64:Nat):Int))∧Below w.heap.size w w':=by
 go_enter Tryz.func132,Tryz.ntmps132
 go_wp2
 go_ret
 refine ⟨retInt ?_,(Below.refl _ _).alloc (Nat.le_refl _) _⟩
 rw [show (2:Nat) ^ 64=18446744073709551616 from rfl,Nat.mod_eq_of_lt hx]
theorem rotR_64 (x n:Nat) (hx:x<2 ^ 64):((x / 2 ^ n) ||| (x*2 ^ (64 - n)%18446744073709551616))%2 ^ 64=rot 64 x n:=by
 unfold rot
 rw [Nat.or_mod_two_pow,Nat.mod_eq_of_lt (Nat.lt_of_le_of_lt (Nat.div_le_self _ _) hx),show (18446744073709551616:Nat)=2 ^ 64 from rfl,Nat.mod_mod_of_dvd _ (Nat.pow_dvd_pow 2 (by decide))]
theorem rotL_64 (x n:Nat) (hx:x<2 ^ 64):rot 64 x n<18446744073709551616:=Nat.lt_of_lt_of_le (rot_lt 64 x n hx) (by decide)
theorem rotB_64 (x n:Nat) (hx:x<2 ^ 64):((x / 2 ^ n) ||| (x*2 ^ (64 - n)%18446744073709551616))<18446744073709551616 :=
 Nat.or_lt_two_pow (n:=64) (Nat.lt_of_le_of_lt (Nat.div_le_self _ _) (Nat.lt_of_lt_of_le hx (by decide))) (Nat.mod_lt _ (by decide))
set_option maxHeartbeats 400000 in
theorem rotr64_any (g0 g1 g2 g3 x n:Nat) (hx:x<2 ^ 64) (hn:n≤64) (w:World) :
 Calls Tryz.prog 141 #[(.agg #[.int .i64 64,.int .i64 128,.int .i64 80,.slice (some ⟨g0,0,none⟩) 3 3,.slice (some ⟨g1,0,none⟩) 3 3,.slice (some ⟨g2,0,none⟩) 3 3,.slice (some ⟨g3,0,none⟩) 3 3]),.int .u64 x,.int .i64 n] w fun e w'=>e = .returned (.int .u64 ((rot 64 x n:Nat):Int))∧Below w.heap.size w w':=by
 have hx':x<18446744073709551616:=Nat.lt_of_lt_of_le hx (by decide)
 have hb:=rotB_64 x n hx
 have hc:=fun W=>cut64_any g0 g1 g2 g3 _ hb W
 have e1:bits .or .u64 ((x:Int) / 2 ^ n) ((x:Int)*2 ^ (64 - n)%18446744073709551616)=(((x / 2 ^ n) ||| (x*2 ^ (64 - n)%18446744073709551616):Nat):Int):=by
  have f1:(x:Int) / 2 ^ n=((x / 2 ^ n:Nat):Int):=by simp
  have f2:(x:Int)*2 ^ (64 - n)%18446744073709551616=((x*2 ^ (64 - n)%18446744073709551616:Nat):Int):=by simp
  rw [f1,f2,u64_or_nat _ _ (Nat.lt_of_le_of_lt (Nat.div_le_self _ _) hx') (Nat.mod_lt _ (by decide))]
 rw [rotR_64 x n hx,←e1] at hc
 clear hx hb e1
 go_enter Tryz.func141,Tryz.ntmps141
 go_wp2_with (go_at_call 132;refine (hc _).mono ?_;rintro e w' ⟨rfl,hb⟩)
 go_ret
 exact ⟨rfl,((Below.refl _ _).alloc (Nat.le_refl _) _).trans (hb.mono (by simp))⟩
def ZBox64 (W:World) (B g0 g1 g2 g3:Nat):Prop:=W.cell? ⟨B,0,none⟩=some (.int .i64 64)∧W.cell? ⟨B,1,none⟩=some (.int .i64 128)∧W.cell? ⟨B,2,none⟩=some (.int .i64 80)∧W.cell? ⟨B,3,none⟩=some (.slice (some ⟨g0,0,none⟩) 3 3)∧W.cell? ⟨B,4,none⟩=some (.slice (some ⟨g1,0,none⟩) 3 3)∧W.cell? ⟨B,5,none⟩=some (.slice (some ⟨g2,0,none⟩) 3 3)∧W.cell? ⟨B,6,none⟩=some (.slice (some ⟨g3,0,none⟩) 3 3)
theorem ZBox64.below {w w':World} {B g0 g1 g2 g3:Nat} (h:ZBox64 w B g0 g1 g2 g3) (hb:Below w.heap.size w w'):ZBox64 w' B g0 g1 g2 g3:=by
 have k:∀ {g j:Nat} {v:Value},w.cell? ⟨g,j,none⟩=some v→w'.cell? ⟨g,j,none⟩=some v:=fun {g j v} e=>(hb.cell (p:=⟨g,j,none⟩) (block_lt_of_cell e)).trans e
 obtain ⟨h0,h1,h2,h3,h4,h5,h6⟩:=h
 exact ⟨k h0,k h1,k h2,k h3,k h4,k h5,k h6⟩
theorem zbox64 (w:World) (g0 g1 g2 g3:Nat):ZBox64 (w.alloc (.cells #[.int .i64 64,.int .i64 128,.int .i64 80,.slice (some ⟨g0,0,none⟩) 3 3,.slice (some ⟨g1,0,none⟩) 3 3,.slice (some ⟨g2,0,none⟩) 3 3,.slice (some ⟨g3,0,none⟩) 3 3] 117)) w.heap.size g0 g1 g2 g3:=by simp [ZBox64]
set_option maxHeartbeats 1000000 in
theorem high64_any (g0 g1 g2 g3 g x a b c:Nat) (hx:x<2 ^ 64) (ha:a≤64) (hb:b≤64) (hc:c≤64) (w:World) (h0:w.cell? ⟨g,0,none⟩=some (.int .i64 a)) (h1:w.cell? ⟨g,1,none⟩=some (.int .i64 b)) (h2:w.cell? ⟨g,2,none⟩=some (.int .i64 c)) :
 Calls Tryz.prog 133 #[(.agg #[.int .i64 64,.int .i64 128,.int .i64 80,.slice (some ⟨g0,0,none⟩) 3 3,.slice (some ⟨g1,0,none⟩) 3 3,.slice (some ⟨g2,0,none⟩) 3 3,.slice (some ⟨g3,0,none⟩) 3 3]),.int .u64 x,.slice (some ⟨g,0,none⟩) 3 3] w fun e w'=>e = .returned (.int .u64 ((hi3 64 x (a,b,c):Nat):Int))∧Below w.heap.size w w':=by
 have hg:g<w.heap.size:=block_lt_of_cell h0
 obtain ⟨W,hW⟩:∃ W,W=w.alloc (.cells #[.int .i64 64,.int .i64 128,.int .i64 80,.slice (some ⟨g0,0,none⟩) 3 3,.slice (some ⟨g1,0,none⟩) 3 3,.slice (some ⟨g2,0,none⟩) 3 3,.slice (some ⟨g3,0,none⟩) 3 3] 117):=⟨_,rfl⟩
 have HW:Hid (W=w.alloc (.cells #[.int .i64 64,.int .i64 128,.int .i64 80,.slice (some ⟨g0,0,none⟩) 3 3,.slice (some ⟨g1,0,none⟩) 3 3,.slice (some ⟨g2,0,none⟩) 3 3,.slice (some ⟨g3,0,none⟩) 3 3] 117)):=hW
 obtain ⟨c0,c1,c2,c3,c4,c5,c6⟩:ZBox64 W w.heap.size g0 g1 g2 g3:=by rw [hW];exact zbox64 w g0 g1 g2 g3
 have hbW:Below w.heap.size w W:=by rw [hW];exact (Below.refl _ _).alloc (Nat.le_refl _) _
 have k0:=(hbW.cell (p:=⟨g,0,none⟩) hg).trans h0
 have k1:=(hbW.cell (p:=⟨g,1,none⟩) hg).trans h1
 have k2:=(hbW.cell (p:=⟨g,2,none⟩) hg).trans h2
 have q0:w.heap.size<W.heap.size:=by rw [hW];simp
 have q1:g<W.heap.size:=by omega
 have hS:∀ w':World,Below W.heap.size W w'→∀ b o,b<W.heap.size→w'.cell? ⟨b,o,none⟩=W.cell? ⟨b,o,none⟩:=fun w' h b o hb=>h.cell (p:=⟨b,o,none⟩) hb
 have hb0:Below W.heap.size W W.drew:=(Below.refl _ _).drew
 clear hW
 go_enter Tryz.func133,Tryz.ntmps133
 go_wp2
 rw [←HW.out]
 go_region_held3 (fun w'=>Below W.heap.size W w') (assumption) (first
  | (go_at_call 141;refine (rotr64_any g0 g1 g2 g3 _ _ hx (by assumption) _).mono ?_;rintro e w' ⟨rfl,hb⟩;have hbn:=below_next (W:=W) (by assumption) hb))
 go_wp2
 go_ret
 refine ⟨retInt ?_,hbW.trans (hbn.mono (by omega))⟩
 rw [u64_xor_nat _ _ (rotL_64 x a hx) (rotL_64 x b hx),u64_xor_nat _ _ (Nat.xor_lt_two_pow (n:=64) (rotL_64 x a hx) (rotL_64 x b hx)) (rotL_64 x c hx)]
 rfl
set_option maxHeartbeats 1000000 in
theorem low64_any (g0 g1 g2 g3 g x a b c:Nat) (hx:x<2 ^ 64) (ha:a≤64) (hb:b≤64) (hc:c≤64) (w:World) (h0:w.cell? ⟨g,0,none⟩=some (.int .i64 a)) (h1:w.cell? ⟨g,1,none⟩=some (.int .i64 b)) (h2:w.cell? ⟨g,2,none⟩=some (.int .i64 c)) :
 Calls Tryz.prog 140 #[(.agg #[.int .i64 64,.int .i64 128,.int .i64 80,.slice (some ⟨g0,0,none⟩) 3 3,.slice (some ⟨g1,0,none⟩) 3 3,.slice (some ⟨g2,0,none⟩) 3 3,.slice (some ⟨g3,0,none⟩) 3 3]),.int .u64 x,.slice (some ⟨g,0,none⟩) 3 3] w fun e w'=>e = .returned (.int .u64 ((lo3 64 x (a,b,c):Nat):Int))∧Below w.heap.size w w':=by
 have hcc:IntKind.u64.wrap (c:Int)=(c:Int):=by simp only [IntKind.wrap_u64];omega
 have hxl:x<18446744073709551616:=Nat.lt_of_lt_of_le hx (by decide)
 have hg:g<w.heap.size:=block_lt_of_cell h0
 obtain ⟨W,hW⟩:∃ W,W=w.alloc (.cells #[.int .i64 64,.int .i64 128,.int .i64 80,.slice (some ⟨g0,0,none⟩) 3 3,.slice (some ⟨g1,0,none⟩) 3 3,.slice (some ⟨g2,0,none⟩) 3 3,.slice (some ⟨g3,0,none⟩) 3 3] 117):=⟨_,rfl⟩
 have HW:Hid (W=w.alloc (.cells #[.int .i64 64,.int .i64 128,.int .i64 80,.slice (some ⟨g0,0,none⟩) 3 3,.slice (some ⟨g1,0,none⟩) 3 3,.slice (some ⟨g2,0,none⟩) 3 3,.slice (some ⟨g3,0,none⟩) 3 3] 117)):=hW
 obtain ⟨c0,c1,c2,c3,c4,c5,c6⟩:ZBox64 W w.heap.size g0 g1 g2 g3:=by rw [hW];exact zbox64 w g0 g1 g2 g3
 have hbW:Below w.heap.size w W:=by rw [hW];exact (Below.refl _ _).alloc (Nat.le_refl _) _
 have k0:=(hbW.cell (p:=⟨g,0,none⟩) hg).trans h0
 have k1:=(hbW.cell (p:=⟨g,1,none⟩) hg).trans h1
 have k2:=(hbW.cell (p:=⟨g,2,none⟩) hg).trans h2
 have q0:w.heap.size<W.heap.size:=by rw [hW];simp
 have q1:g<W.heap.size:=by omega
 have hS:∀ w':World,Below W.heap.size W w'→∀ b o,b<W.heap.size→w'.cell? ⟨b,o,none⟩=W.cell? ⟨b,o,none⟩:=fun w' h b o hb=>h.cell (p:=⟨b,o,none⟩) hb
 have hb0:Below W.heap.size W W.drew:=(Below.refl _ _).drew
 clear hW
 go_enter Tryz.func140,Tryz.ntmps140
 go_wp2
 rw [←HW.out]
 go_region_held3 (fun w'=>Below W.heap.size W w') (assumption) (first
  | (go_at_call 141;refine (rotr64_any g0 g1 g2 g3 _ _ hx (by assumption) _).mono ?_;rintro e w' ⟨rfl,hb⟩;have hbn:=below_next (W:=W) (by assumption) hb))
 go_wp2
 go_ret
 refine ⟨retInt ?_,hbW.trans (hbn.mono (by omega))⟩
 have e1:(x:Int) / 2 ^ c=((x / 2 ^ c:Nat):Int):=by simp
 rw [e1,u64_xor_nat _ _ (rotL_64 x a hx) (rotL_64 x b hx),u64_xor_nat _ _ (Nat.xor_lt_two_pow (n:=64) (rotL_64 x a hx) (rotL_64 x b hx)) (Nat.lt_of_le_of_lt (Nat.div_le_self _ _) hxl)]
 rfl
end Go.Proofs.YtdgkmloabificaaGreatDoor
namespace Go.Proofs.YtdgkmloabificaaGreatDoor
open Go.RowKit
def wordR (bs:Nat→Nat) (o:Nat):Nat→Nat
 | 0=>0
 | k+1=>(wordR bs o k*256%2 ^ 64) ||| bs (o+k)
theorem wordR_lt {bs:Nat→Nat} (hb:∀ j,bs j<256) (o:Nat):∀ k,wordR bs o k<18446744073709551616
 | 0=>Nat.zero_lt_succ _
 | k+1=>Nat.or_lt_two_pow (n:=64) (Nat.mod_lt _ (by decide)) (Nat.lt_of_lt_of_le (hb _) (by decide))
theorem wordR64_lt {bs:Nat→Nat} (hb:∀ j,bs j<256) (o:Nat):wordR bs o 8<2 ^ 64:=wordR_lt hb o 8
theorem Tryz.info47:(Tryz.prog.info? 47).map (fun i=>(i.zero,i.size,i.bytes))=some (some (.int .u64 0),1,8):=by kernel_rfl
theorem sch_succ (r:Ru) (X:Nat→Nat) (k:Nat):sch r X (k+1)=upd (sch r X k) (k+16) (nextW r (sch r X k) k):=rfl
set_option maxRecDepth 20000 in
set_option maxHeartbeats 2000000 in
theorem words64_any (g0 g1 g2 g3 bb ob cap:Nat) (bs:Nat→Nat) (hbs:∀ j,bs j<256) (w:World) (hL:Lists64 w g0 g1 g2 g3) (hcell:∀ j,j<128→w.cell? ⟨bb,ob+j,none⟩=some (.int .u8 (bs j))) :
 Calls Tryz.prog 131 #[(.agg #[.int .i64 64,.int .i64 128,.int .i64 80,.slice (some ⟨g0,0,none⟩) 3 3,.slice (some ⟨g1,0,none⟩) 3 3,.slice (some ⟨g2,0,none⟩) 3 3,.slice (some ⟨g3,0,none⟩) 3 3]),.slice (some ⟨bb,ob,none⟩) 128 cap] w fun e w'=>∃ v,e = .returned v∧w'.ownsRow w.heap.size 47 1 v 80 (ints .u64 80 (sch rw6 (fun i=>wordR bs (8*i) 8) (80 - 16)))∧Below w.heap.size w w':=by
 obtain ⟨i0,hi,hz0,hz1,hz2⟩:=info_parts Tryz.info47
 have hbb:bb<w.heap.size:=block_lt_of_cell (hcell 0 (by decide))
 go_enter Tryz.func131,Tryz.ntmps131
 go_wp2
 go_loopw [6,7] (fun v i wr=>∃ k:Nat,k≤16∧i = .int .i64 k∧wr.ownsRow (w.heap.size+1) 47 1 v k (ints .u64 k (fun i=>wordR bs (8*i) 8))∧Below (w.heap.size+1) (w.alloc (.cells #[.int .i64 64,.int .i64 128,.int .i64 80,.slice (some ⟨g0,0,none⟩) 3 3,.slice (some ⟨g1,0,none⟩) 3 3,.slice (some ⟨g2,0,none⟩) 3 3,.slice (some ⟨g3,0,none⟩) 3 3] 117)) wr) (fun _ i _=>16 - (intOf i).toNat)
 case atStart=>exact ⟨0,Nat.zero_le _,rfl,World.ownsRow_nil _ _ _ _,Below.refl _ _⟩
 case round =>
  obtain ⟨k,hk,rfl,hown,hbel⟩:=hrel
  by_cases hlt:k<16
  · go_wp2
    go_loop [8,9] (fun x j=>∃ m:Nat,m≤8∧j = .int .i64 m∧x = .int .u64 (wordR bs (8*k) m)) (fun _ j=>8 - (intOf j).toNat)
    case atStart=>exact ⟨0,Nat.zero_le _,rfl,rfl⟩
    case round =>
     obtain ⟨m,hm,rfl,rfl⟩:=hrel
     by_cases hlm:m<8
     · have hc:wr.cell? ⟨bb,ob+(8*k+m),none⟩=some (.int .u8 (bs (8*k+m))):=(hbel.cell (p:=⟨bb,ob+(8*k+m),none⟩) (Nat.lt_succ_of_lt hbb)).trans ((World.cell?_alloc_lt _ _ _ hbb).trans (hcell (8*k+m) (by omega)))
       go_wp2
       go_round
       case rel =>
        refine ⟨m+1,by omega,by go_num,?_⟩
        have e:=or8_64 (wordR bs (8*k) m) (bs (8*k+m)) (hbs _)
        simp only [IntKind.wrap_u64]
        rw [e]
        rfl
       case measure=>simp [intOf];omega
     · have hme:m=8:=by omega
       subst hme
       go_wp2_with (at_builtin;refine wpList_append_lies _ rfl (.tmp 35) (.tmp 37) 132 rfl (w.heap.size+1) 47 i0 (.int .u64 0) 1 8 Tryz.underlying132 hi hz0 hz1 hz2 rfl (by decide) _ _ _ rfl (hown.alloc _) ⟨wr.heap.size,0,none⟩ 1 1 [.int .u64 (wordR bs (8*k) 8)] rfl rfl (one_new _ _ _) (one_cell _ _) (by decide) (by unfold maxLen;omega) (by omega) (by have:=hbel.size;simp only [World.size_alloc] at this ⊢;omega) _ rfl ?_;intro g cap' w1 hown1 hgrow hat hgl)
       go_roundw
       case rel =>
        have hs:=hbel.size
        simp only [World.size_alloc] at hs
        have e:=ints_snoc .u64 k (fun i=>wordR bs (8*i) 8)
        exact ⟨k+1,by omega,by go_num,by rw [←e];exact hown1,below_grown (hbel.alloc hs _) hgrow (hown.alloc _) (Nat.le_refl _) (by simp only [World.size_alloc];omega)⟩
       case measure=>simp [intOf];omega
  · have hke:k=16:=by omega
    subst hke
    have hX:∀ j,(fun i=>wordR bs (8*i) 8) j<2 ^ 64:=fun j=>wordR64_lt hbs (8*j)
    obtain ⟨X,hXe⟩:∃ X:Nat→Nat,X=fun i=>wordR bs (8*i) 8:=⟨_,rfl⟩
    have HX:Hid (X=fun i=>wordR bs (8*i) 8):=hXe
    rw [←hXe] at hown hX
    clear hXe hcell hbb hbs
    go_wp2
    go_loopw [6,10] (fun v t w2=>∃ k:Nat,k≤80 - 16∧t = .int .i64 ((k:Int)+16)∧w2.ownsRow (w.heap.size+1) 47 1 v (k+16) (ints .u64 (k+16) (sch rw6 X k))∧Below (w.heap.size+1) (w.alloc (.cells #[.int .i64 64,.int .i64 128,.int .i64 80,.slice (some ⟨g0,0,none⟩) 3 3,.slice (some ⟨g1,0,none⟩) 3 3,.slice (some ⟨g2,0,none⟩) 3 3,.slice (some ⟨g3,0,none⟩) 3 3] 117)) w2) (fun _ t _=>80 - (intOf t).toNat)
    case atStart=>exact ⟨0,Nat.zero_le _,rfl,hown,hbel⟩
    case round =>
     clear hown hbel
     obtain ⟨k,hk,rfl,hown,hbel⟩:=hrel
     have hs1:=hbel.size
     simp only [World.size_alloc] at hs1
     have hbw:Below w.heap.size w wr:=((Below.refl _ _).alloc (Nat.le_refl _) _).trans (hbel.mono (by omega))
     have hZ:ZBox64 wr w.heap.size g0 g1 g2 g3:=by
      have hc:∀ j,wr.cell? ⟨w.heap.size,j,none⟩=(w.alloc (.cells #[.int .i64 64,.int .i64 128,.int .i64 80,.slice (some ⟨g0,0,none⟩) 3 3,.slice (some ⟨g1,0,none⟩) 3 3,.slice (some ⟨g2,0,none⟩) 3 3,.slice (some ⟨g3,0,none⟩) 3 3] 117)).cell? ⟨w.heap.size,j,none⟩:=fun j=>hbel.cell (p:=⟨w.heap.size,j,none⟩) (Nat.lt_succ_self _)
      have h:=zbox64 w g0 g1 g2 g3
      unfold ZBox64 at *
      simp only [hc]
      exact h
     by_cases hlt:k<80 - 16
     · obtain ⟨gg,cc,hv,hgb,hgl⟩:=hown.form (by omega)
       subst hv
       have hu:=fun j=>sch_lt (r:=rw6) hX k j
       have rr:∀ j,j<k+16→wr.cell? ⟨gg,j,none⟩=some (.int .u64 (sch rw6 X k j)):=fun j hj=>by
        rw [hown.cellAt j (by omega),ints_at _ _ _ j hj]
       have r14:=rr (k+14) (by omega)
       have r9:=rr (k+9) (by omega)
       have r1:=rr (k+1) (by omega)
       have r0:=rr k (by omega)
       obtain ⟨a14,e14⟩:∃ a,a=sch rw6 X k (k+14):=⟨_,rfl⟩
       obtain ⟨a9,e9⟩:∃ a,a=sch rw6 X k (k+9):=⟨_,rfl⟩
       obtain ⟨a1,e1⟩:∃ a,a=sch rw6 X k (k+1):=⟨_,rfl⟩
       obtain ⟨a0,e0⟩:∃ a,a=sch rw6 X k k:=⟨_,rfl⟩
       have HN:Hid (nextW rw6 (sch rw6 X k) k=(lo3 64 a14 (19,61,6)+a9+lo3 64 a1 (1,8,7)+a0)%2 ^ 64):=(by rw [e14,e9,e1,e0];rfl:nextW rw6 (sch rw6 X k) k=(lo3 64 a14 (19,61,6)+a9+lo3 64 a1 (1,8,7)+a0)%2 ^ 64)
       have u14:a14<2 ^ 64:=by rw [e14];exact hu _
       have u1:a1<2 ^ 64:=by rw [e1];exact hu _
       rw [←e14] at r14
       rw [←e9] at r9
       rw [←e1] at r1
       rw [←e0] at r0
       clear rr e14 e9 e1 e0 hu
       obtain ⟨b1,f1⟩:∃ a,a=lo3 64 a14 (19,61,6):=⟨_,rfl⟩
       obtain ⟨b2,f2⟩:∃ a,a=lo3 64 a1 (1,8,7):=⟨_,rfl⟩
       have hS1:∀ w':World,Seen (w.heap.size+1) gg (k+16) wr w'→∀ b o,b<w.heap.size+1→w'.cell? ⟨b,o,none⟩=wr.cell? ⟨b,o,none⟩:=fun w' h=>h.1
       have hS2:∀ w':World,Seen (w.heap.size+1) gg (k+16) wr w'→∀ q,q<k+16→w'.cell? ⟨gg,q,none⟩=wr.cell? ⟨gg,q,none⟩:=fun w' h=>h.2
       have hlow1:∀ W':World,Below wr.heap.size wr W'→Calls Tryz.prog 140 #[(.agg #[.int .i64 64,.int .i64 128,.int .i64 80,.slice (some ⟨g0,0,none⟩) 3 3,.slice (some ⟨g1,0,none⟩) 3 3,.slice (some ⟨g2,0,none⟩) 3 3,.slice (some ⟨g3,0,none⟩) 3 3]),.int .u64 a14,.slice (some ⟨g1,0,none⟩) 3 3] W' fun e w'=>e = .returned (.int .u64 (b1:Int))∧Below W'.heap.size W' w':=fun W' h=>by
        have L:=hL.below (hbw.trans (h.mono (by omega)))
        rw [f1]
        exact low64_any g0 g1 g2 g3 g1 _ 19 61 6 u14 (by decide) (by decide) (by decide) W' L.b0 L.b1 L.b2
       have hlow2:∀ W':World,Below wr.heap.size wr W'→Calls Tryz.prog 140 #[(.agg #[.int .i64 64,.int .i64 128,.int .i64 80,.slice (some ⟨g0,0,none⟩) 3 3,.slice (some ⟨g1,0,none⟩) 3 3,.slice (some ⟨g2,0,none⟩) 3 3,.slice (some ⟨g3,0,none⟩) 3 3]),.int .u64 a1,.slice (some ⟨g0,0,none⟩) 3 3] W' fun e w'=>e = .returned (.int .u64 (b2:Int))∧Below W'.heap.size W' w':=fun W' h=>by
        have L:=hL.below (hbw.trans (h.mono (by omega)))
        rw [f2]
        exact low64_any g0 g1 g2 g3 g0 _ 1 8 7 u1 (by decide) (by decide) (by decide) W' L.a0 L.a1 L.a2
       obtain ⟨nx,hnx⟩:∃ a,a=nextW rw6 (sch rw6 X k) k:=⟨_,rfl⟩
       have HNX:Hid (nx=nextW rw6 (sch rw6 X k) k):=hnx
       have hcut:∀ W':World,Calls Tryz.prog 132 #[(.agg #[.int .i64 64,.int .i64 128,.int .i64 80,.slice (some ⟨g0,0,none⟩) 3 3,.slice (some ⟨g1,0,none⟩) 3 3,.slice (some ⟨g2,0,none⟩) 3 3,.slice (some ⟨g3,0,none⟩) 3 3]),.int .u64 (IntKind.u64.wrap (IntKind.u64.wrap (IntKind.u64.wrap ((b1:Int)+a9)+b2)+a0))] W' fun e w'=>e = .returned (.int .u64 (nx:Int))∧Below W'.heap.size W' w':=fun W'=>by
        have e1:=sum4_64 b1 a9 b2 a0
        simp only [IntKind.wrap_u64]
        rw [e1]
        have h:=cut64_any g0 g1 g2 g3 ((b1+a9+b2+a0)%2 ^ 64) (Nat.mod_lt _ (by decide)) W'
        rw [Nat.mod_mod_of_dvd _ (Nat.pow_dvd_pow 2 (by decide))] at h
        rw [hnx,HN.out,←f1,←f2]
        exact h
       clear hnx f1 f2 u14 u1 HN hL hX
       have hb0:Below wr.heap.size wr wr.drew:=(Below.refl _ _).drew
       have hki:(k:Int)<80 - 16:=by omega
       have k80:k<80:=by omega
       have x14:IntKind.i64.wrap ((k:Int)+16 - 2)=(k:Int)+14:=by simp only [IntKind.wrap_i64];omega
       have x9:IntKind.i64.wrap ((k:Int)+16 - 7)=(k:Int)+9:=by simp only [IntKind.wrap_i64];omega
       have x1:IntKind.i64.wrap ((k:Int)+16 - 15)=(k:Int)+1:=by simp only [IntKind.wrap_i64];omega
       have x0:IntKind.i64.wrap (k:Int)=(k:Int):=by simp only [IntKind.wrap_i64];omega
       have y14:((k:Int)+14).toNat=k+14:=by omega
       have y9:((k:Int)+9).toNat=k+9:=by omega
       have y1:((k:Int)+1).toNat=k+1:=by omega
       have l14:(0:Int)≤(k:Int)+14∧(k:Int)+14<(k:Int)+16:=by omega
       have l9:(0:Int)≤(k:Int)+9∧(k:Int)+9<(k:Int)+16:=by omega
       have l1:(0:Int)≤(k:Int)+1∧(k:Int)+1<(k:Int)+16:=by omega
       have l0:(0:Int)≤(k:Int)∧(k:Int)<(k:Int)+16:=by omega
       have n0:k<k+16:=by omega
       have hm1:k+16+1≤maxLen:=by unfold maxLen;omega
       have hm2:(k+16+1)*8≤140737488355328:=by omega
       have hm3:∀ W':World,Below wr.heap.size wr W'→∀ ob:Obj,w.heap.size+1≤(W'.alloc ob).heap.size:=fun W' h ob=>by have:=h.size;simp only [World.size_alloc];omega
       obtain ⟨z0,z1,z2,z3,z4,z5,z6⟩:=hZ
       go_wp2
       go_region_held3 (fun w'=>Seen (w.heap.size+1) gg (k+16) wr w') (first | assumption | exact Seen.of_below (by assumption) (by omega) hgl | exact Seen.of_below (Below.alloc (by assumption) (Below.size (by assumption)) _) (by omega) hgl) (first
        | (go_at_call_of 140 a14;refine (hlow1 _ (by assumption)).mono ?_;rintro e w' ⟨rfl,hb⟩;have hbn:=below_next (W:=wr) (by assumption) hb)
        | (go_at_call_of 140 a1;refine (hlow2 _ (by assumption)).mono ?_;rintro e w' ⟨rfl,hb⟩;have hbn:=below_next (W:=wr) (by assumption) hb)
        | (go_at_call 132;refine (hcut _).mono ?_;rintro e w' ⟨rfl,hb⟩;have hbn:=below_next (W:=wr) (by assumption) hb)
        | (refine step_append_keep rfl (.tmp 45) (.tmp 79) 132 rfl (w.heap.size+1) 47 i0 (.int .u64 0) 8 Tryz.underlying132 hi hz0 hz1 hz2 rfl gg cc (k+16) _ rfl ((own_below hown (by assumption)).alloc _) ⟨_,0,none⟩ 1 (.int .u64 nx) rfl (one_new _ _ _) rfl hm1 hm2 (hm3 _ hbn _) ?_;intro g' cap' w1 hown1 hgrow hq;have hseen:Seen (w.heap.size+1) gg (k+16) wr w1:=seen_append (hbn.alloc hbn.size _) hgrow hq hgb hs1 hgl))
       clear hS1 hS2 hlow1 hlow2 hcut hb0 x14 x9 x1 x0 y14 y9 y1 l14 l9 l1 l0 r14 r9 r1 r0 z0 z1 z2 z3 z4 z5 z6 hm1 hm2 hm3 hseen
       go_wp2
       go_roundw
       case rel =>
        have e0:=ints_congr .u64 (k+16) (sch rw6 X k) (sch rw6 X (k+1)) (fun j hj=>by rw [sch_succ];unfold upd;rw [if_neg (by omega)])
        have e1:=ints_snoc .u64 (k+16) (sch rw6 X (k+1))
        have e2:sch rw6 X (k+1) (k+16)=nx:=by rw [HNX.out,sch_succ];unfold upd;rw [if_pos rfl]
        rw [e2] at e1
        have hfin:w1.ownsRow (w.heap.size+1) 47 1 (.slice (some ⟨g',0,none⟩) (k+16+1) cap') (k+1+16) (ints .u64 (k+1+16) (sch rw6 X (k+1))):=by
         rw [show k+1+16=k+16+1 by omega,←e1,←e0];exact hown1
        have hbf:Below (w.heap.size+1) (w.alloc (.cells #[.int .i64 64,.int .i64 128,.int .i64 80,.slice (some ⟨g0,0,none⟩) 3 3,.slice (some ⟨g1,0,none⟩) 3 3,.slice (some ⟨g2,0,none⟩) 3 3,.slice (some ⟨g3,0,none⟩) 3 3] 117)) w1:=(hbel.trans ((hbn.alloc hbn.size _).mono hs1)).grown hgrow (by have:=hbn.size;simp only [World.size_alloc];omega) (fun q h=>by cases h;exact hgb)
        repeat apply Exists.intro
        refine ⟨?_,rfl⟩
        exact ⟨k+1,by omega,by go_num,hfin,hbf⟩
       case measure=>simp [intOf];omega
     · have hke:k=80 - 16:=by omega
       subst hke
       obtain ⟨z0,z1,z2,z3,z4,z5,z6⟩:=hZ
       go_wp2
       go_ret
       rw [←HX.out]
       exact ⟨_,rfl,own_base hown (by omega),hbw⟩
end Go.Proofs.YtdgkmloabificaaGreatDoor
namespace Go.Proofs.YtdgkmloabificaaGreatDoor
open Go.RowKit
theorem fill_congr {m sz:Nat} {bs cs:Nat→Nat}:∀ i,(∀ j,j<i→bs j=cs j)→fill m sz bs i=fill m sz cs i
 | 0,_=>rfl
 | i+1,h=>by unfold fill;rw [fill_congr i (fun j hj=>h j (by omega)),h i (by omega)]
theorem sch_congr {r:Ru} {X Y:Nat→Nat} (h:∀ j,j<16→X j=Y j):∀ k j,j<16+k→sch r X k j=sch r Y k j
 | 0,j,hj=>h j (by omega)
 | k+1,j,hj=>by
  unfold sch upd
  have e:nextW r (sch r X k) k=nextW r (sch r Y k) k:=by
   unfold nextW
   rw [sch_congr h k (k+14) (by omega),sch_congr h k (k+9) (by omega),sch_congr h k (k+1) (by omega),sch_congr h k k (by omega)]
  rw [e]
  by_cases e2:j=k+16
  · rw [if_pos e2,if_pos e2]
  · rw [if_neg e2,if_neg e2];exact sch_congr h k j (by omega)
theorem roundsS_congr {r:Ru} {K L X Y:Nat→Nat} {s:St}:∀ n,(∀ j,j<n→X j=Y j)→(∀ j,j<n→K j=L j)→roundsS r K X s n=roundsS r L Y s n
 | 0,_,_=>rfl
 | n+1,h,g=>by unfold roundsS;rw [roundsS_congr n (fun j hj=>h j (by omega)) (fun j hj=>g j (by omega)),h n (by omega),g n (by omega)]
theorem blockS_congr {r:Ru} {K:Nat→Nat} {bs cs:Nat→Nat} {s:St} (h:∀ j,j<2*r.m→bs j=cs j):blockS r K bs s=blockS r K cs s:=by
 unfold blockS;rw [fill_congr _ h]
theorem loopS_congr {r:Ru} {K:Nat→Nat} {s:St} {bs cs:Nat→Nat}:∀ i,(∀ j,j<i*(2*r.m)→bs j=cs j)→loopS r K s bs i=loopS r K s cs i
 | 0,_=>rfl
 | i+1,h=>by
  unfold loopS
  have hs:(i+1)*(2*r.m)=i*(2*r.m)+2*r.m:=Nat.succ_mul i (2*r.m)
  rw [loopS_congr i (fun j hj=>h j (by omega))]
  exact blockS_congr fun j hj=>h _ (by omega)
theorem loopS_add {r:Ru} {K:Nat→Nat} {s:St} {bs:Nat→Nat} (i:Nat):∀ k,loopS r K s bs (i+k)=loopS r K (loopS r K s bs i) (fun j=>bs (i*(2*r.m)+j)) k
 | 0=>rfl
 | k+1=>by
  show blockS r K (fun j=>bs ((i+k)*(2*r.m)+j)) (loopS r K s bs (i+k))=blockS r K (fun j=>bs (i*(2*r.m)+(k*(2*r.m)+j))) _
  rw [loopS_add i k]
  exact blockS_congr fun j _=>by rw [Nat.add_mul,Nat.add_assoc]
theorem divmod {x a b t:Nat} (h:x=a*b+t) (ht:t<b):x / b=a∧x%b=t:=by
 subst h
 have hb:0<b:=by omega
 exact ⟨by rw [Nat.add_comm,Nat.add_mul_div_right _ _ hb,Nat.div_eq_of_lt ht,Nat.zero_add],by rw [Nat.add_comm,Nat.add_mul_mod_self_right,Nat.mod_eq_of_lt ht]⟩
structure Holds (r:Ru) (K:Nat→Nat) (s0:St) (n:Nat) (bs:Nat→Nat) (s:St) (R:Nat→Nat):Prop where
 st:s=loopS r K s0 bs (n / (2*r.m))
 rest:∀ j,j<n%(2*r.m)→R j=bs (n / (2*r.m)*(2*r.m)+j)
theorem Holds.none (r:Ru) (K:Nat→Nat) (s0:St) (bs R:Nat→Nat):Holds r K s0 0 bs s0 R:=⟨by rw [Nat.zero_div];rfl,fun j h=>by rw [Nat.zero_mod] at h;omega⟩
theorem Holds.congr {r:Ru} {K:Nat→Nat} {s0:St} {n:Nat} {bs cs:Nat→Nat} {s:St} {R:Nat→Nat} (h:Holds r K s0 n bs s R) (e:∀ j,j<n→bs j=cs j):Holds r K s0 n cs s R:=by
 have h1:=Nat.div_add_mod n (2*r.m)
 rw [Nat.mul_comm] at h1
 exact ⟨h.st.trans (loopS_congr _ fun j hj=>e j (by omega)),fun j hj=>(h.rest j hj).trans (e _ (by omega))⟩
theorem Holds.write {r:Ru} {K:Nat→Nat} {s0:St} {n:Nat} {bs:Nat→Nat} {s:St} {R:Nat→Nat} (hm:0<r.m) (h:Holds r K s0 n bs s R) (m:Nat) (b2:Nat→Nat) :
 Holds r K s0 (n+m) (cat n bs b2) (writeE r K s R n m b2).1 (writeE r K s R n m b2).2:=by
 obtain ⟨hst,hrest⟩:=h
 obtain ⟨B,hB⟩:∃ B,B=2*r.m:=⟨_,rfl⟩
 have hB0:0<B:=by omega
 have hn:=Nat.div_add_mod n B
 have ht:=Nat.mod_lt n hB0
 rw [←hB] at hst hrest
 obtain ⟨a,ha⟩:∃ a,a=n / B:=⟨_,rfl⟩
 obtain ⟨t,htt⟩:∃ t,t=n%B:=⟨_,rfl⟩
 rw [←ha] at hst hrest hn
 rw [←htt] at hrest hn ht
 rw [Nat.mul_comm] at hn
 have hpre:loopS r K s0 (cat n bs b2) a=s:=by
  rw [hst]
  refine loopS_congr _ fun j hj => ?_
  rw [←hB] at hj
  show (if j<n then bs j else _)=_
  rw [if_pos (by omega)]
 -- what tailE makes,where a whole block's end is reached at place p (a multiple of B) of all bytes
 have tail:∀ (p c m':Nat) (s':St) (R':Nat→Nat) (b':Nat→Nat),p=c*B→s'=loopS r K s0 (cat n bs b2) c→(∀ j,cat n bs b2 (p+j)=b' j)→p+m'=n+m →
  Holds r K s0 (n+m) (cat n bs b2) (tailE r K s' R' m' b').1 (tailE r K s' R' m' b').2:=by
  intro p c m' s' R' b' hp hs' hb' hpm
  have hm':=Nat.div_add_mod m' B
  have hu:=Nat.mod_lt m' hB0
  rw [Nat.mul_comm] at hm'
  obtain ⟨e1,e2⟩:=divmod (x:=n+m) (a:=c+m' / B) (b:=B) (t:=m'%B) (by rw [Nat.add_mul];omega) hu
  refine ⟨?_,?_⟩
  · rw [←hB,e1,loopS_add,←hB,←hp,←hs']
    show loopS r K s' b' (m' / (2*r.m))=_
    rw [←hB]
    exact loopS_congr _ fun j _=>(hb' j).symm
  · intro j hj
    rw [←hB,e2] at hj
    rw [←hB,e1]
    show over R' 0 (m'%(2*r.m)) (fun j=>b' (m' / (2*r.m)*(2*r.m)+j)) j=_
    rw [←hB]
    unfold over
    rw [if_pos ⟨Nat.zero_le _,by omega⟩,Nat.sub_zero]
    show b' (m' / B*B+j)=_
    rw [←hb',Nat.add_mul,hp,Nat.add_assoc]
 unfold writeE
 rw [←hB,←htt]
 by_cases h0:t=0
 · rw [if_pos h0]
   refine tail n a m s R b2 (by omega) hpre.symm (fun j => ?_) rfl
   unfold cat
   rw [if_neg (by omega),show n+j - n=j by omega]
 · rw [if_neg h0]
   by_cases h1:t+m<B
   · rw [if_pos h1]
     obtain ⟨e1,e2⟩:=divmod (x:=n+m) (a:=a) (b:=B) (t:=t+m) (by omega) h1
     refine ⟨?_,?_⟩
     · rw [←hB,e1];exact hpre.symm
     · intro j hj
       rw [←hB,e2] at hj
       rw [←hB,e1]
       show over R t m b2 j=_
       unfold over cat
       by_cases h2:j<t
       · rw [if_neg (by omega),if_pos (by omega)];exact hrest j h2
       · rw [if_pos (by omega),if_neg (by omega)];congr 1;omega
   · rw [if_neg h1]
     refine tail (n+(B - t)) (a+1) (m - (B - t)) _ _ _ (by rw [Nat.succ_mul];omega) ?_ (fun j => ?_) (by omega)
     · show _=blockS r K (fun j=>cat n bs b2 (a*(2*r.m)+j)) (loopS r K s0 (cat n bs b2) a)
       rw [hpre]
       refine blockS_congr fun j hj => ?_
       rw [←hB] at hj ⊢
       unfold over cat
       by_cases h2:j<t
       · rw [if_neg (by omega),if_pos (by omega)];exact hrest j h2
       · rw [if_pos (by omega),if_neg (by omega)];congr 1;omega
     · unfold cat
       rw [if_neg (by omega)];congr 1;omega
def specS (r:Ru) (K q:Nat→Nat) (n:Nat) (bs:Nat→Nat):St:=loopS r K (firstS r q) (cat n bs (padF r n)) ((n+padN r n) / (2*r.m))
theorem Holds.end {r:Ru} {K q:Nat→Nat} {n:Nat} {bs:Nat→Nat} {s:St} {R:Nat→Nat} (hm:0<r.m) (h:Holds r K (firstS r q) n bs s R):endS r K s R n=specS r K q n bs:=(h.write hm (padN r n) (padF r n)).st
theorem hashS_spec {r:Ru} (K q:Nat→Nat) (n:Nat) (bs:Nat→Nat) (hm:0<r.m):hashS r K q n bs=specS r K q n bs:=by
 have h:=(Holds.none r K (firstS r q) bs (fun _=>0)).write hm n bs
 rw [Nat.zero_add] at h
 exact Holds.end hm (h.congr fun j _=>by unfold cat;rw [if_neg (by omega),Nat.sub_zero])
theorem specS_congr {r:Ru} {K q:Nat→Nat} {n:Nat} {bs cs:Nat→Nat} (h:∀ j,j<n→bs j=cs j):specS r K q n bs=specS r K q n cs :=
 loopS_congr _ fun j _=>by
  unfold cat
  by_cases e:j<n
  · rw [if_pos e,if_pos e];exact h j e
  · rw [if_neg e,if_neg e]
def wordM (m:Nat) (bs:Nat→Nat) (o:Nat):Nat→Nat
 | 0=>0
 | k+1=>(wordM m bs o k*256%2 ^ m) ||| bs (o+k)
theorem fill_word (m sz:Nat) (hs:0<sz) (bs:Nat→Nat):∀ n i,(n≤sz*i→fill m sz bs n i=0)∧(∀ k,k≤sz→n=sz*i+k→fill m sz bs n i=wordM m bs (sz*i) k)∧(sz*(i+1)≤n→fill m sz bs n i=wordM m bs (sz*i) sz)
 | 0,i=>⟨fun _=>rfl,fun k hk e=>by
  have:k=0:=by omega
  subst this;rfl,fun h=>by rw [Nat.mul_succ] at h;omega⟩
 | n+1,i=>by
  obtain ⟨h1,h2,h3⟩:=fill_word m sz hs bs n i
  have hne:∀ a t,n=a*sz+t→t<sz→fill m sz bs (n+1) i=if i=a then (fill m sz bs n i*256%2 ^ m) ||| bs n else fill m sz bs n i:=fun a t e ht=>by
   obtain ⟨d1,_⟩:=divmod e ht
   show upd (fill m sz bs n) (n / sz) _ i=_
   unfold upd
   rw [d1]
   by_cases e2:i=a
   · rw [if_pos e2,if_pos e2,e2]
   · rw [if_neg e2,if_neg e2]
  have hdm:=Nat.div_add_mod n sz
  have hml:=Nat.mod_lt n hs
  rw [Nat.mul_comm] at hdm
  have hn:=hne (n / sz) (n%sz) hdm.symm hml
  have key:∀ k,k≤sz→n+1=sz*i+k→fill m sz bs (n+1) i=wordM m bs (sz*i) k:=fun k hk e=>by
   match k,hk,e with
   | 0,_,e =>
    have hi:i≠n / sz:=fun hi=>by
     rw [←hi,Nat.mul_comm] at hdm
     omega
    rw [hn,if_neg hi]
    exact h1 (by omega)
   | k+1,hk,e =>
    have e':n=i*sz+k:=by rw [Nat.mul_comm i sz];omega
    rw [hne i k e' (by omega),if_pos rfl,h2 k (by omega) (by omega)]
    show _=(wordM m bs (sz*i) k*256%2 ^ m) ||| bs (sz*i+k)
    rw [show n=sz*i+k by omega]
  refine ⟨fun h => ?_,key,fun h => ?_⟩
  · have hi:i≠n / sz:=fun hi=>by
     rw [←hi,Nat.mul_comm] at hdm
     omega
    rw [hn,if_neg hi]
    exact h1 (by omega)
  · rw [Nat.mul_succ] at h
    by_cases e:n+1=sz*i+sz
    · exact key sz (Nat.le_refl _) e
    · have hi:i≠n / sz:=fun hi=>by
       rw [←hi,Nat.mul_comm] at hdm
       omega
      rw [hn,if_neg hi]
      exact h3 (by rw [Nat.mul_succ];omega)
theorem wordM64 (bs:Nat→Nat) (o:Nat):∀ k,wordM 64 bs o k=wordR bs o k
 | 0=>rfl
 | k+1=>by unfold wordM wordR;rw [wordM64 bs o k]
theorem blockR64_eq (K:Nat→Nat) (bs:Nat→Nat) (_hb:∀ j,bs j<256) (s:St):addS rw6 s (roundsS rw6 K (sch rw6 (fun i=>wordR bs (8*i) 8) (80 - 16)) s 80)=blockS rw6 K bs s:=by
 have e:roundsS rw6 K (sch rw6 (fun i=>wordR bs (8*i) 8) (80 - 16)) s 80=roundsS rw6 K (sch rw6 (fill 64 8 bs 128) (80 - 16)) s 80 :=
  roundsS_congr _ (fun j hj=>sch_congr (fun i hi=>by
   rw [((fill_word 64 8 (by decide) bs 128 i).2.2 (by omega))]
   exact (wordM64 bs _ 8).symm) _ j (by omega)) fun _ _=>rfl
 rw [e]
 rfl
end Go.Proofs.YtdgkmloabificaaGreatDoor
namespace Go.Proofs.YtdgkmloabificaaGreatDoor
open Go
def cubesL:List Nat:=[4794697086780616226,8158064640168781261,13096744586834688815,16840607885511220156,4131703408338449720,6480981068601479193,10538285296894168987,12329834152419229976,15566598209576043074,1334009975649890238,2608012711638119052,6128411473006802146,8268148722764581231,9286055187155687089,11230858885718282805,13951009754708518548,16472876342353939154,17275323862435702243,1135362057144423861,2597628984639134821,3308224258029322869,5365058923640841347,6679025012923562964,8573033837759648693,10970295158949994411,12119686244451234320,12683024718118986047,13788192230050041572,14330467153632333762,15395433587784984357,489312712824947311,1452737877330783856,2861767655752347644,3322285676063803686,5560940570517711597,5996557281743188959,7280758554555802590,8532644243296465576,9350256976987008742,10552545826968843579,11727347734174303076,12113106623233404929,14000437183269869457,14369950271660146224,15101387698204529176,15463397548674623760,17586052441742319658,1182934255886127544,1847814050463011016,2177327727835720531,2830643537854262169,3796741975233480872,4115178125766777443,5681478168544905931,6601373596472566643,7507060721942968483,8399075790359081724,8693463985226723168,9568029438360202098,10144078919501101548,10430055236837252648,11840083180663258601,13761210420658862357,14299343276471374635,14566680578165727644,15097957966210449927,16922976911328602910,17689382322260857208,500013540394364858,748580250866718886,1242879168328830382,1977374033974150939,2944078676154940804,3659926193048069267,4368137639120453308,4836135668995329356,5532061633213252278,6448918945643986474,6902733635092675308,7801388544844847127]
def squaresL:List Nat:=[7640891576956012808,13503953896175478587,4354685564936845355,11912009170470909681,5840696475078001361,11170449401992604703,2270897969802886507,6620516959819538809]
def cubeK (j:Nat):Nat:=cubesL.getD j 0
def squareK (j:Nat):Nat:=squaresL.getD j 0
end Go.Proofs.YtdgkmloabificaaGreatDoor
namespace Go.Proofs.YtdgkmloabificaaGreatDoor
open Go.RowKit
theorem cubeK_lt:∀ j,cubeK j<18446744073709551616:=fun j=>by
 unfold cubeK
 rw [List.getD_eq_getElem?_getD]
 cases h:cubesL[j]? with
 | none=>decide
 | some x =>
  have hm:x∈cubesL:=List.mem_of_getElem? h
  exact of_decide_eq_true (List.all_eq_true.1 (show cubesL.all (fun x=>decide (x<18446744073709551616))=true by kernel_rfl) x hm)
theorem squareK_lt:∀ j,squareK j<18446744073709551616:=fun j=>by
 unfold squareK
 rw [List.getD_eq_getElem?_getD]
 cases h:squaresL[j]? with
 | none=>decide
 | some x =>
  have hm:x∈squaresL:=List.mem_of_getElem? h
  exact of_decide_eq_true (List.all_eq_true.1 (show squaresL.all (fun x=>decide (x<18446744073709551616))=true by kernel_rfl) x hm)
end Go.Proofs.YtdgkmloabificaaGreatDoor
namespace Go.Proofs.YtdgkmloabificaaGreatDoor
open Go.RowKit
theorem infoByte:(Tryz.prog.info? 5).map (·.size)=some 1:=by kernel_rfl
end Go.Proofs.YtdgkmloabificaaGreatDoor
namespace Go.Proofs.YtdgkmloabificaaGreatDoor
open Go.RowKit
def clB (bs:Nat→Nat) (j:Nat):Nat:=if j=0 then bs 0 / 8*8 else if j=31 then bs 31%64+64 else bs j
theorem clB_lt {bs:Nat→Nat} (h:∀ j,bs j<256) (j:Nat):clB bs j<256:=by
 unfold clB
 have:=h 0;have:=h 31;have:=h j
 split
 · omega
 · split
   · omega
   · exact h j
theorem and_not7:∀ b:Nat,b<256→bits .andNot .u8 (b:Int) 7=((b / 8*8:Nat):Int):=by decide +kernel
theorem and_not128:∀ b:Nat,b<256→bits .andNot .u8 (b:Int) 128=((b%128:Nat):Int):=by decide +kernel
theorem or_64:∀ b:Nat,b<128→bits .or .u8 (b:Int) 64=((b%64+64:Nat):Int):=by decide +kernel
set_option maxRecDepth 20000 in
set_option maxHeartbeats 2000000 in
theorem clamp_good (v:Value) (bs:Nat→Nat) (hbs:∀ j,bs j<256) (w:World) (hv:BytesIn w v 32 bs):Calls Tryz.prog 38 #[v] w fun e w'=>∃ s,e = .returned (.tuple #[s,.int .i64 0])∧NewB w w' s 32 (clB bs)∧Below w.heap.size w w':=by
 have hmk:=make_bytes w 32 32 rfl (by decide)
 obtain ⟨W,hW⟩:∃ W,W=w.alloc (.cells (zb 32) 5):=⟨_,rfl⟩
 have hrow:RowAt .u8 W w.heap.size 0 32 (fun _=>0):=by rw [hW];exact RowAt.fresh (fun j hj=>zb_at 32 j hj)
 have hb:Below w.heap.size w W:=by rw [hW];exact (Below.refl _ _).alloc (Nat.le_refl _) _
 obtain ⟨xo,c,rfl,hxn,hnc,hsrc⟩:=hv.src
 have src:=hsrc W hb
 have hth:=hrow.there
 have hsp:=hrow.splice 0 32 bs (by decide)
 rw [←hW] at hmk
 have hb2:Below w.heap.size w (W.setCells w.heap.size 0 (ints .u8 32 bs)):=below_setCells (Nat.le_refl _) _ _ _ hb
 replace hsp:RowAt .u8 (W.setCells w.heap.size 0 (ints .u8 32 bs)) w.heap.size 0 32 bs:=hsp.congr (fun j hj=>by unfold over;rw [if_pos ⟨Nat.zero_le _,by omega⟩,Nat.sub_zero])
 obtain ⟨V,hV⟩:∃ V,V=W.setCells w.heap.size 0 (ints .u8 32 bs):=⟨_,rfl⟩
 rw [←hV] at hsp hb2
 have HV:=Hid.mk' hV
 clear hW hv hsrc hV hrow
 have c0:=(hsp 0 (by decide)).1
 have f0:=(hsp 0 (by decide)).2
 have c1:=(hsp 31 (by decide)).1
 have f1:=(hsp 31 (by decide)).2
 rw [Nat.zero_add] at c0 f0 c1 f1
 have e1:=and_not7 (bs 0) (hbs 0)
 have e2:=and_not128 (bs 31) (hbs 31)
 have e3:=or_64 (bs 31%128) (by omega)
 have r1:=hsp.set (i:=0) (by decide) (v:=((bs 0 / 8*8:Nat):Int)) rfl
 rw [Nat.zero_add] at r1
 have r2:=r1.set (i:=31) (by decide) (v:=((bs 31%128:Nat):Int)) rfl
 rw [Nat.zero_add] at r2
 have r3:=r2.set (i:=31) (by decide) (v:=((bs 31%128%64+64:Nat):Int)) rfl
 rw [Nat.zero_add] at r3
 generalize ((bs 0 / 8*8:Nat):Int)=b0 at *
 generalize hb1:((bs 31%128:Nat):Int)=b1 at *
 generalize ((bs 31%128%64+64:Nat):Int)=b3 at *
 clear hb1
 go_enter Tryz.func38,Tryz.ntmps38
 go_wp2_with (first
  | rw [hmk]
  | (refine wpList_copy_bytes rfl _ _ 22 22 rfl 5 Tryz.underlying22 infoByte w.heap.size 0 32 32 xo 32 c rfl rfl 32 bs src rfl hth ?_;rw [←HV.out];clear src hth HV hmk))
 refine bodyPost_ret (results_tmp2 rfl _ _ _) rfl ⟨_,rfl,⟨w.heap.size,rfl,Nat.le_refl _,r3.congr (fun j hj => ?_)⟩,?_⟩
 · unfold upd clB
   by_cases h31:j=31
   · rw [if_pos h31,if_neg (by omega),if_pos h31];omega
   · simp only [if_neg h31]
 · exact below_setCells (Nat.le_refl _) [_] 31 _ (below_setCells (Nat.le_refl _) [_] 31 _ (below_setCells (Nat.le_refl _) [_] 0 _ hb2))
theorem and_248:∀ b:Nat,b<256→bits .and .u8 (b:Int) 248=((b / 8*8:Nat):Int):=by decide +kernel
theorem and_127:∀ b:Nat,b<256→bits .and .u8 (b:Int) 127=((b%128:Nat):Int):=by decide +kernel
set_option maxRecDepth 20000 in
set_option maxHeartbeats 2000000 in
theorem rclamp_good (v:Value) (bs:Nat→Nat) (hbs:∀ j,bs j<256) (w:World) (hv:BytesIn w v 32 bs):Calls Tryz.prog 40 #[v] w fun e w'=>∃ s,e = .returned (.tuple #[s,.int .i64 0])∧NewC w w' s 32 (clB bs)∧Below w.heap.size w w':=by
 obtain ⟨xo,cx,rfl,hxn,-,hsrc⟩:=hv.src
 clear hv
 have src0:=hsrc _ ((Below.refl _ _).alloc (Nat.le_refl _) (.cells #[] 5))
 clear hsrc
 have e1:=and_248 (bs 0) (hbs 0)
 have e2:=and_127 (bs 31) (hbs 31)
 have e3:=or_64 (bs 31%128) (by omega)
 obtain ⟨b0,hb0⟩:∃ b:Int,((bs 0 / 8*8:Nat):Int)=b:=⟨_,rfl⟩
 obtain ⟨b1,hb1'⟩:∃ b:Int,((bs 31%128:Nat):Int)=b:=⟨_,rfl⟩
 obtain ⟨b3,hb3⟩:∃ b:Int,((bs 31%128%64+64:Nat):Int)=b:=⟨_,rfl⟩
 rw [hb0] at e1
 rw [hb1'] at e2 e3
 rw [hb3] at e3
 have H0:=Hid.mk' hb0
 have H3:=Hid.mk' hb3
 clear hb0 hb1' hb3
 go_enter Tryz.func40,Tryz.ntmps40
 go_wp2_with (at_builtin;refine wpList_append_empty rfl (.tmp 8) (.tmp 9) rfl w.heap.size bs _ rfl rfl xo 32 cx rfl src0 hxn (by omega) (Nat.le_refl _) ?_;intro v1 w1 own1 hb1;clear src0;(obtain ⟨g,cap,hv1,hg,hgl,hcap,hrow⟩:∃ g cap,v1 = .slice (some ⟨g,0,none⟩) 32 cap∧w.heap.size≤g∧g<w1.heap.size∧32≤cap∧RowAt .u8 w1 g 0 32 bs:=own1.form.resolve_left (fun h=>by omega));subst hv1;clear own1;(have c0:=(hrow 0 (by decide)).1);(have f0:=(hrow 0 (by decide)).2);(have c1:=(hrow 31 (by decide)).1);(have f1:=(hrow 31 (by decide)).2);rw [Nat.zero_add] at c0 f0 c1 f1)
 have r1:=hrow.set (i:=0) (by decide) (v:=b0) H0.out.symm
 rw [Nat.zero_add] at r1
 have r3:=r1.set (i:=31) (by decide) (v:=b3) H3.out.symm
 rw [Nat.zero_add] at r3
 refine bodyPost_ret (results_tmp2 rfl _ _ _) rfl ⟨_,rfl,⟨g,cap,rfl,hcap,hg,r3.congr (fun j hj => ?_)⟩,?_⟩
 · unfold upd clB
   by_cases h31:j=31
   · rw [if_pos h31,if_neg (by omega),if_pos h31];omega
   · simp only [if_neg h31]
 · exact below_setCells hg [_] 31 _ (below_setCells hg [_] 0 _ hb1)
end Go.Proofs.YtdgkmloabificaaGreatDoor
namespace Go.Proofs.YtdgkmloabificaaGreatDoor
def oL:Nat:=7237005577332262213973186563042994240857116359379907606001950938285454250989
def Lw (j:Nat):Nat:=if j=0 then 6346243789798364141 else if j=1 then 1503914060200516822 else if j=3 then 1152921504606846976 else 0
theorem Lw_lt (j:Nat):Lw j<18446744073709551616:=by
 unfold Lw;split
 · decide
 · split
   · decide
   · split <;> decide
def pt (X:Nat→Nat) (a:Nat):Nat→Nat
 | 0=>0
 | k+1=>pt X a k+X (a+k)*18446744073709551616 ^ k
theorem pt_succ0 (X:Nat→Nat) (m:Nat):pt X 0 (m+1)=pt X 0 m+X m*18446744073709551616 ^ m:=by rw [pt,Nat.zero_add]
theorem pt5 (X:Nat→Nat) (a:Nat):pt X a 5=pt X a 4+X (a+4)*18446744073709551616 ^ 4:=rfl
theorem pt_L:pt Lw 0 4=oL:=by kernel_rfl
theorem pt_congr {X Y:Nat→Nat} {a:Nat}:∀ k,(∀ j,j<k→X (a+j)=Y (a+j))→pt X a k=pt Y a k
 | 0,_=>rfl
 | k+1,h=>by rw [pt,pt,pt_congr k (fun j hj=>h j (by omega)),h k (by omega)]
theorem pt_lt {X:Nat→Nat} (h:∀ j,X j<18446744073709551616) (a:Nat):∀ k,pt X a k<18446744073709551616 ^ k
 | 0=>Nat.one_pos
 | k+1=>by
  have h1:=pt_lt h a k
  have h2:X (a+k)*18446744073709551616 ^ k≤18446744073709551615*18446744073709551616 ^ k:=Nat.mul_le_mul_right _ (by have:=h (a+k);omega)
  rw [pt,Nat.pow_succ]
  omega
theorem pt_split (X:Nat→Nat) (a m:Nat):∀ k,pt X a (m+k)=pt X a m+18446744073709551616 ^ m*pt X (a+m) k
 | 0=>by rw [pt,Nat.mul_zero,Nat.add_zero,Nat.add_zero]
 | k+1=>by
  rw [←Nat.add_assoc,pt,pt_split X a m k,pt,Nat.mul_add,Nat.pow_add,←Nat.add_assoc,←Nat.add_assoc]
  congr 1
  rw [←Nat.mul_assoc,←Nat.mul_assoc,Nat.mul_comm (X (a+m+k))]
theorem pt_head (X:Nat→Nat) (a k:Nat):pt X a (k+1)=X a+18446744073709551616*pt X (a+1) k:=by
 rw [Nat.add_comm k 1,pt_split X a 1 k,pt,pt]
 simp
theorem pt_lw (N:Nat):∀ k,pt (lw N) 0 k=N%18446744073709551616 ^ k
 | 0=>by rw [pt,Nat.pow_zero,Nat.mod_one]
 | k+1=>by
  rw [pt,pt_lw N k,Nat.pow_succ,Nat.mod_mul,Nat.zero_add]
  unfold lw
  rw [Nat.mul_comm]
theorem lw_pt {X:Nat→Nat} (h:∀ j,X j<18446744073709551616):∀ k j,j<k→lw (pt X 0 k) j=X j
 | 0,_,hj=>absurd hj (Nat.not_lt_zero _)
 | k+1,j,hj=>by
  rw [pt,Nat.zero_add]
  unfold lw
  by_cases e:j=k
  · subst e
    rw [Nat.mul_comm,Nat.add_mul_div_left _ _ (Nat.pow_pos (by decide)),Nat.div_eq_of_lt (pt_lt h 0 j),Nat.zero_add,Nat.mod_eq_of_lt (h j)]
  · have hj2:j<k:=by omega
    have e2:k=j+(1+(k - j - 1)):=by omega
    have:18446744073709551616 ^ k=18446744073709551616 ^ j*(18446744073709551616*18446744073709551616 ^ (k - j - 1)):=by
     conv=>lhs;rw [e2]
     rw [Nat.pow_add,Nat.pow_add,Nat.pow_one]
    rw [Nat.mul_comm (X k),this,Nat.mul_assoc,Nat.add_mul_div_left _ _ (Nat.pow_pos (by decide)),Nat.mul_assoc,Nat.add_mul_mod_self_left]
    exact lw_pt h k j hj2
theorem take_step {P pz pl px q l0 h0 c b u s k1 b' x Lk:Nat} (inv:pz+q*pl=px+P*(c+b)) (e0:l0+18446744073709551616*h0=q*Lk) (e1:s+18446744073709551616*k1=l0+c) (e2:u+s+b=x+18446744073709551616*b') :
 (pz+u*P)+q*(pl+Lk*P)=(px+x*P)+P*18446744073709551616*((h0+k1)+b'):=by
 have key:(u+(l0+18446744073709551616*h0)+(c+b))*P=(x+18446744073709551616*((h0+k1)+b'))*P:=by congr 1;omega
 rw [Nat.mul_add q,←Nat.mul_assoc q Lk P,←e0]
 rw [Nat.add_mul,Nat.add_mul,Nat.add_mul x] at key
 rw [Nat.mul_comm P (c+b)] at inv
 rw [Nat.mul_assoc P,Nat.mul_comm P (18446744073709551616*(h0+k1+b'))]
 omega
theorem add_step {P V px x y pb Pi Pj h0 l0 l1 k1 l2 k2 c xm:Nat} (hP:P=Pi*Pj) (inv:px+c*P=V+x*pb*Pi) (e0:l0+18446744073709551616*h0=x*y) (e1:l1+18446744073709551616*k1=l0+xm) (e2:l2+18446744073709551616*k2=l1+c) {px':Nat} (hpx:px'+xm*P=px+l2*P) :
 px'+(h0+k1+k2)*(P*18446744073709551616)=V+x*(pb+y*Pj)*Pi:=by
 have key:(l2+18446744073709551616*(h0+k1+k2))*P=((l0+18446744073709551616*h0)+xm+c)*P:=by congr 1;omega
 rw [e0,Nat.add_mul,Nat.add_mul,Nat.add_mul] at key
 have e3:x*(pb+y*Pj)*Pi=x*pb*Pi+x*y*P:=by
  rw [Nat.mul_add,Nat.add_mul,hP,←Nat.mul_assoc x y Pj,Nat.mul_assoc (x*y),Nat.mul_comm Pj Pi]
 have e4:(h0+k1+k2)*(P*18446744073709551616)=18446744073709551616*(h0+k1+k2)*P:=by
  rw [Nat.mul_comm P,←Nat.mul_assoc,Nat.mul_comm (h0+k1+k2)]
 rw [e3,e4]
 omega
theorem pt_upd (X:Nat→Nat) (i v a:Nat):∀ k,i<k→pt (upd X (a+i) v) a k+X (a+i)*18446744073709551616 ^ i=pt X a k+v*18446744073709551616 ^ i
 | 0,h=>absurd h (Nat.not_lt_zero _)
 | k+1,h=>by
  rw [pt,pt]
  by_cases e:i=k
  · subst e
    have h1:pt (upd X (a+i) v) a i=pt X a i:=pt_congr i (fun j hj=>by unfold upd;rw [if_neg (by omega)])
    have h2:upd X (a+i) v (a+i)=v:=by unfold upd;rw [if_pos rfl]
    rw [h1,h2]
    omega
  · have h1:=pt_upd X i v a k (by omega)
    have h2:upd X (a+i) v (a+k)=X (a+k):=by unfold upd;rw [if_neg (by omega)]
    rw [h2]
    omega
end Go.Proofs.YtdgkmloabificaaGreatDoor
namespace Go.Proofs.YtdgkmloabificaaGreatDoor
def h5 (n:Nat) (bs:Nat→Nat):Nat→Nat:=outB 64 (specS rw6 cubeK squareK n bs)
theorem h5_lt (n:Nat) (bs:Nat→Nat) (j:Nat):h5 n bs j<256:=Nat.mod_lt _ (by decide)
theorem h5_congr {n:Nat} {a b:Nat→Nat} (h:∀ j,j<n→a j=b j):h5 n a=h5 n b:=by unfold h5;rw [specS_congr h]
def hL (n:Nat) (bs:Nat→Nat):Nat:=ofB (h5 n bs) 64%oL
theorem hL_congr {n:Nat} {a b:Nat→Nat} (h:∀ j,j<n→a j=b j):hL n a=hL n b:=by unfold hL;rw [h5_congr h]
theorem oL_pos:0<oL:=by decide
theorem hL_lt (n:Nat) (bs:Nat→Nat):hL n bs<oL:=Nat.mod_lt _ oL_pos
theorem ofB_ord {N:Nat} (h:N<oL):ofB (byt N) 32=N:=by
 have:=ofB_byt N 32
 rw [this]
 exact Nat.mod_eq_of_lt (Nat.lt_trans h (by decide))
def aB (s:Nat→Nat):Nat→Nat:=clB (h5 32 s)
def aN (s:Nat→Nat):Nat:=ofB (aB s) 32
def preB (s:Nat→Nat) (j:Nat):Nat:=h5 32 s (32+j)
noncomputable def bP (m:Nat):Fp × Fp:=emul dE m baseP
noncomputable def pubB (s:Nat→Nat):Nat→Nat:=encB (bP (aN s))
def rN (s:Nat→Nat) (n:Nat) (t:Nat→Nat):Nat:=hL (32+n) (cat 32 (preB s) t)
noncomputable def RB (s:Nat→Nat) (n:Nat) (t:Nat→Nat):Nat→Nat:=encB (bP (rN s n t))
def kN (R A:Nat→Nat) (n:Nat) (t:Nat→Nat):Nat:=hL (64+n) (cat 64 (cat 32 R A) t)
noncomputable def SN (s:Nat→Nat) (n:Nat) (t:Nat→Nat):Nat:=(rN s n t+kN (RB s n t) (pubB s) n t*aN s)%oL
noncomputable def sigB (s:Nat→Nat) (n:Nat) (t:Nat→Nat):Nat→Nat:=cat 32 (RB s n t) (byt (SN s n t))
def sOf (s:Nat→Nat):Nat:=ofB (fun j=>s (32+j)) 32
theorem kN_congr {R A R' A' t t':Nat→Nat} {n:Nat} (hR:∀ j,j<32→R j=R' j) (hA:∀ j,j<32→A j=A' j) (ht:∀ j,j<n→t j=t' j):kN R A n t=kN R' A' n t':=by
 refine hL_congr fun j hj => ?_
 unfold cat
 by_cases h:j<64
 · rw [if_pos h,if_pos h]
   by_cases h2:j<32
   · rw [if_pos h2,if_pos h2,hR j h2]
   · rw [if_neg h2,if_neg h2,hA (j - 32) (by omega)]
 · rw [if_neg h,if_neg h,ht (j - 64) (by omega)]
theorem aB_lt (s:Nat→Nat) (j:Nat):aB s j<256:=clB_lt (h5_lt _ _) j
theorem preB_lt (s:Nat→Nat) (j:Nat):preB s j<256:=h5_lt _ _ _
theorem sigB_lt (s:Nat→Nat) (n:Nat) (t:Nat→Nat):∀ j,sigB s n t j<256:=cat_lt (encB_lt _) (byt_lt _)
open Classical in
noncomputable def verE (n:Nat) (p:Nat→Nat) (m:Nat) (t:Nat→Nat) (q:Nat) (s:Nat→Nat):Int :=
 if n=32∧q=64 then
  if decN p=none then 30
  else if decN s=none∨¬sOf s<oL then 31
  else if ∃ P Q,On dE P∧On dE Q∧(∀ j,j<32→encB P j=p j)∧(∀ j,j<32→encB Q j=s j)∧bP (sOf s)=eadd dE Q (emul dE (kN s p m t) P) then 0 else 31
 else 1
theorem verE_arg {n m q:Nat} {p t s:Nat→Nat} (h:¬(n=32∧q=64)):verE n p m t q s=1:=by unfold verE;rw [if_neg h]
theorem verE_pub {m:Nat} {p t s:Nat→Nat} (h:decN p=none):verE 32 p m t 64 s=30:=by unfold verE;rw [if_pos ⟨rfl,rfl⟩,if_pos h]
theorem verE_sig {m:Nat} {p t s:Nat→Nat} (h:decN p≠none) (h2:decN s=none∨¬sOf s<oL):verE 32 p m t 64 s=31:=by unfold verE;rw [if_pos ⟨rfl,rfl⟩,if_neg h,if_pos h2]
open Classical in
theorem verE_pts {m:Nat} {p t s:Nat→Nat} (h:decN p≠none) (h2:decN s≠none) (h3:sOf s<oL) {P Q:Fp × Fp} (hP:On dE P) (hQ:On dE Q) (eP:∀ j,j<32→encB P j=p j) (eQ:∀ j,j<32→encB Q j=s j) :
 verE 32 p m t 64 s=if bP (sOf s)=eadd dE Q (emul dE (kN s p m t) P) then 0 else 31:=by
 unfold verE
 rw [if_pos ⟨rfl,rfl⟩,if_neg h,if_neg (fun e=>e.elim h2 (fun e=>e h3))]
 by_cases e:bP (sOf s)=eadd dE Q (emul dE (kN s p m t) P)
 · rw [if_pos e,if_pos ⟨P,Q,hP,hQ,eP,eQ,e⟩]
 · rw [if_neg e,if_neg]
   rintro ⟨P',Q',hP',hQ',eP',eQ',e'⟩
   rw [encB_inj hP' hP (fun j hj=>(eP' j hj).trans (eP j hj).symm),encB_inj hQ' hQ (fun j hj=>(eQ' j hj).trans (eQ j hj).symm)] at e'
   exact e e'
theorem rootR_found {k u v x:Nat} (hk:8*k+5=pF) (hx:x<pF) (hq:quoR u v=x*x%pF) (hv:v≠0):(rootR k u v).isSome=true:=by
 have h:=root_found hk hx
 rw [root_same hk (Nat.mod_lt _ pF_pos) (by decide)] at h
 unfold rootR rootZ rootY at h ⊢
 rw [quo_one (Nat.mod_lt _ pF_pos)] at h
 rw [hq]
 generalize x*x%pF=U at h ⊢
 generalize U ^ (k+1)%pF=Y at h ⊢
 generalize (if Y*Y%pF=U then Y else Y*iM%pF)=Z at h ⊢
 by_cases e:Z*Z%pF=U
 · rw [if_pos ⟨e,fun h=>hv h.1⟩];rfl
 · rw [if_neg (fun h=>e h.1)] at h;cases h
end Go.Proofs.YtdgkmloabificaaGreatDoor
namespace Go.Proofs.YtdgkmloabificaaGreatDoor
open Go.RowKit
theorem strP_eq {P Q:Fp × Fp} (hP:On dE P) (hQ:On dE Q):((strB 32 (encB P)).toList == (strB 32 (encB Q)).toList)=decide (P=Q):=by
 by_cases h:P=Q
 · subst h;rw [decide_eq_true rfl];exact beq_self_eq_true _
 · rw [decide_eq_false h,ByteArray.toList_eq,ByteArray.toList_eq]
   exact beq_false_of_ne (fun e=>h ((encB_str hP hQ).1 (WideShapes.bytes_inj e)))
theorem two_rows (w:World) (A B:List Value) (t:TypeId):RW ((w.alloc (.cells A.toArray t)).alloc (.cells B.toArray t)) w.heap.size 0 A∧RW ((w.alloc (.cells A.toArray t)).alloc (.cells B.toArray t)) (w.heap.size+1) 0 B:=by
 have h1:RW (w.alloc (.cells A.toArray t)) w.heap.size 0 A:=RW.fresh w _ _
 have h2:RW ((w.alloc (.cells A.toArray t)).alloc (.cells B.toArray t)) (w.alloc (.cells A.toArray t)).heap.size 0 B:=RW.fresh _ _ _
 rw [World.size_alloc] at h2
 exact ⟨h1.still ((Below.refl _ _).alloc (Nat.le_refl _) _),h2⟩
def zP:Array Value:=((List.range 16).map fun _=>Value.int .u64 0).toArray
theorem zeroP (w:World):Sem.run Tryz.prog (zeroValue 53) w = .ok (.agg zP) w:=by kernel_rfl
theorem infoPs:(Tryz.prog.info? 53).map (·.size)=some 16:=by kernel_rfl
structure PointApi (G:World→Prop) (R:List Value→Fp × Fp→Prop):Prop where
 keep:∀ w w',G w→Below w.heap.size w w'→G w'
 len:∀ c P,R c P→c.length=16
 one:∀ c P,R c P→c.toArray.all (·.oneCell')=true
 on:∀ c P,R c P→On dE P
 base:∀ w,G w→Calls Tryz.prog 21 #[] w fun e w'=>∃ c,e = .returned (.agg c.toArray)∧R c baseP∧Below w.heap.size w w'
 zero:∀ w,G w→Calls Tryz.prog 120 #[] w fun e w'=>∃ c,e = .returned (.agg c.toArray)∧R c ezero∧Below w.heap.size w w'
 enc:∀ c P w,R c P→G w→Calls Tryz.prog 22 #[.agg c.toArray] w fun e w'=>∃ s,e = .returned s∧NewC w w' s 32 (encB P)∧Below w.heap.size w w'
 plus:∀ c P d Q w,R c P→R d Q→G w→Calls Tryz.prog 30 #[.agg c.toArray,.agg d.toArray] w fun e w'=>∃ c',e = .returned (.agg c'.toArray)∧R c' (eadd dE P Q)∧Below w.heap.size w w'
 same:∀ c P d Q w,R c P→R d Q→G w→Calls Tryz.prog 29 #[.agg c.toArray,.agg d.toArray] w fun e w'=>e = .returned (.bool (decide (P=Q)))∧Below w.heap.size w w'
 times:∀ c P v ks w,R c P→(∀ j,ks j<256)→BytesIn w v 32 ks→G w→Calls Tryz.prog 46 #[.agg c.toArray,v] w fun e w'=>∃ c',e = .returned (.tuple #[.agg c'.toArray,.int .i64 0])∧R c' (emul dE (ofB ks 32) P)∧Below w.heap.size w w'
 timesBad:∀ c P v n ks w,R c P→n≠32→BytesIn w v n ks→G w→Calls Tryz.prog 46 #[.agg c.toArray,v] w fun e w'=>∃ c',e = .returned (.tuple #[.agg c'.toArray,.int .i64 1])∧R c' ezero∧Below w.heap.size w w'
 dec:∀ v bs w,(∀ j,bs j<256)→BytesIn w v 32 bs→G w→Calls Tryz.prog 27 #[v] w fun e w'=>∃ (c:List Value) (er:Int),e = .returned (.tuple #[.agg c.toArray,.int .i64 er])∧Below w.heap.size w w' ∧
  ((er=30∧R c ezero∧decN bs=none)∨(er=0∧(decN bs).isSome=true∧∃ P,R c P∧∀ j,j<32→encB P j=bs j))
 decBad:∀ v n bs w,n≠32→BytesIn w v n bs→G w→Calls Tryz.prog 27 #[v] w fun e w'=>∃ c,e = .returned (.tuple #[.agg c.toArray,.int .i64 1])∧R c ezero∧Below w.heap.size w w'
theorem freshP (w:World):RW (w.alloc (.cells zP 53)) w.heap.size 0 ((List.range 16).map fun _=>Value.int .u64 0):=RW.fresh w _ _
theorem infoP {c:List Value} (h:c.length=16):(Tryz.prog.info? 53).map (·.size)=some c.length:=by rw [h];exact infoPs
theorem infoPA {c:List Value} (h:c.length=16):(Tryz.prog.info? 53).map (·.size)=some c.toArray.size:=by rw [List.size_toArray,h];exact infoPs
end Go.Proofs.YtdgkmloabificaaGreatDoor
namespace Go.Proofs.YtdgkmloabificaaGreatDoor
open Go.RowKit
theorem thereP {w:World} {g:Nat} {c d:List Value} (r:RW w g 0 c) (hc:c.length=16) (hd:d.length=16):w.there g 0 d.toArray.size:=by
 have h:=r.there
 rw [hc] at h
 rw [List.size_toArray,hd];exact h
theorem boxP (w:World) (c:List Value) (hl:c.length=16):∃ V,V=(w.alloc (.cells zP 53)).setCells w.heap.size 0 c∧RW V w.heap.size 0 c∧Below w.heap.size w V∧(w.alloc (.cells zP 53)).there w.heap.size 0 c.toArray.size :=
 ⟨_,rfl,(freshP w).stored _ (by rw [hl];rfl),below_setCells (Nat.le_refl _) _ _ _ ((Below.refl _ _).alloc (Nat.le_refl _) _),thereP (freshP w) rfl hl⟩
end Go.Proofs.YtdgkmloabificaaGreatDoor
namespace Go.Proofs.YtdgkmloabificaaGreatDoor
open Go.RowKit
theorem PointApi.more {G G':World→Prop} {R:List Value→Fp × Fp→Prop} (api:PointApi G R) (h:∀ w,G' w→G w) (hk:∀ w w',G' w→Below w.heap.size w w'→G' w'):PointApi G' R where
 keep:=hk
 len:=api.len
 one:=api.one
 on:=api.on
 base:=fun w hG=>api.base w (h w hG)
 zero:=fun w hG=>api.zero w (h w hG)
 enc:=fun c P w hc hG=>api.enc c P w hc (h w hG)
 plus:=fun c P d Q w hc hd hG=>api.plus c P d Q w hc hd (h w hG)
 same:=fun c P d Q w hc hd hG=>api.same c P d Q w hc hd (h w hG)
 times:=fun c P v ks w hc hks hv hG=>api.times c P v ks w hc hks hv (h w hG)
 timesBad:=fun c P v n ks w hc hn hv hG=>api.timesBad c P v n ks w hc hn hv (h w hG)
 dec:=fun v bs w hbs hv hG=>api.dec v bs w hbs hv (h w hG)
 decBad:=fun v n bs w hn hv hG=>api.decBad v n bs w hn hv (h w hG)
set_option maxRecDepth 20000 in
set_option maxHeartbeats 4000000 in
theorem times_sg {G:World→Prop} {R:List Value→Fp × Fp→Prop} (api:PointApi G R) (c:List Value) (P:Fp × Fp) (hc:R c P) (v:Value) (ks:Nat→Nat) (hks:∀ j,ks j<256) (w:World) (hv:BytesIn w v 32 ks) (hG:G w) :
 Calls Tryz.prog 20 #[.agg c.toArray,v] w fun e w'=>∃ c',e = .returned (.agg c'.toArray)∧R c' (emul dE (ofB ks 32) P)∧Below w.heap.size w w':=by
 have hz:=zeroP
 have kl:=api.len
 have ko:=api.one
 have lc:=kl _ _ hc
 have ct:=fun W hv hG=>api.times c P v ks W hc hks hv hG
 generalize emul dE (ofB ks 32) P=pr at *
 obtain ⟨V1,g1,e1,hg1,b1,h1⟩:∃ V g,w.alloc (.cells c.toArray 53)=V∧w.heap.size=g∧Below w.heap.size w V∧RW V g 0 c:=⟨_,_,rfl,rfl,(Below.refl _ _).alloc (Nat.le_refl _) _,RW.fresh w _ _⟩
 obtain ⟨W,g2,e2,hg2,b2,h2⟩:∃ V g,V1.alloc (.cells zP 53)=V∧V1.heap.size=g∧Below V1.heap.size V1 V∧RW V g 0 ((List.range 16).map fun _=>Value.int .u64 0):=⟨_,_,rfl,rfl,(Below.refl _ _).alloc (Nat.le_refl _) _,freshP V1⟩
 have t1:V1.heap.size=w.heap.size+1:=by rw [←e1];simp
 have HW:Hid (W=(w.alloc (.cells c.toArray 53)).alloc (.cells zP 53)):=Hid.mk' (by rw [←e2,←e1])
 have q1:Hid (w.heap.size=g1):=Hid.mk' hg1
 have q2:Hid (w.heap.size+1=g2):=Hid.mk' (by omega)
 have w2:w.heap.size≤g2:=by omega
 replace h1:=h1.still b2
 have b:Below w.heap.size w W:=b1.trans (b2.mono (by omega))
 have ct1:=ct W (hv.still b) (api.keep _ _ hG b)
 clear e1 e2 hg1 hg2 b1 b2 t1 V1 ct hv hG api
 go_enter Tryz.func20,Tryz.ntmps20
 go_wp2_with (first
  | (rw [←HW.out,q2.out,q1.out];refine wpList_load_mid rfl 53 _ rfl g1 0 rfl c _ h1.range Tryz.underlying53 rfl (infoP lc) ?_;clear HW q1 q2)
  | (go_at_call 46;refine ct1.mono ?_;clear ct1;rintro e w3 ⟨c3,rfl,hc3,hb3⟩;(replace h2:=h2.still hb3);(replace b:=below_next b hb3);clear hb3;(have l3:=kl _ _ hc3);(have o3:=ko _ _ hc3);(obtain ⟨V3,hV3,h3,b3,t3⟩:=boxP w3 c3 l3);(have H3:=Hid.mk' hV3);clear hV3;(replace h2:=h2.still b3);(replace b:=below_next b b3);clear b3;(have t0:V3.there g2 0 c3.toArray.size:=thereP h2 rfl l3))
  | (with_reducible (refine id (?_:wpList _ _ _ _ _ _));refine wpList_store_mid rfl 53 _ _ rfl w3.heap.size 0 c3.toArray rfl rfl t3 (infoPA l3) o3 ?_;rw [List.toList_toArray,←H3.out];clear t3 H3)
  | (refine wpList_load_mid rfl 53 _ rfl w3.heap.size 0 rfl c3 _ h3.range Tryz.underlying53 rfl (infoP l3) ?_)
  | (with_reducible (refine id (?_:wpList _ _ _ _ _ _));refine wpList_store_mid rfl 53 _ _ rfl g2 0 c3.toArray rfl rfl t0 (infoPA l3) o3 ?_))
 (try simp only [Exit.inBlock,Exit.then])
 exact bodyPost_ret (results_cell_mid Tryz.results20 _ _ g2 0 c3 _ rfl (h2.stored c3 (by rw [l3];rfl)).range Tryz.underlying53 rfl (infoP l3)) rfl ⟨c3,rfl,hc3,below_setCells w2 _ _ _ b⟩
end Go.Proofs.YtdgkmloabificaaGreatDoor
namespace Go.Proofs.YtdgkmloabificaaGreatDoor
open Go.RowKit
def ShaC (G:World→Prop):Prop:=∀ v n bs w,(∀ j,bs j<256)→n<2305843009213693952→BytesIn w v n bs→G w→Calls Tryz.prog 37 #[v] w fun e w'=>∃ g,e = .returned (.slice (some ⟨g,0,none⟩) 64 64)∧w.heap.size≤g∧RowAt .u8 w' g 0 64 (h5 n bs)∧Below w.heap.size w w'
def zK:Array Value:=#[.slice none 0 0,.slice none 0 0,.slice none 0 0]
theorem zeroK (w:World):Sem.run Tryz.prog (zeroValue 41) w = .ok (.agg zK) w:=by kernel_rfl
theorem infoK:(Tryz.prog.info? 41).map (·.size)=some 3:=by kernel_rfl
def kL (a b c:Value):List Value:=[a,b,c]
theorem infoKL (a b c:Value):(Tryz.prog.info? 41).map (·.size)=some (kL a b c).length:=infoK
theorem infoKA (a b c:Value):(Tryz.prog.info? 41).map (·.size)=some (kL a b c).toArray.size:=infoK
theorem oneKy (x y z:Option Addr) (a b c d e f:Nat):(kL (.slice x a b) (.slice y c d) (.slice z e f)).toArray.all (·.oneCell')=true:=by simp [kL,Value.oneCell']
theorem kL_set {w:World} {g:Nat} {a b c:Value} (h:RW w g 0 (kL a b c)) (v:Value):RW (w.setCell ⟨g,2,none⟩ v) g 0 (kL a b v) :=
 RW.join (cs:=[a,b]) (ds:=[v]) ((RW.left (cs:=[a,b]) (ds:=[c]) h).far g 2 [v] (.inr (.inl (by simp)))) ((RW.right (cs:=[a,b]) (ds:=[c]) h).stored [v] rfl)
theorem infoKz:(Tryz.prog.info? 41).map (·.size)=some zK.size:=infoK
theorem oneKz:zK.all (·.oneCell')=true:=by simp [zK,Value.oneCell']
theorem builtK1 (a b:Value):Tryz.prog.built 41 [(0,.agg #[a,b])]=some (kL a b (.slice none 0 0)).toArray:=by kernel_rfl
theorem boxK (w:World) (c:List Value) (hl:c.length=3):∃ V,V=(w.alloc (.cells zK 41)).setCells w.heap.size 0 c∧RW V w.heap.size 0 c∧Below w.heap.size w V∧(w.alloc (.cells zK 41)).there w.heap.size 0 c.toArray.size:=by
 have h:RW (w.alloc (.cells zK 41)) w.heap.size 0 (kL (.slice none 0 0) (.slice none 0 0) (.slice none 0 0)):=RW.fresh w _ _
 refine ⟨_,rfl,h.stored _ (by rw [hl];rfl),below_setCells (Nat.le_refl _) _ _ _ ((Below.refl _ _).alloc (Nat.le_refl _) _),?_⟩
 have t:=h.there
 have e:c.toArray.size=3:=hl
 rw [e]
 exact t
theorem freshK (w:World):∃ V g,w.alloc (.cells zK 41)=V∧w.heap.size=g∧Below w.heap.size w V∧RW V g 0 (kL (.slice none 0 0) (.slice none 0 0) (.slice none 0 0)):=⟨_,_,rfl,rfl,(Below.refl _ _).alloc (Nat.le_refl _) _,RW.fresh w _ _⟩
theorem results_key (tmps:Array Value) (w:World) (g:Nat) (a b c:Value) (hp:tmps.getD 2 undef = .pointer (some ⟨g,0,none⟩)) (h:RW w g 0 (kL a b c)) (e:Value) (he:tmps.getD 3 undef=e) :
 (results Tryz.f16 tmps).run Tryz.prog w = .ok (.tuple #[.agg (kL a b c).toArray,e]) w:=by
 have hp':tmps[2]?.getD undef = .pointer (some ⟨g,0,none⟩):=by simpa using hp
 have he':tmps[3]?.getD undef=e:=by simpa using he
 simp [results,hp',he',asAddr,run_loadVar_mid w g 0 41 (kL a b c) _ h.range Tryz.underlying41 rfl (infoKL a b c)]
set_option maxRecDepth 20000 in
set_option maxHeartbeats 4000000 in
theorem keyOf_bad (v:Value) (n:Nat) (bs:Nat→Nat) (w:World) (hv:BytesIn w v n bs) (hn:n≠32) :
 Calls Tryz.prog 16 #[v] w fun e w'=>e = .returned (.tuple #[.agg (kL (.slice none 0 0) (.slice none 0 0) (.slice none 0 0)).toArray,.int .i64 1])∧Below w.heap.size w w':=by
 obtain ⟨xo,c,rfl,hxn,hnc,hsrc⟩:=hv.src
 have h1:¬((n:Int)=32):=by omega
 have hz:=zeroK
 obtain ⟨W,g,eW,hg,b,h0⟩:=freshK w
 have HW:Hid (w.alloc (.cells zK 41)=W):=Hid.mk' eW
 have Hg:Hid (w.heap.size=g):=Hid.mk' hg
 have wg:w.heap.size≤g:=Nat.le_of_eq hg
 have t0:W.there g 0 zK.size:=h0.there
 clear hv hsrc eW hg
 go_enter Tryz.func16,Tryz.ntmps16
 go_wp2_with (with_reducible (refine id (?_:wpList _ _ _ _ _ _));rw [HW.out,Hg.out];refine wpList_store_mid rfl 41 _ _ rfl g 0 zK rfl rfl t0 infoKz oneKz ?_;clear HW Hg)
 (try simp only [Exit.inBlock,Exit.then])
 exact bodyPost_ret (results_key _ _ g _ _ _ rfl (h0.stored (kL (.slice none 0 0) (.slice none 0 0) (.slice none 0 0)) rfl) _ rfl) rfl ⟨rfl,below_setCells wg _ _ _ b⟩
set_option maxRecDepth 20000 in
set_option maxHeartbeats 8000000 in
theorem keyOf_good {G:World→Prop} {R:List Value→Fp × Fp→Prop} (api:PointApi G R) (sha:ShaC G) (v:Value) (bs:Nat→Nat) (hbs:∀ j,bs j<256) (w:World) (hv:BytesIn w v 32 bs) (hG:G w) :
 Calls Tryz.prog 16 #[v] w fun e w'=>∃ gn gh gp cp,e = .returned (.tuple #[.agg (kL (.slice (some ⟨gn,0,none⟩) 32 32) (.slice (some ⟨gh,32,none⟩) 32 32) (.slice (some ⟨gp,0,none⟩) 32 cp)).toArray,.int .i64 0])∧RowAt .u8 w' gn 0 32 (aB bs)∧RowAt .u8 w' gh 32 32 (preB bs)∧RowAt .u8 w' gp 0 32 (pubB bs)∧32≤cp∧Below w.heap.size w w':=by
 have hz:=zeroK
 have kk:=api.keep
 obtain ⟨W,g,eW,hg,b,h0⟩:=freshK w
 have HW:Hid (w.alloc (.cells zK 41)=W):=Hid.mk' eW
 have Hg:Hid (w.heap.size=g):=Hid.mk' hg
 have wg:w.heap.size≤g:=Nat.le_of_eq hg
 have cs:=sha v 32 bs W hbs (by decide) (hv.still b) (kk _ _ hG b)
 obtain ⟨xo,c,rfl,hxn,hnc,hsrc⟩:=hv.src
 have cc:∀ gh W,RowAt .u8 W gh 0 64 (h5 32 bs)→Calls Tryz.prog 38 #[.slice (some ⟨gh,0,none⟩) 32 64] W fun e w'=>∃ s,e = .returned (.tuple #[s,.int .i64 0])∧NewB W w' s 32 (aB bs)∧Below W.heap.size W w':=fun gh W hr=>clamp_good _ (h5 32 bs) (h5_lt _ _) W (.inr ⟨gh,0,64,rfl,block_lt_of_cell (hr 0 (by decide)).1,by decide,fun j hj=>(hr j (by omega)).1⟩)
 clear eW hg hsrc hv
 go_enter Tryz.func16,Tryz.ntmps16
 go_upto_region 8 with (first
  | (go_at_call 37;rw [HW.out,Hg.out];refine cs.mono ?_;clear cs HW Hg;rintro e w1 ⟨gh,rfl,hgh,hrh,hb1⟩;(have lgh:g<gh:=Nat.lt_of_lt_of_le h0.lt hgh);(replace h0:=h0.still hb1);(replace b:=below_next b hb1);clear hb1;(have cc1:=cc gh w1 hrh);clear cc)
  | (go_at_call 38;refine cc1.mono ?_;clear cc1;rintro e w2 ⟨s2,rfl,hn2,hb2⟩;(have lg1:=h0.lt);(replace h0:=h0.still hb2);(replace b:=below_next b hb2);(replace hrh:=hrh.below hb2 (block_lt_of_cell (hrh 0 (by decide)).1));clear hb2;(obtain ⟨gn,rfl,hgn,hrn⟩:=hn2);(have lgn:g<gn:=Nat.lt_of_lt_of_le lg1 hgn);clear lg1 hgn hgh)
  | (refine wpList_build1 rfl 41 0 (.tmp 27) rfl _ rfl _ (builtK1 _ _) ?_;(obtain ⟨V3,hV3,h3,b3,t3⟩:=boxK w2 (kL (.slice (some ⟨gn,0,none⟩) 32 32) (.slice (some ⟨gh,32,none⟩) 32 32) (.slice none 0 0)) rfl);(have H3:=Hid.mk' hV3);clear hV3)
  | (with_reducible (refine id (?_:wpList _ _ _ _ _ _));refine wpList_store_mid rfl 41 _ _ rfl w2.heap.size 0 (kL (.slice (some ⟨gn,0,none⟩) 32 32) (.slice (some ⟨gh,32,none⟩) 32 32) (.slice none 0 0)).toArray rfl rfl t3 (infoKA _ _ _) (oneKy _ _ _ _ _ _ _ _ _) ?_;rw [List.toList_toArray,←H3.out];clear t3 H3))
 (try dsimp only [Act.put])
 have hG3:=kk _ _ hG (below_next b b3)
 have ln:gn<w2.heap.size:=block_lt_of_cell (hrn 0 (by decide)).1
 have lh:gh<w2.heap.size:=block_lt_of_cell (hrh 0 (by decide)).1
 generalize hg7:w2.heap.size=g7 at *
 have l7:=h3.lt
 have n7n:gn≠g7:=by omega
 have n7h:gh≠g7:=by omega
 replace hrn:=hrn.below b3 (by omega)
 replace hrh:=hrh.below b3 (by omega)
 have w7:w.heap.size≤g7:=by have:=b.size;omega
 have n07:g≠g7:=by have:=h0.lt;omega
 replace h0:=h0.below b3 (by have:=h0.lt;omega)
 replace b:=b.trans (b3.mono w7)
 clear b3 hg7
 have hdrew:Below V3.heap.size V3 V3.drew:=(Below.refl _ _).drew
 replace h3:=h3.still hdrew
 replace h0:=h0.still hdrew
 replace hG3:=kk _ _ hG3 hdrew
 replace hrn:=hrn.drew
 replace hrh:=hrh.drew
 replace b:=below_next b hdrew
 replace l7:=h3.lt
 clear hdrew
 refine wp_region_noPanic ?_
 refine wp_region_held_drew (S:=fun w'=>Out g7 2 1 V3.drew w') (by kernel_rfl) (Out.refl _ _ _ _) (fun hS => ?_)
 generalize V3.drew=V at *
 refine tkH 1 (oN 30 (Op.fieldAddr 41 (oT 7) 0) 0 "key.go:33" #[]) (pA g7 0) hS yR ?_
 (try simp only [pS])
 refine tkH 2 (oN 31 (Op.fieldAddr 39 (oT 30) 0) 0 "key.go:33" #[jD 1]) (pA g7 0) hS yR ?_
 (try simp only [pS])
 refine tkH 3 (oN 32 (Op.load 22 (oT 31)) 22 "key.go:33" #[jD 2]) (.slice (some ⟨gn,0,none⟩) 32 32) hS (Or.inl ⟨by rfl,?hld⟩) ?_
 case hld =>
  intro u hu
  have q:u.cell? ⟨g7,0,none⟩=some (.slice (some ⟨gn,0,none⟩) 32 32):=(hu.cell 0 (.inl (by decide))).trans (h3.range 0 _ rfl)
  go_simp
  try with_reducible rfl
 (try simp only [pS])
 refine callH 0 (oN 29 (cF1 21 #[] #[]) 53 "key.go:33" #[]) (api.base V hG3) ?_
 rintro e w4 ⟨c4,rfl,hc4,hb4⟩
 replace hS:=hS.trans (Out.of_below hb4 l7)
 replace h3:=h3.still hb4
 replace h0:=h0.still hb4
 replace hG3:=kk _ _ hG3 hb4
 replace hrn:=hrn.below hb4 (block_lt_of_cell (hrn 0 (by decide)).1)
 replace hrh:=hrh.below hb4 (block_lt_of_cell (hrh 0 (by decide)).1)
 replace b:=below_next b hb4
 replace l7:=h3.lt
 clear hb4
 refine ⟨_,rfl,hS,?_⟩
 (try simp only [pS])
 refine callH 4 (oN 33 (cF1 20 #[oT 29,oT 32] #[53,22]) 53 "key.go:33" #[jD 0,jD 3,jC 0]) (times_sg api c4 _ hc4 (.slice (some ⟨gn,0,none⟩) 32 32) (aB bs) (aB_lt bs) w4 (.inr ⟨gn,0,32,rfl,block_lt_of_cell (hrn 0 (by decide)).1,by decide,fun j hj=>(hrn j hj).1⟩) hG3) ?_
 rintro e w5 ⟨c5,rfl,hc5,hb5⟩
 replace hS:=hS.trans (Out.of_below hb5 l7)
 replace h3:=h3.still hb5
 replace h0:=h0.still hb5
 replace hG3:=kk _ _ hG3 hb5
 replace hrn:=hrn.below hb5 (block_lt_of_cell (hrn 0 (by decide)).1)
 replace hrh:=hrh.below hb5 (block_lt_of_cell (hrh 0 (by decide)).1)
 replace b:=below_next b hb5
 replace l7:=h3.lt
 clear hb5 hc4
 refine ⟨_,rfl,hS,?_⟩
 (try simp only [pS])
 refine callH 5 (oN 34 (cF1 22 #[oT 33] #[53]) 22 "key.go:33" #[jD 4,jC 4]) (api.enc c5 _ w5 hc5 hG3) ?_
 rintro e w6 ⟨s6,rfl,hn6,hb6⟩
 replace hS:=hS.trans (Out.of_below hb6 l7)
 replace h3:=h3.still hb6
 have lgp0:=h0.lt
 replace h0:=h0.still hb6
 replace hrn:=hrn.below hb6 (block_lt_of_cell (hrn 0 (by decide)).1)
 replace hrh:=hrh.below hb6 (block_lt_of_cell (hrh 0 (by decide)).1)
 replace b:=below_next b hb6
 obtain ⟨gp,cp,rfl,hcp,hgp,hrp⟩:=hn6
 have n7p:gp≠g7:=by omega
 have lgp:g<gp:=by omega
 clear hb6 hc5 hG3
 refine ⟨_,rfl,hS,?_⟩
 (try simp only [pS])
 refine tkH 6 (oN 35 (Op.fieldAddr 41 (oT 7) 1) 0 "key.go:33" #[jP 0,jP 1,jP 2,jP 3,jP 4,jP 5]) (pA g7 2) hS yR ?_
 (try simp only [pS])
 refine wpAnyH_ready (rs:=[7]) (by kernel_rfl) (by simp) ?_
 refine AllReadyH.cons (o:=oS (Op.store 22 (oT 35) (oT 34)) "key.go:33" #[jD 6,jD 5,jC 5,jP 0,jP 1,jP 2,jP 3,jP 4,jP 5]) rfl (fun K hK => ?_) AllReadyH.nil
 have q2:w6.cell? ⟨g7,2,none⟩=some (.slice none 0 0):=h3.range 2 _ rfl
 have f2:w6.frozen? ⟨g7,2,none⟩=false:=(h3.there 2 (show 2<3 by decide)).2
 go_simp
 refine hK.out _ _ (hS.trans (Out.setCell w6 _ (Nat.le_refl _) (by decide))) (fun h => ?_)
 clear h hK K q2 f2
 refine wpAnyH_done (by kernel_rfl) ?_ _
 refine NoPanic.normal ?_
 have h7:=kL_set h3 (.slice (some ⟨gp,0,none⟩) 32 cp)
 replace h0:=h0.far g7 2 [.slice (some ⟨gp,0,none⟩) 32 cp] (.inl n07)
 replace hrn:=hrn.far (a:=⟨g7,2,none⟩) (Ne.symm n7n) (.slice (some ⟨gp,0,none⟩) 32 cp)
 replace hrh:=hrh.far (a:=⟨g7,2,none⟩) (Ne.symm n7h) (.slice (some ⟨gp,0,none⟩) 32 cp)
 replace hrp:=hrp.far (a:=⟨g7,2,none⟩) (Ne.symm n7p) (.slice (some ⟨gp,0,none⟩) 32 cp)
 replace b:=below_setCells w7 [.slice (some ⟨gp,0,none⟩) 32 cp] 2 _ b
 simp only [World.setCells] at h0 b
 generalize w6.setCell ⟨g7,2,none⟩ (.slice (some ⟨gp,0,none⟩) 32 cp)=W7 at *
 have t0:W7.there g 0 (kL (.slice (some ⟨gn,0,none⟩) 32 32) (.slice (some ⟨gh,32,none⟩) 32 32) (.slice (some ⟨gp,0,none⟩) 32 cp)).toArray.size:=h0.there
 go_wp2_with (first
  | (refine wpList_load_mid rfl 41 _ rfl g7 0 rfl (kL (.slice (some ⟨gn,0,none⟩) 32 32) (.slice (some ⟨gh,32,none⟩) 32 32) (.slice (some ⟨gp,0,none⟩) 32 cp)) _ h7.range Tryz.underlying41 rfl (infoKL _ _ _) ?_)
  | (with_reducible (refine id (?_:wpList _ _ _ _ _ _));refine wpList_store_mid rfl 41 _ _ rfl g 0 (kL (.slice (some ⟨gn,0,none⟩) 32 32) (.slice (some ⟨gh,32,none⟩) 32 32) (.slice (some ⟨gp,0,none⟩) 32 cp)).toArray rfl rfl t0 (infoKA _ _ _) (oneKy _ _ _ _ _ _ _ _ _) ?_))
 (try simp only [Exit.inBlock,Exit.then])
 have O:=Out.setCells (b:=g) (o:=0) (n:=3) W7 (p:=0) (kL (.slice (some ⟨gn,0,none⟩) 32 32) (.slice (some ⟨gh,32,none⟩) 32 32) (.slice (some ⟨gp,0,none⟩) 32 cp)) (Nat.le_refl _) (Nat.le_refl _)
 refine bodyPost_ret (results_key _ _ g _ _ _ rfl (h0.stored (kL (.slice (some ⟨gn,0,none⟩) 32 32) (.slice (some ⟨gh,32,none⟩) 32 32) (.slice (some ⟨gp,0,none⟩) 32 cp)) rfl) _ rfl) rfl ⟨gn,gh,gp,cp,rfl,O.row hrn (by omega),fun j hj => ?_,O.row hrp (by omega),hcp,below_setCells wg _ _ _ b⟩
 have q:=O.row hrh (by omega) (32+j) (by omega)
 rw [Nat.zero_add] at q
 exact q
set_option maxRecDepth 20000 in
set_option maxHeartbeats 4000000 in
theorem public_bad (v:Value) (n:Nat) (bs:Nat→Nat) (w:World) (hv:BytesIn w v n bs) (hn:n≠32) :
 Calls Tryz.prog 7 #[v] w fun e w'=>e = .returned (.tuple #[.slice none 0 0,.int .i64 1])∧Below w.heap.size w w':=by
 have ck:=keyOf_bad v n bs w hv hn
 have hz:=zeroK
 obtain ⟨xo,c,rfl,hxn,hnc,hsrc⟩:=hv.src
 clear hv hsrc
 go_enter Tryz.func7,Tryz.ntmps7
 go_wp2_with (first
  | (go_at_call 16;refine ck.mono ?_;clear ck;rintro e w1 ⟨rfl,b⟩;(obtain ⟨V2,hV2,h2,b2,t2⟩:=boxK w1 (kL (.slice none 0 0) (.slice none 0 0) (.slice none 0 0)) rfl);(have H2:=Hid.mk' hV2);clear hV2;(replace b:=below_next b b2);clear b2)
  | (with_reducible (refine id (?_:wpList _ _ _ _ _ _));refine wpList_store_mid rfl 41 _ _ rfl w1.heap.size 0 (kL (.slice none 0 0) (.slice none 0 0) (.slice none 0 0)).toArray rfl rfl t2 (infoKA _ _ _) (oneKy _ _ _ _ _ _ _ _ _) ?_;rw [List.toList_toArray,←H2.out];clear t2 H2))
 go_ret2
 exact ⟨rfl,b⟩
set_option maxRecDepth 20000 in
set_option maxHeartbeats 4000000 in
theorem public_good {G:World→Prop} {R:List Value→Fp × Fp→Prop} (api:PointApi G R) (sha:ShaC G) (v:Value) (bs:Nat→Nat) (hbs:∀ j,bs j<256) (w:World) (hv:BytesIn w v 32 bs) (hG:G w) :
 Calls Tryz.prog 7 #[v] w fun e w'=>∃ s,e = .returned (.tuple #[s,.int .i64 0])∧BytesIn w' s 32 (pubB bs)∧Below w.heap.size w w':=by
 have ck:=keyOf_good api sha v bs hbs w hv hG
 have hz:=zeroK
 obtain ⟨xo,c,rfl,hxn,hnc,hsrc⟩:=hv.src
 clear hv hsrc api sha
 go_enter Tryz.func7,Tryz.ntmps7
 go_wp2_with (first
  | (go_at_call 16;refine ck.mono ?_;clear ck;rintro e w1 ⟨gn,gh,gp,cp,rfl,hrn,hrh,hrp,hcp,b⟩;(obtain ⟨V2,hV2,h2,b2,t2⟩:=boxK w1 (kL (.slice (some ⟨gn,0,none⟩) 32 32) (.slice (some ⟨gh,32,none⟩) 32 32) (.slice (some ⟨gp,0,none⟩) 32 cp)) rfl);(have H2:=Hid.mk' hV2);clear hV2 hrn hrh;(replace hrp:=hrp.below b2 (block_lt_of_cell (hrp 0 (by decide)).1));(replace b:=below_next b b2);clear b2;(have q2:V2.cell? ⟨w1.heap.size,2,none⟩=some (.slice (some ⟨gp,0,none⟩) 32 cp):=h2.range 2 _ rfl))
  | (with_reducible (refine id (?_:wpList _ _ _ _ _ _));refine wpList_store_mid rfl 41 _ _ rfl w1.heap.size 0 (kL (.slice (some ⟨gn,0,none⟩) 32 32) (.slice (some ⟨gh,32,none⟩) 32 32) (.slice (some ⟨gp,0,none⟩) 32 cp)).toArray rfl rfl t2 (infoKA _ _ _) (oneKy _ _ _ _ _ _ _ _ _) ?_;rw [List.toList_toArray,←H2.out];clear t2 H2))
 go_ret2
 exact ⟨_,rfl,.inr ⟨gp,0,cp,rfl,block_lt_of_cell (hrp 0 (by decide)).1,hcp,fun j hj=>(hrp j hj).1⟩,b⟩
end Go.Proofs.YtdgkmloabificaaGreatDoor
