/- What the proof stands on: HSum, HTop, HRefSmall, HRefWords. -/
import Derived.Test.YtcgkajlehdgpoaaGreatDoorHMixM
import Derived.Test.YtcgkajlehdgpoaaGreatDoorHWriteAM
import Derived.Test.YtcgkajlehdgpoaaGreatDoorLentM
import Derived.ArgAppend
import Derived.Deep.AppendLies
import Derived.Deep.Cut
import Derived.Deep.RegionLawGrows
import Derived.Deep.RegionWith
namespace Go.Proofs.YtcgkajlehdgpoaaGreatDoor
open Go.RowKit
def endS (r:Ru) (K:Nat→Nat) (s:St) (R:Nat→Nat) (c:Nat):St:=(writeE r K s R c (padN r c) (padF r c)).1
def outB (m:Nat) (s:St) (j:Nat):Nat:=s.at (j / (m / 8)) / 2 ^ (m - 8 - j%(m / 8)*8)%256
def outG (m:Nat) (s:St):Nat→Nat→Nat
 | 0=>fun _=>0
 | k+1=>upd (outG m s k) k (outB m s k)
theorem outG_at (m:Nat) (s:St):∀ k j,j<k→outG m s k j=outB m s j
 | k+1,j,h=>by
  unfold outG upd
  by_cases e:j=k
  · rw [if_pos e,e]
  · rw [if_neg e];exact outG_at m s k j (by omega)
theorem padF_lt (r:Ru) (c:Nat):∀ j,padF r c j<256:=by
 suffices h:∀ N i j,padG N c i j<256 from h _ _
 intro N i
 induction i with
 | zero =>
  intro j;unfold padG upd;split
  · omega
  · exact Nat.zero_lt_succ _
 | succ i ih =>
  intro j;unfold padG upd;split
  · exact Nat.mod_lt _ (by decide)
  · exact ih j
theorem padN32_le (c:Nat):padN rn c≤200:=by
 show 1+(4*32 - 1 - 32 / 4 - c%(2*32))%(2*32)+32 / 4≤200
 omega
set_option maxRecDepth 20000 in
set_option maxHeartbeats 1000000 in
theorem sum32_any (K:Nat→Nat) (hK:∀ j,K j<18446744073709551616) (s:St) (hs:s.lt 4294967296) (R:Nat→Nat) (hR:∀ j,R j<256) (c:Nat) (hc:c<2305843009213693952) (w:World)
 (hcub:∀ j,j<80→w.cell? ⟨3,j,none⟩=some (.int .u64 (K j))) :
 Calls Tryz.prog 147 #[.agg (engVals .u32 s R c).toArray,(.agg #[.int .i64 32,.int .i64 64,.int .u64 7,.int .u64 18,.int .u64 3,.int .u64 17,.int .u64 19,.int .u64 10,.int .u64 2,.int .u64 13,.int .u64 22,.int .u64 6,.int .u64 11,.int .u64 25])] w
  fun e w'=>∃ g,e = .returned (.slice (some ⟨g,0,none⟩) 32 32)∧w.heap.size≤g∧RowAt .u8 w' g 0 32 (outB 32 (endS rn K s R c))∧Below w.heap.size w w':=by
 have h3:3<w.heap.size:=block_lt_of_cell (hcub 0 (by decide))
 obtain ⟨W2,hW2⟩:∃ W2,W2=(w.alloc (.cells (engVals .u32 s R c).toArray 180)).alloc (.cells #[.int .i64 32,.int .i64 64,.int .u64 7,.int .u64 18,.int .u64 3,.int .u64 17,.int .u64 19,.int .u64 10,.int .u64 2,.int .u64 13,.int .u64 22,.int .u64 6,.int .u64 11,.int .u64 25] 184):=⟨_,rfl⟩
 have hE:EngAt .u32 W2 w.heap.size 0 s R c:=by rw [hW2];exact (EngAt.fresh w s R c 180).below ((Below.refl _ _).alloc (Nat.le_refl _) _)
 have hRu:Rules32 W2 (w.heap.size+1):=by
  have:=Rules32.of_box (W:=w.alloc (.cells (engVals .u32 s R c).toArray 180)) (w1:=W2) (by rw [hW2];exact Below.refl _ _)
  rw [World.size_alloc] at this;exact this
 have hcub2:∀ j,j<80→W2.cell? ⟨3,j,none⟩=some (.int .u64 (K j)):=fun j hj=>by
  rw [hW2,World.cell?_alloc_lt _ _ _ (by simp;omega),World.cell?_alloc_lt _ _ _ h3];exact hcub j hj
 have hB2:Below w.heap.size w W2:=by rw [hW2];exact ((Below.refl _ _).alloc (Nat.le_refl _) _).alloc (by simp) _
 have hz2:W2.heap.size=w.heap.size+1+1:=by rw [hW2];simp
 have HW2:Hid (W2=(w.alloc (.cells (engVals .u32 s R c).toArray 180)).alloc (.cells #[.int .i64 32,.int .i64 64,.int .u64 7,.int .u64 18,.int .u64 3,.int .u64 17,.int .u64 19,.int .u64 10,.int .u64 2,.int .u64 13,.int .u64 22,.int .u64 6,.int .u64 11,.int .u64 25] 184)):=hW2
 clear hW2
 go_enter Tryz.func147,Tryz.ntmps147
 go_wp2
 rw [←HW2.out]
 obtain ⟨p0,p1,p2,p3,p4,p5,p6,p7,p8,p9,p10,p11,p12,p13⟩:=id hRu
 have hcn:=hE.cnt
 rw [Nat.zero_add] at hcn
 have hb0:Below W2.heap.size W2 W2.drew:=(Below.refl _ _).drew
 have hpad:=padding32_any c hc W2.drew
 have HZ2:Hid (W2.heap.size=w.heap.size+1+1):=hz2
 clear hz2 hcub
 have hw:∀ (w1:World) (g:Nat),W2.drew.heap.size≤g→RowAt .u8 w1 g 0 (padN rn c) (padF rn c)→Below W2.drew.heap.size W2.drew w1 →
  Rules32 w1 (w.heap.size+1)∧Calls Tryz.prog 146 #[.pointer (some ⟨w.heap.size,0,none⟩),(.agg #[.int .i64 32,.int .i64 64,.int .u64 7,.int .u64 18,.int .u64 3,.int .u64 17,.int .u64 19,.int .u64 10,.int .u64 2,.int .u64 13,.int .u64 22,.int .u64 6,.int .u64 11,.int .u64 25]),.slice (some ⟨g,0,none⟩) (padN rn c) (padN rn c)] w1
   fun e w'=>e = .returned (.tuple #[])∧EngAt .u32 w' w.heap.size 0 (writeE rn K s R c (padN rn c) (padF rn c)).1 (writeE rn K s R c (padN rn c) (padF rn c)).2 (c+padN rn c)∧Rules32 w' (w.heap.size+1)∧Below w.heap.size w w':=fun w1 g hg hrow hb=>by
  have hb':=below_next hb0 hb
  have hz:=HZ2.out
  have hg':w.heap.size+1+1≤g:=by simp only [World.size_drew] at hg;omega
  have hR1:=hRu.below hb' (by omega)
  refine ⟨hR1,(write32_any K hK s hs R hR w.heap.size 0 c (padN rn c) _ (padF rn c) (padF_lt _ _) w1 (hE.below hb') (fun j hj=>(hb'.cell (p:=⟨3,j,none⟩) (by show 3<_;omega)).trans (hcub2 j hj)) (by omega) (.inr ⟨g,0,_,rfl,by omega,Nat.le_refl _,fun j hj=>(hrow j hj).1⟩) (by have:=padN32_le c;omega)).mono ?_⟩
  rintro e w' ⟨rfl,hE',hO'⟩
  have hs':=hb'.size
  exact ⟨rfl,hE',hR1.same (fun q=>hO'.cell' (by omega) (by omega)),hB2.trans ((hb'.mono (by omega)).trans (hO'.below (Nat.le_refl _) (by omega)))⟩
 go_cut [] from 8 (fun wc=>EngAt .u32 wc w.heap.size 0 (writeE rn K s R c (padN rn c) (padF rn c)).1 (writeE rn K s R c (padN rn c) (padF rn c)).2 (c+padN rn c)∧Rules32 wc (w.heap.size+1)∧Below w.heap.size w wc)
 case first =>
  go_region_with (first
   | (go_at_call 171;refine hpad.mono ?_;rintro e w1 ⟨g,rfl,hg,hrow,hb1⟩;obtain ⟨⟨r0,r1,r2,r3,r4,r5,r6,r7,r8,r9,r10,r11,r12,r13⟩,hwc⟩:=hw w1 g hg hrow hb1)
   | (go_at_call 146;refine hwc.mono ?_;rintro e w5 ⟨rfl,hE5,hR5,hB5⟩))
  all_goals
   go_wp2
   go_meet
   case rel=>exact ⟨hE5,hR5,hB5⟩
 case rest =>
  obtain ⟨hE5,hR5,hB5⟩:=hcut
  have hs5:(writeE rn K s R c (padN rn c) (padF rn c)).1.lt 4294967296:=(writeE_lt (r:=rn) hs hR (padF_lt _ _)).1
  have HS5:Hid (endS rn K s R c=(writeE rn K s R c (padN rn c) (padF rn c)).1):=(rfl:endS rn K s R c=(writeE rn K s R c (padN rn c) (padF rn c)).1)
  have hst:=hE5.st
  obtain ⟨x,hx⟩:∃ x,x=(writeE rn K s R c (padN rn c) (padF rn c)).1:=⟨_,rfl⟩
  have HX:Hid (x=(writeE rn K s R c (padN rn c) (padF rn c)).1):=hx
  rw [←hx] at hs5 hst
  clear hx
  have c0:=hR5.1
  have hmk:=fun W=>make_bytes W 32 32 rfl (by decide)
  clear hw hpad hb0 hcn p0 p1 p2 p3 p4 p5 p6 p7 p8 p9 p10 p11 p12 p13 hRu hcub2 hE hB2 HW2 HZ2 hE5
  have hwl:w.heap.size<wc.heap.size:=block_lt_of_cell (hst 0 (by decide)).1
  have hwl1:w.heap.size+1<wc.heap.size:=block_lt_of_cell c0
  go_wp2
  clear hmk
  go_loopw [22] (fun i wr=>∃ k:Nat,k≤32∧i = .int .i64 k∧RowAt .u8 wr wc.heap.size 0 32 (outG 32 x k)∧Below wc.heap.size wc wr) (fun i _=>32 - (intOf i).toNat)
  case atStart=>exact ⟨0,Nat.zero_le _,rfl,RowAt.fresh (fun j hj=>zb_at 32 j hj),(Below.refl _ _).alloc (Nat.le_refl _) _⟩
  case round =>
   obtain ⟨k,hk,rfl,hrow,hbel⟩:=hrel
   by_cases hlt:k<32
   · have rs:wr.cell? ⟨w.heap.size,k / 4,none⟩=some (.int .u32 (x.at (k / 4))):=by
      have:=(hst (k / 4) (by omega)).1
      rw [Nat.zero_add] at this
      exact (hbel.cell (p:=⟨w.heap.size,k / 4,none⟩) hwl).trans this
     have rr:wr.cell? ⟨w.heap.size+1,0,none⟩=some (.int .i64 32):=(hbel.cell (p:=⟨w.heap.size+1,0,none⟩) hwl1).trans c0
     obtain ⟨rg,rf⟩:=hrow k hlt
     rw [Nat.zero_add] at rg rf
     have hq:k / 4<8:=by omega
     go_wp2
     go_region
     go_wp2
     go_roundw
     case rel =>
      have h1:=hrow.set (i:=k) hlt (v:=(x.at (k / 4):Int) / 2 ^ (32 - 8 - k%4*8)%256) (u:=outB 32 x k) (by show _=((x.at (k / (32 / 8)) / 2 ^ (32 - 8 - k%(32 / 8)*8)%256:Nat):Int);simp)
      rw [Nat.zero_add] at h1
      exact ⟨k+1,by omega,by go_num,h1.drew,(hbel.setCell (Nat.le_refl _) _).drew⟩
     case measure=>simp [intOf];omega
   · have hke:k=32:=by omega
     subst hke
     go_wp2
     go_ret
     refine ⟨wc.heap.size,rfl,hB5.size,hrow.cong (fun j hj => ?_),hB5.trans (hbel.mono hB5.size)⟩
     rw [outG_at _ _ _ _ hj,HS5.out,←HX.out]
end Go.Proofs.YtcgkajlehdgpoaaGreatDoor
namespace Go.Proofs.YtcgkajlehdgpoaaGreatDoor
open Go.RowKit
structure HTab (w:World) (K q:Nat→Nat):Prop where
 cubes:∀ j,j<80→w.cell? ⟨3,j,none⟩=some (.int .u64 (K j))
 squares:∀ j,j<8→w.cell? ⟨1,j,none⟩=some (.int .u64 (q j))
 narrow:Rules32 w 0
 wide:Rules64 w 2
 Klt:∀ j,K j<18446744073709551616
 qlt:∀ j,q j<18446744073709551616
theorem HTab.size {w:World} {K q:Nat→Nat} (h:HTab w K q):3<w.heap.size:=block_lt_of_cell (h.cubes 0 (by decide))
theorem HTab.below {w w':World} {K q:Nat→Nat} (h:HTab w K q) {n:Nat} (hb:Below n w w') (hn:3<n):HTab w' K q :=
 ⟨fun j hj=>(hb.cell (p:=⟨3,j,none⟩) hn).trans (h.cubes j hj),fun j hj=>(hb.cell (p:=⟨1,j,none⟩) (by show 1<n;omega)).trans (h.squares j hj),h.narrow.below hb (by omega),h.wide.below hb (by omega),h.Klt,h.qlt⟩
theorem firstS_lt (r:Ru) (q:Nat→Nat) (hm:r.m≤64) (hq:∀ j,q j<18446744073709551616):(firstS r q).lt (2 ^ r.m):=by
 have h:∀ j,q j / 2 ^ (64 - r.m)<2 ^ r.m:=fun j=>by
  rw [Nat.div_lt_iff_lt_mul (Nat.two_pow_pos _),←Nat.pow_add,show r.m+(64 - r.m)=64 by omega];exact hq j
 exact ⟨h 0,h 1,h 2,h 3,h 4,h 5,h 6,h 7⟩
def hashS (r:Ru) (K q:Nat→Nat) (n:Nat) (bs:Nat→Nat):St:=endS r K (writeE r K (firstS r q) (fun _=>0) 0 n bs).1 (writeE r K (firstS r q) (fun _=>0) 0 n bs).2 n
theorem BytesIn.away {w w':World} {v:Value} {n:Nat} {bs:Nat→Nat} (h:BytesIn w v n bs) (hb:Below w.heap.size w w') {b:Nat} (hn:w.heap.size≤b):Bytes w' b v n bs:=by
 rcases h with h | ⟨bb,ob,cap,rfl,h1,h2,h3⟩
 · exact .inl h
 · exact .inr ⟨bb,ob,cap,rfl,by omega,h2,fun j hj=>(hb.cell (p:=⟨bb,ob+j,none⟩) h1).trans (h3 j hj)⟩
theorem there_new32 (w:World):(w.alloc (.cells zeng32 180)).there w.heap.size 0 137:=(EngAt.fresh (K := .u32) w zSt (fun _=>0) 0 180).there
set_option maxRecDepth 20000 in
set_option maxHeartbeats 1000000 in
theorem Sum256_any (K q:Nat→Nat) (v:Value) (n:Nat) (bs:Nat→Nat) (hbs:∀ j,bs j<256) (w:World) (hT:HTab w K q) (hv:BytesIn w v n bs) (hn:n<2305843009213693952) :
 Calls Tryz.prog 120 #[v] w
  fun e w'=>∃ g,e = .returned (.slice (some ⟨g,0,none⟩) 32 32)∧w.heap.size≤g∧RowAt .u8 w' g 0 32 (outB 32 (hashS rn K q n bs))∧Below w.heap.size w w':=by
 have hz:=zero180
 obtain ⟨p0,p1,p2,p3,p4,p5,p6,p7,p8,p9,p10,p11,p12,p13⟩:=id hT.narrow
 have hst:=start32_any q hT.qlt w hT.squares
 have hi:=isz180 .u32 (firstS rn q) (fun _=>0) 0
 have hone:=all_oneCell_toArray (engVals_one .u32 (firstS rn q) (fun _=>0) 0)
 have hF:(firstS rn q).lt 4294967296:=firstS_lt rn q (by decide) hT.qlt
 have hkey:∀ w1:World,Below w.heap.size w w1→(w1.alloc (.cells zeng32 180)).there w1.heap.size 0 (engVals .u32 (firstS rn q) (fun _=>0) 0).toArray.size∧∀ w2,w2=(w1.alloc (.cells zeng32 180)).setCells w1.heap.size 0 (engVals .u32 (firstS rn q) (fun _=>0) 0)→Rules32 w2 0∧Calls Tryz.prog 146 #[.pointer (some ⟨w1.heap.size,0,none⟩),(.agg #[.int .i64 32,.int .i64 64,.int .u64 7,.int .u64 18,.int .u64 3,.int .u64 17,.int .u64 19,.int .u64 10,.int .u64 2,.int .u64 13,.int .u64 22,.int .u64 6,.int .u64 11,.int .u64 25]),v] w2 fun e w'=>e = .returned (.tuple #[])∧Rules32 w' 0∧EngAt .u32 w' w1.heap.size 0 (writeE rn K (firstS rn q) (fun _=>0) 0 n bs).1 (writeE rn K (firstS rn q) (fun _=>0) 0 n bs).2 n∧Below w.heap.size w w'∧∀ j,j<80→w'.cell? ⟨3,j,none⟩=some (.int .u64 (K j)):=fun w1 hb1=>by
  refine ⟨by simp only [List.size_toArray,engVals_len];exact there_new32 w1,fun w2 hw2 => ?_⟩
  have h3:=hT.size
  have hs1:=hb1.size
  have hE:EngAt .u32 w2 w1.heap.size 0 (firstS rn q) (fun _=>0) 0:=by rw [hw2];exact EngAt.stored (there_new32 w1) _ _ _
  have hb2:Below w1.heap.size w1 w2:=by rw [hw2];exact below_setCells (Nat.le_refl _) _ _ _ ((Below.refl _ _).alloc (Nat.le_refl _) _)
  have hb3:Below w.heap.size w w2:=hb1.trans (hb2.mono hs1)
  have hT2:=hT.below hb3 h3
  refine ⟨hT2.narrow,(write32_any K hT.Klt (firstS rn q) hF (fun _=>0) (fun _=>by decide) w1.heap.size 0 0 n v bs hbs w2 hE hT2.cubes (by omega) (hv.away hb3 hs1) (by omega)).mono ?_⟩
  rintro e w' ⟨rfl,hE',hO'⟩
  have hl:w1.heap.size<w2.heap.size:=block_lt_of_cell hE.cnt
  have hb4:Below w.heap.size w w':=hb3.trans (hO'.below hs1 (by omega))
  have hT3:=hT.below hb4 h3
  rw [Nat.zero_add] at hE'
  exact ⟨rfl,hT3.narrow,hE',hb4,hT3.cubes⟩
 have hX:=writeE_lt (r:=rn) (K:=K) (c:=0) (n:=n) hF (fun _=>(by decide:(0:Nat)<256)) hbs
 obtain ⟨X,hXe⟩:∃ X,X=writeE rn K (firstS rn q) (fun _=>0) 0 n bs:=⟨_,rfl⟩
 have HX:Hid (X=writeE rn K (firstS rn q) (fun _=>0) 0 n bs):=hXe
 rw [←hXe] at hkey hX
 have hsum:=fun w' h=>sum32_any K hT.Klt X.1 hX.1 X.2 hX.2 n hn w' h
 clear hXe hv hT hF
 go_enter Tryz.func120,Tryz.ntmps120
 go_wp2_with (first
  | (go_at_call 145;refine hst.mono ?_;clear hst;rintro e w1 ⟨rfl,hb1⟩;obtain ⟨ht,hk2⟩:=hkey w1 hb1;clear hkey)
  | (refine wpList_store_mid rfl 180 _ _ rfl _ 0 _ rfl rfl ht hi hone ?_;rw [List.toList_toArray];obtain ⟨w2,hw2⟩:∃ w2,w2=(w1.alloc (.cells zeng32 180)).setCells w1.heap.size 0 (engVals .u32 (firstS rn q) (fun _=>0) 0):=⟨_,rfl⟩;obtain ⟨⟨r0,r1,r2,r3,r4,r5,r6,r7,r8,r9,r10,r11,r12,r13⟩,hwr⟩:=hk2 w2 hw2;rw [←hw2];clear hw2 hk2 ht hi hone hz)
  | (go_at_call 146;refine hwr.mono ?_;clear hwr;rintro e w5 ⟨rfl,⟨t0,t1,t2,t3,t4,t5,t6,t7,t8,t9,t10,t11,t12,t13⟩,hE5,hB5,hc5⟩)
  | (refine wpList_load_mid rfl 180 _ rfl _ 0 rfl _ _ hE5.range Tryz.underlying180 rfl (by rw [engVals_len];kernel_rfl) ?_)
  | (go_at_call 147;refine (hsum w5 hc5).mono ?_;rintro e w6 ⟨g,rfl,hg,hrow,hb6⟩))
 go_ret
 have e:hashS rn K q n bs=endS rn K X.1 X.2 n:=by rw [HX.out];rfl
 rw [e]
 exact ⟨g,rfl,Nat.le_trans hB5.size hg,hrow,hB5.trans (hb6.mono hB5.size)⟩
end Go.Proofs.YtcgkajlehdgpoaaGreatDoor
namespace Go.Proofs.YtcgkajlehdgpoaaGreatDoor
open Go.RowKit
structure Lists32 (w:World) (g0 g1 g2 g3:Nat):Prop where
 a0:w.cell? ⟨g0,0,none⟩=some (.int .i64 7)
 a1:w.cell? ⟨g0,1,none⟩=some (.int .i64 18)
 a2:w.cell? ⟨g0,2,none⟩=some (.int .i64 3)
 b0:w.cell? ⟨g1,0,none⟩=some (.int .i64 17)
 b1:w.cell? ⟨g1,1,none⟩=some (.int .i64 19)
 b2:w.cell? ⟨g1,2,none⟩=some (.int .i64 10)
 c0:w.cell? ⟨g2,0,none⟩=some (.int .i64 2)
 c1:w.cell? ⟨g2,1,none⟩=some (.int .i64 13)
 c2:w.cell? ⟨g2,2,none⟩=some (.int .i64 22)
 d0:w.cell? ⟨g3,0,none⟩=some (.int .i64 6)
 d1:w.cell? ⟨g3,1,none⟩=some (.int .i64 11)
 d2:w.cell? ⟨g3,2,none⟩=some (.int .i64 25)
theorem Lists32.below {w w':World} {g0 g1 g2 g3:Nat} (h:Lists32 w g0 g1 g2 g3) (hb:Below w.heap.size w w'):Lists32 w' g0 g1 g2 g3:=by
 have k:∀ {g j:Nat} {v:Value},w.cell? ⟨g,j,none⟩=some v→w'.cell? ⟨g,j,none⟩=some v:=fun {g j v} e=>(hb.cell (p:=⟨g,j,none⟩) (block_lt_of_cell e)).trans e
 exact ⟨k h.a0,k h.a1,k h.a2,k h.b0,k h.b1,k h.b2,k h.c0,k h.c1,k h.c2,k h.d0,k h.d1,k h.d2⟩
theorem cut32_any (g0 g1 g2 g3 x:Nat) (hx:x<18446744073709551616) (w:World) :
 Calls Tryz.prog 181 #[(.agg #[.int .i64 32,.int .i64 64,.int .i64 64,.slice (some ⟨g0,0,none⟩) 3 3,.slice (some ⟨g1,0,none⟩) 3 3,.slice (some ⟨g2,0,none⟩) 3 3,.slice (some ⟨g3,0,none⟩) 3 3]),.int .u64 x] w fun e w'=>e = .returned (.int .u64 ((x%2 ^ 32:Nat):Int))∧Below w.heap.size w w':=by
 go_enter Tryz.func181,Tryz.ntmps181
 go_wp2
 go_ret
 refine ⟨retInt ?_,(Below.refl _ _).alloc (Nat.le_refl _) _⟩
 have e1:(4294967295:Int)=((4294967295:Nat):Int):=rfl
 rw [e1,u64_and_nat _ _ hx (by decide)]
 have:=Nat.and_two_pow_sub_one_eq_mod x 32
 rw [←this]
theorem rotR_32 (x n:Nat) (hx:x<2 ^ 32):((x / 2 ^ n) ||| (x*2 ^ (32 - n)%18446744073709551616))%2 ^ 32=rot 32 x n:=by
 unfold rot
 rw [Nat.or_mod_two_pow,Nat.mod_eq_of_lt (Nat.lt_of_le_of_lt (Nat.div_le_self _ _) hx),show (18446744073709551616:Nat)=2 ^ 64 from rfl,Nat.mod_mod_of_dvd _ (Nat.pow_dvd_pow 2 (by decide))]
theorem rotL_32 (x n:Nat) (hx:x<2 ^ 32):rot 32 x n<18446744073709551616:=Nat.lt_of_lt_of_le (rot_lt 32 x n hx) (by decide)
theorem rotB_32 (x n:Nat) (hx:x<2 ^ 32):((x / 2 ^ n) ||| (x*2 ^ (32 - n)%18446744073709551616))<18446744073709551616 :=
 Nat.or_lt_two_pow (n:=64) (Nat.lt_of_le_of_lt (Nat.div_le_self _ _) (Nat.lt_of_lt_of_le hx (by decide))) (Nat.mod_lt _ (by decide))
set_option maxHeartbeats 400000 in
theorem rotr32_any (g0 g1 g2 g3 x n:Nat) (hx:x<2 ^ 32) (hn:n≤32) (w:World) :
 Calls Tryz.prog 189 #[(.agg #[.int .i64 32,.int .i64 64,.int .i64 64,.slice (some ⟨g0,0,none⟩) 3 3,.slice (some ⟨g1,0,none⟩) 3 3,.slice (some ⟨g2,0,none⟩) 3 3,.slice (some ⟨g3,0,none⟩) 3 3]),.int .u64 x,.int .i64 n] w fun e w'=>e = .returned (.int .u64 ((rot 32 x n:Nat):Int))∧Below w.heap.size w w':=by
 have hx':x<18446744073709551616:=Nat.lt_of_lt_of_le hx (by decide)
 have hb:=rotB_32 x n hx
 have hc:=fun W=>cut32_any g0 g1 g2 g3 _ hb W
 have e1:bits .or .u64 ((x:Int) / 2 ^ n) ((x:Int)*2 ^ (32 - n)%18446744073709551616)=(((x / 2 ^ n) ||| (x*2 ^ (32 - n)%18446744073709551616):Nat):Int):=by
  have f1:(x:Int) / 2 ^ n=((x / 2 ^ n:Nat):Int):=by simp
  have f2:(x:Int)*2 ^ (32 - n)%18446744073709551616=((x*2 ^ (32 - n)%18446744073709551616:Nat):Int):=by simp
  rw [f1,f2,u64_or_nat _ _ (Nat.lt_of_le_of_lt (Nat.div_le_self _ _) hx') (Nat.mod_lt _ (by decide))]
 rw [rotR_32 x n hx,←e1] at hc
 clear hx hb e1
 go_enter Tryz.func189,Tryz.ntmps189
 go_wp2_with (go_at_call 181;refine (hc _).mono ?_;rintro e w' ⟨rfl,hb⟩)
 go_ret
 exact ⟨rfl,((Below.refl _ _).alloc (Nat.le_refl _) _).trans (hb.mono (by simp))⟩
def ZBox32 (W:World) (B g0 g1 g2 g3:Nat):Prop:=W.cell? ⟨B,0,none⟩=some (.int .i64 32)∧W.cell? ⟨B,1,none⟩=some (.int .i64 64)∧W.cell? ⟨B,2,none⟩=some (.int .i64 64)∧W.cell? ⟨B,3,none⟩=some (.slice (some ⟨g0,0,none⟩) 3 3)∧W.cell? ⟨B,4,none⟩=some (.slice (some ⟨g1,0,none⟩) 3 3)∧W.cell? ⟨B,5,none⟩=some (.slice (some ⟨g2,0,none⟩) 3 3)∧W.cell? ⟨B,6,none⟩=some (.slice (some ⟨g3,0,none⟩) 3 3)
theorem ZBox32.below {w w':World} {B g0 g1 g2 g3:Nat} (h:ZBox32 w B g0 g1 g2 g3) (hb:Below w.heap.size w w'):ZBox32 w' B g0 g1 g2 g3:=by
 have k:∀ {g j:Nat} {v:Value},w.cell? ⟨g,j,none⟩=some v→w'.cell? ⟨g,j,none⟩=some v:=fun {g j v} e=>(hb.cell (p:=⟨g,j,none⟩) (block_lt_of_cell e)).trans e
 obtain ⟨h0,h1,h2,h3,h4,h5,h6⟩:=h
 exact ⟨k h0,k h1,k h2,k h3,k h4,k h5,k h6⟩
theorem zbox32 (w:World) (g0 g1 g2 g3:Nat):ZBox32 (w.alloc (.cells #[.int .i64 32,.int .i64 64,.int .i64 64,.slice (some ⟨g0,0,none⟩) 3 3,.slice (some ⟨g1,0,none⟩) 3 3,.slice (some ⟨g2,0,none⟩) 3 3,.slice (some ⟨g3,0,none⟩) 3 3] 167)) w.heap.size g0 g1 g2 g3:=by simp [ZBox32]
set_option maxHeartbeats 1000000 in
theorem high32_any (g0 g1 g2 g3 g x a b c:Nat) (hx:x<2 ^ 32) (ha:a≤32) (hb:b≤32) (hc:c≤32) (w:World) (h0:w.cell? ⟨g,0,none⟩=some (.int .i64 a)) (h1:w.cell? ⟨g,1,none⟩=some (.int .i64 b)) (h2:w.cell? ⟨g,2,none⟩=some (.int .i64 c)) :
 Calls Tryz.prog 182 #[(.agg #[.int .i64 32,.int .i64 64,.int .i64 64,.slice (some ⟨g0,0,none⟩) 3 3,.slice (some ⟨g1,0,none⟩) 3 3,.slice (some ⟨g2,0,none⟩) 3 3,.slice (some ⟨g3,0,none⟩) 3 3]),.int .u64 x,.slice (some ⟨g,0,none⟩) 3 3] w fun e w'=>e = .returned (.int .u64 ((hi3 32 x (a,b,c):Nat):Int))∧Below w.heap.size w w':=by
 have hg:g<w.heap.size:=block_lt_of_cell h0
 obtain ⟨W,hW⟩:∃ W,W=w.alloc (.cells #[.int .i64 32,.int .i64 64,.int .i64 64,.slice (some ⟨g0,0,none⟩) 3 3,.slice (some ⟨g1,0,none⟩) 3 3,.slice (some ⟨g2,0,none⟩) 3 3,.slice (some ⟨g3,0,none⟩) 3 3] 167):=⟨_,rfl⟩
 have HW:Hid (W=w.alloc (.cells #[.int .i64 32,.int .i64 64,.int .i64 64,.slice (some ⟨g0,0,none⟩) 3 3,.slice (some ⟨g1,0,none⟩) 3 3,.slice (some ⟨g2,0,none⟩) 3 3,.slice (some ⟨g3,0,none⟩) 3 3] 167)):=hW
 obtain ⟨c0,c1,c2,c3,c4,c5,c6⟩:ZBox32 W w.heap.size g0 g1 g2 g3:=by rw [hW];exact zbox32 w g0 g1 g2 g3
 have hbW:Below w.heap.size w W:=by rw [hW];exact (Below.refl _ _).alloc (Nat.le_refl _) _
 have k0:=(hbW.cell (p:=⟨g,0,none⟩) hg).trans h0
 have k1:=(hbW.cell (p:=⟨g,1,none⟩) hg).trans h1
 have k2:=(hbW.cell (p:=⟨g,2,none⟩) hg).trans h2
 have q0:w.heap.size<W.heap.size:=by rw [hW];simp
 have q1:g<W.heap.size:=by omega
 have hS:∀ w':World,Below W.heap.size W w'→∀ b o,b<W.heap.size→w'.cell? ⟨b,o,none⟩=W.cell? ⟨b,o,none⟩:=fun w' h b o hb=>h.cell (p:=⟨b,o,none⟩) hb
 have hb0:Below W.heap.size W W.drew:=(Below.refl _ _).drew
 clear hW
 go_enter Tryz.func182,Tryz.ntmps182
 go_wp2
 rw [←HW.out]
 go_region_held3 (fun w'=>Below W.heap.size W w') (assumption) (first
  | (go_at_call 189;refine (rotr32_any g0 g1 g2 g3 _ _ hx (by assumption) _).mono ?_;rintro e w' ⟨rfl,hb⟩;have hbn:=below_next (W:=W) (by assumption) hb))
 go_wp2
 go_ret
 refine ⟨retInt ?_,hbW.trans (hbn.mono (by omega))⟩
 rw [u64_xor_nat _ _ (rotL_32 x a hx) (rotL_32 x b hx),u64_xor_nat _ _ (Nat.xor_lt_two_pow (n:=64) (rotL_32 x a hx) (rotL_32 x b hx)) (rotL_32 x c hx)]
 rfl
set_option maxHeartbeats 1000000 in
theorem low32_any (g0 g1 g2 g3 g x a b c:Nat) (hx:x<2 ^ 32) (ha:a≤32) (hb:b≤32) (hc:c≤32) (w:World) (h0:w.cell? ⟨g,0,none⟩=some (.int .i64 a)) (h1:w.cell? ⟨g,1,none⟩=some (.int .i64 b)) (h2:w.cell? ⟨g,2,none⟩=some (.int .i64 c)) :
 Calls Tryz.prog 188 #[(.agg #[.int .i64 32,.int .i64 64,.int .i64 64,.slice (some ⟨g0,0,none⟩) 3 3,.slice (some ⟨g1,0,none⟩) 3 3,.slice (some ⟨g2,0,none⟩) 3 3,.slice (some ⟨g3,0,none⟩) 3 3]),.int .u64 x,.slice (some ⟨g,0,none⟩) 3 3] w fun e w'=>e = .returned (.int .u64 ((lo3 32 x (a,b,c):Nat):Int))∧Below w.heap.size w w':=by
 have hcc:IntKind.u64.wrap (c:Int)=(c:Int):=by simp only [IntKind.wrap_u64];omega
 have hxl:x<18446744073709551616:=Nat.lt_of_lt_of_le hx (by decide)
 have hg:g<w.heap.size:=block_lt_of_cell h0
 obtain ⟨W,hW⟩:∃ W,W=w.alloc (.cells #[.int .i64 32,.int .i64 64,.int .i64 64,.slice (some ⟨g0,0,none⟩) 3 3,.slice (some ⟨g1,0,none⟩) 3 3,.slice (some ⟨g2,0,none⟩) 3 3,.slice (some ⟨g3,0,none⟩) 3 3] 167):=⟨_,rfl⟩
 have HW:Hid (W=w.alloc (.cells #[.int .i64 32,.int .i64 64,.int .i64 64,.slice (some ⟨g0,0,none⟩) 3 3,.slice (some ⟨g1,0,none⟩) 3 3,.slice (some ⟨g2,0,none⟩) 3 3,.slice (some ⟨g3,0,none⟩) 3 3] 167)):=hW
 obtain ⟨c0,c1,c2,c3,c4,c5,c6⟩:ZBox32 W w.heap.size g0 g1 g2 g3:=by rw [hW];exact zbox32 w g0 g1 g2 g3
 have hbW:Below w.heap.size w W:=by rw [hW];exact (Below.refl _ _).alloc (Nat.le_refl _) _
 have k0:=(hbW.cell (p:=⟨g,0,none⟩) hg).trans h0
 have k1:=(hbW.cell (p:=⟨g,1,none⟩) hg).trans h1
 have k2:=(hbW.cell (p:=⟨g,2,none⟩) hg).trans h2
 have q0:w.heap.size<W.heap.size:=by rw [hW];simp
 have q1:g<W.heap.size:=by omega
 have hS:∀ w':World,Below W.heap.size W w'→∀ b o,b<W.heap.size→w'.cell? ⟨b,o,none⟩=W.cell? ⟨b,o,none⟩:=fun w' h b o hb=>h.cell (p:=⟨b,o,none⟩) hb
 have hb0:Below W.heap.size W W.drew:=(Below.refl _ _).drew
 clear hW
 go_enter Tryz.func188,Tryz.ntmps188
 go_wp2
 rw [←HW.out]
 go_region_held3 (fun w'=>Below W.heap.size W w') (assumption) (first
  | (go_at_call 189;refine (rotr32_any g0 g1 g2 g3 _ _ hx (by assumption) _).mono ?_;rintro e w' ⟨rfl,hb⟩;have hbn:=below_next (W:=W) (by assumption) hb))
 go_wp2
 go_ret
 refine ⟨retInt ?_,hbW.trans (hbn.mono (by omega))⟩
 have e1:(x:Int) / 2 ^ c=((x / 2 ^ c:Nat):Int):=by simp
 rw [e1,u64_xor_nat _ _ (rotL_32 x a hx) (rotL_32 x b hx),u64_xor_nat _ _ (Nat.xor_lt_two_pow (n:=64) (rotL_32 x a hx) (rotL_32 x b hx)) (Nat.lt_of_le_of_lt (Nat.div_le_self _ _) hxl)]
 rfl
structure Lists64 (w:World) (g0 g1 g2 g3:Nat):Prop where
 a0:w.cell? ⟨g0,0,none⟩=some (.int .i64 1)
 a1:w.cell? ⟨g0,1,none⟩=some (.int .i64 8)
 a2:w.cell? ⟨g0,2,none⟩=some (.int .i64 7)
 b0:w.cell? ⟨g1,0,none⟩=some (.int .i64 19)
 b1:w.cell? ⟨g1,1,none⟩=some (.int .i64 61)
 b2:w.cell? ⟨g1,2,none⟩=some (.int .i64 6)
 c0:w.cell? ⟨g2,0,none⟩=some (.int .i64 28)
 c1:w.cell? ⟨g2,1,none⟩=some (.int .i64 34)
 c2:w.cell? ⟨g2,2,none⟩=some (.int .i64 39)
 d0:w.cell? ⟨g3,0,none⟩=some (.int .i64 14)
 d1:w.cell? ⟨g3,1,none⟩=some (.int .i64 18)
 d2:w.cell? ⟨g3,2,none⟩=some (.int .i64 41)
theorem Lists64.below {w w':World} {g0 g1 g2 g3:Nat} (h:Lists64 w g0 g1 g2 g3) (hb:Below w.heap.size w w'):Lists64 w' g0 g1 g2 g3:=by
 have k:∀ {g j:Nat} {v:Value},w.cell? ⟨g,j,none⟩=some v→w'.cell? ⟨g,j,none⟩=some v:=fun {g j v} e=>(hb.cell (p:=⟨g,j,none⟩) (block_lt_of_cell e)).trans e
 exact ⟨k h.a0,k h.a1,k h.a2,k h.b0,k h.b1,k h.b2,k h.c0,k h.c1,k h.c2,k h.d0,k h.d1,k h.d2⟩
def ZBox64 (W:World) (B g0 g1 g2 g3:Nat):Prop:=W.cell? ⟨B,0,none⟩=some (.int .i64 64)∧W.cell? ⟨B,1,none⟩=some (.int .i64 128)∧W.cell? ⟨B,2,none⟩=some (.int .i64 80)∧W.cell? ⟨B,3,none⟩=some (.slice (some ⟨g0,0,none⟩) 3 3)∧W.cell? ⟨B,4,none⟩=some (.slice (some ⟨g1,0,none⟩) 3 3)∧W.cell? ⟨B,5,none⟩=some (.slice (some ⟨g2,0,none⟩) 3 3)∧W.cell? ⟨B,6,none⟩=some (.slice (some ⟨g3,0,none⟩) 3 3)
theorem ZBox64.below {w w':World} {B g0 g1 g2 g3:Nat} (h:ZBox64 w B g0 g1 g2 g3) (hb:Below w.heap.size w w'):ZBox64 w' B g0 g1 g2 g3:=by
 have k:∀ {g j:Nat} {v:Value},w.cell? ⟨g,j,none⟩=some v→w'.cell? ⟨g,j,none⟩=some v:=fun {g j v} e=>(hb.cell (p:=⟨g,j,none⟩) (block_lt_of_cell e)).trans e
 obtain ⟨h0,h1,h2,h3,h4,h5,h6⟩:=h
 exact ⟨k h0,k h1,k h2,k h3,k h4,k h5,k h6⟩
end Go.Proofs.YtcgkajlehdgpoaaGreatDoor
namespace Go.Proofs.YtcgkajlehdgpoaaGreatDoor
open Go.RowKit
def wordR (bs:Nat→Nat) (o:Nat):Nat→Nat
 | 0=>0
 | k+1=>(wordR bs o k*256%2 ^ 64) ||| bs (o+k)
theorem step_lt (x b m:Nat) (hx:x<2 ^ m) (hb:b<256):(x*256%2 ^ 64 ||| b)<2 ^ (m+8):=by
 refine Nat.or_lt_two_pow (Nat.lt_of_le_of_lt (Nat.mod_le _ _) ?_) (Nat.lt_of_lt_of_le hb ?_)
 · rw [Nat.pow_add];exact Nat.mul_lt_mul_of_pos_right hx (by decide)
 · rw [Nat.pow_add];exact Nat.le_mul_of_pos_left _ (Nat.two_pow_pos m)
theorem wordR32_lt {bs:Nat→Nat} (hb:∀ j,bs j<256) (o:Nat):wordR bs o 4<2 ^ 32 :=
 step_lt _ _ 24 (step_lt _ _ 16 (step_lt _ _ 8 (step_lt _ _ 0 (by simp [wordR]) (hb _)) (hb _)) (hb _)) (hb _)
theorem Tryz.info53:(Tryz.prog.info? 53).map (fun i=>(i.zero,i.size,i.bytes))=some (some (.int .u64 0),1,8):=by kernel_rfl
theorem sch_succ (r:Ru) (X:Nat→Nat) (k:Nat):sch r X (k+1)=upd (sch r X k) (k+16) (nextW r (sch r X k) k):=rfl
set_option maxRecDepth 20000 in
set_option maxHeartbeats 2000000 in
theorem words32_any (g0 g1 g2 g3 bb ob cap:Nat) (bs:Nat→Nat) (hbs:∀ j,bs j<256) (w:World) (hL:Lists32 w g0 g1 g2 g3) (hcell:∀ j,j<64→w.cell? ⟨bb,ob+j,none⟩=some (.int .u8 (bs j))) :
 Calls Tryz.prog 180 #[(.agg #[.int .i64 32,.int .i64 64,.int .i64 64,.slice (some ⟨g0,0,none⟩) 3 3,.slice (some ⟨g1,0,none⟩) 3 3,.slice (some ⟨g2,0,none⟩) 3 3,.slice (some ⟨g3,0,none⟩) 3 3]),.slice (some ⟨bb,ob,none⟩) 64 cap] w fun e w'=>∃ v,e = .returned v∧w'.ownsRow w.heap.size 53 1 v 64 (ints .u64 64 (sch rn (fun i=>wordR bs (4*i) 4) (64 - 16)))∧Below w.heap.size w w':=by
 obtain ⟨i0,hi,hz0,hz1,hz2⟩:=info_parts Tryz.info53
 have hbb:bb<w.heap.size:=block_lt_of_cell (hcell 0 (by decide))
 go_enter Tryz.func180,Tryz.ntmps180
 go_wp2
 go_loopw [6,7] (fun v i wr=>∃ k:Nat,k≤16∧i = .int .i64 k∧wr.ownsRow (w.heap.size+1) 53 1 v k (ints .u64 k (fun i=>wordR bs (4*i) 4))∧Below (w.heap.size+1) (w.alloc (.cells #[.int .i64 32,.int .i64 64,.int .i64 64,.slice (some ⟨g0,0,none⟩) 3 3,.slice (some ⟨g1,0,none⟩) 3 3,.slice (some ⟨g2,0,none⟩) 3 3,.slice (some ⟨g3,0,none⟩) 3 3] 167)) wr) (fun _ i _=>16 - (intOf i).toNat)
 case atStart=>exact ⟨0,Nat.zero_le _,rfl,World.ownsRow_nil _ _ _ _,Below.refl _ _⟩
 case round =>
  obtain ⟨k,hk,rfl,hown,hbel⟩:=hrel
  by_cases hlt:k<16
  · go_wp2
    go_loop [8,9] (fun x j=>∃ m:Nat,m≤4∧j = .int .i64 m∧x = .int .u64 (wordR bs (4*k) m)) (fun _ j=>4 - (intOf j).toNat)
    case atStart=>exact ⟨0,Nat.zero_le _,rfl,rfl⟩
    case round =>
     obtain ⟨m,hm,rfl,rfl⟩:=hrel
     by_cases hlm:m<4
     · have hc:wr.cell? ⟨bb,ob+(4*k+m),none⟩=some (.int .u8 (bs (4*k+m))):=(hbel.cell (p:=⟨bb,ob+(4*k+m),none⟩) (Nat.lt_succ_of_lt hbb)).trans ((World.cell?_alloc_lt _ _ _ hbb).trans (hcell (4*k+m) (by omega)))
       go_wp2
       go_round
       case rel =>
        refine ⟨m+1,by omega,by go_num,?_⟩
        have e:=or8_64 (wordR bs (4*k) m) (bs (4*k+m)) (hbs _)
        simp only [IntKind.wrap_u64]
        rw [e]
        rfl
       case measure=>simp [intOf];omega
     · have hme:m=4:=by omega
       subst hme
       go_wp2_with (at_builtin;refine wpList_append_lies _ rfl (.tmp 35) (.tmp 37) 194 rfl (w.heap.size+1) 53 i0 (.int .u64 0) 1 8 Tryz.underlying194 hi hz0 hz1 hz2 rfl (by decide) _ _ _ rfl (hown.alloc _) ⟨wr.heap.size,0,none⟩ 1 1 [.int .u64 (wordR bs (4*k) 4)] rfl rfl (one_new _ _ _) (one_cell _ _) (by decide) (by unfold maxLen;omega) (by omega) (by have:=hbel.size;simp only [World.size_alloc] at this ⊢;omega) _ rfl ?_;intro g cap' w1 hown1 hgrow hat hgl)
       go_roundw
       case rel =>
        have hs:=hbel.size
        simp only [World.size_alloc] at hs
        have e:=ints_snoc .u64 k (fun i=>wordR bs (4*i) 4)
        exact ⟨k+1,by omega,by go_num,by rw [←e];exact hown1,below_grown (hbel.alloc hs _) hgrow (hown.alloc _) (Nat.le_refl _) (by simp only [World.size_alloc];omega)⟩
       case measure=>simp [intOf];omega
  · have hke:k=16:=by omega
    subst hke
    have hX:∀ j,(fun i=>wordR bs (4*i) 4) j<2 ^ 32:=fun j=>wordR32_lt hbs (4*j)
    obtain ⟨X,hXe⟩:∃ X:Nat→Nat,X=fun i=>wordR bs (4*i) 4:=⟨_,rfl⟩
    have HX:Hid (X=fun i=>wordR bs (4*i) 4):=hXe
    rw [←hXe] at hown hX
    clear hXe hcell hbb hbs
    go_wp2
    go_loopw [6,10] (fun v t w2=>∃ k:Nat,k≤64 - 16∧t = .int .i64 ((k:Int)+16)∧w2.ownsRow (w.heap.size+1) 53 1 v (k+16) (ints .u64 (k+16) (sch rn X k))∧Below (w.heap.size+1) (w.alloc (.cells #[.int .i64 32,.int .i64 64,.int .i64 64,.slice (some ⟨g0,0,none⟩) 3 3,.slice (some ⟨g1,0,none⟩) 3 3,.slice (some ⟨g2,0,none⟩) 3 3,.slice (some ⟨g3,0,none⟩) 3 3] 167)) w2) (fun _ t _=>64 - (intOf t).toNat)
    case atStart=>exact ⟨0,Nat.zero_le _,rfl,hown,hbel⟩
    case round =>
     clear hown hbel
     obtain ⟨k,hk,rfl,hown,hbel⟩:=hrel
     have hs1:=hbel.size
     simp only [World.size_alloc] at hs1
     have hbw:Below w.heap.size w wr:=((Below.refl _ _).alloc (Nat.le_refl _) _).trans (hbel.mono (by omega))
     have hZ:ZBox32 wr w.heap.size g0 g1 g2 g3:=by
      have hc:∀ j,wr.cell? ⟨w.heap.size,j,none⟩=(w.alloc (.cells #[.int .i64 32,.int .i64 64,.int .i64 64,.slice (some ⟨g0,0,none⟩) 3 3,.slice (some ⟨g1,0,none⟩) 3 3,.slice (some ⟨g2,0,none⟩) 3 3,.slice (some ⟨g3,0,none⟩) 3 3] 167)).cell? ⟨w.heap.size,j,none⟩:=fun j=>hbel.cell (p:=⟨w.heap.size,j,none⟩) (Nat.lt_succ_self _)
      have h:=zbox32 w g0 g1 g2 g3
      unfold ZBox32 at *
      simp only [hc]
      exact h
     by_cases hlt:k<64 - 16
     · obtain ⟨gg,cc,hv,hgb,hgl⟩:=hown.form (by omega)
       subst hv
       have hu:=fun j=>sch_lt (r:=rn) hX k j
       have rr:∀ j,j<k+16→wr.cell? ⟨gg,j,none⟩=some (.int .u64 (sch rn X k j)):=fun j hj=>by
        rw [hown.cellAt j (by omega),ints_at _ _ _ j hj]
       have r14:=rr (k+14) (by omega)
       have r9:=rr (k+9) (by omega)
       have r1:=rr (k+1) (by omega)
       have r0:=rr k (by omega)
       obtain ⟨a14,e14⟩:∃ a,a=sch rn X k (k+14):=⟨_,rfl⟩
       obtain ⟨a9,e9⟩:∃ a,a=sch rn X k (k+9):=⟨_,rfl⟩
       obtain ⟨a1,e1⟩:∃ a,a=sch rn X k (k+1):=⟨_,rfl⟩
       obtain ⟨a0,e0⟩:∃ a,a=sch rn X k k:=⟨_,rfl⟩
       have HN:Hid (nextW rn (sch rn X k) k=(lo3 32 a14 (17,19,10)+a9+lo3 32 a1 (7,18,3)+a0)%2 ^ 32):=(by rw [e14,e9,e1,e0];rfl:nextW rn (sch rn X k) k=(lo3 32 a14 (17,19,10)+a9+lo3 32 a1 (7,18,3)+a0)%2 ^ 32)
       have u14:a14<2 ^ 32:=by rw [e14];exact hu _
       have u1:a1<2 ^ 32:=by rw [e1];exact hu _
       rw [←e14] at r14
       rw [←e9] at r9
       rw [←e1] at r1
       rw [←e0] at r0
       clear rr e14 e9 e1 e0 hu
       obtain ⟨b1,f1⟩:∃ a,a=lo3 32 a14 (17,19,10):=⟨_,rfl⟩
       obtain ⟨b2,f2⟩:∃ a,a=lo3 32 a1 (7,18,3):=⟨_,rfl⟩
       have hS1:∀ w':World,Seen (w.heap.size+1) gg (k+16) wr w'→∀ b o,b<w.heap.size+1→w'.cell? ⟨b,o,none⟩=wr.cell? ⟨b,o,none⟩:=fun w' h=>h.1
       have hS2:∀ w':World,Seen (w.heap.size+1) gg (k+16) wr w'→∀ q,q<k+16→w'.cell? ⟨gg,q,none⟩=wr.cell? ⟨gg,q,none⟩:=fun w' h=>h.2
       have hlow1:∀ W':World,Below wr.heap.size wr W'→Calls Tryz.prog 188 #[(.agg #[.int .i64 32,.int .i64 64,.int .i64 64,.slice (some ⟨g0,0,none⟩) 3 3,.slice (some ⟨g1,0,none⟩) 3 3,.slice (some ⟨g2,0,none⟩) 3 3,.slice (some ⟨g3,0,none⟩) 3 3]),.int .u64 a14,.slice (some ⟨g1,0,none⟩) 3 3] W' fun e w'=>e = .returned (.int .u64 (b1:Int))∧Below W'.heap.size W' w':=fun W' h=>by
        have L:=hL.below (hbw.trans (h.mono (by omega)))
        rw [f1]
        exact low32_any g0 g1 g2 g3 g1 _ 17 19 10 u14 (by decide) (by decide) (by decide) W' L.b0 L.b1 L.b2
       have hlow2:∀ W':World,Below wr.heap.size wr W'→Calls Tryz.prog 188 #[(.agg #[.int .i64 32,.int .i64 64,.int .i64 64,.slice (some ⟨g0,0,none⟩) 3 3,.slice (some ⟨g1,0,none⟩) 3 3,.slice (some ⟨g2,0,none⟩) 3 3,.slice (some ⟨g3,0,none⟩) 3 3]),.int .u64 a1,.slice (some ⟨g0,0,none⟩) 3 3] W' fun e w'=>e = .returned (.int .u64 (b2:Int))∧Below W'.heap.size W' w':=fun W' h=>by
        have L:=hL.below (hbw.trans (h.mono (by omega)))
        rw [f2]
        exact low32_any g0 g1 g2 g3 g0 _ 7 18 3 u1 (by decide) (by decide) (by decide) W' L.a0 L.a1 L.a2
       obtain ⟨nx,hnx⟩:∃ a,a=nextW rn (sch rn X k) k:=⟨_,rfl⟩
       have HNX:Hid (nx=nextW rn (sch rn X k) k):=hnx
       have hcut:∀ W':World,Calls Tryz.prog 181 #[(.agg #[.int .i64 32,.int .i64 64,.int .i64 64,.slice (some ⟨g0,0,none⟩) 3 3,.slice (some ⟨g1,0,none⟩) 3 3,.slice (some ⟨g2,0,none⟩) 3 3,.slice (some ⟨g3,0,none⟩) 3 3]),.int .u64 (IntKind.u64.wrap (IntKind.u64.wrap (IntKind.u64.wrap ((b1:Int)+a9)+b2)+a0))] W' fun e w'=>e = .returned (.int .u64 (nx:Int))∧Below W'.heap.size W' w':=fun W'=>by
        have e1:=sum4_64 b1 a9 b2 a0
        simp only [IntKind.wrap_u64]
        rw [e1]
        have h:=cut32_any g0 g1 g2 g3 ((b1+a9+b2+a0)%2 ^ 64) (Nat.mod_lt _ (by decide)) W'
        rw [Nat.mod_mod_of_dvd _ (Nat.pow_dvd_pow 2 (by decide))] at h
        rw [hnx,HN.out,←f1,←f2]
        exact h
       clear hnx f1 f2 u14 u1 HN hL hX
       have hb0:Below wr.heap.size wr wr.drew:=(Below.refl _ _).drew
       have hki:(k:Int)<64 - 16:=by omega
       have k80:k<64:=by omega
       have x14:IntKind.i64.wrap ((k:Int)+16 - 2)=(k:Int)+14:=by simp only [IntKind.wrap_i64];omega
       have x9:IntKind.i64.wrap ((k:Int)+16 - 7)=(k:Int)+9:=by simp only [IntKind.wrap_i64];omega
       have x1:IntKind.i64.wrap ((k:Int)+16 - 15)=(k:Int)+1:=by simp only [IntKind.wrap_i64];omega
       have x0:IntKind.i64.wrap (k:Int)=(k:Int):=by simp only [IntKind.wrap_i64];omega
       have y14:((k:Int)+14).toNat=k+14:=by omega
       have y9:((k:Int)+9).toNat=k+9:=by omega
       have y1:((k:Int)+1).toNat=k+1:=by omega
       have l14:(0:Int)≤(k:Int)+14∧(k:Int)+14<(k:Int)+16:=by omega
       have l9:(0:Int)≤(k:Int)+9∧(k:Int)+9<(k:Int)+16:=by omega
       have l1:(0:Int)≤(k:Int)+1∧(k:Int)+1<(k:Int)+16:=by omega
       have l0:(0:Int)≤(k:Int)∧(k:Int)<(k:Int)+16:=by omega
       have n0:k<k+16:=by omega
       have hm1:k+16+1≤maxLen:=by unfold maxLen;omega
       have hm2:(k+16+1)*8≤140737488355328:=by omega
       have hm3:∀ W':World,Below wr.heap.size wr W'→∀ ob:Obj,w.heap.size+1≤(W'.alloc ob).heap.size:=fun W' h ob=>by have:=h.size;simp only [World.size_alloc];omega
       obtain ⟨z0,z1,z2,z3,z4,z5,z6⟩:=hZ
       go_wp2
       go_region_held3 (fun w'=>Seen (w.heap.size+1) gg (k+16) wr w') (first | assumption | exact Seen.of_below (by assumption) (by omega) hgl | exact Seen.of_below (Below.alloc (by assumption) (Below.size (by assumption)) _) (by omega) hgl) (first
        | (go_at_call_of 188 a14;refine (hlow1 _ (by assumption)).mono ?_;rintro e w' ⟨rfl,hb⟩;have hbn:=below_next (W:=wr) (by assumption) hb)
        | (go_at_call_of 188 a1;refine (hlow2 _ (by assumption)).mono ?_;rintro e w' ⟨rfl,hb⟩;have hbn:=below_next (W:=wr) (by assumption) hb)
        | (go_at_call 181;refine (hcut _).mono ?_;rintro e w' ⟨rfl,hb⟩;have hbn:=below_next (W:=wr) (by assumption) hb)
        | (refine step_append_keep rfl (.tmp 45) (.tmp 79) 194 rfl (w.heap.size+1) 53 i0 (.int .u64 0) 8 Tryz.underlying194 hi hz0 hz1 hz2 rfl gg cc (k+16) _ rfl ((own_below hown (by assumption)).alloc _) ⟨_,0,none⟩ 1 (.int .u64 nx) rfl (one_new _ _ _) rfl hm1 hm2 (hm3 _ hbn _) ?_;intro g' cap' w1 hown1 hgrow hq;have hseen:Seen (w.heap.size+1) gg (k+16) wr w1:=seen_append (hbn.alloc hbn.size _) hgrow hq hgb hs1 hgl))
       clear hS1 hS2 hlow1 hlow2 hcut hb0 x14 x9 x1 x0 y14 y9 y1 l14 l9 l1 l0 r14 r9 r1 r0 z0 z1 z2 z3 z4 z5 z6 hm1 hm2 hm3 hseen
       go_wp2
       go_roundw
       case rel =>
        have e0:=ints_congr .u64 (k+16) (sch rn X k) (sch rn X (k+1)) (fun j hj=>by rw [sch_succ];unfold upd;rw [if_neg (by omega)])
        have e1:=ints_snoc .u64 (k+16) (sch rn X (k+1))
        have e2:sch rn X (k+1) (k+16)=nx:=by rw [HNX.out,sch_succ];unfold upd;rw [if_pos rfl]
        rw [e2] at e1
        have hfin:w1.ownsRow (w.heap.size+1) 53 1 (.slice (some ⟨g',0,none⟩) (k+16+1) cap') (k+1+16) (ints .u64 (k+1+16) (sch rn X (k+1))):=by
         rw [show k+1+16=k+16+1 by omega,←e1,←e0];exact hown1
        have hbf:Below (w.heap.size+1) (w.alloc (.cells #[.int .i64 32,.int .i64 64,.int .i64 64,.slice (some ⟨g0,0,none⟩) 3 3,.slice (some ⟨g1,0,none⟩) 3 3,.slice (some ⟨g2,0,none⟩) 3 3,.slice (some ⟨g3,0,none⟩) 3 3] 167)) w1:=(hbel.trans ((hbn.alloc hbn.size _).mono hs1)).grown hgrow (by have:=hbn.size;simp only [World.size_alloc];omega) (fun q h=>by cases h;exact hgb)
        repeat apply Exists.intro
        refine ⟨?_,rfl⟩
        exact ⟨k+1,by omega,by go_num,hfin,hbf⟩
       case measure=>simp [intOf];omega
     · have hke:k=64 - 16:=by omega
       subst hke
       obtain ⟨z0,z1,z2,z3,z4,z5,z6⟩:=hZ
       go_wp2
       go_ret
       rw [←HX.out]
       exact ⟨_,rfl,own_base hown (by omega),hbw⟩
end Go.Proofs.YtcgkajlehdgpoaaGreatDoor
