/- What the proof stands on: HSum, HTop, HRefSmall, HPlain, HCert, HConsts, HHashM. -/
import Derived.Test.YtcgkajlehdgpoaaGreatDoorBtsM
import Derived.Test.YtcgkajlehdgpoaaGreatDoorHMixM
import Derived.Test.YtcgkajlehdgpoaaGreatDoorHWriteAM
import Derived.ArgAppend
import Derived.Deep.AppendLies
import Derived.Deep.Cut
import Derived.Deep.RegionLawGrows
import Derived.Deep.RegionWith
import Derived.Deep.Upon
namespace Go.Proofs.YtcgkajlehdgpoaaGreatDoor
open Go.RowKit
def endS (r:Ru) (K:Nat→Nat) (s:St) (R:Nat→Nat) (c:Nat):St:=(writeE r K s R c (padN r c) (padF r c)).1
def outB (m:Nat) (s:St) (j:Nat):Nat:=s.at (j / (m / 8)) / 2 ^ (m - 8 - j%(m / 8)*8)%256
def outG (m:Nat) (s:St):Nat→Nat→Nat
 | 0=>fun _=>0
 | k+1=>upd (outG m s k) k (outB m s k)
theorem outG_at (m:Nat) (s:St):∀ k j,j<k→outG m s k j=outB m s j
 | k+1,j,h=>by
  unfold outG upd
  by_cases e:j=k
  · rw [if_pos e,e]
  · rw [if_neg e];exact outG_at m s k j (by omega)
theorem padF_lt (r:Ru) (c:Nat):∀ j,padF r c j<256:=by
 suffices h:∀ N i j,padG N c i j<256 from h _ _
 intro N i
 induction i with
 | zero =>
  intro j;unfold padG upd;split
  · omega
  · exact Nat.zero_lt_succ _
 | succ i ih =>
  intro j;unfold padG upd;split
  · exact Nat.mod_lt _ (by decide)
  · exact ih j
theorem padN32_le (c:Nat):padN rn c≤200:=by
 show 1+(4*32 - 1 - 32 / 4 - c%(2*32))%(2*32)+32 / 4≤200
 omega
set_option maxRecDepth 20000 in
set_option maxHeartbeats 1000000 in
theorem sum32_any (K:Nat→Nat) (hK:∀ j,K j<18446744073709551616) (s:St) (hs:s.lt 4294967296) (R:Nat→Nat) (hR:∀ j,R j<256) (c:Nat) (hc:c<2305843009213693952) (w:World)
 (hcub:∀ j,j<80→w.cell? ⟨3,j,none⟩=some (.int .u64 (K j))) :
 Calls Tryz.prog 147 #[.agg (engVals .u32 s R c).toArray,(.agg #[.int .i64 32,.int .i64 64,.int .u64 7,.int .u64 18,.int .u64 3,.int .u64 17,.int .u64 19,.int .u64 10,.int .u64 2,.int .u64 13,.int .u64 22,.int .u64 6,.int .u64 11,.int .u64 25])] w
  fun e w'=>∃ g,e = .returned (.slice (some ⟨g,0,none⟩) 32 32)∧w.heap.size≤g∧RowAt .u8 w' g 0 32 (outB 32 (endS rn K s R c))∧Below w.heap.size w w':=by
 have h3:3<w.heap.size:=block_lt_of_cell (hcub 0 (by decide))
 obtain ⟨W2,hW2⟩:∃ W2,W2=(w.alloc (.cells (engVals .u32 s R c).toArray 180)).alloc (.cells #[.int .i64 32,.int .i64 64,.int .u64 7,.int .u64 18,.int .u64 3,.int .u64 17,.int .u64 19,.int .u64 10,.int .u64 2,.int .u64 13,.int .u64 22,.int .u64 6,.int .u64 11,.int .u64 25] 184):=⟨_,rfl⟩
 have hE:EngAt .u32 W2 w.heap.size 0 s R c:=by rw [hW2];exact (EngAt.fresh w s R c 180).below ((Below.refl _ _).alloc (Nat.le_refl _) _)
 have hRu:Rules32 W2 (w.heap.size+1):=by
  have:=Rules32.of_box (W:=w.alloc (.cells (engVals .u32 s R c).toArray 180)) (w1:=W2) (by rw [hW2];exact Below.refl _ _)
  rw [World.size_alloc] at this;exact this
 have hcub2:∀ j,j<80→W2.cell? ⟨3,j,none⟩=some (.int .u64 (K j)):=fun j hj=>by
  rw [hW2,World.cell?_alloc_lt _ _ _ (by simp;omega),World.cell?_alloc_lt _ _ _ h3];exact hcub j hj
 have hB2:Below w.heap.size w W2:=by rw [hW2];exact ((Below.refl _ _).alloc (Nat.le_refl _) _).alloc (by simp) _
 have hz2:W2.heap.size=w.heap.size+1+1:=by rw [hW2];simp
 have HW2:Hid (W2=(w.alloc (.cells (engVals .u32 s R c).toArray 180)).alloc (.cells #[.int .i64 32,.int .i64 64,.int .u64 7,.int .u64 18,.int .u64 3,.int .u64 17,.int .u64 19,.int .u64 10,.int .u64 2,.int .u64 13,.int .u64 22,.int .u64 6,.int .u64 11,.int .u64 25] 184)):=hW2
 clear hW2
 go_enter Tryz.func147,Tryz.ntmps147
 go_wp2
 rw [←HW2.out]
 obtain ⟨p0,p1,p2,p3,p4,p5,p6,p7,p8,p9,p10,p11,p12,p13⟩:=id hRu
 have hcn:=hE.cnt
 rw [Nat.zero_add] at hcn
 have hb0:Below W2.heap.size W2 W2.drew:=(Below.refl _ _).drew
 have hpad:=padding32_any c hc W2.drew
 have HZ2:Hid (W2.heap.size=w.heap.size+1+1):=hz2
 clear hz2 hcub
 have hw:∀ (w1:World) (g:Nat),W2.drew.heap.size≤g→RowAt .u8 w1 g 0 (padN rn c) (padF rn c)→Below W2.drew.heap.size W2.drew w1 →
  Rules32 w1 (w.heap.size+1)∧Calls Tryz.prog 146 #[.pointer (some ⟨w.heap.size,0,none⟩),(.agg #[.int .i64 32,.int .i64 64,.int .u64 7,.int .u64 18,.int .u64 3,.int .u64 17,.int .u64 19,.int .u64 10,.int .u64 2,.int .u64 13,.int .u64 22,.int .u64 6,.int .u64 11,.int .u64 25]),.slice (some ⟨g,0,none⟩) (padN rn c) (padN rn c)] w1
   fun e w'=>e = .returned (.tuple #[])∧EngAt .u32 w' w.heap.size 0 (writeE rn K s R c (padN rn c) (padF rn c)).1 (writeE rn K s R c (padN rn c) (padF rn c)).2 (c+padN rn c)∧Rules32 w' (w.heap.size+1)∧Below w.heap.size w w':=fun w1 g hg hrow hb=>by
  have hb':=below_next hb0 hb
  have hz:=HZ2.out
  have hg':w.heap.size+1+1≤g:=by simp only [World.size_drew] at hg;omega
  have hR1:=hRu.below hb' (by omega)
  refine ⟨hR1,(write32_any K hK s hs R hR w.heap.size 0 c (padN rn c) _ (padF rn c) (padF_lt _ _) w1 (hE.below hb') (fun j hj=>(hb'.cell (p:=⟨3,j,none⟩) (by show 3<_;omega)).trans (hcub2 j hj)) (by omega) (.inr ⟨g,0,_,rfl,by omega,Nat.le_refl _,fun j hj=>(hrow j hj).1⟩) (by have:=padN32_le c;omega)).mono ?_⟩
  rintro e w' ⟨rfl,hE',hO'⟩
  have hs':=hb'.size
  exact ⟨rfl,hE',hR1.same (fun q=>hO'.cell' (by omega) (by omega)),hB2.trans ((hb'.mono (by omega)).trans (hO'.below (Nat.le_refl _) (by omega)))⟩
 go_cut [] from 8 (fun wc=>EngAt .u32 wc w.heap.size 0 (writeE rn K s R c (padN rn c) (padF rn c)).1 (writeE rn K s R c (padN rn c) (padF rn c)).2 (c+padN rn c)∧Rules32 wc (w.heap.size+1)∧Below w.heap.size w wc)
 case first =>
  go_region_with (first
   | (go_at_call 171;refine hpad.mono ?_;rintro e w1 ⟨g,rfl,hg,hrow,hb1⟩;obtain ⟨⟨r0,r1,r2,r3,r4,r5,r6,r7,r8,r9,r10,r11,r12,r13⟩,hwc⟩:=hw w1 g hg hrow hb1)
   | (go_at_call 146;refine hwc.mono ?_;rintro e w5 ⟨rfl,hE5,hR5,hB5⟩))
  all_goals
   go_wp2
   go_meet
   case rel=>exact ⟨hE5,hR5,hB5⟩
 case rest =>
  obtain ⟨hE5,hR5,hB5⟩:=hcut
  have hs5:(writeE rn K s R c (padN rn c) (padF rn c)).1.lt 4294967296:=(writeE_lt (r:=rn) hs hR (padF_lt _ _)).1
  have HS5:Hid (endS rn K s R c=(writeE rn K s R c (padN rn c) (padF rn c)).1):=(rfl:endS rn K s R c=(writeE rn K s R c (padN rn c) (padF rn c)).1)
  have hst:=hE5.st
  obtain ⟨x,hx⟩:∃ x,x=(writeE rn K s R c (padN rn c) (padF rn c)).1:=⟨_,rfl⟩
  have HX:Hid (x=(writeE rn K s R c (padN rn c) (padF rn c)).1):=hx
  rw [←hx] at hs5 hst
  clear hx
  have c0:=hR5.1
  have hmk:=fun W=>make_bytes W 32 32 rfl (by decide)
  clear hw hpad hb0 hcn p0 p1 p2 p3 p4 p5 p6 p7 p8 p9 p10 p11 p12 p13 hRu hcub2 hE hB2 HW2 HZ2 hE5
  have hwl:w.heap.size<wc.heap.size:=block_lt_of_cell (hst 0 (by decide)).1
  have hwl1:w.heap.size+1<wc.heap.size:=block_lt_of_cell c0
  go_wp2
  clear hmk
  go_loopw [22] (fun i wr=>∃ k:Nat,k≤32∧i = .int .i64 k∧RowAt .u8 wr wc.heap.size 0 32 (outG 32 x k)∧Below wc.heap.size wc wr) (fun i _=>32 - (intOf i).toNat)
  case atStart=>exact ⟨0,Nat.zero_le _,rfl,RowAt.fresh (fun j hj=>zb_at 32 j hj),(Below.refl _ _).alloc (Nat.le_refl _) _⟩
  case round =>
   obtain ⟨k,hk,rfl,hrow,hbel⟩:=hrel
   by_cases hlt:k<32
   · have rs:wr.cell? ⟨w.heap.size,k / 4,none⟩=some (.int .u32 (x.at (k / 4))):=by
      have:=(hst (k / 4) (by omega)).1
      rw [Nat.zero_add] at this
      exact (hbel.cell (p:=⟨w.heap.size,k / 4,none⟩) hwl).trans this
     have rr:wr.cell? ⟨w.heap.size+1,0,none⟩=some (.int .i64 32):=(hbel.cell (p:=⟨w.heap.size+1,0,none⟩) hwl1).trans c0
     obtain ⟨rg,rf⟩:=hrow k hlt
     rw [Nat.zero_add] at rg rf
     have hq:k / 4<8:=by omega
     go_wp2
     go_region
     go_wp2
     go_roundw
     case rel =>
      have h1:=hrow.set (i:=k) hlt (v:=(x.at (k / 4):Int) / 2 ^ (32 - 8 - k%4*8)%256) (u:=outB 32 x k) (by show _=((x.at (k / (32 / 8)) / 2 ^ (32 - 8 - k%(32 / 8)*8)%256:Nat):Int);simp)
      rw [Nat.zero_add] at h1
      exact ⟨k+1,by omega,by go_num,h1.drew,(hbel.setCell (Nat.le_refl _) _).drew⟩
     case measure=>simp [intOf];omega
   · have hke:k=32:=by omega
     subst hke
     go_wp2
     go_ret
     refine ⟨wc.heap.size,rfl,hB5.size,hrow.cong (fun j hj => ?_),hB5.trans (hbel.mono hB5.size)⟩
     rw [outG_at _ _ _ _ hj,HS5.out,←HX.out]
end Go.Proofs.YtcgkajlehdgpoaaGreatDoor
namespace Go.Proofs.YtcgkajlehdgpoaaGreatDoor
open Go.RowKit
structure HTab (w:World) (K q:Nat→Nat):Prop where
 cubes:∀ j,j<80→w.cell? ⟨3,j,none⟩=some (.int .u64 (K j))
 squares:∀ j,j<8→w.cell? ⟨1,j,none⟩=some (.int .u64 (q j))
 narrow:Rules32 w 0
 wide:Rules64 w 2
 Klt:∀ j,K j<18446744073709551616
 qlt:∀ j,q j<18446744073709551616
theorem HTab.size {w:World} {K q:Nat→Nat} (h:HTab w K q):3<w.heap.size:=block_lt_of_cell (h.cubes 0 (by decide))
theorem HTab.below {w w':World} {K q:Nat→Nat} (h:HTab w K q) {n:Nat} (hb:Below n w w') (hn:3<n):HTab w' K q :=
 ⟨fun j hj=>(hb.cell (p:=⟨3,j,none⟩) hn).trans (h.cubes j hj),fun j hj=>(hb.cell (p:=⟨1,j,none⟩) (by show 1<n;omega)).trans (h.squares j hj),h.narrow.below hb (by omega),h.wide.below hb (by omega),h.Klt,h.qlt⟩
theorem firstS_lt (r:Ru) (q:Nat→Nat) (hm:r.m≤64) (hq:∀ j,q j<18446744073709551616):(firstS r q).lt (2 ^ r.m):=by
 have h:∀ j,q j / 2 ^ (64 - r.m)<2 ^ r.m:=fun j=>by
  rw [Nat.div_lt_iff_lt_mul (Nat.two_pow_pos _),←Nat.pow_add,show r.m+(64 - r.m)=64 by omega];exact hq j
 exact ⟨h 0,h 1,h 2,h 3,h 4,h 5,h 6,h 7⟩
def hashS (r:Ru) (K q:Nat→Nat) (n:Nat) (bs:Nat→Nat):St:=endS r K (writeE r K (firstS r q) (fun _=>0) 0 n bs).1 (writeE r K (firstS r q) (fun _=>0) 0 n bs).2 n
theorem BytesIn.away {w w':World} {v:Value} {n:Nat} {bs:Nat→Nat} (h:BytesIn w v n bs) (hb:Below w.heap.size w w') {b:Nat} (hn:w.heap.size≤b):Bytes w' b v n bs:=by
 rcases h with h | ⟨bb,ob,cap,rfl,h1,h2,h3⟩
 · exact .inl h
 · exact .inr ⟨bb,ob,cap,rfl,by omega,h2,fun j hj=>(hb.cell (p:=⟨bb,ob+j,none⟩) h1).trans (h3 j hj)⟩
theorem there_new32 (w:World):(w.alloc (.cells zeng32 180)).there w.heap.size 0 137:=(EngAt.fresh (K := .u32) w zSt (fun _=>0) 0 180).there
set_option maxRecDepth 20000 in
set_option maxHeartbeats 1000000 in
theorem Sum256_any (K q:Nat→Nat) (v:Value) (n:Nat) (bs:Nat→Nat) (hbs:∀ j,bs j<256) (w:World) (hT:HTab w K q) (hv:BytesIn w v n bs) (hn:n<2305843009213693952) :
 Calls Tryz.prog 120 #[v] w
  fun e w'=>∃ g,e = .returned (.slice (some ⟨g,0,none⟩) 32 32)∧w.heap.size≤g∧RowAt .u8 w' g 0 32 (outB 32 (hashS rn K q n bs))∧Below w.heap.size w w':=by
 have hz:=zero180
 obtain ⟨p0,p1,p2,p3,p4,p5,p6,p7,p8,p9,p10,p11,p12,p13⟩:=id hT.narrow
 have hst:=start32_any q hT.qlt w hT.squares
 have hi:=isz180 .u32 (firstS rn q) (fun _=>0) 0
 have hone:=all_oneCell_toArray (engVals_one .u32 (firstS rn q) (fun _=>0) 0)
 have hF:(firstS rn q).lt 4294967296:=firstS_lt rn q (by decide) hT.qlt
 have hkey:∀ w1:World,Below w.heap.size w w1→(w1.alloc (.cells zeng32 180)).there w1.heap.size 0 (engVals .u32 (firstS rn q) (fun _=>0) 0).toArray.size∧∀ w2,w2=(w1.alloc (.cells zeng32 180)).setCells w1.heap.size 0 (engVals .u32 (firstS rn q) (fun _=>0) 0)→Rules32 w2 0∧Calls Tryz.prog 146 #[.pointer (some ⟨w1.heap.size,0,none⟩),(.agg #[.int .i64 32,.int .i64 64,.int .u64 7,.int .u64 18,.int .u64 3,.int .u64 17,.int .u64 19,.int .u64 10,.int .u64 2,.int .u64 13,.int .u64 22,.int .u64 6,.int .u64 11,.int .u64 25]),v] w2 fun e w'=>e = .returned (.tuple #[])∧Rules32 w' 0∧EngAt .u32 w' w1.heap.size 0 (writeE rn K (firstS rn q) (fun _=>0) 0 n bs).1 (writeE rn K (firstS rn q) (fun _=>0) 0 n bs).2 n∧Below w.heap.size w w'∧∀ j,j<80→w'.cell? ⟨3,j,none⟩=some (.int .u64 (K j)):=fun w1 hb1=>by
  refine ⟨by simp only [List.size_toArray,engVals_len];exact there_new32 w1,fun w2 hw2 => ?_⟩
  have h3:=hT.size
  have hs1:=hb1.size
  have hE:EngAt .u32 w2 w1.heap.size 0 (firstS rn q) (fun _=>0) 0:=by rw [hw2];exact EngAt.stored (there_new32 w1) _ _ _
  have hb2:Below w1.heap.size w1 w2:=by rw [hw2];exact below_setCells (Nat.le_refl _) _ _ _ ((Below.refl _ _).alloc (Nat.le_refl _) _)
  have hb3:Below w.heap.size w w2:=hb1.trans (hb2.mono hs1)
  have hT2:=hT.below hb3 h3
  refine ⟨hT2.narrow,(write32_any K hT.Klt (firstS rn q) hF (fun _=>0) (fun _=>by decide) w1.heap.size 0 0 n v bs hbs w2 hE hT2.cubes (by omega) (hv.away hb3 hs1) (by omega)).mono ?_⟩
  rintro e w' ⟨rfl,hE',hO'⟩
  have hl:w1.heap.size<w2.heap.size:=block_lt_of_cell hE.cnt
  have hb4:Below w.heap.size w w':=hb3.trans (hO'.below hs1 (by omega))
  have hT3:=hT.below hb4 h3
  rw [Nat.zero_add] at hE'
  exact ⟨rfl,hT3.narrow,hE',hb4,hT3.cubes⟩
 have hX:=writeE_lt (r:=rn) (K:=K) (c:=0) (n:=n) hF (fun _=>(by decide:(0:Nat)<256)) hbs
 obtain ⟨X,hXe⟩:∃ X,X=writeE rn K (firstS rn q) (fun _=>0) 0 n bs:=⟨_,rfl⟩
 have HX:Hid (X=writeE rn K (firstS rn q) (fun _=>0) 0 n bs):=hXe
 rw [←hXe] at hkey hX
 have hsum:=fun w' h=>sum32_any K hT.Klt X.1 hX.1 X.2 hX.2 n hn w' h
 clear hXe hv hT hF
 go_enter Tryz.func120,Tryz.ntmps120
 go_wp2_with (first
  | (go_at_call 145;refine hst.mono ?_;clear hst;rintro e w1 ⟨rfl,hb1⟩;obtain ⟨ht,hk2⟩:=hkey w1 hb1;clear hkey)
  | (refine wpList_store_mid rfl 180 _ _ rfl _ 0 _ rfl rfl ht hi hone ?_;rw [List.toList_toArray];obtain ⟨w2,hw2⟩:∃ w2,w2=(w1.alloc (.cells zeng32 180)).setCells w1.heap.size 0 (engVals .u32 (firstS rn q) (fun _=>0) 0):=⟨_,rfl⟩;obtain ⟨⟨r0,r1,r2,r3,r4,r5,r6,r7,r8,r9,r10,r11,r12,r13⟩,hwr⟩:=hk2 w2 hw2;rw [←hw2];clear hw2 hk2 ht hi hone hz)
  | (go_at_call 146;refine hwr.mono ?_;clear hwr;rintro e w5 ⟨rfl,⟨t0,t1,t2,t3,t4,t5,t6,t7,t8,t9,t10,t11,t12,t13⟩,hE5,hB5,hc5⟩)
  | (refine wpList_load_mid rfl 180 _ rfl _ 0 rfl _ _ hE5.range Tryz.underlying180 rfl (by rw [engVals_len];kernel_rfl) ?_)
  | (go_at_call 147;refine (hsum w5 hc5).mono ?_;rintro e w6 ⟨g,rfl,hg,hrow,hb6⟩))
 go_ret
 have e:hashS rn K q n bs=endS rn K X.1 X.2 n:=by rw [HX.out];rfl
 rw [e]
 exact ⟨g,rfl,Nat.le_trans hB5.size hg,hrow,hB5.trans (hb6.mono hB5.size)⟩
end Go.Proofs.YtcgkajlehdgpoaaGreatDoor
namespace Go.Proofs.YtcgkajlehdgpoaaGreatDoor
open Go.RowKit
structure Lists32 (w:World) (g0 g1 g2 g3:Nat):Prop where
 a0:w.cell? ⟨g0,0,none⟩=some (.int .i64 7)
 a1:w.cell? ⟨g0,1,none⟩=some (.int .i64 18)
 a2:w.cell? ⟨g0,2,none⟩=some (.int .i64 3)
 b0:w.cell? ⟨g1,0,none⟩=some (.int .i64 17)
 b1:w.cell? ⟨g1,1,none⟩=some (.int .i64 19)
 b2:w.cell? ⟨g1,2,none⟩=some (.int .i64 10)
 c0:w.cell? ⟨g2,0,none⟩=some (.int .i64 2)
 c1:w.cell? ⟨g2,1,none⟩=some (.int .i64 13)
 c2:w.cell? ⟨g2,2,none⟩=some (.int .i64 22)
 d0:w.cell? ⟨g3,0,none⟩=some (.int .i64 6)
 d1:w.cell? ⟨g3,1,none⟩=some (.int .i64 11)
 d2:w.cell? ⟨g3,2,none⟩=some (.int .i64 25)
theorem Lists32.below {w w':World} {g0 g1 g2 g3:Nat} (h:Lists32 w g0 g1 g2 g3) (hb:Below w.heap.size w w'):Lists32 w' g0 g1 g2 g3:=by
 have k:∀ {g j:Nat} {v:Value},w.cell? ⟨g,j,none⟩=some v→w'.cell? ⟨g,j,none⟩=some v:=fun {g j v} e=>(hb.cell (p:=⟨g,j,none⟩) (block_lt_of_cell e)).trans e
 exact ⟨k h.a0,k h.a1,k h.a2,k h.b0,k h.b1,k h.b2,k h.c0,k h.c1,k h.c2,k h.d0,k h.d1,k h.d2⟩
def ZBox32 (W:World) (B g0 g1 g2 g3:Nat):Prop:=W.cell? ⟨B,0,none⟩=some (.int .i64 32)∧W.cell? ⟨B,1,none⟩=some (.int .i64 64)∧W.cell? ⟨B,2,none⟩=some (.int .i64 64)∧W.cell? ⟨B,3,none⟩=some (.slice (some ⟨g0,0,none⟩) 3 3)∧W.cell? ⟨B,4,none⟩=some (.slice (some ⟨g1,0,none⟩) 3 3)∧W.cell? ⟨B,5,none⟩=some (.slice (some ⟨g2,0,none⟩) 3 3)∧W.cell? ⟨B,6,none⟩=some (.slice (some ⟨g3,0,none⟩) 3 3)
theorem ZBox32.below {w w':World} {B g0 g1 g2 g3:Nat} (h:ZBox32 w B g0 g1 g2 g3) (hb:Below w.heap.size w w'):ZBox32 w' B g0 g1 g2 g3:=by
 have k:∀ {g j:Nat} {v:Value},w.cell? ⟨g,j,none⟩=some v→w'.cell? ⟨g,j,none⟩=some v:=fun {g j v} e=>(hb.cell (p:=⟨g,j,none⟩) (block_lt_of_cell e)).trans e
 obtain ⟨h0,h1,h2,h3,h4,h5,h6⟩:=h
 exact ⟨k h0,k h1,k h2,k h3,k h4,k h5,k h6⟩
structure Lists64 (w:World) (g0 g1 g2 g3:Nat):Prop where
 a0:w.cell? ⟨g0,0,none⟩=some (.int .i64 1)
 a1:w.cell? ⟨g0,1,none⟩=some (.int .i64 8)
 a2:w.cell? ⟨g0,2,none⟩=some (.int .i64 7)
 b0:w.cell? ⟨g1,0,none⟩=some (.int .i64 19)
 b1:w.cell? ⟨g1,1,none⟩=some (.int .i64 61)
 b2:w.cell? ⟨g1,2,none⟩=some (.int .i64 6)
 c0:w.cell? ⟨g2,0,none⟩=some (.int .i64 28)
 c1:w.cell? ⟨g2,1,none⟩=some (.int .i64 34)
 c2:w.cell? ⟨g2,2,none⟩=some (.int .i64 39)
 d0:w.cell? ⟨g3,0,none⟩=some (.int .i64 14)
 d1:w.cell? ⟨g3,1,none⟩=some (.int .i64 18)
 d2:w.cell? ⟨g3,2,none⟩=some (.int .i64 41)
theorem Lists64.below {w w':World} {g0 g1 g2 g3:Nat} (h:Lists64 w g0 g1 g2 g3) (hb:Below w.heap.size w w'):Lists64 w' g0 g1 g2 g3:=by
 have k:∀ {g j:Nat} {v:Value},w.cell? ⟨g,j,none⟩=some v→w'.cell? ⟨g,j,none⟩=some v:=fun {g j v} e=>(hb.cell (p:=⟨g,j,none⟩) (block_lt_of_cell e)).trans e
 exact ⟨k h.a0,k h.a1,k h.a2,k h.b0,k h.b1,k h.b2,k h.c0,k h.c1,k h.c2,k h.d0,k h.d1,k h.d2⟩
def ZBox64 (W:World) (B g0 g1 g2 g3:Nat):Prop:=W.cell? ⟨B,0,none⟩=some (.int .i64 64)∧W.cell? ⟨B,1,none⟩=some (.int .i64 128)∧W.cell? ⟨B,2,none⟩=some (.int .i64 80)∧W.cell? ⟨B,3,none⟩=some (.slice (some ⟨g0,0,none⟩) 3 3)∧W.cell? ⟨B,4,none⟩=some (.slice (some ⟨g1,0,none⟩) 3 3)∧W.cell? ⟨B,5,none⟩=some (.slice (some ⟨g2,0,none⟩) 3 3)∧W.cell? ⟨B,6,none⟩=some (.slice (some ⟨g3,0,none⟩) 3 3)
theorem ZBox64.below {w w':World} {B g0 g1 g2 g3:Nat} (h:ZBox64 w B g0 g1 g2 g3) (hb:Below w.heap.size w w'):ZBox64 w' B g0 g1 g2 g3:=by
 have k:∀ {g j:Nat} {v:Value},w.cell? ⟨g,j,none⟩=some v→w'.cell? ⟨g,j,none⟩=some v:=fun {g j v} e=>(hb.cell (p:=⟨g,j,none⟩) (block_lt_of_cell e)).trans e
 obtain ⟨h0,h1,h2,h3,h4,h5,h6⟩:=h
 exact ⟨k h0,k h1,k h2,k h3,k h4,k h5,k h6⟩
end Go.Proofs.YtcgkajlehdgpoaaGreatDoor
namespace Go.Proofs.YtcgkajlehdgpoaaGreatDoor
open Go.RowKit
theorem fill_congr {m sz:Nat} {bs cs:Nat→Nat}:∀ i,(∀ j,j<i→bs j=cs j)→fill m sz bs i=fill m sz cs i
 | 0,_=>rfl
 | i+1,h=>by unfold fill;rw [fill_congr i (fun j hj=>h j (by omega)),h i (by omega)]
theorem blockS_congr {r:Ru} {K:Nat→Nat} {bs cs:Nat→Nat} {s:St} (h:∀ j,j<2*r.m→bs j=cs j):blockS r K bs s=blockS r K cs s:=by
 unfold blockS;rw [fill_congr _ h]
theorem loopS_congr {r:Ru} {K:Nat→Nat} {s:St} {bs cs:Nat→Nat}:∀ i,(∀ j,j<i*(2*r.m)→bs j=cs j)→loopS r K s bs i=loopS r K s cs i
 | 0,_=>rfl
 | i+1,h=>by
  unfold loopS
  have hs:(i+1)*(2*r.m)=i*(2*r.m)+2*r.m:=Nat.succ_mul i (2*r.m)
  rw [loopS_congr i (fun j hj=>h j (by omega))]
  exact blockS_congr fun j hj=>h _ (by omega)
theorem loopS_add {r:Ru} {K:Nat→Nat} {s:St} {bs:Nat→Nat} (i:Nat):∀ k,loopS r K s bs (i+k)=loopS r K (loopS r K s bs i) (fun j=>bs (i*(2*r.m)+j)) k
 | 0=>rfl
 | k+1=>by
  show blockS r K (fun j=>bs ((i+k)*(2*r.m)+j)) (loopS r K s bs (i+k))=blockS r K (fun j=>bs (i*(2*r.m)+(k*(2*r.m)+j))) _
  rw [loopS_add i k]
  exact blockS_congr fun j _=>by rw [Nat.add_mul,Nat.add_assoc]
theorem divmod {x a b t:Nat} (h:x=a*b+t) (ht:t<b):x / b=a∧x%b=t:=by
 subst h
 have hb:0<b:=by omega
 exact ⟨by rw [Nat.add_comm,Nat.add_mul_div_right _ _ hb,Nat.div_eq_of_lt ht,Nat.zero_add],by rw [Nat.add_comm,Nat.add_mul_mod_self_right,Nat.mod_eq_of_lt ht]⟩
structure Holds (r:Ru) (K:Nat→Nat) (s0:St) (n:Nat) (bs:Nat→Nat) (s:St) (R:Nat→Nat):Prop where
 st:s=loopS r K s0 bs (n / (2*r.m))
 rest:∀ j,j<n%(2*r.m)→R j=bs (n / (2*r.m)*(2*r.m)+j)
theorem Holds.none (r:Ru) (K:Nat→Nat) (s0:St) (bs R:Nat→Nat):Holds r K s0 0 bs s0 R:=⟨by rw [Nat.zero_div];rfl,fun j h=>by rw [Nat.zero_mod] at h;omega⟩
theorem Holds.congr {r:Ru} {K:Nat→Nat} {s0:St} {n:Nat} {bs cs:Nat→Nat} {s:St} {R:Nat→Nat} (h:Holds r K s0 n bs s R) (e:∀ j,j<n→bs j=cs j):Holds r K s0 n cs s R:=by
 have h1:=Nat.div_add_mod n (2*r.m)
 rw [Nat.mul_comm] at h1
 exact ⟨h.st.trans (loopS_congr _ fun j hj=>e j (by omega)),fun j hj=>(h.rest j hj).trans (e _ (by omega))⟩
theorem Holds.write {r:Ru} {K:Nat→Nat} {s0:St} {n:Nat} {bs:Nat→Nat} {s:St} {R:Nat→Nat} (hm:0<r.m) (h:Holds r K s0 n bs s R) (m:Nat) (b2:Nat→Nat) :
 Holds r K s0 (n+m) (cat n bs b2) (writeE r K s R n m b2).1 (writeE r K s R n m b2).2:=by
 obtain ⟨hst,hrest⟩:=h
 obtain ⟨B,hB⟩:∃ B,B=2*r.m:=⟨_,rfl⟩
 have hB0:0<B:=by omega
 have hn:=Nat.div_add_mod n B
 have ht:=Nat.mod_lt n hB0
 rw [←hB] at hst hrest
 obtain ⟨a,ha⟩:∃ a,a=n / B:=⟨_,rfl⟩
 obtain ⟨t,htt⟩:∃ t,t=n%B:=⟨_,rfl⟩
 rw [←ha] at hst hrest hn
 rw [←htt] at hrest hn ht
 rw [Nat.mul_comm] at hn
 have hpre:loopS r K s0 (cat n bs b2) a=s:=by
  rw [hst]
  refine loopS_congr _ fun j hj => ?_
  rw [←hB] at hj
  show (if j<n then bs j else _)=_
  rw [if_pos (by omega)]
 -- what tailE makes,where a whole block's end is reached at place p (a multiple of B) of all bytes
 have tail:∀ (p c m':Nat) (s':St) (R':Nat→Nat) (b':Nat→Nat),p=c*B→s'=loopS r K s0 (cat n bs b2) c→(∀ j,cat n bs b2 (p+j)=b' j)→p+m'=n+m →
  Holds r K s0 (n+m) (cat n bs b2) (tailE r K s' R' m' b').1 (tailE r K s' R' m' b').2:=by
  intro p c m' s' R' b' hp hs' hb' hpm
  have hm':=Nat.div_add_mod m' B
  have hu:=Nat.mod_lt m' hB0
  rw [Nat.mul_comm] at hm'
  obtain ⟨e1,e2⟩:=divmod (x:=n+m) (a:=c+m' / B) (b:=B) (t:=m'%B) (by rw [Nat.add_mul];omega) hu
  refine ⟨?_,?_⟩
  · rw [←hB,e1,loopS_add,←hB,←hp,←hs']
    show loopS r K s' b' (m' / (2*r.m))=_
    rw [←hB]
    exact loopS_congr _ fun j _=>(hb' j).symm
  · intro j hj
    rw [←hB,e2] at hj
    rw [←hB,e1]
    show over R' 0 (m'%(2*r.m)) (fun j=>b' (m' / (2*r.m)*(2*r.m)+j)) j=_
    rw [←hB]
    unfold over
    rw [if_pos ⟨Nat.zero_le _,by omega⟩,Nat.sub_zero]
    show b' (m' / B*B+j)=_
    rw [←hb',Nat.add_mul,hp,Nat.add_assoc]
 unfold writeE
 rw [←hB,←htt]
 by_cases h0:t=0
 · rw [if_pos h0]
   refine tail n a m s R b2 (by omega) hpre.symm (fun j => ?_) rfl
   unfold cat
   rw [if_neg (by omega),show n+j - n=j by omega]
 · rw [if_neg h0]
   by_cases h1:t+m<B
   · rw [if_pos h1]
     obtain ⟨e1,e2⟩:=divmod (x:=n+m) (a:=a) (b:=B) (t:=t+m) (by omega) h1
     refine ⟨?_,?_⟩
     · rw [←hB,e1];exact hpre.symm
     · intro j hj
       rw [←hB,e2] at hj
       rw [←hB,e1]
       show over R t m b2 j=_
       unfold over cat
       by_cases h2:j<t
       · rw [if_neg (by omega),if_pos (by omega)];exact hrest j h2
       · rw [if_pos (by omega),if_neg (by omega)];congr 1;omega
   · rw [if_neg h1]
     refine tail (n+(B - t)) (a+1) (m - (B - t)) _ _ _ (by rw [Nat.succ_mul];omega) ?_ (fun j => ?_) (by omega)
     · show _=blockS r K (fun j=>cat n bs b2 (a*(2*r.m)+j)) (loopS r K s0 (cat n bs b2) a)
       rw [hpre]
       refine blockS_congr fun j hj => ?_
       rw [←hB] at hj ⊢
       unfold over cat
       by_cases h2:j<t
       · rw [if_neg (by omega),if_pos (by omega)];exact hrest j h2
       · rw [if_pos (by omega),if_neg (by omega)];congr 1;omega
     · unfold cat
       rw [if_neg (by omega)];congr 1;omega
def specS (r:Ru) (K q:Nat→Nat) (n:Nat) (bs:Nat→Nat):St:=loopS r K (firstS r q) (cat n bs (padF r n)) ((n+padN r n) / (2*r.m))
theorem Holds.end {r:Ru} {K q:Nat→Nat} {n:Nat} {bs:Nat→Nat} {s:St} {R:Nat→Nat} (hm:0<r.m) (h:Holds r K (firstS r q) n bs s R):endS r K s R n=specS r K q n bs:=(h.write hm (padN r n) (padF r n)).st
theorem hashS_spec {r:Ru} (K q:Nat→Nat) (n:Nat) (bs:Nat→Nat) (hm:0<r.m):hashS r K q n bs=specS r K q n bs:=by
 have h:=(Holds.none r K (firstS r q) bs (fun _=>0)).write hm n bs
 rw [Nat.zero_add] at h
 exact Holds.end hm (h.congr fun j _=>by unfold cat;rw [if_neg (by omega),Nat.sub_zero])
theorem specS_congr {r:Ru} {K q:Nat→Nat} {n:Nat} {bs cs:Nat→Nat} (h:∀ j,j<n→bs j=cs j):specS r K q n bs=specS r K q n cs :=
 loopS_congr _ fun j _=>by
  unfold cat
  by_cases e:j<n
  · rw [if_pos e,if_pos e];exact h j e
  · rw [if_neg e,if_neg e]
end Go.Proofs.YtcgkajlehdgpoaaGreatDoor
namespace Go.Proofs.YtcgkajlehdgpoaaGreatDoor
open Go
def cubesL:List Nat:=[4794697086780616226,8158064640168781261,13096744586834688815,16840607885511220156,4131703408338449720,6480981068601479193,10538285296894168987,12329834152419229976,15566598209576043074,1334009975649890238,2608012711638119052,6128411473006802146,8268148722764581231,9286055187155687089,11230858885718282805,13951009754708518548,16472876342353939154,17275323862435702243,1135362057144423861,2597628984639134821,3308224258029322869,5365058923640841347,6679025012923562964,8573033837759648693,10970295158949994411,12119686244451234320,12683024718118986047,13788192230050041572,14330467153632333762,15395433587784984357,489312712824947311,1452737877330783856,2861767655752347644,3322285676063803686,5560940570517711597,5996557281743188959,7280758554555802590,8532644243296465576,9350256976987008742,10552545826968843579,11727347734174303076,12113106623233404929,14000437183269869457,14369950271660146224,15101387698204529176,15463397548674623760,17586052441742319658,1182934255886127544,1847814050463011016,2177327727835720531,2830643537854262169,3796741975233480872,4115178125766777443,5681478168544905931,6601373596472566643,7507060721942968483,8399075790359081724,8693463985226723168,9568029438360202098,10144078919501101548,10430055236837252648,11840083180663258601,13761210420658862357,14299343276471374635,14566680578165727644,15097957966210449927,16922976911328602910,17689382322260857208,500013540394364858,748580250866718886,1242879168328830382,1977374033974150939,2944078676154940804,3659926193048069267,4368137639120453308,4836135668995329356,5532061633213252278,6448918945643986474,6902733635092675308,7801388544844847127]
def squaresL:List Nat:=[7640891576956012808,13503953896175478587,4354685564936845355,11912009170470909681,5840696475078001361,11170449401992604703,2270897969802886507,6620516959819538809]
def cubeK (j:Nat):Nat:=cubesL.getD j 0
def squareK (j:Nat):Nat:=squaresL.getD j 0
end Go.Proofs.YtcgkajlehdgpoaaGreatDoor
namespace Go.Proofs.YtcgkajlehdgpoaaGreatDoor
open Go.RowKit
theorem cubeK_lt:∀ j,cubeK j<18446744073709551616:=fun j=>by
 unfold cubeK
 rw [List.getD_eq_getElem?_getD]
 cases h:cubesL[j]? with
 | none=>decide
 | some x =>
  have hm:x∈cubesL:=List.mem_of_getElem? h
  exact of_decide_eq_true (List.all_eq_true.1 (show cubesL.all (fun x=>decide (x<18446744073709551616))=true by kernel_rfl) x hm)
theorem squareK_lt:∀ j,squareK j<18446744073709551616:=fun j=>by
 unfold squareK
 rw [List.getD_eq_getElem?_getD]
 cases h:squaresL[j]? with
 | none=>decide
 | some x =>
  have hm:x∈squaresL:=List.mem_of_getElem? h
  exact of_decide_eq_true (List.all_eq_true.1 (show squaresL.all (fun x=>decide (x<18446744073709551616))=true by kernel_rfl) x hm)
end Go.Proofs.YtcgkajlehdgpoaaGreatDoor
namespace Go.Proofs.YtcgkajlehdgpoaaGreatDoor
open Go.RowKit
theorem Bytes.below {w w':World} {b:Nat} {v:Value} {n:Nat} {bs:Nat→Nat} (h:Bytes w b v n bs) (hb:Below w.heap.size w w'):Bytes w' b v n bs:=by
 rcases h with h | ⟨bb,ob,cap,rfl,h1,h2,h3⟩
 · exact .inl h
 · refine .inr ⟨bb,ob,cap,rfl,h1,h2,fun j hj => ?_⟩
   have:=h3 j hj
   exact (hb.cell (p:=⟨bb,ob+j,none⟩) (block_lt_of_cell this)).trans this
theorem Out.pre {b o n:Nat} {u v w:World} (h:Below u.heap.size u v) (hb:b<u.heap.size) (k:Out b o n v w):Out b o n u w:=(Out.of_below h hb).trans k
structure Made256 (w:World) (g:Nat) (n:Nat) (bs:Nat→Nat):Prop where
 bits:w.cell? ⟨g,0,none⟩=some (.int .i64 256)
 eng:∃ s R,EngAt .u32 w g 1 s R n∧Holds rn cubeK (firstS rn squareK) n bs s R∧s.lt 4294967296∧∀ j,R j<256
theorem Made256.lt {w:World} {g n:Nat} {bs:Nat→Nat} (h:Made256 w g n bs):g<w.heap.size:=block_lt_of_cell h.bits
theorem Made256.below {w w':World} {g n:Nat} {bs:Nat→Nat} (h:Made256 w g n bs) (hb:Below w.heap.size w w'):Made256 w' g n bs:=by
 obtain ⟨s,R,h1,h2,h3,h4⟩:=h.eng
 exact ⟨(hb.cell (p:=⟨g,0,none⟩) h.lt).trans h.bits,s,R,h1.below hb,h2,h3,h4⟩
theorem Made256.congr {w:World} {g n:Nat} {bs cs:Nat→Nat} (h:Made256 w g n bs) (e:∀ j,j<n→bs j=cs j):Made256 w g n cs:=by
 obtain ⟨s,R,h1,h2,h3,h4⟩:=h.eng
 exact ⟨h.bits,s,R,h1,h2.congr e,h3,h4⟩
theorem Made256.out {b o m:Nat} {w w':World} {g n:Nat} {bs:Nat→Nat} (h:Made256 w g n bs) (hb:Out b o m w w') (hne:g≠b):Made256 w' g n bs:=by
 obtain ⟨s,R,h1,h2,h3,h4⟩:=h.eng
 exact ⟨(hb.cell' h.lt hne).trans h.bits,s,R,⟨hb.row h1.st hne,hb.row h1.rest hne,(hb.cell' h.lt hne).trans h1.cnt,(hb.frozen' h.lt hne).trans h1.cntf⟩,h2,h3,h4⟩
theorem newMade256 (w:World) (hT:HTab w cubeK squareK) (bs:Nat→Nat):Calls Tryz.prog 148 #[.int .i64 256] w fun e w'=>∃ g,e = .returned (.pointer (some ⟨g,0,none⟩))∧w.heap.size≤g∧Made256 w' g 0 bs∧Below w.heap.size w w':=by
 refine (new256_any squareK hT.qlt w hT.squares hT.narrow).mono ?_
 rintro e w' ⟨g,rfl,hg,h1,h2,hb⟩
 exact ⟨g,rfl,hg,⟨h1,_,_,h2,Holds.none _ _ _ _ _,firstS_lt rn squareK (by decide) hT.qlt,fun _=>Nat.zero_lt_succ _⟩,hb⟩
set_option maxRecDepth 20000 in
set_option maxHeartbeats 1000000 in
theorem hwrite256_any (g c n:Nat) (v:Value) (bs b2:Nat→Nat) (hb2:∀ j,b2 j<256) (w:World) (hM:Made256 w g c bs) (hT:HTab w cubeK squareK) (h3:3<g) (hv:Bytes w g v n b2) (hcn:c+n<4611686018427387904) :
 Calls Tryz.prog 149 #[.pointer (some ⟨g,0,none⟩),v] w fun e w'=>e = .returned (.int .i64 0)∧Made256 w' g (c+n) (cat c bs b2)∧Out g 1 137 w w':=by
 obtain ⟨hbits,s,R,hE,hH,hs,hR⟩:=hM
 have hgl:g<w.heap.size:=block_lt_of_cell hbits
 have hd:Below w.heap.size w w.drew:=(Below.refl _ _).drew
 have hTd:=hT.below hd hT.size
 have hw:=write32_any cubeK hT.Klt s hs R hR g 1 c n v b2 hb2 w.drew (hE.below hd) hTd.cubes (by omega) (hv.below hd) hcn
 have hX:=writeE_lt (r:=rn) (K:=cubeK) (c:=c) (n:=n) hs hR hb2
 have hHw:=hH.write (by decide) n b2
 obtain ⟨X,hXe⟩:∃ X,X=writeE rn cubeK s R c n b2:=⟨_,rfl⟩
 rw [←hXe] at hw hX hHw
 have hm:=made_yes g 256 (by decide) w hbits
 obtain ⟨p0,p1,p2,p3,p4,p5,p6,p7,p8,p9,p10,p11,p12,p13⟩:=hT.narrow
 clear hT hTd hv hE hH hXe
 go_enter Tryz.func149,Tryz.ntmps149
 go_wp2_with (go_at_call 173;refine hm.mono ?_;rintro e w' ⟨rfl,hw'⟩;subst hw')
 go_region_with (go_at_call 146;refine hw.mono ?_;rintro e w5 ⟨rfl,hE5,hO5⟩)
 all_goals
  go_wp2
  go_ret
  have hO:Out g 1 137 _ w5:=Out.pre hd hgl hO5
  exact ⟨rfl,⟨(hO.cell 0 (by omega)).trans hbits,X.1,X.2,hE5,hHw,hX.1,hX.2⟩,hO⟩
set_option maxRecDepth 20000 in
set_option maxHeartbeats 1000000 in
theorem hsum256_any (g c:Nat) (bs:Nat→Nat) (w:World) (hM:Made256 w g c bs) (hT:HTab w cubeK squareK) (hc:c<2305843009213693952) :
 Calls Tryz.prog 150 #[.pointer (some ⟨g,0,none⟩)] w fun e w'=>∃ ga,e = .returned (.slice (some ⟨ga,0,none⟩) 32 32)∧w.heap.size≤ga∧RowAt .u8 w' ga 0 32 (outB 32 (specS rn cubeK squareK c bs))∧Below w.heap.size w w':=by
 obtain ⟨hbits,s,R,hE,hH,hs,hR⟩:=hM
 have hgl:g<w.heap.size:=block_lt_of_cell hbits
 have hd:Below w.heap.size w w.drew:=(Below.refl _ _).drew
 have hTd:=hT.below hd hT.size
 have hsum:=sum32_any cubeK hT.Klt s hs R hR c hc w.drew hTd.cubes
 rw [hH.end (by decide)] at hsum
 have hm:=made_yes g 256 (by decide) w hbits
 obtain ⟨p0,p1,p2,p3,p4,p5,p6,p7,p8,p9,p10,p11,p12,p13⟩:=hT.narrow
 have hr:∀ w':World,Below w.heap.size w w'→w'.rangeAt g 1 (engVals .u32 s R c):=fun w' h=>(hE.below h).range
 have hS:∀ w':World,Below w.heap.size w w'→∀ b o,b<w.heap.size→w'.cell? ⟨b,o,none⟩=w.cell? ⟨b,o,none⟩:=fun w' h b o hb=>h.cell (p:=⟨b,o,none⟩) hb
 have h0:0<w.heap.size:=by have:=hT.size;omega
 have hi':(Tryz.prog.info? 180).map (·.size)=some (engVals .u32 s R c).length:=by rw [engVals_len];kernel_rfl
 obtain ⟨Y,hY⟩:∃ Y,Y=specS rn cubeK squareK c bs:=⟨_,rfl⟩
 rw [←hY] at hsum ⊢
 clear hT hTd hE hH hY
 go_enter Tryz.func150,Tryz.ntmps150
 go_wp2_with (go_at_call 173;refine hm.mono ?_;rintro e w' ⟨rfl,hw'⟩;subst hw')
 refine wp_region_held_drew (S:=fun w2=>Below w'.heap.size w' w2) (by kernel_rfl) hd (fun hHeld => ?_)
 refine wpAnyH_take (i:=0) (v := .pointer (some ⟨g,0,none⟩)) rfl (by kernel_rfl) (by kernel_rfl) (by kernel_rfl) (fun _ _ _ h=>h) (Or.inl ⟨by rfl,fun w2 _=>by go_simp⟩) hHeld ?_
 refine wpAnyH_take (i:=1) (v := .pointer (some ⟨g,0,none⟩)) rfl (by kernel_rfl) (by kernel_rfl) (by kernel_rfl) (fun _ _ _ h=>h) (Or.inl ⟨by rfl,fun w2 _=>by go_simp⟩) hHeld ?_
 refine wpAnyH_take (i:=2) (v := .pointer (some ⟨g,1,none⟩)) rfl (by kernel_rfl) (by kernel_rfl) (by kernel_rfl) (fun _ _ _ h=>h) (Or.inl ⟨by rfl,fun w2 _=>by go_simp⟩) hHeld ?_
 refine wpAnyH_take (i:=3) (v := .agg (engVals .u32 s R c).toArray) rfl (by kernel_rfl) (by kernel_rfl) (by kernel_rfl) (fun _ _ _ h=>h) (yieldsIf_load_mid (by rfl) 180 _ rfl g 1 rfl _ _ hr Tryz.underlying180 rfl hi') hHeld ?_
 refine wpAnyH_take (i:=4) (v:=(.agg #[.int .i64 32,.int .i64 64,.int .u64 7,.int .u64 18,.int .u64 3,.int .u64 17,.int .u64 19,.int .u64 10,.int .u64 2,.int .u64 13,.int .u64 22,.int .u64 6,.int .u64 11,.int .u64 25])) rfl (by kernel_rfl) (by kernel_rfl) (by kernel_rfl) (fun _ _ _ h=>h) (Or.inl ⟨by rfl,fun w2 hSw=>by go_simp⟩) hHeld ?_
 refine wpAnyH_ready (rs:=[5]) (by kernel_rfl) (by simp) ?_
 refine AllReadyH.cons rfl (fun K hK => ?_) AllReadyH.nil
 go_simp
 go_at_call 147
 refine hsum.mono ?_
 rintro e w5 ⟨ga,rfl,hga,hrow,hb5⟩
 have hbn:=below_next hd hb5
 go_simp
 refine hK.out _ _ hbn (fun hHeld2 => ?_)
 refine wpAnyH_take (i:=6) (v := .slice (some ⟨ga,0,none⟩) 32 32) rfl (by kernel_rfl) (by kernel_rfl) (by kernel_rfl) (fun _ _ _ h=>h) (Or.inl ⟨by rfl,fun w2 _=>by go_simp⟩) hHeld2 ?_
 refine wpAnyH_done (by kernel_rfl) ?_ _
 go_simp
 go_wp2
 go_ret
 exact ⟨ga,rfl,hga,hrow,hbn⟩
structure Made512 (w:World) (g:Nat) (n:Nat) (bs:Nat→Nat):Prop where
 bits:w.cell? ⟨g,0,none⟩=some (.int .i64 512)
 eng:∃ s R,EngAt .u64 w g 138 s R n∧Holds rw6 cubeK (firstS rw6 squareK) n bs s R∧s.lt 18446744073709551616∧∀ j,R j<256
theorem Made512.lt {w:World} {g n:Nat} {bs:Nat→Nat} (h:Made512 w g n bs):g<w.heap.size:=block_lt_of_cell h.bits
theorem Made512.below {w w':World} {g n:Nat} {bs:Nat→Nat} (h:Made512 w g n bs) (hb:Below w.heap.size w w'):Made512 w' g n bs:=by
 obtain ⟨s,R,h1,h2,h3,h4⟩:=h.eng
 exact ⟨(hb.cell (p:=⟨g,0,none⟩) h.lt).trans h.bits,s,R,h1.below hb,h2,h3,h4⟩
theorem Made512.congr {w:World} {g n:Nat} {bs cs:Nat→Nat} (h:Made512 w g n bs) (e:∀ j,j<n→bs j=cs j):Made512 w g n cs:=by
 obtain ⟨s,R,h1,h2,h3,h4⟩:=h.eng
 exact ⟨h.bits,s,R,h1,h2.congr e,h3,h4⟩
theorem Made512.out {b o m:Nat} {w w':World} {g n:Nat} {bs:Nat→Nat} (h:Made512 w g n bs) (hb:Out b o m w w') (hne:g≠b):Made512 w' g n bs:=by
 obtain ⟨s,R,h1,h2,h3,h4⟩:=h.eng
 exact ⟨(hb.cell' h.lt hne).trans h.bits,s,R,⟨hb.row h1.st hne,hb.row h1.rest hne,(hb.cell' h.lt hne).trans h1.cnt,(hb.frozen' h.lt hne).trans h1.cntf⟩,h2,h3,h4⟩
end Go.Proofs.YtcgkajlehdgpoaaGreatDoor
