/- What the proof stands on: HWriteC, HWriteN, HWrite. -/
import Derived.Test.YtibdhadbflfdpaaGreatDoorHWriteA
import Derived.Deep.Cut
namespace Go.Proofs.YtibdhadbflfdpaaGreatDoor
open Nat renaming le_refl → JW
open Go renaming block_lt_of_cell → J5
open Go.RowKit
theorem lG (W:World) (bb ob n cap d:Nat) (hd:d≤n):(Instr.sliceAt 22 (.slice (some ⟨bb,ob,none⟩) n cap) (some (.int .i64 d)) none none).run Tryz.prog W = .ok (.slice (some ⟨bb,(if cap=d then ob else ob+d),none⟩) (n - d) (cap - d)) W:=by
 have h1:Tryz.prog.underlying 22=some (.slice (Tryz.prog.elem 22)):=by kernel_rfl
 have h2:Tryz.prog.elem 22=5:=by kernel_rfl
 have h3:((sizeOf 5).run Tryz.prog W) = .ok 1 W:=by kernel_rfl
 rw [run_sliceAt_slice W 22 _ _ _ _ h1,run_slice_l W 22 _ n cap h1 .i64 d (by omega) (by omega),h2,h3];simp only [Result.andThen_ok,sliced,Int.toNat_natCast,Nat.mul_one,Addr.add_mid,Option.map]
 by_cases h:cap=d
 · simp [h]
 · simp [h]
theorem lm (W:World) (b o h:Nat) (hh:h≤64) (_hz:h<128):(Instr.sliceAt 152 (.pointer (some ⟨b,o+8,none⟩)) (some (.int .i64 h)) (some (.int .i64 64)) none).run Tryz.prog W = .ok (.slice (some ⟨b,o+8+h,none⟩) (64 - h) (128 - h)) W:=by
 have h1:Tryz.prog.arrayLen 152=128:=by kernel_rfl
 have h2:Tryz.prog.elem 152=5:=by kernel_rfl
 have h3:((sizeOf 5).run Tryz.prog W) = .ok 1 W:=by kernel_rfl
 rw [run_sliceAt_array_lh W 152 ⟨b,o+8,none⟩ (by kernel_rfl) .i64 .i64 h 64 (by omega) (by omega) (by rw [h1];decide),h2,h3,h1];simp only [Result.andThen_ok,slicedAt,Int.toNat_natCast,Nat.mul_one,Addr.add_mid];rw [if_neg (by omega)];rfl
set_option maxRecDepth 20000 in
set_option maxHeartbeats 1000000 in
theorem AR (s:St) (R:Nat→Nat) (b o c n bb ob cap h:Nat) (bs:Nat→Nat) (w:World)
 (hE:az .u32 w b o s R c) (hbb:bb≠b) (hcn:c+n<4611686018427387904)
 (hcell:∀ j,j<n→w.cell? ⟨bb,ob+j,none⟩=some (.int .u8 (bs j))) (hmod:(c:Int)%64=(h:Int)) (h0:0<h) (hlt:h+n<64) :
 Calls Tryz.prog 132 #[.pointer (some ⟨b,o,none⟩),(.agg #[.int .i64 32,.int .i64 64,.int .u64 7,.int .u64 18,.int .u64 3,.int .u64 17,.int .u64 19,.int .u64 10,.int .u64 2,.int .u64 13,.int .u64 22,.int .u64 6,.int .u64 11,.int .u64 25]),.slice (some ⟨bb,ob,none⟩) n cap] w
  fun e w'=>e = .returned (.tuple #[])∧az .u32 w' b o s (over R h n bs) (c+n)∧aT b o 137 w w':=by
 have hmi:Hid (n=Nat.min n (64 - h)):=(Nat.min_eq_left (by omega)).symm
 have hmi':((h:Int)+n)<64:=by omega
 have hsl:=fun W=>lm W b o h (by omega) (by omega)
 go_enter Tryz.func132,Tryz.ntmps132
 go_wp2_with (first
  | (go_at_call 185;refine (cG _).mono ?_;rintro e w1 ⟨rfl,hb1⟩;obtain ⟨hE1,hO1,hR1,hsz1,hc1,hf1⟩:=kC (n:=n) hE hb1;have hsrc:nK (w1.setCell ⟨b,o+136,none⟩ (.int .i64 ((c:Int)+n))) (some ⟨bb,ob,none⟩) n bs := .inr ⟨bb,ob,rfl,fun j hj=>(hO1.cell' (J5 (hcell j hj)) hbb).trans (hcell j hj)⟩;have hth:(w1.setCell ⟨b,o+136,none⟩ (.int .i64 ((c:Int)+n))).there b (o+8+h) (64 - h):=ah.there_part hE1.rest (by omega);clear hb1 hR1)
  | (refine aM rfl _ _ 22 22 rfl 5 Tryz.underlying22 (by kernel_rfl) b (o+8+h) (64 - h) _ (some ⟨bb,ob,none⟩) n cap rfl rfl n bs hsrc hmi.out hth ?_))
 exact bodyPost_ret (results_none Tryz.results132 _ _ _) rfl ⟨rfl,hE1.bytes h n bs (by omega),hO1.trans (aT.setCells _ _ (by omega) (by rw [ak];omega))⟩
set_option maxRecDepth 20000 in
set_option maxHeartbeats 2000000 in
theorem Am (K:Nat→Nat) (hK:∀ j,K j<18446744073709551616) (s:St) (hs:s.lt 4294967296) (R:Nat→Nat) (hR:∀ j,R j<256) (b o c n bb ob cap h:Nat) (bs:Nat→Nat) (hbs:∀ j,bs j<256) (w:World)
 (hE:az .u32 w b o s R c) (hcub:∀ j,j<80→w.cell? ⟨4,j,none⟩=some (.int .u64 (K j))) (hb3:4≠b) (hbb:bb≠b) (hcap:n≤cap) (hcn:c+n<4611686018427387904)
 (hcell:∀ j,j<n→w.cell? ⟨bb,ob+j,none⟩=some (.int .u8 (bs j))) (hmod:(c:Int)%64=(h:Int)) (h0:0<h) (_hhz:h<64) (hge:64≤h+n) :
 Calls Tryz.prog 132 #[.pointer (some ⟨b,o,none⟩),(.agg #[.int .i64 32,.int .i64 64,.int .u64 7,.int .u64 18,.int .u64 3,.int .u64 17,.int .u64 19,.int .u64 10,.int .u64 2,.int .u64 13,.int .u64 22,.int .u64 6,.int .u64 11,.int .u64 25]),.slice (some ⟨bb,ob,none⟩) n cap] w
  fun e w'=>e = .returned (.tuple #[])∧az .u32 w' b o (dZ rn K (aU rn K (over R h (64 - h) bs) s) (over R h (64 - h) bs) (n - (64 - h)) (fun j=>bs (64 - h+j))).1 (dZ rn K (aU rn K (over R h (64 - h) bs) s) (over R h (64 - h) bs) (n - (64 - h)) (fun j=>bs (64 - h+j))).2 (c+n)∧aT b o 137 w w':=by
 obtain ⟨d,hd⟩:∃ d,d=64 - h:=⟨_,rfl⟩
 rw [←hd];have Hd:Hid (d=64 - h):=hd
 have hdn:d≤n:=by omega
 have hdZ:d≤128:=by omega
 have hd1:0<d:=by omega
 have hhd:(h:Int)+d=64:=by omega
 clear hd;have hmi:Hid (d=Nat.min n d):=(Nat.min_eq_right hdn).symm
 have hsl:∀ W:World,(Instr.sliceAt 152 (.pointer (some ⟨b,o+8,none⟩)) (some (.int .i64 h)) (some (.int .i64 64)) none).run Tryz.prog W = .ok (.slice (some ⟨b,o+8+h,none⟩) d (128 - h)) W:=fun W=>by rw [Hd.out];exact lm W b o h (by omega) (by omega)
 obtain ⟨R1,hR1e⟩:∃ R1,R1=over R h d bs:=⟨_,rfl⟩
 have hR1l:∀ j,R1 j<256:=by rw [hR1e];exact kR hR hbs
 have HR1:Hid (R1=over R h d bs):=hR1e;rw [←hR1e];clear hR1e;go_enter Tryz.func132,Tryz.ntmps132
 go_wp2_with (first
  | (go_at_call 185;refine (cG _).mono ?_;rintro e w1 ⟨rfl,hb1⟩;obtain ⟨hE1,hO1,hR1,hsz1,hc1,hf1⟩:=kC (n:=n) hE hb1;have hsrc:nK (w1.setCell ⟨b,o+136,none⟩ (.int .i64 ((c:Int)+n))) (some ⟨bb,ob,none⟩) n bs := .inr ⟨bb,ob,rfl,fun j hj=>(hO1.cell' (J5 (hcell j hj)) hbb).trans (hcell j hj)⟩;have hth:(w1.setCell ⟨b,o+136,none⟩ (.int .i64 ((c:Int)+n))).there b (o+8+h) d:=ah.there_part hE1.rest (by have:=Hd.out;omega);clear hb1)
  | (refine aM rfl _ _ 22 22 rfl 5 Tryz.underlying22 (by kernel_rfl) b (o+8+h) d _ (some ⟨bb,ob,none⟩) n cap rfl rfl d bs hsrc hmi.out hth ?_;clear hsrc hth hmi hc1 hf1 hsl))
 obtain ⟨w2,hw2⟩:∃ w2,w2=(w1.setCell ⟨b,o+136,none⟩ (.int .i64 ((c:Int)+n))).setCells b (o+8+h) (au .u8 d bs):=⟨_,rfl⟩
 have hE2:az .u32 w2 b o s R1 (c+n):=by rw [hw2,HR1.out];exact hE1.bytes h d bs (by have:=Hd.out;omega)
 have hO2:aT b o 137 w w2:=by rw [hw2];exact hO1.trans (aT.setCells _ _ (by omega) (by rw [ak];have:=Hd.out;omega))
 have hR2:aY w2 w.heap.size:=by rw [hw2];exact hR1.same (fun q=>World.cell?_of_block (aF b _ _ _ _ (Nat.ne_of_gt (J5 hE.cnt))))
 have hsz2:w.heap.size<w2.heap.size:=by rw [hw2,(aj b _ _ _).2.2.2];simpa using hsz1
 rw [←hw2];clear hw2 hE1 hO1 hR1 hsz1 hR
 obtain ⟨ct,hct⟩:∃ ct,ct=c+n:=⟨_,rfl⟩
 have HCT:Hid (ct=c+n):=hct;rw [←hct] at hE2;clear hct
 have hcw:∀ j,j<80→w2.drew.cell? ⟨4,j,none⟩=some (.int .u64 (K j)):=fun j hj=>(hO2.cell' (J5 (hcub j hj)) hb3).trans (hcub j hj)
 have hmix:=lS K hK s hs b (o+8) 128 R1 hR1l w2.drew hcw (fun j hj=>(hE2.rest j (by omega)).1);obtain ⟨q0,q1,q2,q3,q4,q5,q6,q7⟩:=hE2.st.st';obtain ⟨p0,p1,p2,p3,p4,p5,p6,p7,p8,p9,p10,p11,p12,p13⟩:=id hR2;have hbw:Below w2.heap.size w2 w2.drew:=(Below.refl _ _).drew
 obtain ⟨s1,hs1e⟩:∃ s1,s1=aU rn K R1 s:=⟨_,rfl⟩
 have hs1:s1.lt 4294967296:=by rw [hs1e];exact nE (r:=rn)
 have HS1:Hid (s1=aU rn K R1 s):=hs1e;rw [←hs1e] at hmix;clear hcw hs1e
 go_cut [2] from 41 (fun v wc=>v = .slice (some ⟨bb,ob,none⟩) n cap∧az .u32 wc b o s1 R1 ct∧aT b o 137 w wc∧aY wc w.heap.size∧w.heap.size<wc.heap.size)
 case first =>
  clear hcell hcub;go_region_with ((go_at_call 186;refine hmix.mono ?_;rintro e w' ⟨rfl,hbm⟩;have hE5:=hE2.below (aa hbw hbm);have hst:=my w' b o s1 hE5.st.there))
  all_goals
   have hE6:=hE5.state s1;have hO6:aT b o 137 w (w'.setCells b o (St.vals .u32 s1).toList):=hO2.trans ((aT.of_below (aa hbw hbm) (J5 hE2.cnt)).trans (aT.setCells _ _ (JW _) (by rw [eH,ak];omega)));have hR6:aY (w'.setCells b o (St.vals .u32 s1).toList) w.heap.size:=(hR2.below (aa hbw hbm) hsz2).same (fun q=>World.cell?_of_block (aF b _ _ _ _ (Nat.ne_of_gt (J5 hE.cnt))))
   have hZ6:w.heap.size<(w'.setCells b o (St.vals .u32 s1).toList).heap.size:=by rw [(aj b _ _ _).2.2.2];have:=hbm.size;simp only [World.size_drew] at this;omega
   clear hst hE5 p0 p1 p2 p3 p4 p5 p6 p7 p8 p9 p10 p11 p12 p13 q0 q1 q2 q3 q4 q5 q6 q7 hmix hbw hbm;go_wp2;go_meet
   case rel=>exact ⟨rfl,hE6,hO6,hR6,hZ6⟩
 case rest =>
  obtain ⟨rfl,hE1,hO1,hR1,hsz1⟩:=hcut;clear hmix q0 q1 q2 q3 q4 q5 q6 q7 p0 p1 p2 p3 p4 p5 p6 p7 p8 p9 p10 p11 p12 p13 hbw hE2 hO2 hR2 hsz2
  obtain ⟨n1,hn1⟩:∃ n1,n1=n - d:=⟨_,rfl⟩
  obtain ⟨ob1,hob1⟩:∃ ob1,ob1=ob+d:=⟨_,rfl⟩
  obtain ⟨bs1,hbs1e⟩:∃ bs1:Nat→Nat,bs1=fun j=>bs (d+j):=⟨_,rfl⟩
  have hbs1:∀ j,bs1 j<256:=by rw [hbs1e];exact fun j=>hbs _
  have hcell1:∀ j,j<n1→w.cell? ⟨bb,ob1+j,none⟩=some (.int .u8 (bs1 j)):=fun j hj=>by
   rw [hob1,hbs1e,Nat.add_assoc];exact hcell (d+j) (by omega)
  have HN1:Hid (n1=n - d):=hn1;have HO1:Hid (ob1=ob+d):=hob1;have HB1:Hid (bs1=fun j=>bs (d+j)):=hbs1e
  obtain ⟨p1,hp1⟩:∃ p1,p1=(if cap=d then ob else ob+d):=⟨_,rfl⟩
  have hslb:∀ W:World,(Instr.sliceAt 22 (.slice (some ⟨bb,ob,none⟩) n cap) (some (.int .i64 d)) none none).run Tryz.prog W = .ok (.slice (some ⟨bb,p1,none⟩) (n - d) (cap - d)) W:=fun W=>by rw [hp1];exact lG W bb ob n cap d hdn
  have HP1:Hid (p1=(if cap=d then ob else ob+d)):=hp1;clear hn1 hob1 hbs1e hcell hp1;go_wp2;clear hslb;go_loopw [2] (fun v wr=>∃ i m p cp:Nat,v = .slice (some ⟨bb,p,none⟩) m cp∧Hid (n1=i*64+m)∧Hid (m=0∨p=ob1+i*64)∧m≤cp∧az .u32 wr b o (aX rn K s1 bs1 i) R1 ct∧aT b o 137 w wr∧aY wr w.heap.size∧w.heap.size<wr.heap.size) (fun v _=>gV v)
  case atStart =>
   refine ⟨0,n - d,p1,cap - d,rfl,(by rw [HN1.out,Nat.zero_mul,Nat.zero_add]:n1=0*64+(n - d)),?_,by omega,hE1,hO1,hR1,hsz1⟩;show n - d=0∨p1=ob1+0*64;rw [HO1.out,Nat.zero_mul,Nat.add_zero]
   by_cases hq:cap=d
   · left;omega
   · right;rw [HP1.out,if_neg hq]
  case round =>
   clear hE1 hO1 hR1 hsz1;obtain ⟨i,m,p,cp,rfl,Hn,Hp,hm,hE1,hO1,hR1,hsz1⟩:=hrel
   have hmn:m≤n1:=by have:=Hn.out;omega
   by_cases hlt:64≤m
   · have hsi:(aX rn K s1 bs1 i).lt 4294967296:=gF (r:=rn) hs1 i
     have hcw:∀ j,j<80→wr.drew.cell? ⟨4,j,none⟩=some (.int .u64 (K j)):=fun j hj=>(hO1.cell' (J5 (hcub j hj)) hb3).trans (hcub j hj)
     have hcl:∀ j,j<64→wr.drew.cell? ⟨bb,p+j,none⟩=some (.int .u8 (bs1 (i*(2*Ru.m rn)+j))):=fun j hj=>by
      have h1:=hcell1 (i*64+j) (by have:=Hn.out;omega);have h2:=(hO1.cell' (q:=ob1+(i*64+j)) (J5 h1) hbb).trans h1;rw [←Nat.add_assoc,←Hp.out.resolve_left (by omega)] at h2;exact h2
     have hmix:=lS K hK (aX rn K s1 bs1 i) hsi bb p cp (fun j=>bs1 (i*(2*Ru.m rn)+j)) (fun j=>hbs1 _) wr.drew hcw hcl;obtain ⟨q0,q1,q2,q3,q4,q5,q6,q7⟩:=hE1.st.st'
     obtain ⟨x,hx⟩:∃ x,x=aX rn K s1 bs1 i:=⟨_,rfl⟩
     have HX:Hid (x=aX rn K s1 bs1 i):=hx;rw [←hx] at hmix q0 q1 q2 q3 q4 q5 q6 q7;clear hx hcl hcw hcell1 hcub;obtain ⟨p0,p1,p2,p3,p4,p5,p6,p7,p8,p9,p10,p11,p12,p13⟩:=hR1;have hbw:Below wr.heap.size wr wr.drew:=(Below.refl _ _).drew;go_wp2;go_region_with ((go_at_call 186;refine hmix.mono ?_;rintro e w' ⟨rfl,hbm⟩;have hE5:=hE1.below (aa hbw hbm);have hst:=my w' b o (aU rn K (fun j=>bs1 (i*(2*Ru.m rn)+j)) x) hE5.st.there))
     all_goals
      have hE6:=hE5.state (aU rn K (fun j=>bs1 (i*(2*Ru.m rn)+j)) x);have hO6:aT b o 137 w (w'.setCells b o (St.vals .u32 (aU rn K (fun j=>bs1 (i*(2*Ru.m rn)+j)) x)).toList):=hO1.trans ((aT.of_below (aa hbw hbm) (J5 hE1.cnt)).trans (aT.setCells _ _ (JW _) (by rw [eH,ak];omega)));have hR6:aY (w'.setCells b o (St.vals .u32 (aU rn K (fun j=>bs1 (i*(2*Ru.m rn)+j)) x)).toList) w.heap.size:=(aY.below ⟨p0,p1,p2,p3,p4,p5,p6,p7,p8,p9,p10,p11,p12,p13⟩ (aa hbw hbm) hsz1).same (fun q=>World.cell?_of_block (aF b _ _ _ _ (Nat.ne_of_gt (J5 hE.cnt))))
      have hZ6:w.heap.size<(w'.setCells b o (St.vals .u32 (aU rn K (fun j=>bs1 (i*(2*Ru.m rn)+j)) x)).toList).heap.size:=by rw [(aj b _ _ _).2.2.2];have:=hbm.size;simp only [World.size_drew] at this;omega
      clear hst hE5 p0 p1 p2 p3 p4 p5 p6 p7 p8 p9 p10 p11 p12 p13 q0 q1 q2 q3 q4 q5 q6 q7 hmix hbw hbm;go_wp2;go_roundw
      case rel =>
       have hn':n1=(i+1)*64+(m - 64):=by have:=Hn.out;omega
       have hE7:az .u32 (w'.setCells b o (St.vals .u32 (aU rn K (fun j=>bs1 (i*(2*Ru.m rn)+j)) x)).toList) b o (aX rn K s1 bs1 (i+1)) R1 ct:=by
        show az _ _ _ _ (aU rn K (fun j=>bs1 (i*(2*Ru.m rn)+j)) (aX rn K s1 bs1 i)) _ _;rw [←HX.out];exact hE6
       by_cases hcp:cp=64
       · exact ⟨i+1,m - 64,p,cp - 64,by rw [if_pos hcp],hn',.inl (by omega),by omega,hE7,hO6,hR6,hZ6⟩
       · exact ⟨i+1,m - 64,p+64,cp - 64,by rw [if_neg hcp],hn',.inr (by have:=Hp.out;omega),by omega,hE7,hO6,hR6,hZ6⟩
      case measure=>simp [gV];omega
   · have hi:i=n1 / 64∧m=n1%64:=by have:=Hn.out;omega
     have hsrc:nK wr (some ⟨bb,p,none⟩) m (fun j=>bs1 (n1 / (2*Ru.m rn)*(2*Ru.m rn)+j)):=by
      by_cases h0:m=0
      · exact .inl h0
      · refine .inr ⟨bb,p,rfl,fun j hj => ?_⟩
        have h1:=hcell1 (i*64+j) (by have:=Hn.out;omega);have h2:=(hO1.cell' (q:=ob1+(i*64+j)) (J5 h1) hbb).trans h1;rw [←Nat.add_assoc,←Hp.out.resolve_left h0,hi.1] at h2;exact h2
     have hE8:=hE1.bytes 0 m (fun j=>bs1 (n1 / (2*Ru.m rn)*(2*Ru.m rn)+j)) (by omega);have hth:=hE1.rest.there;have hO8:aT b o 137 w (wr.setCells b (o+8) (au .u8 m (fun j=>bs1 (n1 / (2*Ru.m rn)*(2*Ru.m rn)+j)))):=hO1.trans (aT.setCells _ _ (by omega) (by rw [ak];omega));have hmin:m=Nat.min m 128:=(Nat.min_eq_left (by omega)).symm;have HI:Hid (i=n1 / 64∧m=n1%64):=hi;have HE:Hid (az .u32 (wr.setCells b (o+8) (au .u8 m (fun j=>bs1 (n1 / (2*Ru.m rn)*(2*Ru.m rn)+j)))) b o (aX rn K s1 bs1 i) (over R1 0 m (fun j=>bs1 (n1 / (2*Ru.m rn)*(2*Ru.m rn)+j))) ct):=hE8;have HO:Hid (aT b o 137 w (wr.setCells b (o+8) (au .u8 m (fun j=>bs1 (n1 / (2*Ru.m rn)*(2*Ru.m rn)+j))))):=hO8;have hmi:Hid (m=Nat.min m 128):=hmin;clear hi hE8 hO8 hcell1 hcub hmin;go_wp2_with (refine aM rfl _ _ 22 22 rfl 5 Tryz.underlying22 (by kernel_rfl) b (o+8) 128 128 (some ⟨bb,p,none⟩) m cp rfl rfl m (fun j=>bs1 (n1 / (2*Ru.m rn)*(2*Ru.m rn)+j)) hsrc hmi.out hth ?_);go_end0;refine ⟨rfl,?_,HO.out⟩
     have e:dZ rn K s1 R1 n1 bs1=(aX rn K s1 bs1 i,over R1 0 m (fun j=>bs1 (n1 / (2*Ru.m rn)*(2*Ru.m rn)+j))):=by rw [HI.out.1,HI.out.2];rfl
     rw [←HS1.out,←HN1.out,←HB1.out,←HCT.out,e];exact HE.out
theorem kK (W:World) (b o h:Nat) (hh:h≤128) (_hz:h<128):(Instr.sliceAt 152 (.pointer (some ⟨b,o+8,none⟩)) (some (.int .i64 h)) (some (.int .i64 128)) none).run Tryz.prog W = .ok (.slice (some ⟨b,o+8+h,none⟩) (128 - h) (128 - h)) W:=by
 have h1:Tryz.prog.arrayLen 152=128:=by kernel_rfl
 have h2:Tryz.prog.elem 152=5:=by kernel_rfl
 have h3:((sizeOf 5).run Tryz.prog W) = .ok 1 W:=by kernel_rfl
 rw [run_sliceAt_array_lh W 152 ⟨b,o+8,none⟩ (by kernel_rfl) .i64 .i64 h 128 (by omega) (by omega) (by rw [h1];decide),h2,h3,h1];simp only [Result.andThen_ok,slicedAt,Int.toNat_natCast,Nat.mul_one,Addr.add_mid];rw [if_neg (by omega)];rfl
set_option maxRecDepth 20000 in
set_option maxHeartbeats 1000000 in
theorem zr (s:St) (R:Nat→Nat) (b o c n bb ob cap h:Nat) (bs:Nat→Nat) (w:World)
 (hE:az .u64 w b o s R c) (hbb:bb≠b) (hcn:c+n<4611686018427387904)
 (hcell:∀ j,j<n→w.cell? ⟨bb,ob+j,none⟩=some (.int .u8 (bs j))) (hmod:(c:Int)%128=(h:Int)) (h0:0<h) (hlt:h+n<128) :
 Calls Tryz.prog 151 #[.pointer (some ⟨b,o,none⟩),(.agg #[.int .i64 64,.int .i64 80,.int .u64 1,.int .u64 8,.int .u64 7,.int .u64 19,.int .u64 61,.int .u64 6,.int .u64 28,.int .u64 34,.int .u64 39,.int .u64 14,.int .u64 18,.int .u64 41]),.slice (some ⟨bb,ob,none⟩) n cap] w
  fun e w'=>e = .returned (.tuple #[])∧az .u64 w' b o s (over R h n bs) (c+n)∧aT b o 137 w w':=by
 have hmi:Hid (n=Nat.min n (128 - h)):=(Nat.min_eq_left (by omega)).symm
 have hmi':((h:Int)+n)<128:=by omega
 have hsl:=fun W=>kK W b o h (by omega) (by omega)
 go_enter Tryz.func151,Tryz.ntmps151
 go_wp2_with (first
  | (go_at_call 185;refine (cC _).mono ?_;rintro e w1 ⟨rfl,hb1⟩;obtain ⟨hE1,hO1,hR1,hsz1,hc1,hf1⟩:=kr (n:=n) hE hb1;have hsrc:nK (w1.setCell ⟨b,o+136,none⟩ (.int .i64 ((c:Int)+n))) (some ⟨bb,ob,none⟩) n bs := .inr ⟨bb,ob,rfl,fun j hj=>(hO1.cell' (J5 (hcell j hj)) hbb).trans (hcell j hj)⟩;have hth:(w1.setCell ⟨b,o+136,none⟩ (.int .i64 ((c:Int)+n))).there b (o+8+h) (128 - h):=ah.there_part hE1.rest (by omega);clear hb1 hR1)
  | (refine aM rfl _ _ 22 22 rfl 5 Tryz.underlying22 (by kernel_rfl) b (o+8+h) (128 - h) _ (some ⟨bb,ob,none⟩) n cap rfl rfl n bs hsrc hmi.out hth ?_))
 exact bodyPost_ret (results_none Tryz.results151 _ _ _) rfl ⟨rfl,hE1.bytes h n bs (by omega),hO1.trans (aT.setCells _ _ (by omega) (by rw [ak];omega))⟩
set_option maxRecDepth 20000 in
set_option maxHeartbeats 2000000 in
theorem Ae (K:Nat→Nat) (hK:∀ j,K j<18446744073709551616) (s:St) (hs:s.lt 18446744073709551616) (R:Nat→Nat) (hR:∀ j,R j<256) (b o c n bb ob cap h:Nat) (bs:Nat→Nat) (hbs:∀ j,bs j<256) (w:World)
 (hE:az .u64 w b o s R c) (hcub:∀ j,j<80→w.cell? ⟨4,j,none⟩=some (.int .u64 (K j))) (hb3:4≠b) (hbb:bb≠b) (hcap:n≤cap) (hcn:c+n<4611686018427387904)
 (hcell:∀ j,j<n→w.cell? ⟨bb,ob+j,none⟩=some (.int .u8 (bs j))) (hmod:(c:Int)%128=(h:Int)) (h0:0<h) (_hhz:h<128) (hge:128≤h+n) :
 Calls Tryz.prog 151 #[.pointer (some ⟨b,o,none⟩),(.agg #[.int .i64 64,.int .i64 80,.int .u64 1,.int .u64 8,.int .u64 7,.int .u64 19,.int .u64 61,.int .u64 6,.int .u64 28,.int .u64 34,.int .u64 39,.int .u64 14,.int .u64 18,.int .u64 41]),.slice (some ⟨bb,ob,none⟩) n cap] w
  fun e w'=>e = .returned (.tuple #[])∧az .u64 w' b o (dZ aA K (aU aA K (over R h (128 - h) bs) s) (over R h (128 - h) bs) (n - (128 - h)) (fun j=>bs (128 - h+j))).1 (dZ aA K (aU aA K (over R h (128 - h) bs) s) (over R h (128 - h) bs) (n - (128 - h)) (fun j=>bs (128 - h+j))).2 (c+n)∧aT b o 137 w w':=by
 obtain ⟨d,hd⟩:∃ d,d=128 - h:=⟨_,rfl⟩
 rw [←hd];have Hd:Hid (d=128 - h):=hd
 have hdn:d≤n:=by omega
 have hdZ:d≤128:=by omega
 have hd1:0<d:=by omega
 have hhd:(h:Int)+d=128:=by omega
 clear hd;have hmi:Hid (d=Nat.min n d):=(Nat.min_eq_right hdn).symm
 have hsl:∀ W:World,(Instr.sliceAt 152 (.pointer (some ⟨b,o+8,none⟩)) (some (.int .i64 h)) (some (.int .i64 128)) none).run Tryz.prog W = .ok (.slice (some ⟨b,o+8+h,none⟩) d (128 - h)) W:=fun W=>by rw [Hd.out];exact kK W b o h (by omega) (by omega)
 obtain ⟨R1,hR1e⟩:∃ R1,R1=over R h d bs:=⟨_,rfl⟩
 have hR1l:∀ j,R1 j<256:=by rw [hR1e];exact kR hR hbs
 have HR1:Hid (R1=over R h d bs):=hR1e;rw [←hR1e];clear hR1e;go_enter Tryz.func151,Tryz.ntmps151
 go_wp2_with (first
  | (go_at_call 185;refine (cC _).mono ?_;rintro e w1 ⟨rfl,hb1⟩;obtain ⟨hE1,hO1,hR1,hsz1,hc1,hf1⟩:=kr (n:=n) hE hb1;have hsrc:nK (w1.setCell ⟨b,o+136,none⟩ (.int .i64 ((c:Int)+n))) (some ⟨bb,ob,none⟩) n bs := .inr ⟨bb,ob,rfl,fun j hj=>(hO1.cell' (J5 (hcell j hj)) hbb).trans (hcell j hj)⟩;have hth:(w1.setCell ⟨b,o+136,none⟩ (.int .i64 ((c:Int)+n))).there b (o+8+h) d:=ah.there_part hE1.rest (by have:=Hd.out;omega);clear hb1)
  | (refine aM rfl _ _ 22 22 rfl 5 Tryz.underlying22 (by kernel_rfl) b (o+8+h) d _ (some ⟨bb,ob,none⟩) n cap rfl rfl d bs hsrc hmi.out hth ?_;clear hsrc hth hmi hc1 hf1 hsl))
 obtain ⟨w2,hw2⟩:∃ w2,w2=(w1.setCell ⟨b,o+136,none⟩ (.int .i64 ((c:Int)+n))).setCells b (o+8+h) (au .u8 d bs):=⟨_,rfl⟩
 have hE2:az .u64 w2 b o s R1 (c+n):=by rw [hw2,HR1.out];exact hE1.bytes h d bs (by have:=Hd.out;omega)
 have hO2:aT b o 137 w w2:=by rw [hw2];exact hO1.trans (aT.setCells _ _ (by omega) (by rw [ak];have:=Hd.out;omega))
 have hR2:aZ w2 w.heap.size:=by rw [hw2];exact hR1.same (fun q=>World.cell?_of_block (aF b _ _ _ _ (Nat.ne_of_gt (J5 hE.cnt))))
 have hsz2:w.heap.size<w2.heap.size:=by rw [hw2,(aj b _ _ _).2.2.2];simpa using hsz1
 rw [←hw2];clear hw2 hE1 hO1 hR1 hsz1 hR
 obtain ⟨ct,hct⟩:∃ ct,ct=c+n:=⟨_,rfl⟩
 have HCT:Hid (ct=c+n):=hct;rw [←hct] at hE2;clear hct
 have hcw:∀ j,j<80→w2.drew.cell? ⟨4,j,none⟩=some (.int .u64 (K j)):=fun j hj=>(hO2.cell' (J5 (hcub j hj)) hb3).trans (hcub j hj)
 have hmix:=mg K hK s hs b (o+8) 128 R1 hR1l w2.drew hcw (fun j hj=>(hE2.rest j (by omega)).1);obtain ⟨q0,q1,q2,q3,q4,q5,q6,q7⟩:=hE2.st.st';obtain ⟨p0,p1,p2,p3,p4,p5,p6,p7,p8,p9,p10,p11,p12,p13⟩:=id hR2;have hbw:Below w2.heap.size w2 w2.drew:=(Below.refl _ _).drew
 obtain ⟨s1,hs1e⟩:∃ s1,s1=aU aA K R1 s:=⟨_,rfl⟩
 have hs1:s1.lt 18446744073709551616:=by rw [hs1e];exact nE (r:=aA)
 have HS1:Hid (s1=aU aA K R1 s):=hs1e;rw [←hs1e] at hmix;clear hcw hs1e
 go_cut [2] from 41 (fun v wc=>v = .slice (some ⟨bb,ob,none⟩) n cap∧az .u64 wc b o s1 R1 ct∧aT b o 137 w wc∧aZ wc w.heap.size∧w.heap.size<wc.heap.size)
 case first =>
  clear hcell hcub;go_region_with ((go_at_call 206;refine hmix.mono ?_;rintro e w' ⟨rfl,hbm⟩;have hE5:=hE2.below (aa hbw hbm);have hst:=mh w' b o s1 hE5.st.there))
  all_goals
   have hE6:=hE5.state s1;have hO6:aT b o 137 w (w'.setCells b o (St.vals .u64 s1).toList):=hO2.trans ((aT.of_below (aa hbw hbm) (J5 hE2.cnt)).trans (aT.setCells _ _ (JW _) (by rw [eH,ak];omega)));have hR6:aZ (w'.setCells b o (St.vals .u64 s1).toList) w.heap.size:=(hR2.below (aa hbw hbm) hsz2).same (fun q=>World.cell?_of_block (aF b _ _ _ _ (Nat.ne_of_gt (J5 hE.cnt))))
   have hZ6:w.heap.size<(w'.setCells b o (St.vals .u64 s1).toList).heap.size:=by rw [(aj b _ _ _).2.2.2];have:=hbm.size;simp only [World.size_drew] at this;omega
   clear hst hE5 p0 p1 p2 p3 p4 p5 p6 p7 p8 p9 p10 p11 p12 p13 q0 q1 q2 q3 q4 q5 q6 q7 hmix hbw hbm;go_wp2;go_meet
   case rel=>exact ⟨rfl,hE6,hO6,hR6,hZ6⟩
 case rest =>
  obtain ⟨rfl,hE1,hO1,hR1,hsz1⟩:=hcut;clear hmix q0 q1 q2 q3 q4 q5 q6 q7 p0 p1 p2 p3 p4 p5 p6 p7 p8 p9 p10 p11 p12 p13 hbw hE2 hO2 hR2 hsz2
  obtain ⟨n1,hn1⟩:∃ n1,n1=n - d:=⟨_,rfl⟩
  obtain ⟨ob1,hob1⟩:∃ ob1,ob1=ob+d:=⟨_,rfl⟩
  obtain ⟨bs1,hbs1e⟩:∃ bs1:Nat→Nat,bs1=fun j=>bs (d+j):=⟨_,rfl⟩
  have hbs1:∀ j,bs1 j<256:=by rw [hbs1e];exact fun j=>hbs _
  have hcell1:∀ j,j<n1→w.cell? ⟨bb,ob1+j,none⟩=some (.int .u8 (bs1 j)):=fun j hj=>by
   rw [hob1,hbs1e,Nat.add_assoc];exact hcell (d+j) (by omega)
  have HN1:Hid (n1=n - d):=hn1;have HO1:Hid (ob1=ob+d):=hob1;have HB1:Hid (bs1=fun j=>bs (d+j)):=hbs1e
  obtain ⟨p1,hp1⟩:∃ p1,p1=(if cap=d then ob else ob+d):=⟨_,rfl⟩
  have hslb:∀ W:World,(Instr.sliceAt 22 (.slice (some ⟨bb,ob,none⟩) n cap) (some (.int .i64 d)) none none).run Tryz.prog W = .ok (.slice (some ⟨bb,p1,none⟩) (n - d) (cap - d)) W:=fun W=>by rw [hp1];exact lG W bb ob n cap d hdn
  have HP1:Hid (p1=(if cap=d then ob else ob+d)):=hp1;clear hn1 hob1 hbs1e hcell hp1;go_wp2;clear hslb;go_loopw [2] (fun v wr=>∃ i m p cp:Nat,v = .slice (some ⟨bb,p,none⟩) m cp∧Hid (n1=i*128+m)∧Hid (m=0∨p=ob1+i*128)∧m≤cp∧az .u64 wr b o (aX aA K s1 bs1 i) R1 ct∧aT b o 137 w wr∧aZ wr w.heap.size∧w.heap.size<wr.heap.size) (fun v _=>gV v)
  case atStart =>
   refine ⟨0,n - d,p1,cap - d,rfl,(by rw [HN1.out,Nat.zero_mul,Nat.zero_add]:n1=0*128+(n - d)),?_,by omega,hE1,hO1,hR1,hsz1⟩;show n - d=0∨p1=ob1+0*128;rw [HO1.out,Nat.zero_mul,Nat.add_zero]
   by_cases hq:cap=d
   · left;omega
   · right;rw [HP1.out,if_neg hq]
  case round =>
   clear hE1 hO1 hR1 hsz1;obtain ⟨i,m,p,cp,rfl,Hn,Hp,hm,hE1,hO1,hR1,hsz1⟩:=hrel
   have hmn:m≤n1:=by have:=Hn.out;omega
   by_cases hlt:128≤m
   · have hsi:(aX aA K s1 bs1 i).lt 18446744073709551616:=gF (r:=aA) hs1 i
     have hcw:∀ j,j<80→wr.drew.cell? ⟨4,j,none⟩=some (.int .u64 (K j)):=fun j hj=>(hO1.cell' (J5 (hcub j hj)) hb3).trans (hcub j hj)
     have hcl:∀ j,j<128→wr.drew.cell? ⟨bb,p+j,none⟩=some (.int .u8 (bs1 (i*(2*Ru.m aA)+j))):=fun j hj=>by
      have h1:=hcell1 (i*128+j) (by have:=Hn.out;omega);have h2:=(hO1.cell' (q:=ob1+(i*128+j)) (J5 h1) hbb).trans h1;rw [←Nat.add_assoc,←Hp.out.resolve_left (by omega)] at h2;exact h2
     have hmix:=mg K hK (aX aA K s1 bs1 i) hsi bb p cp (fun j=>bs1 (i*(2*Ru.m aA)+j)) (fun j=>hbs1 _) wr.drew hcw hcl;obtain ⟨q0,q1,q2,q3,q4,q5,q6,q7⟩:=hE1.st.st'
     obtain ⟨x,hx⟩:∃ x,x=aX aA K s1 bs1 i:=⟨_,rfl⟩
     have HX:Hid (x=aX aA K s1 bs1 i):=hx;rw [←hx] at hmix q0 q1 q2 q3 q4 q5 q6 q7;clear hx hcl hcw hcell1 hcub;obtain ⟨p0,p1,p2,p3,p4,p5,p6,p7,p8,p9,p10,p11,p12,p13⟩:=hR1;have hbw:Below wr.heap.size wr wr.drew:=(Below.refl _ _).drew;go_wp2;go_region_with ((go_at_call 206;refine hmix.mono ?_;rintro e w' ⟨rfl,hbm⟩;have hE5:=hE1.below (aa hbw hbm);have hst:=mh w' b o (aU aA K (fun j=>bs1 (i*(2*Ru.m aA)+j)) x) hE5.st.there))
     all_goals
      have hE6:=hE5.state (aU aA K (fun j=>bs1 (i*(2*Ru.m aA)+j)) x);have hO6:aT b o 137 w (w'.setCells b o (St.vals .u64 (aU aA K (fun j=>bs1 (i*(2*Ru.m aA)+j)) x)).toList):=hO1.trans ((aT.of_below (aa hbw hbm) (J5 hE1.cnt)).trans (aT.setCells _ _ (JW _) (by rw [eH,ak];omega)));have hR6:aZ (w'.setCells b o (St.vals .u64 (aU aA K (fun j=>bs1 (i*(2*Ru.m aA)+j)) x)).toList) w.heap.size:=(aZ.below ⟨p0,p1,p2,p3,p4,p5,p6,p7,p8,p9,p10,p11,p12,p13⟩ (aa hbw hbm) hsz1).same (fun q=>World.cell?_of_block (aF b _ _ _ _ (Nat.ne_of_gt (J5 hE.cnt))))
      have hZ6:w.heap.size<(w'.setCells b o (St.vals .u64 (aU aA K (fun j=>bs1 (i*(2*Ru.m aA)+j)) x)).toList).heap.size:=by rw [(aj b _ _ _).2.2.2];have:=hbm.size;simp only [World.size_drew] at this;omega
      clear hst hE5 p0 p1 p2 p3 p4 p5 p6 p7 p8 p9 p10 p11 p12 p13 q0 q1 q2 q3 q4 q5 q6 q7 hmix hbw hbm;go_wp2;go_roundw
      case rel =>
       have hn':n1=(i+1)*128+(m - 128):=by have:=Hn.out;omega
       have hE7:az .u64 (w'.setCells b o (St.vals .u64 (aU aA K (fun j=>bs1 (i*(2*Ru.m aA)+j)) x)).toList) b o (aX aA K s1 bs1 (i+1)) R1 ct:=by
        show az _ _ _ _ (aU aA K (fun j=>bs1 (i*(2*Ru.m aA)+j)) (aX aA K s1 bs1 i)) _ _;rw [←HX.out];exact hE6
       by_cases hcp:cp=128
       · exact ⟨i+1,m - 128,p,cp - 128,by rw [if_pos hcp],hn',.inl (by omega),by omega,hE7,hO6,hR6,hZ6⟩
       · exact ⟨i+1,m - 128,p+128,cp - 128,by rw [if_neg hcp],hn',.inr (by have:=Hp.out;omega),by omega,hE7,hO6,hR6,hZ6⟩
      case measure=>simp [gV];omega
   · have hi:i=n1 / 128∧m=n1%128:=by have:=Hn.out;omega
     have hsrc:nK wr (some ⟨bb,p,none⟩) m (fun j=>bs1 (n1 / (2*Ru.m aA)*(2*Ru.m aA)+j)):=by
      by_cases h0:m=0
      · exact .inl h0
      · refine .inr ⟨bb,p,rfl,fun j hj => ?_⟩
        have h1:=hcell1 (i*128+j) (by have:=Hn.out;omega);have h2:=(hO1.cell' (q:=ob1+(i*128+j)) (J5 h1) hbb).trans h1;rw [←Nat.add_assoc,←Hp.out.resolve_left h0,hi.1] at h2;exact h2
     have hE8:=hE1.bytes 0 m (fun j=>bs1 (n1 / (2*Ru.m aA)*(2*Ru.m aA)+j)) (by omega);have hth:=hE1.rest.there;have hO8:aT b o 137 w (wr.setCells b (o+8) (au .u8 m (fun j=>bs1 (n1 / (2*Ru.m aA)*(2*Ru.m aA)+j)))):=hO1.trans (aT.setCells _ _ (by omega) (by rw [ak];omega));have hmin:m=Nat.min m 128:=(Nat.min_eq_left (by omega)).symm;have HI:Hid (i=n1 / 128∧m=n1%128):=hi;have HE:Hid (az .u64 (wr.setCells b (o+8) (au .u8 m (fun j=>bs1 (n1 / (2*Ru.m aA)*(2*Ru.m aA)+j)))) b o (aX aA K s1 bs1 i) (over R1 0 m (fun j=>bs1 (n1 / (2*Ru.m aA)*(2*Ru.m aA)+j))) ct):=hE8;have HO:Hid (aT b o 137 w (wr.setCells b (o+8) (au .u8 m (fun j=>bs1 (n1 / (2*Ru.m aA)*(2*Ru.m aA)+j))))):=hO8;have hmi:Hid (m=Nat.min m 128):=hmin;clear hi hE8 hO8 hcell1 hcub hmin;go_wp2_with (refine aM rfl _ _ 22 22 rfl 5 Tryz.underlying22 (by kernel_rfl) b (o+8) 128 128 (some ⟨bb,p,none⟩) m cp rfl rfl m (fun j=>bs1 (n1 / (2*Ru.m aA)*(2*Ru.m aA)+j)) hsrc hmi.out hth ?_);go_end0;refine ⟨rfl,?_,HO.out⟩
     have e:dZ aA K s1 R1 n1 bs1=(aX aA K s1 bs1 i,over R1 0 m (fun j=>bs1 (n1 / (2*Ru.m aA)*(2*Ru.m aA)+j))):=by rw [HI.out.1,HI.out.2];rfl
     rw [←HS1.out,←HN1.out,←HB1.out,←HCT.out,e];exact HE.out
theorem jo (R:Nat→Nat) (i:Nat) (Y:Nat→Nat):over R i 0 Y=R:=funext fun j=>by
 unfold over;rw [if_neg (by omega)]
theorem oX (W:World) (b o h Z:Nat) (hh:h≤Z) (hz:Z≤128) (_h128:h<128):(Instr.sliceAt 152 (.pointer (some ⟨b,o+8,none⟩)) (some (.int .i64 h)) (some (.int .i64 Z)) none).run Tryz.prog W = .ok (.slice (some ⟨b,o+8+h,none⟩) (Z - h) (128 - h)) W:=by
 have h1:Tryz.prog.arrayLen 152=128:=by kernel_rfl
 have h2:Tryz.prog.elem 152=5:=by kernel_rfl
 have h3:((sizeOf 5).run Tryz.prog W) = .ok 1 W:=by kernel_rfl
 rw [run_sliceAt_array_lh W 152 ⟨b,o+8,none⟩ (by kernel_rfl) .i64 .i64 h Z (by omega) (by omega) (by rw [h1];omega),h2,h3,h1];simp only [Result.andThen_ok,slicedAt,Int.toNat_natCast,Nat.mul_one,Addr.add_mid];rw [if_neg (by omega)]
set_option maxRecDepth 20000 in
set_option maxHeartbeats 1000000 in
theorem sj (xo:Option Addr) (s:St) (R:Nat→Nat) (b o c:Nat) (w:World) (hE:az .u32 w b o s R c) (hcn:c<4611686018427387904) (hh:c%64=0) :
 Calls Tryz.prog 132 #[.pointer (some ⟨b,o,none⟩),(.agg #[.int .i64 32,.int .i64 64,.int .u64 7,.int .u64 18,.int .u64 3,.int .u64 17,.int .u64 19,.int .u64 10,.int .u64 2,.int .u64 13,.int .u64 22,.int .u64 6,.int .u64 11,.int .u64 25]),.slice xo 0 0] w fun e w'=>e = .returned (.tuple #[])∧az .u32 w' b o s R c∧aT b o 137 w w':=by
 go_enter Tryz.func132,Tryz.ntmps132;go_wp2_with (go_at_call 185;refine (cG _).mono ?_;rintro e w1 ⟨rfl,hb1⟩;obtain ⟨hE1,hO1,hR1,hsz1,hc1,hf1⟩:=kC (n:=0) hE hb1;simp only [Int.ofNat_zero,Int.add_zero,Nat.add_zero] at hE1 hO1;clear hb1 hR1);go_loopw [2] (fun v wr=>v = .slice xo 0 0∧az .u32 wr b o s R c∧aT b o 137 w wr) (fun v _=>gV v)
 case atStart=>exact ⟨rfl,hE1,hO1⟩
 case round =>
  clear hE1 hO1 hc1 hf1;obtain ⟨rfl,hE1,hO1⟩:=hrel;have hth:=hE1.rest.there;go_wp2_with (refine aM rfl _ _ 22 22 rfl 5 Tryz.underlying22 (by kernel_rfl) b (o+8) 128 128 xo 0 0 rfl rfl 0 (fun _=>0) (.inl rfl) rfl hth ?_);go_end0;exact ⟨rfl,hE1,hO1⟩
set_option maxRecDepth 20000 in
set_option maxHeartbeats 1000000 in
theorem rL (xo:Option Addr) (s:St) (R:Nat→Nat) (b o c h:Nat) (w:World) (hE:az .u32 w b o s R c) (hcn:c<4611686018427387904) (hmod:(c:Int)%64=(h:Int)) (h0:0<h) (_hlt:h<64) :
 Calls Tryz.prog 132 #[.pointer (some ⟨b,o,none⟩),(.agg #[.int .i64 32,.int .i64 64,.int .u64 7,.int .u64 18,.int .u64 3,.int .u64 17,.int .u64 19,.int .u64 10,.int .u64 2,.int .u64 13,.int .u64 22,.int .u64 6,.int .u64 11,.int .u64 25]),.slice xo 0 0] w fun e w'=>e = .returned (.tuple #[])∧az .u32 w' b o s R c∧aT b o 137 w w':=by
 have hmi':(h:Int)<64:=by omega
 have hsl:∀ W:World,(Instr.sliceAt 152 (.pointer (some ⟨b,o+8,none⟩)) (some (.int .i64 h)) (some (.int .i64 64)) none).run Tryz.prog W = .ok (.slice (some ⟨b,o+8+h,none⟩) (64 - h) (128 - h)) W:=fun W=>oX W b o h 64 (by omega) (by omega) (by omega)
 go_enter Tryz.func132,Tryz.ntmps132
 go_wp2_with (first
  | (go_at_call 185;refine (cG _).mono ?_;rintro e w1 ⟨rfl,hb1⟩;obtain ⟨hE1,hO1,hR1,hsz1,hc1,hf1⟩:=kC (n:=0) hE hb1;simp only [Int.ofNat_zero,Int.add_zero,Nat.add_zero] at hE1 hO1;have hth:(w1.setCell ⟨b,o+136,none⟩ (.int .i64 (c:Int))).there b (o+8+h) (64 - h):=ah.there_part hE1.rest (by omega);clear hb1 hR1)
  | (refine aM rfl _ _ 22 22 rfl 5 Tryz.underlying22 (by kernel_rfl) b (o+8+h) (64 - h) _ xo 0 0 rfl rfl 0 (fun _=>0) (.inl rfl) (Nat.zero_min _).symm hth ?_))
 exact bodyPost_ret (results_none Tryz.results132 _ _ _) rfl ⟨rfl,hE1,hO1⟩
set_option maxRecDepth 20000 in
set_option maxHeartbeats 1000000 in
theorem sL (xo:Option Addr) (s:St) (R:Nat→Nat) (b o c:Nat) (w:World) (hE:az .u64 w b o s R c) (hcn:c<4611686018427387904) (hh:c%128=0) :
 Calls Tryz.prog 151 #[.pointer (some ⟨b,o,none⟩),(.agg #[.int .i64 64,.int .i64 80,.int .u64 1,.int .u64 8,.int .u64 7,.int .u64 19,.int .u64 61,.int .u64 6,.int .u64 28,.int .u64 34,.int .u64 39,.int .u64 14,.int .u64 18,.int .u64 41]),.slice xo 0 0] w fun e w'=>e = .returned (.tuple #[])∧az .u64 w' b o s R c∧aT b o 137 w w':=by
 go_enter Tryz.func151,Tryz.ntmps151;go_wp2_with (go_at_call 185;refine (cC _).mono ?_;rintro e w1 ⟨rfl,hb1⟩;obtain ⟨hE1,hO1,hR1,hsz1,hc1,hf1⟩:=kr (n:=0) hE hb1;simp only [Int.ofNat_zero,Int.add_zero,Nat.add_zero] at hE1 hO1;clear hb1 hR1);go_loopw [2] (fun v wr=>v = .slice xo 0 0∧az .u64 wr b o s R c∧aT b o 137 w wr) (fun v _=>gV v)
 case atStart=>exact ⟨rfl,hE1,hO1⟩
 case round =>
  clear hE1 hO1 hc1 hf1;obtain ⟨rfl,hE1,hO1⟩:=hrel;have hth:=hE1.rest.there;go_wp2_with (refine aM rfl _ _ 22 22 rfl 5 Tryz.underlying22 (by kernel_rfl) b (o+8) 128 128 xo 0 0 rfl rfl 0 (fun _=>0) (.inl rfl) rfl hth ?_);go_end0;exact ⟨rfl,hE1,hO1⟩
set_option maxRecDepth 20000 in
set_option maxHeartbeats 1000000 in
theorem rR (xo:Option Addr) (s:St) (R:Nat→Nat) (b o c h:Nat) (w:World) (hE:az .u64 w b o s R c) (hcn:c<4611686018427387904) (hmod:(c:Int)%128=(h:Int)) (h0:0<h) (_hlt:h<128) :
 Calls Tryz.prog 151 #[.pointer (some ⟨b,o,none⟩),(.agg #[.int .i64 64,.int .i64 80,.int .u64 1,.int .u64 8,.int .u64 7,.int .u64 19,.int .u64 61,.int .u64 6,.int .u64 28,.int .u64 34,.int .u64 39,.int .u64 14,.int .u64 18,.int .u64 41]),.slice xo 0 0] w fun e w'=>e = .returned (.tuple #[])∧az .u64 w' b o s R c∧aT b o 137 w w':=by
 have hmi':(h:Int)<128:=by omega
 have hsl:∀ W:World,(Instr.sliceAt 152 (.pointer (some ⟨b,o+8,none⟩)) (some (.int .i64 h)) (some (.int .i64 128)) none).run Tryz.prog W = .ok (.slice (some ⟨b,o+8+h,none⟩) (128 - h) (128 - h)) W:=fun W=>oX W b o h 128 (by omega) (by omega) (by omega)
 go_enter Tryz.func151,Tryz.ntmps151
 go_wp2_with (first
  | (go_at_call 185;refine (cC _).mono ?_;rintro e w1 ⟨rfl,hb1⟩;obtain ⟨hE1,hO1,hR1,hsz1,hc1,hf1⟩:=kr (n:=0) hE hb1;simp only [Int.ofNat_zero,Int.add_zero,Nat.add_zero] at hE1 hO1;have hth:(w1.setCell ⟨b,o+136,none⟩ (.int .i64 (c:Int))).there b (o+8+h) (128 - h):=ah.there_part hE1.rest (by omega);clear hb1 hR1)
  | (refine aM rfl _ _ 22 22 rfl 5 Tryz.underlying22 (by kernel_rfl) b (o+8+h) (128 - h) _ xo 0 0 rfl rfl 0 (fun _=>0) (.inl rfl) (Nat.zero_min _).symm hth ?_))
 exact bodyPost_ret (results_none Tryz.results151 _ _ _) rfl ⟨rfl,hE1,hO1⟩
def mR (w:World) (b:Nat) (v:Value) (n:Nat) (bs:Nat→Nat):Prop:=(∃ xo,v = .slice xo 0 0∧n=0)∨∃ bb ob cap,v = .slice (some ⟨bb,ob,none⟩) n cap∧bb≠b∧n≤cap∧∀ j,j<n→w.cell? ⟨bb,ob+j,none⟩=some (.int .u8 (bs j))
theorem iJ (K:Nat→Nat) (hK:∀ j,K j<18446744073709551616) (s:St) (hs:s.lt 4294967296) (R:Nat→Nat) (hR:∀ j,R j<256) (b o c n:Nat) (v:Value) (bs:Nat→Nat) (hbs:∀ j,bs j<256) (w:World)
 (hE:az .u32 w b o s R c) (hcub:∀ j,j<80→w.cell? ⟨4,j,none⟩=some (.int .u64 (K j))) (hb3:4≠b) (hv:mR w b v n bs) (hcn:c+n<4611686018427387904) :
 Calls Tryz.prog 132 #[.pointer (some ⟨b,o,none⟩),(.agg #[.int .i64 32,.int .i64 64,.int .u64 7,.int .u64 18,.int .u64 3,.int .u64 17,.int .u64 19,.int .u64 10,.int .u64 2,.int .u64 13,.int .u64 22,.int .u64 6,.int .u64 11,.int .u64 25]),v] w
  fun e w'=>e = .returned (.tuple #[])∧az .u32 w' b o (a6 rn K s R c n bs).1 (a6 rn K s R c n bs).2 (c+n)∧aT b o 137 w w':=by
 have hz:2*Ru.m rn=64:=rfl;unfold a6;rw [hz]
 by_cases h0:c%64=0
 · rw [if_pos h0]
   rcases hv with ⟨xo,rfl,rfl⟩ | ⟨bb,ob,cap,rfl,hbb,hcap,hcell⟩
   · have e:dZ rn K s R 0 bs=(s,R):=by
      show (s,over R 0 0 _)=(s,R);rw [jo]
     rw [e];exact sj xo s R b o c w hE (by omega) h0
   · exact Ag K hK s hs R b o c n bb ob cap bs hbs w hE hcub hb3 hbb hcap hcn hcell h0
 · rw [if_neg h0]
   have hmod:(c:Int)%64=((c%64:Nat):Int):=by omega
   by_cases h1:c%64+n<64
   · rw [if_pos h1]
     rcases hv with ⟨xo,rfl,rfl⟩ | ⟨bb,ob,cap,rfl,hbb,hcap,hcell⟩
     · rw [jo]
       exact rL xo s R b o c _ w hE (by omega) hmod (by omega) (by omega)
     · exact AR s R b o c n bb ob cap _ bs w hE hbb hcn hcell hmod (by omega) h1
   · rw [if_neg h1]
     rcases hv with ⟨xo,rfl,rfl⟩ | ⟨bb,ob,cap,rfl,hbb,hcap,hcell⟩
     · omega
     · exact Am K hK s hs R hR b o c n bb ob cap _ bs hbs w hE hcub hb3 hbb hcap hcn hcell hmod (by omega) (by omega) (by omega)
theorem i8 (K:Nat→Nat) (hK:∀ j,K j<18446744073709551616) (s:St) (hs:s.lt 18446744073709551616) (R:Nat→Nat) (hR:∀ j,R j<256) (b o c n:Nat) (v:Value) (bs:Nat→Nat) (hbs:∀ j,bs j<256) (w:World)
 (hE:az .u64 w b o s R c) (hcub:∀ j,j<80→w.cell? ⟨4,j,none⟩=some (.int .u64 (K j))) (hb3:4≠b) (hv:mR w b v n bs) (hcn:c+n<4611686018427387904) :
 Calls Tryz.prog 151 #[.pointer (some ⟨b,o,none⟩),(.agg #[.int .i64 64,.int .i64 80,.int .u64 1,.int .u64 8,.int .u64 7,.int .u64 19,.int .u64 61,.int .u64 6,.int .u64 28,.int .u64 34,.int .u64 39,.int .u64 14,.int .u64 18,.int .u64 41]),v] w
  fun e w'=>e = .returned (.tuple #[])∧az .u64 w' b o (a6 aA K s R c n bs).1 (a6 aA K s R c n bs).2 (c+n)∧aT b o 137 w w':=by
 have hz:2*Ru.m aA=128:=rfl;unfold a6;rw [hz]
 by_cases h0:c%128=0
 · rw [if_pos h0]
   rcases hv with ⟨xo,rfl,rfl⟩ | ⟨bb,ob,cap,rfl,hbb,hcap,hcell⟩
   · have e:dZ aA K s R 0 bs=(s,R):=by
      show (s,over R 0 0 _)=(s,R);rw [jo]
     rw [e];exact sL xo s R b o c w hE (by omega) h0
   · exact A5 K hK s hs R b o c n bb ob cap bs hbs w hE hcub hb3 hbb hcap hcn hcell h0
 · rw [if_neg h0]
   have hmod:(c:Int)%128=((c%128:Nat):Int):=by omega
   by_cases h1:c%128+n<128
   · rw [if_pos h1]
     rcases hv with ⟨xo,rfl,rfl⟩ | ⟨bb,ob,cap,rfl,hbb,hcap,hcell⟩
     · rw [jo]
       exact rR xo s R b o c _ w hE (by omega) hmod (by omega) (by omega)
     · exact zr s R b o c n bb ob cap _ bs w hE hbb hcn hcell hmod (by omega) h1
   · rw [if_neg h1]
     rcases hv with ⟨xo,rfl,rfl⟩ | ⟨bb,ob,cap,rfl,hbb,hcap,hcell⟩
     · omega
     · exact Ae K hK s hs R hR b o c n bb ob cap _ bs hbs w hE hcub hb3 hbb hcap hcn hcell hmod (by omega) (by omega) (by omega)
theorem ut {r:Ru} {K:Nat→Nat} {s:St} {R:Nat→Nat} {n:Nat} {bs:Nat→Nat} (hs:s.lt (2 ^ r.m)) (hR:∀ j,R j<256) (hb:∀ j,bs j<256):(dZ r K s R n bs).1.lt (2 ^ r.m)∧∀ j,(dZ r K s R n bs).2 j<256 :=
 ⟨gF hs _,kR hR (fun _=>hb _)⟩
theorem fG {r:Ru} {K:Nat→Nat} {s:St} {R:Nat→Nat} {c n:Nat} {bs:Nat→Nat} (hs:s.lt (2 ^ r.m)) (hR:∀ j,R j<256) (hb:∀ j,bs j<256):(a6 r K s R c n bs).1.lt (2 ^ r.m)∧∀ j,(a6 r K s R c n bs).2 j<256:=by
 unfold a6
 split
 · exact ut hs hR hb
 · split
   · exact ⟨hs,kR hR hb⟩
   · exact ut nE (kR hR hb) (fun _=>hb _)
end Go.Proofs.YtibdhadbflfdpaaGreatDoor
