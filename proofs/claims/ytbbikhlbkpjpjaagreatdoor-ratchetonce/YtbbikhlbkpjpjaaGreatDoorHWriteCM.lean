/- What the proof stands on: HWriteC, HWriteN, HWrite, HPad, HSum, HTop. -/
import Derived.Test.YtbbikhlbkpjpjaaGreatDoorHEngM
import Derived.Deep.Cut
import Derived.Deep.RegionWith
namespace Go.Proofs.YtbbikhlbkpjpjaaGreatDoor
open Go.RowKit
theorem sliceFrom (W:World) (bb ob n cap d:Nat) (hd:d≤n):(Instr.sliceAt 22 (.slice (some ⟨bb,ob,none⟩) n cap) (some (.int .i64 d)) none none).run Tryz.prog W = .ok (.slice (some ⟨bb,(if cap=d then ob else ob+d),none⟩) (n - d) (cap - d)) W:=by
 have h1:Tryz.prog.underlying 22=some (.slice (Tryz.prog.elem 22)):=by kernel_rfl
 have h2:Tryz.prog.elem 22=5:=by kernel_rfl
 have h3:((sizeOf 5).run Tryz.prog W) = .ok 1 W:=by kernel_rfl
 rw [run_sliceAt_slice W 22 _ _ _ _ h1,run_slice_l W 22 _ n cap h1 .i64 d (by omega) (by omega),h2,h3]
 simp only [Result.andThen_ok,sliced,Int.toNat_natCast,Nat.mul_one,Addr.add_mid,Option.map]
 by_cases h:cap=d
 · simp [h]
 · simp [h]
theorem sliceRest_32 (W:World) (b o h:Nat) (hh:h≤64) (_hz:h<128):(Instr.sliceAt 183 (.pointer (some ⟨b,o+8,none⟩)) (some (.int .i64 h)) (some (.int .i64 64)) none).run Tryz.prog W = .ok (.slice (some ⟨b,o+8+h,none⟩) (64 - h) (128 - h)) W:=by
 have h1:Tryz.prog.arrayLen 183=128:=by kernel_rfl
 have h2:Tryz.prog.elem 183=5:=by kernel_rfl
 have h3:((sizeOf 5).run Tryz.prog W) = .ok 1 W:=by kernel_rfl
 rw [run_sliceAt_array_lh W 183 ⟨b,o+8,none⟩ (by kernel_rfl) .i64 .i64 h 64 (by omega) (by omega) (by rw [h1];decide),h2,h3,h1]
 simp only [Result.andThen_ok,slicedAt,Int.toNat_natCast,Nat.mul_one,Addr.add_mid]
 rw [if_neg (by omega)]
 rfl
set_option maxRecDepth 20000 in
set_option maxHeartbeats 1000000 in
theorem write32_B (s:St) (R:Nat→Nat) (b o c n bb ob cap h:Nat) (bs:Nat→Nat) (w:World)
 (hE:EngAt .u32 w b o s R c) (hbb:bb≠b) (hcn:c+n<4611686018427387904)
 (hcell:∀ j,j<n→w.cell? ⟨bb,ob+j,none⟩=some (.int .u8 (bs j))) (hmod:(c:Int)%64=(h:Int)) (h0:0<h) (hlt:h+n<64) :
 Calls Tryz.prog 144 #[.pointer (some ⟨b,o,none⟩),(.agg #[.int .i64 32,.int .i64 64,.int .u64 7,.int .u64 18,.int .u64 3,.int .u64 17,.int .u64 19,.int .u64 10,.int .u64 2,.int .u64 13,.int .u64 22,.int .u64 6,.int .u64 11,.int .u64 25]),.slice (some ⟨bb,ob,none⟩) n cap] w
  fun e w'=>e = .returned (.tuple #[])∧EngAt .u32 w' b o s (over R h n bs) (c+n)∧Out b o 137 w w':=by
 have hmi:Hid (n=Nat.min n (64 - h)):=(Nat.min_eq_left (by omega)).symm
 have hmi':((h:Int)+n)<64:=by omega
 have hsl:=fun W=>sliceRest_32 W b o h (by omega) (by omega)
 go_enter Tryz.func144,Tryz.ntmps144
 go_wp2_with (first
  | (go_at_call 157;refine (blockSize32_any _).mono ?_;rintro e w1 ⟨rfl,hb1⟩;obtain ⟨hE1,hO1,hR1,hsz1,hc1,hf1⟩:=begun32 (n:=n) hE hb1;have hsrc:Src (w1.setCell ⟨b,o+136,none⟩ (.int .i64 ((c:Int)+n))) (some ⟨bb,ob,none⟩) n bs := .inr ⟨bb,ob,rfl,fun j hj=>(hO1.cell' (block_lt_of_cell (hcell j hj)) hbb).trans (hcell j hj)⟩;have hth:(w1.setCell ⟨b,o+136,none⟩ (.int .i64 ((c:Int)+n))).there b (o+8+h) (64 - h):=RowAt.there_part hE1.rest (by omega);clear hb1 hR1)
  | (refine wpList_copy_bytes rfl _ _ 22 22 rfl 5 Tryz.underlying22 (by kernel_rfl) b (o+8+h) (64 - h) _ (some ⟨bb,ob,none⟩) n cap rfl rfl n bs hsrc hmi.out hth ?_))
 exact bodyPost_ret (results_none Tryz.results144 _ _ _) rfl ⟨rfl,hE1.bytes h n bs (by omega),hO1.trans (Out.setCells _ _ (by omega) (by rw [ints_len];omega))⟩
set_option maxRecDepth 20000 in
set_option maxHeartbeats 2000000 in
theorem write32_C (K:Nat→Nat) (hK:∀ j,K j<18446744073709551616) (s:St) (hs:s.lt 4294967296) (R:Nat→Nat) (hR:∀ j,R j<256) (b o c n bb ob cap h:Nat) (bs:Nat→Nat) (hbs:∀ j,bs j<256) (w:World)
 (hE:EngAt .u32 w b o s R c) (hcub:∀ j,j<80→w.cell? ⟨5,j,none⟩=some (.int .u64 (K j))) (hb3:5≠b) (hbb:bb≠b) (hcap:n≤cap) (hcn:c+n<4611686018427387904)
 (hcell:∀ j,j<n→w.cell? ⟨bb,ob+j,none⟩=some (.int .u8 (bs j))) (hmod:(c:Int)%64=(h:Int)) (h0:0<h) (_hhz:h<64) (hge:64≤h+n) :
 Calls Tryz.prog 144 #[.pointer (some ⟨b,o,none⟩),(.agg #[.int .i64 32,.int .i64 64,.int .u64 7,.int .u64 18,.int .u64 3,.int .u64 17,.int .u64 19,.int .u64 10,.int .u64 2,.int .u64 13,.int .u64 22,.int .u64 6,.int .u64 11,.int .u64 25]),.slice (some ⟨bb,ob,none⟩) n cap] w
  fun e w'=>e = .returned (.tuple #[])∧EngAt .u32 w' b o (tailE rn K (blockS rn K (over R h (64 - h) bs) s) (over R h (64 - h) bs) (n - (64 - h)) (fun j=>bs (64 - h+j))).1 (tailE rn K (blockS rn K (over R h (64 - h) bs) s) (over R h (64 - h) bs) (n - (64 - h)) (fun j=>bs (64 - h+j))).2 (c+n)∧Out b o 137 w w':=by
 obtain ⟨d,hd⟩:∃ d,d=64 - h:=⟨_,rfl⟩
 rw [←hd]
 have Hd:Hid (d=64 - h):=hd
 have hdn:d≤n:=by omega
 have hdZ:d≤128:=by omega
 have hd1:0<d:=by omega
 have hhd:(h:Int)+d=64:=by omega
 clear hd
 have hmi:Hid (d=Nat.min n d):=(Nat.min_eq_right hdn).symm
 have hsl:∀ W:World,(Instr.sliceAt 183 (.pointer (some ⟨b,o+8,none⟩)) (some (.int .i64 h)) (some (.int .i64 64)) none).run Tryz.prog W = .ok (.slice (some ⟨b,o+8+h,none⟩) d (128 - h)) W:=fun W=>by rw [Hd.out];exact sliceRest_32 W b o h (by omega) (by omega)
 obtain ⟨R1,hR1e⟩:∃ R1,R1=over R h d bs:=⟨_,rfl⟩
 have hR1l:∀ j,R1 j<256:=by rw [hR1e];exact over_lt hR hbs
 have HR1:Hid (R1=over R h d bs):=hR1e
 rw [←hR1e]
 clear hR1e
 go_enter Tryz.func144,Tryz.ntmps144
 go_wp2_with (first
  | (go_at_call 157;refine (blockSize32_any _).mono ?_;rintro e w1 ⟨rfl,hb1⟩;obtain ⟨hE1,hO1,hR1,hsz1,hc1,hf1⟩:=begun32 (n:=n) hE hb1;have hsrc:Src (w1.setCell ⟨b,o+136,none⟩ (.int .i64 ((c:Int)+n))) (some ⟨bb,ob,none⟩) n bs := .inr ⟨bb,ob,rfl,fun j hj=>(hO1.cell' (block_lt_of_cell (hcell j hj)) hbb).trans (hcell j hj)⟩;have hth:(w1.setCell ⟨b,o+136,none⟩ (.int .i64 ((c:Int)+n))).there b (o+8+h) d:=RowAt.there_part hE1.rest (by have:=Hd.out;omega);clear hb1)
  | (refine wpList_copy_bytes rfl _ _ 22 22 rfl 5 Tryz.underlying22 (by kernel_rfl) b (o+8+h) d _ (some ⟨bb,ob,none⟩) n cap rfl rfl d bs hsrc hmi.out hth ?_;clear hsrc hth hmi hc1 hf1 hsl))
 obtain ⟨w2,hw2⟩:∃ w2,w2=(w1.setCell ⟨b,o+136,none⟩ (.int .i64 ((c:Int)+n))).setCells b (o+8+h) (ints .u8 d bs):=⟨_,rfl⟩
 have hE2:EngAt .u32 w2 b o s R1 (c+n):=by rw [hw2,HR1.out];exact hE1.bytes h d bs (by have:=Hd.out;omega)
 have hO2:Out b o 137 w w2:=by rw [hw2];exact hO1.trans (Out.setCells _ _ (by omega) (by rw [ints_len];have:=Hd.out;omega))
 have hR2:Rules32 w2 w.heap.size:=by rw [hw2];exact hR1.same (fun q=>World.cell?_of_block (heap_setCells_other b _ _ _ _ (Nat.ne_of_gt (block_lt_of_cell hE.cnt))))
 have hsz2:w.heap.size<w2.heap.size:=by rw [hw2,(setCells_same b _ _ _).2.2.2];simpa using hsz1
 rw [←hw2]
 clear hw2 hE1 hO1 hR1 hsz1 hR
 obtain ⟨ct,hct⟩:∃ ct,ct=c+n:=⟨_,rfl⟩
 have HCT:Hid (ct=c+n):=hct
 rw [←hct] at hE2
 clear hct
 have hcw:∀ j,j<80→w2.drew.cell? ⟨5,j,none⟩=some (.int .u64 (K j)):=fun j hj=>(hO2.cell' (block_lt_of_cell (hcub j hj)) hb3).trans (hcub j hj)
 have hmix:=mix32_any K hK s hs b (o+8) 128 R1 hR1l w2.drew hcw (fun j hj=>(hE2.rest j (by omega)).1)
 obtain ⟨q0,q1,q2,q3,q4,q5,q6,q7⟩:=hE2.st.st'
 obtain ⟨p0,p1,p2,p3,p4,p5,p6,p7,p8,p9,p10,p11,p12,p13⟩:=id hR2
 have hbw:Below w2.heap.size w2 w2.drew:=(Below.refl _ _).drew
 obtain ⟨s1,hs1e⟩:∃ s1,s1=blockS rn K R1 s:=⟨_,rfl⟩
 have hs1:s1.lt 4294967296:=by rw [hs1e];exact addS_lt (r:=rn)
 have HS1:Hid (s1=blockS rn K R1 s):=hs1e
 rw [←hs1e] at hmix
 clear hcw hs1e
 go_cut [2] from 41 (fun v wc=>v = .slice (some ⟨bb,ob,none⟩) n cap∧EngAt .u32 wc b o s1 R1 ct∧Out b o 137 w wc∧Rules32 wc w.heap.size∧w.heap.size<wc.heap.size)
 case first =>
  clear hcell hcub
  go_region_with ((go_at_call 158;refine hmix.mono ?_;rintro e w' ⟨rfl,hbm⟩;have hE5:=hE2.below (below_next hbw hbm);have hst:=store8_32 w' b o s1 hE5.st.there))
  all_goals
   have hE6:=hE5.state s1
   have hO6:Out b o 137 w (w'.setCells b o (St.vals .u32 s1).toList):=hO2.trans ((Out.of_below (below_next hbw hbm) (block_lt_of_cell hE2.cnt)).trans (Out.setCells _ _ (Nat.le_refl _) (by rw [vals_ints,ints_len];omega)))
   have hR6:Rules32 (w'.setCells b o (St.vals .u32 s1).toList) w.heap.size:=(hR2.below (below_next hbw hbm) hsz2).same (fun q=>World.cell?_of_block (heap_setCells_other b _ _ _ _ (Nat.ne_of_gt (block_lt_of_cell hE.cnt))))
   have hZ6:w.heap.size<(w'.setCells b o (St.vals .u32 s1).toList).heap.size:=by rw [(setCells_same b _ _ _).2.2.2];have:=hbm.size;simp only [World.size_drew] at this;omega
   clear hst hE5 p0 p1 p2 p3 p4 p5 p6 p7 p8 p9 p10 p11 p12 p13 q0 q1 q2 q3 q4 q5 q6 q7 hmix hbw hbm
   go_wp2
   go_meet
   case rel=>exact ⟨rfl,hE6,hO6,hR6,hZ6⟩
 case rest =>
  obtain ⟨rfl,hE1,hO1,hR1,hsz1⟩:=hcut
  clear hmix q0 q1 q2 q3 q4 q5 q6 q7 p0 p1 p2 p3 p4 p5 p6 p7 p8 p9 p10 p11 p12 p13 hbw hE2 hO2 hR2 hsz2
  obtain ⟨n1,hn1⟩:∃ n1,n1=n - d:=⟨_,rfl⟩
  obtain ⟨ob1,hob1⟩:∃ ob1,ob1=ob+d:=⟨_,rfl⟩
  obtain ⟨bs1,hbs1e⟩:∃ bs1:Nat→Nat,bs1=fun j=>bs (d+j):=⟨_,rfl⟩
  have hbs1:∀ j,bs1 j<256:=by rw [hbs1e];exact fun j=>hbs _
  have hcell1:∀ j,j<n1→w.cell? ⟨bb,ob1+j,none⟩=some (.int .u8 (bs1 j)):=fun j hj=>by
   rw [hob1,hbs1e,Nat.add_assoc];exact hcell (d+j) (by omega)
  have HN1:Hid (n1=n - d):=hn1
  have HO1:Hid (ob1=ob+d):=hob1
  have HB1:Hid (bs1=fun j=>bs (d+j)):=hbs1e
  obtain ⟨p1,hp1⟩:∃ p1,p1=(if cap=d then ob else ob+d):=⟨_,rfl⟩
  have hslb:∀ W:World,(Instr.sliceAt 22 (.slice (some ⟨bb,ob,none⟩) n cap) (some (.int .i64 d)) none none).run Tryz.prog W = .ok (.slice (some ⟨bb,p1,none⟩) (n - d) (cap - d)) W:=fun W=>by rw [hp1];exact sliceFrom W bb ob n cap d hdn
  have HP1:Hid (p1=(if cap=d then ob else ob+d)):=hp1
  clear hn1 hob1 hbs1e hcell hp1
  go_wp2
  clear hslb
  go_loopw [2] (fun v wr=>∃ i m p cp:Nat,v = .slice (some ⟨bb,p,none⟩) m cp∧Hid (n1=i*64+m)∧Hid (m=0∨p=ob1+i*64)∧m≤cp∧EngAt .u32 wr b o (loopS rn K s1 bs1 i) R1 ct∧Out b o 137 w wr∧Rules32 wr w.heap.size∧w.heap.size<wr.heap.size) (fun v _=>lenV v)
  case atStart =>
   refine ⟨0,n - d,p1,cap - d,rfl,(by rw [HN1.out,Nat.zero_mul,Nat.zero_add]:n1=0*64+(n - d)),?_,by omega,hE1,hO1,hR1,hsz1⟩
   show n - d=0∨p1=ob1+0*64
   rw [HO1.out,Nat.zero_mul,Nat.add_zero]
   by_cases hq:cap=d
   · left;omega
   · right;rw [HP1.out,if_neg hq]
  case round =>
   clear hE1 hO1 hR1 hsz1
   obtain ⟨i,m,p,cp,rfl,Hn,Hp,hm,hE1,hO1,hR1,hsz1⟩:=hrel
   have hmn:m≤n1:=by have:=Hn.out;omega
   by_cases hlt:64≤m
   · have hsi:(loopS rn K s1 bs1 i).lt 4294967296:=loopS_lt (r:=rn) hs1 i
     have hcw:∀ j,j<80→wr.drew.cell? ⟨5,j,none⟩=some (.int .u64 (K j)):=fun j hj=>(hO1.cell' (block_lt_of_cell (hcub j hj)) hb3).trans (hcub j hj)
     have hcl:∀ j,j<64→wr.drew.cell? ⟨bb,p+j,none⟩=some (.int .u8 (bs1 (i*(2*Ru.m rn)+j))):=fun j hj=>by
      have h1:=hcell1 (i*64+j) (by have:=Hn.out;omega)
      have h2:=(hO1.cell' (q:=ob1+(i*64+j)) (block_lt_of_cell h1) hbb).trans h1
      rw [←Nat.add_assoc,←Hp.out.resolve_left (by omega)] at h2
      exact h2
     have hmix:=mix32_any K hK (loopS rn K s1 bs1 i) hsi bb p cp (fun j=>bs1 (i*(2*Ru.m rn)+j)) (fun j=>hbs1 _) wr.drew hcw hcl
     obtain ⟨q0,q1,q2,q3,q4,q5,q6,q7⟩:=hE1.st.st'
     obtain ⟨x,hx⟩:∃ x,x=loopS rn K s1 bs1 i:=⟨_,rfl⟩
     have HX:Hid (x=loopS rn K s1 bs1 i):=hx
     rw [←hx] at hmix q0 q1 q2 q3 q4 q5 q6 q7
     clear hx hcl hcw hcell1 hcub
     obtain ⟨p0,p1,p2,p3,p4,p5,p6,p7,p8,p9,p10,p11,p12,p13⟩:=hR1
     have hbw:Below wr.heap.size wr wr.drew:=(Below.refl _ _).drew
     go_wp2
     go_region_with ((go_at_call 158;refine hmix.mono ?_;rintro e w' ⟨rfl,hbm⟩;have hE5:=hE1.below (below_next hbw hbm);have hst:=store8_32 w' b o (blockS rn K (fun j=>bs1 (i*(2*Ru.m rn)+j)) x) hE5.st.there))
     all_goals
      have hE6:=hE5.state (blockS rn K (fun j=>bs1 (i*(2*Ru.m rn)+j)) x)
      have hO6:Out b o 137 w (w'.setCells b o (St.vals .u32 (blockS rn K (fun j=>bs1 (i*(2*Ru.m rn)+j)) x)).toList):=hO1.trans ((Out.of_below (below_next hbw hbm) (block_lt_of_cell hE1.cnt)).trans (Out.setCells _ _ (Nat.le_refl _) (by rw [vals_ints,ints_len];omega)))
      have hR6:Rules32 (w'.setCells b o (St.vals .u32 (blockS rn K (fun j=>bs1 (i*(2*Ru.m rn)+j)) x)).toList) w.heap.size:=(Rules32.below ⟨p0,p1,p2,p3,p4,p5,p6,p7,p8,p9,p10,p11,p12,p13⟩ (below_next hbw hbm) hsz1).same (fun q=>World.cell?_of_block (heap_setCells_other b _ _ _ _ (Nat.ne_of_gt (block_lt_of_cell hE.cnt))))
      have hZ6:w.heap.size<(w'.setCells b o (St.vals .u32 (blockS rn K (fun j=>bs1 (i*(2*Ru.m rn)+j)) x)).toList).heap.size:=by rw [(setCells_same b _ _ _).2.2.2];have:=hbm.size;simp only [World.size_drew] at this;omega
      clear hst hE5 p0 p1 p2 p3 p4 p5 p6 p7 p8 p9 p10 p11 p12 p13 q0 q1 q2 q3 q4 q5 q6 q7 hmix hbw hbm
      go_wp2
      go_roundw
      case rel =>
       have hn':n1=(i+1)*64+(m - 64):=by have:=Hn.out;omega
       have hE7:EngAt .u32 (w'.setCells b o (St.vals .u32 (blockS rn K (fun j=>bs1 (i*(2*Ru.m rn)+j)) x)).toList) b o (loopS rn K s1 bs1 (i+1)) R1 ct:=by
        show EngAt _ _ _ _ (blockS rn K (fun j=>bs1 (i*(2*Ru.m rn)+j)) (loopS rn K s1 bs1 i)) _ _
        rw [←HX.out];exact hE6
       by_cases hcp:cp=64
       · exact ⟨i+1,m - 64,p,cp - 64,by rw [if_pos hcp],hn',.inl (by omega),by omega,hE7,hO6,hR6,hZ6⟩
       · exact ⟨i+1,m - 64,p+64,cp - 64,by rw [if_neg hcp],hn',.inr (by have:=Hp.out;omega),by omega,hE7,hO6,hR6,hZ6⟩
      case measure=>simp [lenV];omega
   · have hi:i=n1 / 64∧m=n1%64:=by have:=Hn.out;omega
     have hsrc:Src wr (some ⟨bb,p,none⟩) m (fun j=>bs1 (n1 / (2*Ru.m rn)*(2*Ru.m rn)+j)):=by
      by_cases h0:m=0
      · exact .inl h0
      · refine .inr ⟨bb,p,rfl,fun j hj => ?_⟩
        have h1:=hcell1 (i*64+j) (by have:=Hn.out;omega)
        have h2:=(hO1.cell' (q:=ob1+(i*64+j)) (block_lt_of_cell h1) hbb).trans h1
        rw [←Nat.add_assoc,←Hp.out.resolve_left h0,hi.1] at h2
        exact h2
     have hE8:=hE1.bytes 0 m (fun j=>bs1 (n1 / (2*Ru.m rn)*(2*Ru.m rn)+j)) (by omega)
     have hth:=hE1.rest.there
     have hO8:Out b o 137 w (wr.setCells b (o+8) (ints .u8 m (fun j=>bs1 (n1 / (2*Ru.m rn)*(2*Ru.m rn)+j)))):=hO1.trans (Out.setCells _ _ (by omega) (by rw [ints_len];omega))
     have hmin:m=Nat.min m 128:=(Nat.min_eq_left (by omega)).symm
     have HI:Hid (i=n1 / 64∧m=n1%64):=hi
     have HE:Hid (EngAt .u32 (wr.setCells b (o+8) (ints .u8 m (fun j=>bs1 (n1 / (2*Ru.m rn)*(2*Ru.m rn)+j)))) b o (loopS rn K s1 bs1 i) (over R1 0 m (fun j=>bs1 (n1 / (2*Ru.m rn)*(2*Ru.m rn)+j))) ct):=hE8
     have HO:Hid (Out b o 137 w (wr.setCells b (o+8) (ints .u8 m (fun j=>bs1 (n1 / (2*Ru.m rn)*(2*Ru.m rn)+j))))):=hO8
     have hmi:Hid (m=Nat.min m 128):=hmin
     clear hi hE8 hO8 hcell1 hcub hmin
     go_wp2_with (refine wpList_copy_bytes rfl _ _ 22 22 rfl 5 Tryz.underlying22 (by kernel_rfl) b (o+8) 128 128 (some ⟨bb,p,none⟩) m cp rfl rfl m (fun j=>bs1 (n1 / (2*Ru.m rn)*(2*Ru.m rn)+j)) hsrc hmi.out hth ?_)
     go_end0
     refine ⟨rfl,?_,HO.out⟩
     have e:tailE rn K s1 R1 n1 bs1=(loopS rn K s1 bs1 i,over R1 0 m (fun j=>bs1 (n1 / (2*Ru.m rn)*(2*Ru.m rn)+j))):=by rw [HI.out.1,HI.out.2];rfl
     rw [←HS1.out,←HN1.out,←HB1.out,←HCT.out,e]
     exact HE.out
end Go.Proofs.YtbbikhlbkpjpjaaGreatDoor
namespace Go.Proofs.YtbbikhlbkpjpjaaGreatDoor
open Go.RowKit
theorem over_none (R:Nat→Nat) (i:Nat) (Y:Nat→Nat):over R i 0 Y=R:=funext fun j=>by
 unfold over;rw [if_neg (by omega)]
theorem sliceRestN (W:World) (b o h Z:Nat) (hh:h≤Z) (hz:Z≤128) (_h128:h<128):(Instr.sliceAt 183 (.pointer (some ⟨b,o+8,none⟩)) (some (.int .i64 h)) (some (.int .i64 Z)) none).run Tryz.prog W = .ok (.slice (some ⟨b,o+8+h,none⟩) (Z - h) (128 - h)) W:=by
 have h1:Tryz.prog.arrayLen 183=128:=by kernel_rfl
 have h2:Tryz.prog.elem 183=5:=by kernel_rfl
 have h3:((sizeOf 5).run Tryz.prog W) = .ok 1 W:=by kernel_rfl
 rw [run_sliceAt_array_lh W 183 ⟨b,o+8,none⟩ (by kernel_rfl) .i64 .i64 h Z (by omega) (by omega) (by rw [h1];omega),h2,h3,h1]
 simp only [Result.andThen_ok,slicedAt,Int.toNat_natCast,Nat.mul_one,Addr.add_mid]
 rw [if_neg (by omega)]
set_option maxRecDepth 20000 in
set_option maxHeartbeats 1000000 in
theorem write32_nil0 (xo:Option Addr) (s:St) (R:Nat→Nat) (b o c:Nat) (w:World) (hE:EngAt .u32 w b o s R c) (hcn:c<4611686018427387904) (hh:c%64=0) :
 Calls Tryz.prog 144 #[.pointer (some ⟨b,o,none⟩),(.agg #[.int .i64 32,.int .i64 64,.int .u64 7,.int .u64 18,.int .u64 3,.int .u64 17,.int .u64 19,.int .u64 10,.int .u64 2,.int .u64 13,.int .u64 22,.int .u64 6,.int .u64 11,.int .u64 25]),.slice xo 0 0] w fun e w'=>e = .returned (.tuple #[])∧EngAt .u32 w' b o s R c∧Out b o 137 w w':=by
 go_enter Tryz.func144,Tryz.ntmps144
 go_wp2_with (go_at_call 157;refine (blockSize32_any _).mono ?_;rintro e w1 ⟨rfl,hb1⟩;obtain ⟨hE1,hO1,hR1,hsz1,hc1,hf1⟩:=begun32 (n:=0) hE hb1;simp only [Int.ofNat_zero,Int.add_zero,Nat.add_zero] at hE1 hO1;clear hb1 hR1)
 go_loopw [2] (fun v wr=>v = .slice xo 0 0∧EngAt .u32 wr b o s R c∧Out b o 137 w wr) (fun v _=>lenV v)
 case atStart=>exact ⟨rfl,hE1,hO1⟩
 case round =>
  clear hE1 hO1 hc1 hf1
  obtain ⟨rfl,hE1,hO1⟩:=hrel
  have hth:=hE1.rest.there
  go_wp2_with (refine wpList_copy_bytes rfl _ _ 22 22 rfl 5 Tryz.underlying22 (by kernel_rfl) b (o+8) 128 128 xo 0 0 rfl rfl 0 (fun _=>0) (.inl rfl) rfl hth ?_)
  go_end0
  exact ⟨rfl,hE1,hO1⟩
set_option maxRecDepth 20000 in
set_option maxHeartbeats 1000000 in
theorem write32_nilh (xo:Option Addr) (s:St) (R:Nat→Nat) (b o c h:Nat) (w:World) (hE:EngAt .u32 w b o s R c) (hcn:c<4611686018427387904) (hmod:(c:Int)%64=(h:Int)) (h0:0<h) (_hlt:h<64) :
 Calls Tryz.prog 144 #[.pointer (some ⟨b,o,none⟩),(.agg #[.int .i64 32,.int .i64 64,.int .u64 7,.int .u64 18,.int .u64 3,.int .u64 17,.int .u64 19,.int .u64 10,.int .u64 2,.int .u64 13,.int .u64 22,.int .u64 6,.int .u64 11,.int .u64 25]),.slice xo 0 0] w fun e w'=>e = .returned (.tuple #[])∧EngAt .u32 w' b o s R c∧Out b o 137 w w':=by
 have hmi':(h:Int)<64:=by omega
 have hsl:∀ W:World,(Instr.sliceAt 183 (.pointer (some ⟨b,o+8,none⟩)) (some (.int .i64 h)) (some (.int .i64 64)) none).run Tryz.prog W = .ok (.slice (some ⟨b,o+8+h,none⟩) (64 - h) (128 - h)) W:=fun W=>sliceRestN W b o h 64 (by omega) (by omega) (by omega)
 go_enter Tryz.func144,Tryz.ntmps144
 go_wp2_with (first
  | (go_at_call 157;refine (blockSize32_any _).mono ?_;rintro e w1 ⟨rfl,hb1⟩;obtain ⟨hE1,hO1,hR1,hsz1,hc1,hf1⟩:=begun32 (n:=0) hE hb1;simp only [Int.ofNat_zero,Int.add_zero,Nat.add_zero] at hE1 hO1;have hth:(w1.setCell ⟨b,o+136,none⟩ (.int .i64 (c:Int))).there b (o+8+h) (64 - h):=RowAt.there_part hE1.rest (by omega);clear hb1 hR1)
  | (refine wpList_copy_bytes rfl _ _ 22 22 rfl 5 Tryz.underlying22 (by kernel_rfl) b (o+8+h) (64 - h) _ xo 0 0 rfl rfl 0 (fun _=>0) (.inl rfl) (Nat.zero_min _).symm hth ?_))
 exact bodyPost_ret (results_none Tryz.results144 _ _ _) rfl ⟨rfl,hE1,hO1⟩
end Go.Proofs.YtbbikhlbkpjpjaaGreatDoor
namespace Go.Proofs.YtbbikhlbkpjpjaaGreatDoor
open Go.RowKit
def Bytes (w:World) (b:Nat) (v:Value) (n:Nat) (bs:Nat→Nat):Prop:=(∃ xo,v = .slice xo 0 0∧n=0)∨∃ bb ob cap,v = .slice (some ⟨bb,ob,none⟩) n cap∧bb≠b∧n≤cap∧∀ j,j<n→w.cell? ⟨bb,ob+j,none⟩=some (.int .u8 (bs j))
theorem write32_any (K:Nat→Nat) (hK:∀ j,K j<18446744073709551616) (s:St) (hs:s.lt 4294967296) (R:Nat→Nat) (hR:∀ j,R j<256) (b o c n:Nat) (v:Value) (bs:Nat→Nat) (hbs:∀ j,bs j<256) (w:World)
 (hE:EngAt .u32 w b o s R c) (hcub:∀ j,j<80→w.cell? ⟨5,j,none⟩=some (.int .u64 (K j))) (hb3:5≠b) (hv:Bytes w b v n bs) (hcn:c+n<4611686018427387904) :
 Calls Tryz.prog 144 #[.pointer (some ⟨b,o,none⟩),(.agg #[.int .i64 32,.int .i64 64,.int .u64 7,.int .u64 18,.int .u64 3,.int .u64 17,.int .u64 19,.int .u64 10,.int .u64 2,.int .u64 13,.int .u64 22,.int .u64 6,.int .u64 11,.int .u64 25]),v] w
  fun e w'=>e = .returned (.tuple #[])∧EngAt .u32 w' b o (writeE rn K s R c n bs).1 (writeE rn K s R c n bs).2 (c+n)∧Out b o 137 w w':=by
 have hz:2*Ru.m rn=64:=rfl
 unfold writeE
 rw [hz]
 by_cases h0:c%64=0
 · rw [if_pos h0]
   rcases hv with ⟨xo,rfl,rfl⟩ | ⟨bb,ob,cap,rfl,hbb,hcap,hcell⟩
   · have e:tailE rn K s R 0 bs=(s,R):=by
      show (s,over R 0 0 _)=(s,R)
      rw [over_none]
     rw [e]
     exact write32_nil0 xo s R b o c w hE (by omega) h0
   · exact write32_A K hK s hs R b o c n bb ob cap bs hbs w hE hcub hb3 hbb hcap hcn hcell h0
 · rw [if_neg h0]
   have hmod:(c:Int)%64=((c%64:Nat):Int):=by omega
   by_cases h1:c%64+n<64
   · rw [if_pos h1]
     rcases hv with ⟨xo,rfl,rfl⟩ | ⟨bb,ob,cap,rfl,hbb,hcap,hcell⟩
     · rw [over_none]
       exact write32_nilh xo s R b o c _ w hE (by omega) hmod (by omega) (by omega)
     · exact write32_B s R b o c n bb ob cap _ bs w hE hbb hcn hcell hmod (by omega) h1
   · rw [if_neg h1]
     rcases hv with ⟨xo,rfl,rfl⟩ | ⟨bb,ob,cap,rfl,hbb,hcap,hcell⟩
     · omega
     · exact write32_C K hK s hs R hR b o c n bb ob cap _ bs hbs w hE hcub hb3 hbb hcap hcn hcell hmod (by omega) (by omega) (by omega)
theorem tailE_lt {r:Ru} {K:Nat→Nat} {s:St} {R:Nat→Nat} {n:Nat} {bs:Nat→Nat} (hs:s.lt (2 ^ r.m)) (hR:∀ j,R j<256) (hb:∀ j,bs j<256):(tailE r K s R n bs).1.lt (2 ^ r.m)∧∀ j,(tailE r K s R n bs).2 j<256 :=
 ⟨loopS_lt hs _,over_lt hR (fun _=>hb _)⟩
theorem writeE_lt {r:Ru} {K:Nat→Nat} {s:St} {R:Nat→Nat} {c n:Nat} {bs:Nat→Nat} (hs:s.lt (2 ^ r.m)) (hR:∀ j,R j<256) (hb:∀ j,bs j<256):(writeE r K s R c n bs).1.lt (2 ^ r.m)∧∀ j,(writeE r K s R c n bs).2 j<256:=by
 unfold writeE
 split
 · exact tailE_lt hs hR hb
 · split
   · exact ⟨hs,over_lt hR hb⟩
   · exact tailE_lt addS_lt (over_lt hR hb) (fun _=>hb _)
end Go.Proofs.YtbbikhlbkpjpjaaGreatDoor
namespace Go.Proofs.YtbbikhlbkpjpjaaGreatDoor
open Go.RowKit
def padN (r:Ru) (c:Nat):Nat:=1+(4*r.m - 1 - r.m / 4 - c%(2*r.m))%(2*r.m)+r.m / 4
def padG (N c:Nat):Nat→Nat→Nat
 | 0=>upd (fun _=>0) 0 128
 | i+1=>upd (padG N c i) (N - 1 - i) (c*8 / 2 ^ (8*i)%256)
def padF (r:Ru) (c:Nat):Nat→Nat:=padG (padN r c) c 8
set_option maxRecDepth 20000 in
set_option maxHeartbeats 1000000 in
theorem padding32_any (c:Nat) (hc:c<2305843009213693952) (w:World) :
 Calls Tryz.prog 159 #[(.agg #[.int .i64 32,.int .i64 64,.int .u64 7,.int .u64 18,.int .u64 3,.int .u64 17,.int .u64 19,.int .u64 10,.int .u64 2,.int .u64 13,.int .u64 22,.int .u64 6,.int .u64 11,.int .u64 25]),.int .i64 c] w fun e w'=>∃ g,e = .returned (.slice (some ⟨g,0,none⟩) (padN rn c) (padN rn c))∧w.heap.size≤g∧RowAt .u8 w' g 0 (padN rn c) (padF rn c)∧Below w.heap.size w w':=by
 obtain ⟨N,hNe⟩:∃ N,N=padN rn c:=⟨_,rfl⟩
 have HN:Hid (N=padN rn c):=hNe
 have hN0:(1+(119 - (c:Int))%64+8)=(N:Int):=by
  have:N=1+(119 - c%64)%64+8:=hNe
  omega
 have hN1:8+1≤N:=by omega
 have hN2:N≤200:=by omega
 clear hNe
 have hmk:=fun W=>make_bytes W N _ hN0 (by omega)
 clear hN0
 have hz0:=zb_at N 0 (by omega)
 go_enter Tryz.func159,Tryz.ntmps159
 go_wp2_with (go_at_call 157;refine (blockSize32_any _).mono ?_;rintro e w1 ⟨rfl,hb1⟩;simp only [World.size_alloc] at hb1;have hR:Rules32 w1 w.heap.size:=Rules32.of_box hb1;have p0:=hR.1)
 clear hmk p0
 go_loopw [41] (fun i wr=>∃ k:Nat,k≤8∧i = .int .i64 k∧RowAt .u8 wr w1.heap.size 0 N (padG N c k)∧Below w1.heap.size w1 wr) (fun i _=>8 - (intOf i).toNat)
 case atStart =>
  refine ⟨0,by decide,rfl,?_,?_⟩
  · have h1:=(RowAt.fresh (K := .u8) (w:=w1) (cs:=zb N) (t:=5) (n:=N) (X:=fun _=>0) (fun j hj=>zb_at N j hj)).set (i:=0) (by omega) (v:=128) (u:=128) rfl
    rw [Nat.zero_add,World.setCell_alloc_at _ _ _ _ _ rfl] at h1
    exact h1
  · exact (Below.refl _ _).alloc (Nat.le_refl _) _
 case round =>
  obtain ⟨k,hk,rfl,hrow,hbel⟩:=hrel
  by_cases hlt:k<8
  · obtain ⟨r1,r2⟩:=hrow (N - 1 - k) (by omega)
    rw [Nat.zero_add] at r1 r2
    obtain ⟨q,hq⟩:∃ q,q=N - 1 - k:=⟨_,rfl⟩
    rw [←hq] at r1 r2
    have HQ:Hid (q=N - 1 - k):=hq
    have hqi:(N:Int) - 1 - k=(q:Int):=by omega
    have hqn:q<N:=by omega
    clear hq
    go_wp2
    go_roundw
    case rel =>
     have h1:=hrow.set (i:=q) hqn (v:=(c:Int)*8 / 2 ^ (8*k)%256) (u:=c*8 / 2 ^ (8*k)%256) (by simp)
     rw [Nat.zero_add,HQ.out] at h1
     rw [HQ.out]
     exact ⟨k+1,by omega,by go_num,h1,hbel.setCell (Nat.le_refl _) _⟩
    case measure=>simp [intOf];omega
  · have hke:k=8:=by omega
    subst hke
    have hg:w.heap.size≤w1.heap.size:=by have:=hb1.size;simp only [World.size_alloc] at this;omega
    have hbw:Below w.heap.size w wr:=((Below.refl _ _).alloc (Nat.le_refl _) _).trans ((hb1.mono (by omega)).trans (hbel.mono hg))
    have hrow8:RowAt .u8 wr w1.heap.size 0 (padN rn c) (padF rn c):=by
     show RowAt .u8 wr w1.heap.size 0 (padN rn c) (padG (padN rn c) c 8)
     rw [←HN.out];exact hrow
    clear hrow
    go_wp2
    go_ret
    exact ⟨w1.heap.size,by rw [←HN.out];rfl,hg,hrow8,hbw⟩
end Go.Proofs.YtbbikhlbkpjpjaaGreatDoor
namespace Go.Proofs.YtbbikhlbkpjpjaaGreatDoor
open Go.RowKit
def endS (r:Ru) (K:Nat→Nat) (s:St) (R:Nat→Nat) (c:Nat):St:=(writeE r K s R c (padN r c) (padF r c)).1
def outB (m:Nat) (s:St) (j:Nat):Nat:=s.at (j / (m / 8)) / 2 ^ (m - 8 - j%(m / 8)*8)%256
def outG (m:Nat) (s:St):Nat→Nat→Nat
 | 0=>fun _=>0
 | k+1=>upd (outG m s k) k (outB m s k)
theorem outG_at (m:Nat) (s:St):∀ k j,j<k→outG m s k j=outB m s j
 | k+1,j,h=>by
  unfold outG upd
  by_cases e:j=k
  · rw [if_pos e,e]
  · rw [if_neg e];exact outG_at m s k j (by omega)
theorem padF_lt (r:Ru) (c:Nat):∀ j,padF r c j<256:=by
 suffices h:∀ N i j,padG N c i j<256 from h _ _
 intro N i
 induction i with
 | zero =>
  intro j;unfold padG upd;split
  · omega
  · exact Nat.zero_lt_succ _
 | succ i ih =>
  intro j;unfold padG upd;split
  · exact Nat.mod_lt _ (by decide)
  · exact ih j
theorem padN32_le (c:Nat):padN rn c≤200:=by
 show 1+(4*32 - 1 - 32 / 4 - c%(2*32))%(2*32)+32 / 4≤200
 omega
set_option maxRecDepth 20000 in
set_option maxHeartbeats 1000000 in
theorem sum32_any (K:Nat→Nat) (hK:∀ j,K j<18446744073709551616) (s:St) (hs:s.lt 4294967296) (R:Nat→Nat) (hR:∀ j,R j<256) (c:Nat) (hc:c<2305843009213693952) (w:World)
 (hcub:∀ j,j<80→w.cell? ⟨5,j,none⟩=some (.int .u64 (K j))) :
 Calls Tryz.prog 145 #[.agg (engVals .u32 s R c).toArray,(.agg #[.int .i64 32,.int .i64 64,.int .u64 7,.int .u64 18,.int .u64 3,.int .u64 17,.int .u64 19,.int .u64 10,.int .u64 2,.int .u64 13,.int .u64 22,.int .u64 6,.int .u64 11,.int .u64 25])] w
  fun e w'=>∃ g,e = .returned (.slice (some ⟨g,0,none⟩) 32 32)∧w.heap.size≤g∧RowAt .u8 w' g 0 32 (outB 32 (endS rn K s R c))∧Below w.heap.size w w':=by
 have h3:5<w.heap.size:=block_lt_of_cell (hcub 0 (by decide))
 obtain ⟨W2,hW2⟩:∃ W2,W2=(w.alloc (.cells (engVals .u32 s R c).toArray 185)).alloc (.cells #[.int .i64 32,.int .i64 64,.int .u64 7,.int .u64 18,.int .u64 3,.int .u64 17,.int .u64 19,.int .u64 10,.int .u64 2,.int .u64 13,.int .u64 22,.int .u64 6,.int .u64 11,.int .u64 25] 189):=⟨_,rfl⟩
 have hE:EngAt .u32 W2 w.heap.size 0 s R c:=by rw [hW2];exact (EngAt.fresh w s R c 185).below ((Below.refl _ _).alloc (Nat.le_refl _) _)
 have hRu:Rules32 W2 (w.heap.size+1):=by
  have:=Rules32.of_box (W:=w.alloc (.cells (engVals .u32 s R c).toArray 185)) (w1:=W2) (by rw [hW2];exact Below.refl _ _)
  rw [World.size_alloc] at this;exact this
 have hcub2:∀ j,j<80→W2.cell? ⟨5,j,none⟩=some (.int .u64 (K j)):=fun j hj=>by
  rw [hW2,World.cell?_alloc_lt _ _ _ (by simp;omega),World.cell?_alloc_lt _ _ _ h3];exact hcub j hj
 have hB2:Below w.heap.size w W2:=by rw [hW2];exact ((Below.refl _ _).alloc (Nat.le_refl _) _).alloc (by simp) _
 have hz2:W2.heap.size=w.heap.size+1+1:=by rw [hW2];simp
 have HW2:Hid (W2=(w.alloc (.cells (engVals .u32 s R c).toArray 185)).alloc (.cells #[.int .i64 32,.int .i64 64,.int .u64 7,.int .u64 18,.int .u64 3,.int .u64 17,.int .u64 19,.int .u64 10,.int .u64 2,.int .u64 13,.int .u64 22,.int .u64 6,.int .u64 11,.int .u64 25] 189)):=hW2
 clear hW2
 go_enter Tryz.func145,Tryz.ntmps145
 go_wp2
 rw [←HW2.out]
 obtain ⟨p0,p1,p2,p3,p4,p5,p6,p7,p8,p9,p10,p11,p12,p13⟩:=id hRu
 have hcn:=hE.cnt
 rw [Nat.zero_add] at hcn
 have hb0:Below W2.heap.size W2 W2.drew:=(Below.refl _ _).drew
 have hpad:=padding32_any c hc W2.drew
 have HZ2:Hid (W2.heap.size=w.heap.size+1+1):=hz2
 clear hz2 hcub
 have hw:∀ (w1:World) (g:Nat),W2.drew.heap.size≤g→RowAt .u8 w1 g 0 (padN rn c) (padF rn c)→Below W2.drew.heap.size W2.drew w1 →
  Rules32 w1 (w.heap.size+1)∧Calls Tryz.prog 144 #[.pointer (some ⟨w.heap.size,0,none⟩),(.agg #[.int .i64 32,.int .i64 64,.int .u64 7,.int .u64 18,.int .u64 3,.int .u64 17,.int .u64 19,.int .u64 10,.int .u64 2,.int .u64 13,.int .u64 22,.int .u64 6,.int .u64 11,.int .u64 25]),.slice (some ⟨g,0,none⟩) (padN rn c) (padN rn c)] w1
   fun e w'=>e = .returned (.tuple #[])∧EngAt .u32 w' w.heap.size 0 (writeE rn K s R c (padN rn c) (padF rn c)).1 (writeE rn K s R c (padN rn c) (padF rn c)).2 (c+padN rn c)∧Rules32 w' (w.heap.size+1)∧Below w.heap.size w w':=fun w1 g hg hrow hb=>by
  have hb':=below_next hb0 hb
  have hz:=HZ2.out
  have hg':w.heap.size+1+1≤g:=by simp only [World.size_drew] at hg;omega
  have hR1:=hRu.below hb' (by omega)
  refine ⟨hR1,(write32_any K hK s hs R hR w.heap.size 0 c (padN rn c) _ (padF rn c) (padF_lt _ _) w1 (hE.below hb') (fun j hj=>(hb'.cell (p:=⟨5,j,none⟩) (by show 5<_;omega)).trans (hcub2 j hj)) (by omega) (.inr ⟨g,0,_,rfl,by omega,Nat.le_refl _,fun j hj=>(hrow j hj).1⟩) (by have:=padN32_le c;omega)).mono ?_⟩
  rintro e w' ⟨rfl,hE',hO'⟩
  have hs':=hb'.size
  exact ⟨rfl,hE',hR1.same (fun q=>hO'.cell' (by omega) (by omega)),hB2.trans ((hb'.mono (by omega)).trans (hO'.below (Nat.le_refl _) (by omega)))⟩
 go_cut [] from 8 (fun wc=>EngAt .u32 wc w.heap.size 0 (writeE rn K s R c (padN rn c) (padF rn c)).1 (writeE rn K s R c (padN rn c) (padF rn c)).2 (c+padN rn c)∧Rules32 wc (w.heap.size+1)∧Below w.heap.size w wc)
 case first =>
  go_region_with (first
   | (go_at_call 159;refine hpad.mono ?_;rintro e w1 ⟨g,rfl,hg,hrow,hb1⟩;obtain ⟨⟨r0,r1,r2,r3,r4,r5,r6,r7,r8,r9,r10,r11,r12,r13⟩,hwc⟩:=hw w1 g hg hrow hb1)
   | (go_at_call 144;refine hwc.mono ?_;rintro e w5 ⟨rfl,hE5,hR5,hB5⟩))
  all_goals
   go_wp2
   go_meet
   case rel=>exact ⟨hE5,hR5,hB5⟩
 case rest =>
  obtain ⟨hE5,hR5,hB5⟩:=hcut
  have hs5:(writeE rn K s R c (padN rn c) (padF rn c)).1.lt 4294967296:=(writeE_lt (r:=rn) hs hR (padF_lt _ _)).1
  have HS5:Hid (endS rn K s R c=(writeE rn K s R c (padN rn c) (padF rn c)).1):=(rfl:endS rn K s R c=(writeE rn K s R c (padN rn c) (padF rn c)).1)
  have hst:=hE5.st
  obtain ⟨x,hx⟩:∃ x,x=(writeE rn K s R c (padN rn c) (padF rn c)).1:=⟨_,rfl⟩
  have HX:Hid (x=(writeE rn K s R c (padN rn c) (padF rn c)).1):=hx
  rw [←hx] at hs5 hst
  clear hx
  have c0:=hR5.1
  have hmk:=fun W=>make_bytes W 32 32 rfl (by decide)
  clear hw hpad hb0 hcn p0 p1 p2 p3 p4 p5 p6 p7 p8 p9 p10 p11 p12 p13 hRu hcub2 hE hB2 HW2 HZ2 hE5
  have hwl:w.heap.size<wc.heap.size:=block_lt_of_cell (hst 0 (by decide)).1
  have hwl1:w.heap.size+1<wc.heap.size:=block_lt_of_cell c0
  go_wp2
  clear hmk
  go_loopw [22] (fun i wr=>∃ k:Nat,k≤32∧i = .int .i64 k∧RowAt .u8 wr wc.heap.size 0 32 (outG 32 x k)∧Below wc.heap.size wc wr) (fun i _=>32 - (intOf i).toNat)
  case atStart=>exact ⟨0,Nat.zero_le _,rfl,RowAt.fresh (fun j hj=>zb_at 32 j hj),(Below.refl _ _).alloc (Nat.le_refl _) _⟩
  case round =>
   obtain ⟨k,hk,rfl,hrow,hbel⟩:=hrel
   by_cases hlt:k<32
   · have rs:wr.cell? ⟨w.heap.size,k / 4,none⟩=some (.int .u32 (x.at (k / 4))):=by
      have:=(hst (k / 4) (by omega)).1
      rw [Nat.zero_add] at this
      exact (hbel.cell (p:=⟨w.heap.size,k / 4,none⟩) hwl).trans this
     have rr:wr.cell? ⟨w.heap.size+1,0,none⟩=some (.int .i64 32):=(hbel.cell (p:=⟨w.heap.size+1,0,none⟩) hwl1).trans c0
     obtain ⟨rg,rf⟩:=hrow k hlt
     rw [Nat.zero_add] at rg rf
     have hq:k / 4<8:=by omega
     go_wp2
     go_region
     go_wp2
     go_roundw
     case rel =>
      have h1:=hrow.set (i:=k) hlt (v:=(x.at (k / 4):Int) / 2 ^ (32 - 8 - k%4*8)%256) (u:=outB 32 x k) (by show _=((x.at (k / (32 / 8)) / 2 ^ (32 - 8 - k%(32 / 8)*8)%256:Nat):Int);simp)
      rw [Nat.zero_add] at h1
      exact ⟨k+1,by omega,by go_num,h1.drew,(hbel.setCell (Nat.le_refl _) _).drew⟩
     case measure=>simp [intOf];omega
   · have hke:k=32:=by omega
     subst hke
     go_wp2
     go_ret
     refine ⟨wc.heap.size,rfl,hB5.size,hrow.cong (fun j hj => ?_),hB5.trans (hbel.mono hB5.size)⟩
     rw [outG_at _ _ _ _ hj,HS5.out,←HX.out]
end Go.Proofs.YtbbikhlbkpjpjaaGreatDoor
namespace Go.Proofs.YtbbikhlbkpjpjaaGreatDoor
open Go.RowKit
structure HTab (w:World) (K q:Nat→Nat):Prop where
 cubes:∀ j,j<80→w.cell? ⟨5,j,none⟩=some (.int .u64 (K j))
 squares:∀ j,j<8→w.cell? ⟨3,j,none⟩=some (.int .u64 (q j))
 narrow:Rules32 w 2
 wide:Rules64 w 4
 Klt:∀ j,K j<18446744073709551616
 qlt:∀ j,q j<18446744073709551616
theorem HTab.size {w:World} {K q:Nat→Nat} (h:HTab w K q):5<w.heap.size:=by
 first | exact block_lt_of_cell (h.cubes 0 (by decide)) | exact block_lt_of_cell h.wide.1 | exact block_lt_of_cell h.narrow.1 | exact block_lt_of_cell (h.squares 0 (by decide))
theorem HTab.below {w w':World} {K q:Nat→Nat} (h:HTab w K q) {n:Nat} (hb:Below n w w') (hn:5<n):HTab w' K q :=
 ⟨fun j hj=>(hb.cell (p:=⟨5,j,none⟩) (by show 5<n;omega)).trans (h.cubes j hj),fun j hj=>(hb.cell (p:=⟨3,j,none⟩) (by show 3<n;omega)).trans (h.squares j hj),h.narrow.below hb (by omega),h.wide.below hb (by omega),h.Klt,h.qlt⟩
theorem firstS_lt (r:Ru) (q:Nat→Nat) (hm:r.m≤64) (hq:∀ j,q j<18446744073709551616):(firstS r q).lt (2 ^ r.m):=by
 have h:∀ j,q j / 2 ^ (64 - r.m)<2 ^ r.m:=fun j=>by
  rw [Nat.div_lt_iff_lt_mul (Nat.two_pow_pos _),←Nat.pow_add,show r.m+(64 - r.m)=64 by omega];exact hq j
 exact ⟨h 0,h 1,h 2,h 3,h 4,h 5,h 6,h 7⟩
def hashS (r:Ru) (K q:Nat→Nat) (n:Nat) (bs:Nat→Nat):St:=endS r K (writeE r K (firstS r q) (fun _=>0) 0 n bs).1 (writeE r K (firstS r q) (fun _=>0) 0 n bs).2 n
theorem BytesIn.away {w w':World} {v:Value} {n:Nat} {bs:Nat→Nat} (h:BytesIn w v n bs) (hb:Below w.heap.size w w') {b:Nat} (hn:w.heap.size≤b):Bytes w' b v n bs:=by
 rcases h with h | ⟨bb,ob,cap,rfl,h1,h2,h3⟩
 · exact .inl h
 · exact .inr ⟨bb,ob,cap,rfl,by omega,h2,fun j hj=>(hb.cell (p:=⟨bb,ob+j,none⟩) h1).trans (h3 j hj)⟩
theorem there_new32 (w:World):(w.alloc (.cells zeng32 185)).there w.heap.size 0 137:=(EngAt.fresh (K := .u32) w zSt (fun _=>0) 0 185).there
set_option maxRecDepth 20000 in
set_option maxHeartbeats 1000000 in
theorem Sum256_any (K q:Nat→Nat) (v:Value) (n:Nat) (bs:Nat→Nat) (hbs:∀ j,bs j<256) (w:World) (hT:HTab w K q) (hv:BytesIn w v n bs) (hn:n<2305843009213693952) :
 Calls Tryz.prog 129 #[v] w
  fun e w'=>∃ g,e = .returned (.slice (some ⟨g,0,none⟩) 32 32)∧w.heap.size≤g∧RowAt .u8 w' g 0 32 (outB 32 (hashS rn K q n bs))∧Below w.heap.size w w':=by
 have hz:=zero185
 obtain ⟨p0,p1,p2,p3,p4,p5,p6,p7,p8,p9,p10,p11,p12,p13⟩:=id hT.narrow
 have hst:=start32_any q hT.qlt w hT.squares
 have hi:=isz185 .u32 (firstS rn q) (fun _=>0) 0
 have hone:=all_oneCell_toArray (engVals_one .u32 (firstS rn q) (fun _=>0) 0)
 have hF:(firstS rn q).lt 4294967296:=firstS_lt rn q (by decide) hT.qlt
 have hkey:∀ w1:World,Below w.heap.size w w1→(w1.alloc (.cells zeng32 185)).there w1.heap.size 0 (engVals .u32 (firstS rn q) (fun _=>0) 0).toArray.size∧∀ w2,w2=(w1.alloc (.cells zeng32 185)).setCells w1.heap.size 0 (engVals .u32 (firstS rn q) (fun _=>0) 0)→Rules32 w2 2∧Calls Tryz.prog 144 #[.pointer (some ⟨w1.heap.size,0,none⟩),(.agg #[.int .i64 32,.int .i64 64,.int .u64 7,.int .u64 18,.int .u64 3,.int .u64 17,.int .u64 19,.int .u64 10,.int .u64 2,.int .u64 13,.int .u64 22,.int .u64 6,.int .u64 11,.int .u64 25]),v] w2 fun e w'=>e = .returned (.tuple #[])∧Rules32 w' 2∧EngAt .u32 w' w1.heap.size 0 (writeE rn K (firstS rn q) (fun _=>0) 0 n bs).1 (writeE rn K (firstS rn q) (fun _=>0) 0 n bs).2 n∧Below w.heap.size w w'∧∀ j,j<80→w'.cell? ⟨5,j,none⟩=some (.int .u64 (K j)):=fun w1 hb1=>by
  refine ⟨by simp only [List.size_toArray,engVals_len];exact there_new32 w1,fun w2 hw2 => ?_⟩
  have h3:=hT.size
  have hs1:=hb1.size
  have hE:EngAt .u32 w2 w1.heap.size 0 (firstS rn q) (fun _=>0) 0:=by rw [hw2];exact EngAt.stored (there_new32 w1) _ _ _
  have hb2:Below w1.heap.size w1 w2:=by rw [hw2];exact below_setCells (Nat.le_refl _) _ _ _ ((Below.refl _ _).alloc (Nat.le_refl _) _)
  have hb3:Below w.heap.size w w2:=hb1.trans (hb2.mono hs1)
  have hT2:=hT.below hb3 h3
  refine ⟨hT2.narrow,(write32_any K hT.Klt (firstS rn q) hF (fun _=>0) (fun _=>by decide) w1.heap.size 0 0 n v bs hbs w2 hE hT2.cubes (by omega) (hv.away hb3 hs1) (by omega)).mono ?_⟩
  rintro e w' ⟨rfl,hE',hO'⟩
  have hl:w1.heap.size<w2.heap.size:=block_lt_of_cell hE.cnt
  have hb4:Below w.heap.size w w':=hb3.trans (hO'.below hs1 (by omega))
  have hT3:=hT.below hb4 h3
  rw [Nat.zero_add] at hE'
  exact ⟨rfl,hT3.narrow,hE',hb4,hT3.cubes⟩
 have hX:=writeE_lt (r:=rn) (K:=K) (c:=0) (n:=n) hF (fun _=>(by decide:(0:Nat)<256)) hbs
 obtain ⟨X,hXe⟩:∃ X,X=writeE rn K (firstS rn q) (fun _=>0) 0 n bs:=⟨_,rfl⟩
 have HX:Hid (X=writeE rn K (firstS rn q) (fun _=>0) 0 n bs):=hXe
 rw [←hXe] at hkey hX
 have hsum:=fun w' h=>sum32_any K hT.Klt X.1 hX.1 X.2 hX.2 n hn w' h
 clear hXe hv hT hF
 go_enter Tryz.func129,Tryz.ntmps129
 go_wp2_with (first
  | (go_at_call 143;refine hst.mono ?_;clear hst;rintro e w1 ⟨rfl,hb1⟩;obtain ⟨ht,hk2⟩:=hkey w1 hb1;clear hkey)
  | (refine wpList_store_mid rfl 185 _ _ rfl _ 0 _ rfl rfl ht hi hone ?_;rw [List.toList_toArray];obtain ⟨w2,hw2⟩:∃ w2,w2=(w1.alloc (.cells zeng32 185)).setCells w1.heap.size 0 (engVals .u32 (firstS rn q) (fun _=>0) 0):=⟨_,rfl⟩;obtain ⟨⟨r0,r1,r2,r3,r4,r5,r6,r7,r8,r9,r10,r11,r12,r13⟩,hwr⟩:=hk2 w2 hw2;rw [←hw2];clear hw2 hk2 ht hi hone hz)
  | (go_at_call 144;refine hwr.mono ?_;clear hwr;rintro e w5 ⟨rfl,⟨t0,t1,t2,t3,t4,t5,t6,t7,t8,t9,t10,t11,t12,t13⟩,hE5,hB5,hc5⟩)
  | (refine wpList_load_mid rfl 185 _ rfl _ 0 rfl _ _ hE5.range Tryz.underlying185 rfl (by rw [engVals_len];kernel_rfl) ?_)
  | (go_at_call 145;refine (hsum w5 hc5).mono ?_;rintro e w6 ⟨g,rfl,hg,hrow,hb6⟩))
 go_ret
 have e:hashS rn K q n bs=endS rn K X.1 X.2 n:=by rw [HX.out];rfl
 rw [e]
 exact ⟨g,rfl,Nat.le_trans hB5.size hg,hrow,hB5.trans (hb6.mono hB5.size)⟩
end Go.Proofs.YtbbikhlbkpjpjaaGreatDoor
