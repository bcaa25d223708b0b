/- What the proof stands on: HEng, HWriteA, HWriteC, HWriteN, HWrite, HPad. -/
import Derived.Test.YtddkbmnkbfciaaaGreatDoorHMathM
import Derived.Deep.Cut
import Derived.Deep.RegionWith
namespace Go.Proofs.YtddkbmnkbfciaaaGreatDoor
open Go.RowKit
structure EngAt (K:IntKind) (w:World) (b o:Nat) (s:St) (R:Nat→Nat) (c:Nat):Prop where
 st:RowAt K w b o 8 s.at
 rest:RowAt .u8 w b (o+8) 128 R
 cnt:w.cell? ⟨b,o+136,none⟩=some (.int .i64 c)
 cntf:w.frozen? ⟨b,o+136,none⟩=false
theorem EngAt.below {K:IntKind} {w w':World} {b o:Nat} {s:St} {R:Nat→Nat} {c:Nat} (h:EngAt K w b o s R c) (hb:Below w.heap.size w w'):EngAt K w' b o s R c:=by
 have hl:b<w.heap.size:=block_lt_of_cell h.cnt
 exact ⟨h.st.below hb hl,h.rest.below hb hl,(hb.cell (p:=⟨b,o+136,none⟩) hl).trans h.cnt,(hb.frozen (p:=⟨b,o+136,none⟩) hl).trans h.cntf⟩
theorem EngAt.count {K:IntKind} {w:World} {b o:Nat} {s:St} {R:Nat→Nat} {c:Nat} (h:EngAt K w b o s R c) {v:Int} {c':Nat} (hv:v=(c':Int)):EngAt K (w.setCell ⟨b,o+136,none⟩ (.int .i64 v)) b o s R c':=by
 refine ⟨h.st.apart (o+136) [.int .i64 v] (.inl (by omega)),h.rest.apart (o+136) [.int .i64 v] (.inl (by omega)),?_,by rw [World.frozen?_setCell];exact h.cntf⟩
 rw [World.cell?_setCell_same _ _ _ h.cnt,hv]
theorem EngAt.bytes {K:IntKind} {w:World} {b o:Nat} {s:St} {R:Nat→Nat} {c:Nat} (h:EngAt K w b o s R c) (i n:Nat) (Y:Nat→Nat) (hi:i+n≤128):EngAt K (w.setCells b (o+8+i) (ints .u8 n Y)) b o s (over R i n Y) c:=by
 refine ⟨h.st.apart _ _ (.inl (by omega)),h.rest.splice i n Y hi,?_,by rw [World.frozen?_setCells];exact h.cntf⟩
 rw [World.cell?_setCells_out b _ _ w _ (fun _ _=>by rw [ints_len];show o+136<o+8+i∨o+8+i+n≤o+136;omega)]
 exact h.cnt
theorem vals_ints (K:IntKind) (s:St):(St.vals K s).toList=ints K 8 s.at:=rfl
theorem EngAt.state {K:IntKind} {w:World} {b o:Nat} {s:St} {R:Nat→Nat} {c:Nat} (h:EngAt K w b o s R c) (s':St):EngAt K (w.setCells b o (St.vals K s').toList) b o s' R c:=by
 have e:over s.at 0 8 s'.at=over s.at 0 8 s'.at:=rfl
 have h1:=h.st.splice 0 8 s'.at (by decide)
 rw [Nat.add_zero] at h1
 rw [vals_ints]
 refine ⟨fun j hj => ?_,h.rest.apart _ _ (.inr (by rw [ints_len];omega)),?_,by rw [World.frozen?_setCells];exact h.cntf⟩
 · have:=h1 j hj
   have e2:over s.at 0 8 s'.at j=s'.at j:=by simp [over,hj]
   rw [e2] at this
   exact this
 · rw [World.cell?_setCells_out b _ _ w _ (fun _ _=>by rw [ints_len];show o+136<o∨o+8≤o+136;omega)]
   exact h.cnt
def loopS (r:Ru) (K:Nat→Nat) (s:St) (bs:Nat→Nat):Nat→St
 | 0=>s
 | i+1=>blockS r K (fun j=>bs (i*(2*r.m)+j)) (loopS r K s bs i)
theorem loopS_lt {r:Ru} {K:Nat→Nat} {s:St} {bs:Nat→Nat} (h:s.lt (2 ^ r.m)):∀ i,(loopS r K s bs i).lt (2 ^ r.m)
 | 0=>h
 | _+1=>addS_lt
def tailE (r:Ru) (K:Nat→Nat) (s:St) (R:Nat→Nat) (n:Nat) (bs:Nat→Nat):St × (Nat→Nat) :=
 (loopS r K s bs (n / (2*r.m)),over R 0 (n%(2*r.m)) (fun j=>bs (n / (2*r.m)*(2*r.m)+j)))
def writeE (r:Ru) (K:Nat→Nat) (s:St) (R:Nat→Nat) (c n:Nat) (bs:Nat→Nat):St × (Nat→Nat) :=
 if c%(2*r.m)=0 then tailE r K s R n bs
 else if c%(2*r.m)+n<2*r.m then (s,over R (c%(2*r.m)) n bs)
 else tailE r K (blockS r K (over R (c%(2*r.m)) (2*r.m - c%(2*r.m)) bs) s) (over R (c%(2*r.m)) (2*r.m - c%(2*r.m)) bs) (n - (2*r.m - c%(2*r.m))) (fun j=>bs (2*r.m - c%(2*r.m)+j))
end Go.Proofs.YtddkbmnkbfciaaaGreatDoor
namespace Go.Proofs.YtddkbmnkbfciaaaGreatDoor
open Go.RowKit
theorem RowAt.there_part {K:IntKind} {w:World} {b o n:Nat} {X:Nat→Nat} (h:RowAt K w b o n X) {i m:Nat} (hi:i+m≤n):w.there b (o+i) m:=fun j hj=>by
 have:=h (i+j) (by omega)
 rw [←Nat.add_assoc] at this
 rw [this.1];exact ⟨rfl,this.2⟩
def lenV:Value→Nat
 | .slice _ n _=>n
 | _=>0
theorem RowAt.st' {K:IntKind} {w:World} {b o:Nat} {s:St} (h:RowAt K w b o 8 s.at):w.cell? ⟨b,o,none⟩=some (.int K s.a)∧w.cell? ⟨b,o+1,none⟩=some (.int K s.b)∧w.cell? ⟨b,o+2,none⟩=some (.int K s.c)∧w.cell? ⟨b,o+3,none⟩=some (.int K s.d)∧w.cell? ⟨b,o+4,none⟩=some (.int K s.e)∧w.cell? ⟨b,o+5,none⟩=some (.int K s.f)∧w.cell? ⟨b,o+6,none⟩=some (.int K s.g)∧w.cell? ⟨b,o+7,none⟩=some (.int K s.h) :=
 ⟨(h 0 (by decide)).1,(h 1 (by decide)).1,(h 2 (by decide)).1,(h 3 (by decide)).1,(h 4 (by decide)).1,(h 5 (by decide)).1,(h 6 (by decide)).1,(h 7 (by decide)).1⟩
theorem store8_32 (w:World) (b o:Nat) (s:St) (ht:w.there b o 8):(storeCells ⟨b,o,none⟩ (St.vals .u32 s).toList).run Tryz.prog w = .ok () (w.setCells b o (St.vals .u32 s).toList):=by
 have:=run_storeCells_cells (P:=Tryz.prog) b o (St.vals .u32 s).toList 0 w (fun j hj=>(ht j hj).1) (fun j hj=>(ht j hj).2) (ints_one .u32 8 s.at)
 rw [Nat.add_zero] at this
 exact this
theorem Rules32.same {w1 w2:World} {B:Nat} (h:Rules32 w1 B) (hc:∀ j,w2.cell? ⟨B,j,none⟩=w1.cell? ⟨B,j,none⟩):Rules32 w2 B:=by
 unfold Rules32 at *
 simp only [hc]
 exact h
theorem begun32 {w w1:World} {b o:Nat} {s:St} {R:Nat→Nat} {c n:Nat} (hE:EngAt .u32 w b o s R c) (h:Below (w.alloc (.cells #[.int .i64 32,.int .i64 64,.int .u64 7,.int .u64 18,.int .u64 3,.int .u64 17,.int .u64 19,.int .u64 10,.int .u64 2,.int .u64 13,.int .u64 22,.int .u64 6,.int .u64 11,.int .u64 25] 205)).heap.size (w.alloc (.cells #[.int .i64 32,.int .i64 64,.int .u64 7,.int .u64 18,.int .u64 3,.int .u64 17,.int .u64 19,.int .u64 10,.int .u64 2,.int .u64 13,.int .u64 22,.int .u64 6,.int .u64 11,.int .u64 25] 205)) w1) :
 EngAt .u32 (w1.setCell ⟨b,o+136,none⟩ (.int .i64 ((c:Int)+n))) b o s R (c+n)∧Out b o 137 w (w1.setCell ⟨b,o+136,none⟩ (.int .i64 ((c:Int)+n)))∧Rules32 (w1.setCell ⟨b,o+136,none⟩ (.int .i64 ((c:Int)+n))) w.heap.size∧w.heap.size<w1.heap.size∧w1.cell? ⟨b,o+136,none⟩=some (.int .i64 c)∧w1.frozen? ⟨b,o+136,none⟩=false:=by
 have hl:b<w.heap.size:=block_lt_of_cell hE.cnt
 have h0:Below w.heap.size w w1:=((Below.refl _ _).alloc (Nat.le_refl _) _).trans (h.mono (by simp))
 have hs:=h.size
 simp only [World.size_alloc] at hs h
 have hR:Rules32 w1 w.heap.size:=Rules32.of_box h
 refine ⟨(hE.below h0).count (by omega),(Out.of_below h0 hl).trans (Out.setCell _ _ (by omega) (by omega)),?_,by omega,(hE.below h0).cnt,(hE.below h0).cntf⟩
 exact hR.same (fun q=>World.cell?_setCell_other _ _ _ _ (fun e=>by injection e with e1;omega))
set_option maxRecDepth 20000 in
set_option maxHeartbeats 1000000 in
theorem write32_A (K:Nat→Nat) (hK:∀ j,K j<18446744073709551616) (s:St) (hs:s.lt 4294967296) (R:Nat→Nat) (b o c n bb ob cap:Nat) (bs:Nat→Nat) (hbs:∀ j,bs j<256) (w:World)
 (hE:EngAt .u32 w b o s R c) (hcub:∀ j,j<80→w.cell? ⟨4,j,none⟩=some (.int .u64 (K j))) (hb3:4≠b) (hbb:bb≠b) (hcap:n≤cap) (hcn:c+n<4611686018427387904)
 (hcell:∀ j,j<n→w.cell? ⟨bb,ob+j,none⟩=some (.int .u8 (bs j))) (hh:c%64=0) :
 Calls Tryz.prog 191 #[.pointer (some ⟨b,o,none⟩),(.agg #[.int .i64 32,.int .i64 64,.int .u64 7,.int .u64 18,.int .u64 3,.int .u64 17,.int .u64 19,.int .u64 10,.int .u64 2,.int .u64 13,.int .u64 22,.int .u64 6,.int .u64 11,.int .u64 25]),.slice (some ⟨bb,ob,none⟩) n cap] w
  fun e w'=>e = .returned (.tuple #[])∧EngAt .u32 w' b o (tailE rn K s R n bs).1 (tailE rn K s R n bs).2 (c+n)∧Out b o 137 w w':=by
 go_enter Tryz.func191,Tryz.ntmps191
 go_wp2_with (go_at_call 229;refine (blockSize32_any _).mono ?_;rintro e w1 ⟨rfl,hb1⟩;obtain ⟨hE1,hO1,hR1,hsz1,hc1,hf1⟩:=begun32 (n:=n) hE hb1;clear hb1)
 clear hc1 hf1
 obtain ⟨w2,hw2⟩:∃ w2,w2=w1.setCell ⟨b,o+136,none⟩ (.int .i64 ((c:Int)+n)):=⟨_,rfl⟩
 rw [←hw2] at hE1 hO1 hR1 ⊢
 replace hsz1:w.heap.size<w2.heap.size:=by rw [hw2];simpa using hsz1
 clear hw2
 go_loopw [2] (fun v wr=>∃ i m p cp:Nat,v = .slice (some ⟨bb,p,none⟩) m cp∧Hid (n=i*64+m)∧Hid (m=0∨p=ob+i*64)∧m≤cp∧EngAt .u32 wr b o (loopS rn K s bs i) R (c+n)∧Out b o 137 w wr∧Rules32 wr w.heap.size∧w.heap.size<wr.heap.size) (fun v _=>lenV v)
 case atStart=>exact ⟨0,n,ob,cap,rfl,(Nat.zero_mul 64 ▸ (Nat.zero_add n).symm:n=0*64+n),(.inr (by simp):n=0∨ob=ob+0*64),hcap,hE1,hO1,hR1,hsz1⟩
 case round =>
  clear hE1 hO1 hR1 hsz1
  obtain ⟨i,m,p,cp,rfl,Hn,Hp,hm,hE1,hO1,hR1,hsz1⟩:=hrel
  have hmn:m≤n:=by have:=Hn.out;omega
  by_cases hlt:64≤m
  · have hsi:(loopS rn K s bs i).lt 4294967296:=loopS_lt (r:=rn) hs i
    have hcw:∀ j,j<80→wr.drew.cell? ⟨4,j,none⟩=some (.int .u64 (K j)):=fun j hj=>(hO1.cell' (block_lt_of_cell (hcub j hj)) hb3).trans (hcub j hj)
    have hcl:∀ j,j<64→wr.drew.cell? ⟨bb,p+j,none⟩=some (.int .u8 (bs (i*(2*Ru.m rn)+j))):=fun j hj=>by
     have h1:=hcell (i*64+j) (by have:=Hn.out;omega)
     have h2:=(hO1.cell' (q:=ob+(i*64+j)) (block_lt_of_cell h1) hbb).trans h1
     rw [←Nat.add_assoc,←Hp.out.resolve_left (by omega)] at h2
     exact h2
    have hmix:=mix32_any K hK (loopS rn K s bs i) hsi bb p cp (fun j=>bs (i*(2*Ru.m rn)+j)) (fun j=>hbs _) wr.drew hcw hcl
    obtain ⟨q0,q1,q2,q3,q4,q5,q6,q7⟩:=hE1.st.st'
    obtain ⟨x,hx⟩:∃ x,x=loopS rn K s bs i:=⟨_,rfl⟩
    have HX:Hid (x=loopS rn K s bs i):=hx
    rw [←hx] at hmix q0 q1 q2 q3 q4 q5 q6 q7
    clear hx hcl hcw hcell hcub
    obtain ⟨p0,p1,p2,p3,p4,p5,p6,p7,p8,p9,p10,p11,p12,p13⟩:=hR1
    have hbw:Below wr.heap.size wr wr.drew:=(Below.refl _ _).drew
    go_wp2
    go_region_with ((go_at_call 230;refine hmix.mono ?_;rintro e w' ⟨rfl,hbm⟩;have hE5:=hE1.below (below_next hbw hbm);have hst:=store8_32 w' b o (blockS rn K (fun j=>bs (i*(2*Ru.m rn)+j)) x) hE5.st.there))
    all_goals
     have hE6:=hE5.state (blockS rn K (fun j=>bs (i*(2*Ru.m rn)+j)) x)
     have hO6:Out b o 137 w (w'.setCells b o (St.vals .u32 (blockS rn K (fun j=>bs (i*(2*Ru.m rn)+j)) x)).toList):=hO1.trans ((Out.of_below (below_next hbw hbm) (block_lt_of_cell hE1.cnt)).trans (Out.setCells _ _ (Nat.le_refl _) (by rw [vals_ints,ints_len];omega)))
     have hR6:Rules32 (w'.setCells b o (St.vals .u32 (blockS rn K (fun j=>bs (i*(2*Ru.m rn)+j)) x)).toList) w.heap.size:=(Rules32.below ⟨p0,p1,p2,p3,p4,p5,p6,p7,p8,p9,p10,p11,p12,p13⟩ (below_next hbw hbm) hsz1).same (fun q=>World.cell?_of_block (heap_setCells_other b _ _ _ _ (Nat.ne_of_gt (block_lt_of_cell hE.cnt))))
     have hZ6:w.heap.size<(w'.setCells b o (St.vals .u32 (blockS rn K (fun j=>bs (i*(2*Ru.m rn)+j)) x)).toList).heap.size:=by rw [(setCells_same b _ _ _).2.2.2];have:=hbm.size;simp only [World.size_drew] at this;omega
     clear hst hE5 p0 p1 p2 p3 p4 p5 p6 p7 p8 p9 p10 p11 p12 p13 q0 q1 q2 q3 q4 q5 q6 q7 hmix hbw hbm
     go_wp2
     go_roundw
     case rel =>
      have hn':n=(i+1)*64+(m - 64):=by have:=Hn.out;omega
      have hE7:EngAt .u32 (w'.setCells b o (St.vals .u32 (blockS rn K (fun j=>bs (i*(2*Ru.m rn)+j)) x)).toList) b o (loopS rn K s bs (i+1)) R (c+n):=by
       show EngAt _ _ _ _ (blockS rn K (fun j=>bs (i*(2*Ru.m rn)+j)) (loopS rn K s bs i)) _ _
       rw [←HX.out];exact hE6
      by_cases hcp:cp=64
      · exact ⟨i+1,m - 64,p,cp - 64,by rw [if_pos hcp],hn',.inl (by omega),by omega,hE7,hO6,hR6,hZ6⟩
      · exact ⟨i+1,m - 64,p+64,cp - 64,by rw [if_neg hcp],hn',.inr (by have:=Hp.out;omega),by omega,hE7,hO6,hR6,hZ6⟩
     case measure=>simp [lenV];omega
  · have hi:i=n / 64∧m=n%64:=by have:=Hn.out;omega
    have hsrc:Src wr (some ⟨bb,p,none⟩) m (fun j=>bs (n / (2*Ru.m rn)*(2*Ru.m rn)+j)):=by
     by_cases h0:m=0
     · exact .inl h0
     · refine .inr ⟨bb,p,rfl,fun j hj => ?_⟩
       have h1:=hcell (i*64+j) (by have:=Hn.out;omega)
       have h2:=(hO1.cell' (q:=ob+(i*64+j)) (block_lt_of_cell h1) hbb).trans h1
       rw [←Nat.add_assoc,←Hp.out.resolve_left h0,hi.1] at h2
       exact h2
    have hE8:=hE1.bytes 0 m (fun j=>bs (n / (2*Ru.m rn)*(2*Ru.m rn)+j)) (by omega)
    have hth:=hE1.rest.there
    have hO8:Out b o 137 w (wr.setCells b (o+8) (ints .u8 m (fun j=>bs (n / (2*Ru.m rn)*(2*Ru.m rn)+j)))):=hO1.trans (Out.setCells _ _ (by omega) (by rw [ints_len];omega))
    have hmin:m=Nat.min m 128:=(Nat.min_eq_left (by omega)).symm
    have HI:Hid (i=n / 64∧m=n%64):=hi
    have HE:Hid (EngAt .u32 (wr.setCells b (o+8) (ints .u8 m (fun j=>bs (n / (2*Ru.m rn)*(2*Ru.m rn)+j)))) b o (loopS rn K s bs i) (over R 0 m (fun j=>bs (n / (2*Ru.m rn)*(2*Ru.m rn)+j))) (c+n)):=hE8
    have HO:Hid (Out b o 137 w (wr.setCells b (o+8) (ints .u8 m (fun j=>bs (n / (2*Ru.m rn)*(2*Ru.m rn)+j))))):=hO8
    have hmi:Hid (m=Nat.min m 128):=hmin
    clear hi hE8 hO8 hcell hcub hmin
    go_wp2_with (refine wpList_copy_bytes rfl _ _ 29 29 rfl 5 Tryz.underlying29 (by kernel_rfl) b (o+8) 128 128 (some ⟨bb,p,none⟩) m cp rfl rfl m (fun j=>bs (n / (2*Ru.m rn)*(2*Ru.m rn)+j)) hsrc hmi.out hth ?_)
    go_end0
    refine ⟨rfl,?_,HO.out⟩
    have e:tailE rn K s R n bs=(loopS rn K s bs i,over R 0 m (fun j=>bs (n / (2*Ru.m rn)*(2*Ru.m rn)+j))):=by rw [HI.out.1,HI.out.2];rfl
    rw [e]
    exact HE.out
theorem Rules64.same {w1 w2:World} {B:Nat} (h:Rules64 w1 B) (hc:∀ j,w2.cell? ⟨B,j,none⟩=w1.cell? ⟨B,j,none⟩):Rules64 w2 B:=by
 unfold Rules64 at *
 simp only [hc]
 exact h
end Go.Proofs.YtddkbmnkbfciaaaGreatDoor
namespace Go.Proofs.YtddkbmnkbfciaaaGreatDoor
open Go.RowKit
theorem sliceFrom (W:World) (bb ob n cap d:Nat) (hd:d≤n):(Instr.sliceAt 29 (.slice (some ⟨bb,ob,none⟩) n cap) (some (.int .i64 d)) none none).run Tryz.prog W = .ok (.slice (some ⟨bb,(if cap=d then ob else ob+d),none⟩) (n - d) (cap - d)) W:=by
 have h1:Tryz.prog.underlying 29=some (.slice (Tryz.prog.elem 29)):=by kernel_rfl
 have h2:Tryz.prog.elem 29=5:=by kernel_rfl
 have h3:((sizeOf 5).run Tryz.prog W) = .ok 1 W:=by kernel_rfl
 rw [run_sliceAt_slice W 29 _ _ _ _ h1,run_slice_l W 29 _ n cap h1 .i64 d (by omega) (by omega),h2,h3]
 simp only [Result.andThen_ok,sliced,Int.toNat_natCast,Nat.mul_one,Addr.add_mid,Option.map]
 by_cases h:cap=d
 · simp [h]
 · simp [h]
theorem sliceRest_32 (W:World) (b o h:Nat) (hh:h≤64) (_hz:h<128):(Instr.sliceAt 199 (.pointer (some ⟨b,o+8,none⟩)) (some (.int .i64 h)) (some (.int .i64 64)) none).run Tryz.prog W = .ok (.slice (some ⟨b,o+8+h,none⟩) (64 - h) (128 - h)) W:=by
 have h1:Tryz.prog.arrayLen 199=128:=by kernel_rfl
 have h2:Tryz.prog.elem 199=5:=by kernel_rfl
 have h3:((sizeOf 5).run Tryz.prog W) = .ok 1 W:=by kernel_rfl
 rw [run_sliceAt_array_lh W 199 ⟨b,o+8,none⟩ (by kernel_rfl) .i64 .i64 h 64 (by omega) (by omega) (by rw [h1];decide),h2,h3,h1]
 simp only [Result.andThen_ok,slicedAt,Int.toNat_natCast,Nat.mul_one,Addr.add_mid]
 rw [if_neg (by omega)]
 rfl
set_option maxRecDepth 20000 in
set_option maxHeartbeats 1000000 in
theorem write32_B (s:St) (R:Nat→Nat) (b o c n bb ob cap h:Nat) (bs:Nat→Nat) (w:World)
 (hE:EngAt .u32 w b o s R c) (hbb:bb≠b) (hcn:c+n<4611686018427387904)
 (hcell:∀ j,j<n→w.cell? ⟨bb,ob+j,none⟩=some (.int .u8 (bs j))) (hmod:(c:Int)%64=(h:Int)) (h0:0<h) (hlt:h+n<64) :
 Calls Tryz.prog 191 #[.pointer (some ⟨b,o,none⟩),(.agg #[.int .i64 32,.int .i64 64,.int .u64 7,.int .u64 18,.int .u64 3,.int .u64 17,.int .u64 19,.int .u64 10,.int .u64 2,.int .u64 13,.int .u64 22,.int .u64 6,.int .u64 11,.int .u64 25]),.slice (some ⟨bb,ob,none⟩) n cap] w
  fun e w'=>e = .returned (.tuple #[])∧EngAt .u32 w' b o s (over R h n bs) (c+n)∧Out b o 137 w w':=by
 have hmi:Hid (n=Nat.min n (64 - h)):=(Nat.min_eq_left (by omega)).symm
 have hmi':((h:Int)+n)<64:=by omega
 have hsl:=fun W=>sliceRest_32 W b o h (by omega) (by omega)
 go_enter Tryz.func191,Tryz.ntmps191
 go_wp2_with (first
  | (go_at_call 229;refine (blockSize32_any _).mono ?_;rintro e w1 ⟨rfl,hb1⟩;obtain ⟨hE1,hO1,hR1,hsz1,hc1,hf1⟩:=begun32 (n:=n) hE hb1;have hsrc:Src (w1.setCell ⟨b,o+136,none⟩ (.int .i64 ((c:Int)+n))) (some ⟨bb,ob,none⟩) n bs := .inr ⟨bb,ob,rfl,fun j hj=>(hO1.cell' (block_lt_of_cell (hcell j hj)) hbb).trans (hcell j hj)⟩;have hth:(w1.setCell ⟨b,o+136,none⟩ (.int .i64 ((c:Int)+n))).there b (o+8+h) (64 - h):=RowAt.there_part hE1.rest (by omega);clear hb1 hR1)
  | (refine wpList_copy_bytes rfl _ _ 29 29 rfl 5 Tryz.underlying29 (by kernel_rfl) b (o+8+h) (64 - h) _ (some ⟨bb,ob,none⟩) n cap rfl rfl n bs hsrc hmi.out hth ?_))
 exact bodyPost_ret (results_none Tryz.results191 _ _ _) rfl ⟨rfl,hE1.bytes h n bs (by omega),hO1.trans (Out.setCells _ _ (by omega) (by rw [ints_len];omega))⟩
set_option maxRecDepth 20000 in
set_option maxHeartbeats 2000000 in
theorem write32_C (K:Nat→Nat) (hK:∀ j,K j<18446744073709551616) (s:St) (hs:s.lt 4294967296) (R:Nat→Nat) (hR:∀ j,R j<256) (b o c n bb ob cap h:Nat) (bs:Nat→Nat) (hbs:∀ j,bs j<256) (w:World)
 (hE:EngAt .u32 w b o s R c) (hcub:∀ j,j<80→w.cell? ⟨4,j,none⟩=some (.int .u64 (K j))) (hb3:4≠b) (hbb:bb≠b) (hcap:n≤cap) (hcn:c+n<4611686018427387904)
 (hcell:∀ j,j<n→w.cell? ⟨bb,ob+j,none⟩=some (.int .u8 (bs j))) (hmod:(c:Int)%64=(h:Int)) (h0:0<h) (_hhz:h<64) (hge:64≤h+n) :
 Calls Tryz.prog 191 #[.pointer (some ⟨b,o,none⟩),(.agg #[.int .i64 32,.int .i64 64,.int .u64 7,.int .u64 18,.int .u64 3,.int .u64 17,.int .u64 19,.int .u64 10,.int .u64 2,.int .u64 13,.int .u64 22,.int .u64 6,.int .u64 11,.int .u64 25]),.slice (some ⟨bb,ob,none⟩) n cap] w
  fun e w'=>e = .returned (.tuple #[])∧EngAt .u32 w' b o (tailE rn K (blockS rn K (over R h (64 - h) bs) s) (over R h (64 - h) bs) (n - (64 - h)) (fun j=>bs (64 - h+j))).1 (tailE rn K (blockS rn K (over R h (64 - h) bs) s) (over R h (64 - h) bs) (n - (64 - h)) (fun j=>bs (64 - h+j))).2 (c+n)∧Out b o 137 w w':=by
 obtain ⟨d,hd⟩:∃ d,d=64 - h:=⟨_,rfl⟩
 rw [←hd]
 have Hd:Hid (d=64 - h):=hd
 have hdn:d≤n:=by omega
 have hdZ:d≤128:=by omega
 have hd1:0<d:=by omega
 have hhd:(h:Int)+d=64:=by omega
 clear hd
 have hmi:Hid (d=Nat.min n d):=(Nat.min_eq_right hdn).symm
 have hsl:∀ W:World,(Instr.sliceAt 199 (.pointer (some ⟨b,o+8,none⟩)) (some (.int .i64 h)) (some (.int .i64 64)) none).run Tryz.prog W = .ok (.slice (some ⟨b,o+8+h,none⟩) d (128 - h)) W:=fun W=>by rw [Hd.out];exact sliceRest_32 W b o h (by omega) (by omega)
 obtain ⟨R1,hR1e⟩:∃ R1,R1=over R h d bs:=⟨_,rfl⟩
 have hR1l:∀ j,R1 j<256:=by rw [hR1e];exact over_lt hR hbs
 have HR1:Hid (R1=over R h d bs):=hR1e
 rw [←hR1e]
 clear hR1e
 go_enter Tryz.func191,Tryz.ntmps191
 go_wp2_with (first
  | (go_at_call 229;refine (blockSize32_any _).mono ?_;rintro e w1 ⟨rfl,hb1⟩;obtain ⟨hE1,hO1,hR1,hsz1,hc1,hf1⟩:=begun32 (n:=n) hE hb1;have hsrc:Src (w1.setCell ⟨b,o+136,none⟩ (.int .i64 ((c:Int)+n))) (some ⟨bb,ob,none⟩) n bs := .inr ⟨bb,ob,rfl,fun j hj=>(hO1.cell' (block_lt_of_cell (hcell j hj)) hbb).trans (hcell j hj)⟩;have hth:(w1.setCell ⟨b,o+136,none⟩ (.int .i64 ((c:Int)+n))).there b (o+8+h) d:=RowAt.there_part hE1.rest (by have:=Hd.out;omega);clear hb1)
  | (refine wpList_copy_bytes rfl _ _ 29 29 rfl 5 Tryz.underlying29 (by kernel_rfl) b (o+8+h) d _ (some ⟨bb,ob,none⟩) n cap rfl rfl d bs hsrc hmi.out hth ?_;clear hsrc hth hmi hc1 hf1 hsl))
 obtain ⟨w2,hw2⟩:∃ w2,w2=(w1.setCell ⟨b,o+136,none⟩ (.int .i64 ((c:Int)+n))).setCells b (o+8+h) (ints .u8 d bs):=⟨_,rfl⟩
 have hE2:EngAt .u32 w2 b o s R1 (c+n):=by rw [hw2,HR1.out];exact hE1.bytes h d bs (by have:=Hd.out;omega)
 have hO2:Out b o 137 w w2:=by rw [hw2];exact hO1.trans (Out.setCells _ _ (by omega) (by rw [ints_len];have:=Hd.out;omega))
 have hR2:Rules32 w2 w.heap.size:=by rw [hw2];exact hR1.same (fun q=>World.cell?_of_block (heap_setCells_other b _ _ _ _ (Nat.ne_of_gt (block_lt_of_cell hE.cnt))))
 have hsz2:w.heap.size<w2.heap.size:=by rw [hw2,(setCells_same b _ _ _).2.2.2];simpa using hsz1
 rw [←hw2]
 clear hw2 hE1 hO1 hR1 hsz1 hR
 obtain ⟨ct,hct⟩:∃ ct,ct=c+n:=⟨_,rfl⟩
 have HCT:Hid (ct=c+n):=hct
 rw [←hct] at hE2
 clear hct
 have hcw:∀ j,j<80→w2.drew.cell? ⟨4,j,none⟩=some (.int .u64 (K j)):=fun j hj=>(hO2.cell' (block_lt_of_cell (hcub j hj)) hb3).trans (hcub j hj)
 have hmix:=mix32_any K hK s hs b (o+8) 128 R1 hR1l w2.drew hcw (fun j hj=>(hE2.rest j (by omega)).1)
 obtain ⟨q0,q1,q2,q3,q4,q5,q6,q7⟩:=hE2.st.st'
 obtain ⟨p0,p1,p2,p3,p4,p5,p6,p7,p8,p9,p10,p11,p12,p13⟩:=id hR2
 have hbw:Below w2.heap.size w2 w2.drew:=(Below.refl _ _).drew
 obtain ⟨s1,hs1e⟩:∃ s1,s1=blockS rn K R1 s:=⟨_,rfl⟩
 have hs1:s1.lt 4294967296:=by rw [hs1e];exact addS_lt (r:=rn)
 have HS1:Hid (s1=blockS rn K R1 s):=hs1e
 rw [←hs1e] at hmix
 clear hcw hs1e
 go_cut [2] from 41 (fun v wc=>v = .slice (some ⟨bb,ob,none⟩) n cap∧EngAt .u32 wc b o s1 R1 ct∧Out b o 137 w wc∧Rules32 wc w.heap.size∧w.heap.size<wc.heap.size)
 case first =>
  clear hcell hcub
  go_region_with ((go_at_call 230;refine hmix.mono ?_;rintro e w' ⟨rfl,hbm⟩;have hE5:=hE2.below (below_next hbw hbm);have hst:=store8_32 w' b o s1 hE5.st.there))
  all_goals
   have hE6:=hE5.state s1
   have hO6:Out b o 137 w (w'.setCells b o (St.vals .u32 s1).toList):=hO2.trans ((Out.of_below (below_next hbw hbm) (block_lt_of_cell hE2.cnt)).trans (Out.setCells _ _ (Nat.le_refl _) (by rw [vals_ints,ints_len];omega)))
   have hR6:Rules32 (w'.setCells b o (St.vals .u32 s1).toList) w.heap.size:=(hR2.below (below_next hbw hbm) hsz2).same (fun q=>World.cell?_of_block (heap_setCells_other b _ _ _ _ (Nat.ne_of_gt (block_lt_of_cell hE.cnt))))
   have hZ6:w.heap.size<(w'.setCells b o (St.vals .u32 s1).toList).heap.size:=by rw [(setCells_same b _ _ _).2.2.2];have:=hbm.size;simp only [World.size_drew] at this;omega
   clear hst hE5 p0 p1 p2 p3 p4 p5 p6 p7 p8 p9 p10 p11 p12 p13 q0 q1 q2 q3 q4 q5 q6 q7 hmix hbw hbm
   go_wp2
   go_meet
   case rel=>exact ⟨rfl,hE6,hO6,hR6,hZ6⟩
 case rest =>
  obtain ⟨rfl,hE1,hO1,hR1,hsz1⟩:=hcut
  clear hmix q0 q1 q2 q3 q4 q5 q6 q7 p0 p1 p2 p3 p4 p5 p6 p7 p8 p9 p10 p11 p12 p13 hbw hE2 hO2 hR2 hsz2
  obtain ⟨n1,hn1⟩:∃ n1,n1=n - d:=⟨_,rfl⟩
  obtain ⟨ob1,hob1⟩:∃ ob1,ob1=ob+d:=⟨_,rfl⟩
  obtain ⟨bs1,hbs1e⟩:∃ bs1:Nat→Nat,bs1=fun j=>bs (d+j):=⟨_,rfl⟩
  have hbs1:∀ j,bs1 j<256:=by rw [hbs1e];exact fun j=>hbs _
  have hcell1:∀ j,j<n1→w.cell? ⟨bb,ob1+j,none⟩=some (.int .u8 (bs1 j)):=fun j hj=>by
   rw [hob1,hbs1e,Nat.add_assoc];exact hcell (d+j) (by omega)
  have HN1:Hid (n1=n - d):=hn1
  have HO1:Hid (ob1=ob+d):=hob1
  have HB1:Hid (bs1=fun j=>bs (d+j)):=hbs1e
  obtain ⟨p1,hp1⟩:∃ p1,p1=(if cap=d then ob else ob+d):=⟨_,rfl⟩
  have hslb:∀ W:World,(Instr.sliceAt 29 (.slice (some ⟨bb,ob,none⟩) n cap) (some (.int .i64 d)) none none).run Tryz.prog W = .ok (.slice (some ⟨bb,p1,none⟩) (n - d) (cap - d)) W:=fun W=>by rw [hp1];exact sliceFrom W bb ob n cap d hdn
  have HP1:Hid (p1=(if cap=d then ob else ob+d)):=hp1
  clear hn1 hob1 hbs1e hcell hp1
  go_wp2
  clear hslb
  go_loopw [2] (fun v wr=>∃ i m p cp:Nat,v = .slice (some ⟨bb,p,none⟩) m cp∧Hid (n1=i*64+m)∧Hid (m=0∨p=ob1+i*64)∧m≤cp∧EngAt .u32 wr b o (loopS rn K s1 bs1 i) R1 ct∧Out b o 137 w wr∧Rules32 wr w.heap.size∧w.heap.size<wr.heap.size) (fun v _=>lenV v)
  case atStart =>
   refine ⟨0,n - d,p1,cap - d,rfl,(by rw [HN1.out,Nat.zero_mul,Nat.zero_add]:n1=0*64+(n - d)),?_,by omega,hE1,hO1,hR1,hsz1⟩
   show n - d=0∨p1=ob1+0*64
   rw [HO1.out,Nat.zero_mul,Nat.add_zero]
   by_cases hq:cap=d
   · left;omega
   · right;rw [HP1.out,if_neg hq]
  case round =>
   clear hE1 hO1 hR1 hsz1
   obtain ⟨i,m,p,cp,rfl,Hn,Hp,hm,hE1,hO1,hR1,hsz1⟩:=hrel
   have hmn:m≤n1:=by have:=Hn.out;omega
   by_cases hlt:64≤m
   · have hsi:(loopS rn K s1 bs1 i).lt 4294967296:=loopS_lt (r:=rn) hs1 i
     have hcw:∀ j,j<80→wr.drew.cell? ⟨4,j,none⟩=some (.int .u64 (K j)):=fun j hj=>(hO1.cell' (block_lt_of_cell (hcub j hj)) hb3).trans (hcub j hj)
     have hcl:∀ j,j<64→wr.drew.cell? ⟨bb,p+j,none⟩=some (.int .u8 (bs1 (i*(2*Ru.m rn)+j))):=fun j hj=>by
      have h1:=hcell1 (i*64+j) (by have:=Hn.out;omega)
      have h2:=(hO1.cell' (q:=ob1+(i*64+j)) (block_lt_of_cell h1) hbb).trans h1
      rw [←Nat.add_assoc,←Hp.out.resolve_left (by omega)] at h2
      exact h2
     have hmix:=mix32_any K hK (loopS rn K s1 bs1 i) hsi bb p cp (fun j=>bs1 (i*(2*Ru.m rn)+j)) (fun j=>hbs1 _) wr.drew hcw hcl
     obtain ⟨q0,q1,q2,q3,q4,q5,q6,q7⟩:=hE1.st.st'
     obtain ⟨x,hx⟩:∃ x,x=loopS rn K s1 bs1 i:=⟨_,rfl⟩
     have HX:Hid (x=loopS rn K s1 bs1 i):=hx
     rw [←hx] at hmix q0 q1 q2 q3 q4 q5 q6 q7
     clear hx hcl hcw hcell1 hcub
     obtain ⟨p0,p1,p2,p3,p4,p5,p6,p7,p8,p9,p10,p11,p12,p13⟩:=hR1
     have hbw:Below wr.heap.size wr wr.drew:=(Below.refl _ _).drew
     go_wp2
     go_region_with ((go_at_call 230;refine hmix.mono ?_;rintro e w' ⟨rfl,hbm⟩;have hE5:=hE1.below (below_next hbw hbm);have hst:=store8_32 w' b o (blockS rn K (fun j=>bs1 (i*(2*Ru.m rn)+j)) x) hE5.st.there))
     all_goals
      have hE6:=hE5.state (blockS rn K (fun j=>bs1 (i*(2*Ru.m rn)+j)) x)
      have hO6:Out b o 137 w (w'.setCells b o (St.vals .u32 (blockS rn K (fun j=>bs1 (i*(2*Ru.m rn)+j)) x)).toList):=hO1.trans ((Out.of_below (below_next hbw hbm) (block_lt_of_cell hE1.cnt)).trans (Out.setCells _ _ (Nat.le_refl _) (by rw [vals_ints,ints_len];omega)))
      have hR6:Rules32 (w'.setCells b o (St.vals .u32 (blockS rn K (fun j=>bs1 (i*(2*Ru.m rn)+j)) x)).toList) w.heap.size:=(Rules32.below ⟨p0,p1,p2,p3,p4,p5,p6,p7,p8,p9,p10,p11,p12,p13⟩ (below_next hbw hbm) hsz1).same (fun q=>World.cell?_of_block (heap_setCells_other b _ _ _ _ (Nat.ne_of_gt (block_lt_of_cell hE.cnt))))
      have hZ6:w.heap.size<(w'.setCells b o (St.vals .u32 (blockS rn K (fun j=>bs1 (i*(2*Ru.m rn)+j)) x)).toList).heap.size:=by rw [(setCells_same b _ _ _).2.2.2];have:=hbm.size;simp only [World.size_drew] at this;omega
      clear hst hE5 p0 p1 p2 p3 p4 p5 p6 p7 p8 p9 p10 p11 p12 p13 q0 q1 q2 q3 q4 q5 q6 q7 hmix hbw hbm
      go_wp2
      go_roundw
      case rel =>
       have hn':n1=(i+1)*64+(m - 64):=by have:=Hn.out;omega
       have hE7:EngAt .u32 (w'.setCells b o (St.vals .u32 (blockS rn K (fun j=>bs1 (i*(2*Ru.m rn)+j)) x)).toList) b o (loopS rn K s1 bs1 (i+1)) R1 ct:=by
        show EngAt _ _ _ _ (blockS rn K (fun j=>bs1 (i*(2*Ru.m rn)+j)) (loopS rn K s1 bs1 i)) _ _
        rw [←HX.out];exact hE6
       by_cases hcp:cp=64
       · exact ⟨i+1,m - 64,p,cp - 64,by rw [if_pos hcp],hn',.inl (by omega),by omega,hE7,hO6,hR6,hZ6⟩
       · exact ⟨i+1,m - 64,p+64,cp - 64,by rw [if_neg hcp],hn',.inr (by have:=Hp.out;omega),by omega,hE7,hO6,hR6,hZ6⟩
      case measure=>simp [lenV];omega
   · have hi:i=n1 / 64∧m=n1%64:=by have:=Hn.out;omega
     have hsrc:Src wr (some ⟨bb,p,none⟩) m (fun j=>bs1 (n1 / (2*Ru.m rn)*(2*Ru.m rn)+j)):=by
      by_cases h0:m=0
      · exact .inl h0
      · refine .inr ⟨bb,p,rfl,fun j hj => ?_⟩
        have h1:=hcell1 (i*64+j) (by have:=Hn.out;omega)
        have h2:=(hO1.cell' (q:=ob1+(i*64+j)) (block_lt_of_cell h1) hbb).trans h1
        rw [←Nat.add_assoc,←Hp.out.resolve_left h0,hi.1] at h2
        exact h2
     have hE8:=hE1.bytes 0 m (fun j=>bs1 (n1 / (2*Ru.m rn)*(2*Ru.m rn)+j)) (by omega)
     have hth:=hE1.rest.there
     have hO8:Out b o 137 w (wr.setCells b (o+8) (ints .u8 m (fun j=>bs1 (n1 / (2*Ru.m rn)*(2*Ru.m rn)+j)))):=hO1.trans (Out.setCells _ _ (by omega) (by rw [ints_len];omega))
     have hmin:m=Nat.min m 128:=(Nat.min_eq_left (by omega)).symm
     have HI:Hid (i=n1 / 64∧m=n1%64):=hi
     have HE:Hid (EngAt .u32 (wr.setCells b (o+8) (ints .u8 m (fun j=>bs1 (n1 / (2*Ru.m rn)*(2*Ru.m rn)+j)))) b o (loopS rn K s1 bs1 i) (over R1 0 m (fun j=>bs1 (n1 / (2*Ru.m rn)*(2*Ru.m rn)+j))) ct):=hE8
     have HO:Hid (Out b o 137 w (wr.setCells b (o+8) (ints .u8 m (fun j=>bs1 (n1 / (2*Ru.m rn)*(2*Ru.m rn)+j))))):=hO8
     have hmi:Hid (m=Nat.min m 128):=hmin
     clear hi hE8 hO8 hcell1 hcub hmin
     go_wp2_with (refine wpList_copy_bytes rfl _ _ 29 29 rfl 5 Tryz.underlying29 (by kernel_rfl) b (o+8) 128 128 (some ⟨bb,p,none⟩) m cp rfl rfl m (fun j=>bs1 (n1 / (2*Ru.m rn)*(2*Ru.m rn)+j)) hsrc hmi.out hth ?_)
     go_end0
     refine ⟨rfl,?_,HO.out⟩
     have e:tailE rn K s1 R1 n1 bs1=(loopS rn K s1 bs1 i,over R1 0 m (fun j=>bs1 (n1 / (2*Ru.m rn)*(2*Ru.m rn)+j))):=by rw [HI.out.1,HI.out.2];rfl
     rw [←HS1.out,←HN1.out,←HB1.out,←HCT.out,e]
     exact HE.out
end Go.Proofs.YtddkbmnkbfciaaaGreatDoor
namespace Go.Proofs.YtddkbmnkbfciaaaGreatDoor
open Go.RowKit
theorem over_none (R:Nat→Nat) (i:Nat) (Y:Nat→Nat):over R i 0 Y=R:=funext fun j=>by
 unfold over;rw [if_neg (by omega)]
theorem sliceRestN (W:World) (b o h Z:Nat) (hh:h≤Z) (hz:Z≤128) (_h128:h<128):(Instr.sliceAt 199 (.pointer (some ⟨b,o+8,none⟩)) (some (.int .i64 h)) (some (.int .i64 Z)) none).run Tryz.prog W = .ok (.slice (some ⟨b,o+8+h,none⟩) (Z - h) (128 - h)) W:=by
 have h1:Tryz.prog.arrayLen 199=128:=by kernel_rfl
 have h2:Tryz.prog.elem 199=5:=by kernel_rfl
 have h3:((sizeOf 5).run Tryz.prog W) = .ok 1 W:=by kernel_rfl
 rw [run_sliceAt_array_lh W 199 ⟨b,o+8,none⟩ (by kernel_rfl) .i64 .i64 h Z (by omega) (by omega) (by rw [h1];omega),h2,h3,h1]
 simp only [Result.andThen_ok,slicedAt,Int.toNat_natCast,Nat.mul_one,Addr.add_mid]
 rw [if_neg (by omega)]
set_option maxRecDepth 20000 in
set_option maxHeartbeats 1000000 in
theorem write32_nil0 (xo:Option Addr) (s:St) (R:Nat→Nat) (b o c:Nat) (w:World) (hE:EngAt .u32 w b o s R c) (hcn:c<4611686018427387904) (hh:c%64=0) :
 Calls Tryz.prog 191 #[.pointer (some ⟨b,o,none⟩),(.agg #[.int .i64 32,.int .i64 64,.int .u64 7,.int .u64 18,.int .u64 3,.int .u64 17,.int .u64 19,.int .u64 10,.int .u64 2,.int .u64 13,.int .u64 22,.int .u64 6,.int .u64 11,.int .u64 25]),.slice xo 0 0] w fun e w'=>e = .returned (.tuple #[])∧EngAt .u32 w' b o s R c∧Out b o 137 w w':=by
 go_enter Tryz.func191,Tryz.ntmps191
 go_wp2_with (go_at_call 229;refine (blockSize32_any _).mono ?_;rintro e w1 ⟨rfl,hb1⟩;obtain ⟨hE1,hO1,hR1,hsz1,hc1,hf1⟩:=begun32 (n:=0) hE hb1;simp only [Int.ofNat_zero,Int.add_zero,Nat.add_zero] at hE1 hO1;clear hb1 hR1)
 go_loopw [2] (fun v wr=>v = .slice xo 0 0∧EngAt .u32 wr b o s R c∧Out b o 137 w wr) (fun v _=>lenV v)
 case atStart=>exact ⟨rfl,hE1,hO1⟩
 case round =>
  clear hE1 hO1 hc1 hf1
  obtain ⟨rfl,hE1,hO1⟩:=hrel
  have hth:=hE1.rest.there
  go_wp2_with (refine wpList_copy_bytes rfl _ _ 29 29 rfl 5 Tryz.underlying29 (by kernel_rfl) b (o+8) 128 128 xo 0 0 rfl rfl 0 (fun _=>0) (.inl rfl) rfl hth ?_)
  go_end0
  exact ⟨rfl,hE1,hO1⟩
set_option maxRecDepth 20000 in
set_option maxHeartbeats 1000000 in
theorem write32_nilh (xo:Option Addr) (s:St) (R:Nat→Nat) (b o c h:Nat) (w:World) (hE:EngAt .u32 w b o s R c) (hcn:c<4611686018427387904) (hmod:(c:Int)%64=(h:Int)) (h0:0<h) (_hlt:h<64) :
 Calls Tryz.prog 191 #[.pointer (some ⟨b,o,none⟩),(.agg #[.int .i64 32,.int .i64 64,.int .u64 7,.int .u64 18,.int .u64 3,.int .u64 17,.int .u64 19,.int .u64 10,.int .u64 2,.int .u64 13,.int .u64 22,.int .u64 6,.int .u64 11,.int .u64 25]),.slice xo 0 0] w fun e w'=>e = .returned (.tuple #[])∧EngAt .u32 w' b o s R c∧Out b o 137 w w':=by
 have hmi':(h:Int)<64:=by omega
 have hsl:∀ W:World,(Instr.sliceAt 199 (.pointer (some ⟨b,o+8,none⟩)) (some (.int .i64 h)) (some (.int .i64 64)) none).run Tryz.prog W = .ok (.slice (some ⟨b,o+8+h,none⟩) (64 - h) (128 - h)) W:=fun W=>sliceRestN W b o h 64 (by omega) (by omega) (by omega)
 go_enter Tryz.func191,Tryz.ntmps191
 go_wp2_with (first
  | (go_at_call 229;refine (blockSize32_any _).mono ?_;rintro e w1 ⟨rfl,hb1⟩;obtain ⟨hE1,hO1,hR1,hsz1,hc1,hf1⟩:=begun32 (n:=0) hE hb1;simp only [Int.ofNat_zero,Int.add_zero,Nat.add_zero] at hE1 hO1;have hth:(w1.setCell ⟨b,o+136,none⟩ (.int .i64 (c:Int))).there b (o+8+h) (64 - h):=RowAt.there_part hE1.rest (by omega);clear hb1 hR1)
  | (refine wpList_copy_bytes rfl _ _ 29 29 rfl 5 Tryz.underlying29 (by kernel_rfl) b (o+8+h) (64 - h) _ xo 0 0 rfl rfl 0 (fun _=>0) (.inl rfl) (Nat.zero_min _).symm hth ?_))
 exact bodyPost_ret (results_none Tryz.results191 _ _ _) rfl ⟨rfl,hE1,hO1⟩
end Go.Proofs.YtddkbmnkbfciaaaGreatDoor
namespace Go.Proofs.YtddkbmnkbfciaaaGreatDoor
open Go.RowKit
def Bytes (w:World) (b:Nat) (v:Value) (n:Nat) (bs:Nat→Nat):Prop:=(∃ xo,v = .slice xo 0 0∧n=0)∨∃ bb ob cap,v = .slice (some ⟨bb,ob,none⟩) n cap∧bb≠b∧n≤cap∧∀ j,j<n→w.cell? ⟨bb,ob+j,none⟩=some (.int .u8 (bs j))
theorem write32_any (K:Nat→Nat) (hK:∀ j,K j<18446744073709551616) (s:St) (hs:s.lt 4294967296) (R:Nat→Nat) (hR:∀ j,R j<256) (b o c n:Nat) (v:Value) (bs:Nat→Nat) (hbs:∀ j,bs j<256) (w:World)
 (hE:EngAt .u32 w b o s R c) (hcub:∀ j,j<80→w.cell? ⟨4,j,none⟩=some (.int .u64 (K j))) (hb3:4≠b) (hv:Bytes w b v n bs) (hcn:c+n<4611686018427387904) :
 Calls Tryz.prog 191 #[.pointer (some ⟨b,o,none⟩),(.agg #[.int .i64 32,.int .i64 64,.int .u64 7,.int .u64 18,.int .u64 3,.int .u64 17,.int .u64 19,.int .u64 10,.int .u64 2,.int .u64 13,.int .u64 22,.int .u64 6,.int .u64 11,.int .u64 25]),v] w
  fun e w'=>e = .returned (.tuple #[])∧EngAt .u32 w' b o (writeE rn K s R c n bs).1 (writeE rn K s R c n bs).2 (c+n)∧Out b o 137 w w':=by
 have hz:2*Ru.m rn=64:=rfl
 unfold writeE
 rw [hz]
 by_cases h0:c%64=0
 · rw [if_pos h0]
   rcases hv with ⟨xo,rfl,rfl⟩ | ⟨bb,ob,cap,rfl,hbb,hcap,hcell⟩
   · have e:tailE rn K s R 0 bs=(s,R):=by
      show (s,over R 0 0 _)=(s,R)
      rw [over_none]
     rw [e]
     exact write32_nil0 xo s R b o c w hE (by omega) h0
   · exact write32_A K hK s hs R b o c n bb ob cap bs hbs w hE hcub hb3 hbb hcap hcn hcell h0
 · rw [if_neg h0]
   have hmod:(c:Int)%64=((c%64:Nat):Int):=by omega
   by_cases h1:c%64+n<64
   · rw [if_pos h1]
     rcases hv with ⟨xo,rfl,rfl⟩ | ⟨bb,ob,cap,rfl,hbb,hcap,hcell⟩
     · rw [over_none]
       exact write32_nilh xo s R b o c _ w hE (by omega) hmod (by omega) (by omega)
     · exact write32_B s R b o c n bb ob cap _ bs w hE hbb hcn hcell hmod (by omega) h1
   · rw [if_neg h1]
     rcases hv with ⟨xo,rfl,rfl⟩ | ⟨bb,ob,cap,rfl,hbb,hcap,hcell⟩
     · omega
     · exact write32_C K hK s hs R hR b o c n bb ob cap _ bs hbs w hE hcub hb3 hbb hcap hcn hcell hmod (by omega) (by omega) (by omega)
theorem tailE_lt {r:Ru} {K:Nat→Nat} {s:St} {R:Nat→Nat} {n:Nat} {bs:Nat→Nat} (hs:s.lt (2 ^ r.m)) (hR:∀ j,R j<256) (hb:∀ j,bs j<256):(tailE r K s R n bs).1.lt (2 ^ r.m)∧∀ j,(tailE r K s R n bs).2 j<256 :=
 ⟨loopS_lt hs _,over_lt hR (fun _=>hb _)⟩
theorem writeE_lt {r:Ru} {K:Nat→Nat} {s:St} {R:Nat→Nat} {c n:Nat} {bs:Nat→Nat} (hs:s.lt (2 ^ r.m)) (hR:∀ j,R j<256) (hb:∀ j,bs j<256):(writeE r K s R c n bs).1.lt (2 ^ r.m)∧∀ j,(writeE r K s R c n bs).2 j<256:=by
 unfold writeE
 split
 · exact tailE_lt hs hR hb
 · split
   · exact ⟨hs,over_lt hR hb⟩
   · exact tailE_lt addS_lt (over_lt hR hb) (fun _=>hb _)
end Go.Proofs.YtddkbmnkbfciaaaGreatDoor
namespace Go.Proofs.YtddkbmnkbfciaaaGreatDoor
open Go.RowKit
def padN (r:Ru) (c:Nat):Nat:=1+(4*r.m - 1 - r.m / 4 - c%(2*r.m))%(2*r.m)+r.m / 4
def padG (N c:Nat):Nat→Nat→Nat
 | 0=>upd (fun _=>0) 0 128
 | i+1=>upd (padG N c i) (N - 1 - i) (c*8 / 2 ^ (8*i)%256)
def padF (r:Ru) (c:Nat):Nat→Nat:=padG (padN r c) c 8
set_option maxRecDepth 20000 in
set_option maxHeartbeats 1000000 in
theorem padding32_any (c:Nat) (hc:c<2305843009213693952) (w:World) :
 Calls Tryz.prog 231 #[(.agg #[.int .i64 32,.int .i64 64,.int .u64 7,.int .u64 18,.int .u64 3,.int .u64 17,.int .u64 19,.int .u64 10,.int .u64 2,.int .u64 13,.int .u64 22,.int .u64 6,.int .u64 11,.int .u64 25]),.int .i64 c] w fun e w'=>∃ g,e = .returned (.slice (some ⟨g,0,none⟩) (padN rn c) (padN rn c))∧w.heap.size≤g∧RowAt .u8 w' g 0 (padN rn c) (padF rn c)∧Below w.heap.size w w':=by
 obtain ⟨N,hNe⟩:∃ N,N=padN rn c:=⟨_,rfl⟩
 have HN:Hid (N=padN rn c):=hNe
 have hN0:(1+(119 - (c:Int))%64+8)=(N:Int):=by
  have:N=1+(119 - c%64)%64+8:=hNe
  omega
 have hN1:8+1≤N:=by omega
 have hN2:N≤200:=by omega
 clear hNe
 have hmk:=fun W=>make_bytes W N _ hN0 (by omega)
 clear hN0
 have hz0:=zb_at N 0 (by omega)
 go_enter Tryz.func231,Tryz.ntmps231
 go_wp2_with (go_at_call 229;refine (blockSize32_any _).mono ?_;rintro e w1 ⟨rfl,hb1⟩;simp only [World.size_alloc] at hb1;have hR:Rules32 w1 w.heap.size:=Rules32.of_box hb1;have p0:=hR.1)
 clear hmk p0
 go_loopw [41] (fun i wr=>∃ k:Nat,k≤8∧i = .int .i64 k∧RowAt .u8 wr w1.heap.size 0 N (padG N c k)∧Below w1.heap.size w1 wr) (fun i _=>8 - (intOf i).toNat)
 case atStart =>
  refine ⟨0,by decide,rfl,?_,?_⟩
  · have h1:=(RowAt.fresh (K := .u8) (w:=w1) (cs:=zb N) (t:=5) (n:=N) (X:=fun _=>0) (fun j hj=>zb_at N j hj)).set (i:=0) (by omega) (v:=128) (u:=128) rfl
    rw [Nat.zero_add,World.setCell_alloc_at _ _ _ _ _ rfl] at h1
    exact h1
  · exact (Below.refl _ _).alloc (Nat.le_refl _) _
 case round =>
  obtain ⟨k,hk,rfl,hrow,hbel⟩:=hrel
  by_cases hlt:k<8
  · obtain ⟨r1,r2⟩:=hrow (N - 1 - k) (by omega)
    rw [Nat.zero_add] at r1 r2
    obtain ⟨q,hq⟩:∃ q,q=N - 1 - k:=⟨_,rfl⟩
    rw [←hq] at r1 r2
    have HQ:Hid (q=N - 1 - k):=hq
    have hqi:(N:Int) - 1 - k=(q:Int):=by omega
    have hqn:q<N:=by omega
    clear hq
    go_wp2
    go_roundw
    case rel =>
     have h1:=hrow.set (i:=q) hqn (v:=(c:Int)*8 / 2 ^ (8*k)%256) (u:=c*8 / 2 ^ (8*k)%256) (by simp)
     rw [Nat.zero_add,HQ.out] at h1
     rw [HQ.out]
     exact ⟨k+1,by omega,by go_num,h1,hbel.setCell (Nat.le_refl _) _⟩
    case measure=>simp [intOf];omega
  · have hke:k=8:=by omega
    subst hke
    have hg:w.heap.size≤w1.heap.size:=by have:=hb1.size;simp only [World.size_alloc] at this;omega
    have hbw:Below w.heap.size w wr:=((Below.refl _ _).alloc (Nat.le_refl _) _).trans ((hb1.mono (by omega)).trans (hbel.mono hg))
    have hrow8:RowAt .u8 wr w1.heap.size 0 (padN rn c) (padF rn c):=by
     show RowAt .u8 wr w1.heap.size 0 (padN rn c) (padG (padN rn c) c 8)
     rw [←HN.out];exact hrow
    clear hrow
    go_wp2
    go_ret
    exact ⟨w1.heap.size,by rw [←HN.out];rfl,hg,hrow8,hbw⟩
end Go.Proofs.YtddkbmnkbfciaaaGreatDoor
