/- What write does in the model where no bytes are held, at both widths. -/
import Derived.Test.YtibdhadbflfdpaaGreatDoorHMixM
import Derived.Deep.RegionWith
namespace Go.Proofs.YtibdhadbflfdpaaGreatDoor
open Nat renaming le_refl → JW
open Go renaming block_lt_of_cell → J5
open Go.RowKit
theorem ah.there_part {K:IntKind} {w:World} {b o n:Nat} {X:Nat→Nat} (h:ah K w b o n X) {i m:Nat} (hi:i+m≤n):w.there b (o+i) m:=fun j hj=>by
 have:=h (i+j) (by omega);rw [←Nat.add_assoc] at this;rw [this.1];exact ⟨rfl,this.2⟩
def gV:Value→Nat
 | .slice _ n _=>n
 | _=>0
theorem ah.st' {K:IntKind} {w:World} {b o:Nat} {s:St} (h:ah K w b o 8 s.at):w.cell? ⟨b,o,none⟩=some (.int K s.a)∧w.cell? ⟨b,o+1,none⟩=some (.int K s.b)∧w.cell? ⟨b,o+2,none⟩=some (.int K s.c)∧w.cell? ⟨b,o+3,none⟩=some (.int K s.d)∧w.cell? ⟨b,o+4,none⟩=some (.int K s.e)∧w.cell? ⟨b,o+5,none⟩=some (.int K s.f)∧w.cell? ⟨b,o+6,none⟩=some (.int K s.g)∧w.cell? ⟨b,o+7,none⟩=some (.int K s.h) :=
 ⟨(h 0 (by decide)).1,(h 1 (by decide)).1,(h 2 (by decide)).1,(h 3 (by decide)).1,(h 4 (by decide)).1,(h 5 (by decide)).1,(h 6 (by decide)).1,(h 7 (by decide)).1⟩
theorem my (w:World) (b o:Nat) (s:St) (ht:w.there b o 8):(storeCells ⟨b,o,none⟩ (St.vals .u32 s).toList).run Tryz.prog w = .ok () (w.setCells b o (St.vals .u32 s).toList):=by
 have:=run_storeCells_cells (P:=Tryz.prog) b o (St.vals .u32 s).toList 0 w (fun j hj=>(ht j hj).1) (fun j hj=>(ht j hj).2) (bW .u32 8 s.at);rw [Nat.add_zero] at this;exact this
theorem aY.same {w1 w2:World} {B:Nat} (h:aY w1 B) (hc:∀ j,w2.cell? ⟨B,j,none⟩=w1.cell? ⟨B,j,none⟩):aY w2 B:=by
 unfold aY at *;simp only [hc];exact h
theorem kC {w w1:World} {b o:Nat} {s:St} {R:Nat→Nat} {c n:Nat} (hE:az .u32 w b o s R c) (h:Below (w.alloc (.cells #[.int .i64 32,.int .i64 64,.int .u64 7,.int .u64 18,.int .u64 3,.int .u64 17,.int .u64 19,.int .u64 10,.int .u64 2,.int .u64 13,.int .u64 22,.int .u64 6,.int .u64 11,.int .u64 25] 158)).heap.size (w.alloc (.cells #[.int .i64 32,.int .i64 64,.int .u64 7,.int .u64 18,.int .u64 3,.int .u64 17,.int .u64 19,.int .u64 10,.int .u64 2,.int .u64 13,.int .u64 22,.int .u64 6,.int .u64 11,.int .u64 25] 158)) w1) :
 az .u32 (w1.setCell ⟨b,o+136,none⟩ (.int .i64 ((c:Int)+n))) b o s R (c+n)∧aT b o 137 w (w1.setCell ⟨b,o+136,none⟩ (.int .i64 ((c:Int)+n)))∧aY (w1.setCell ⟨b,o+136,none⟩ (.int .i64 ((c:Int)+n))) w.heap.size∧w.heap.size<w1.heap.size∧w1.cell? ⟨b,o+136,none⟩=some (.int .i64 c)∧w1.frozen? ⟨b,o+136,none⟩=false:=by
 have hl:b<w.heap.size:=J5 hE.cnt;have h0:Below w.heap.size w w1:=((Below.refl _ _).alloc (JW _) _).trans (h.mono (by simp));have hs:=h.size;simp only [World.size_alloc] at hs h;have hR:aY w1 w.heap.size:=aY.of_box h;refine ⟨(hE.below h0).count (by omega),(aT.of_below h0 hl).trans (aT.setCell _ _ (by omega) (by omega)),?_,by omega,(hE.below h0).cnt,(hE.below h0).cntf⟩;exact hR.same (fun q=>World.cell?_setCell_other _ _ _ _ (fun e=>by injection e with e1;omega))
set_option maxRecDepth 20000 in
set_option maxHeartbeats 1000000 in
theorem Ag (K:Nat→Nat) (hK:∀ j,K j<18446744073709551616) (s:St) (hs:s.lt 4294967296) (R:Nat→Nat) (b o c n bb ob cap:Nat) (bs:Nat→Nat) (hbs:∀ j,bs j<256) (w:World)
 (hE:az .u32 w b o s R c) (hcub:∀ j,j<80→w.cell? ⟨4,j,none⟩=some (.int .u64 (K j))) (hb3:4≠b) (hbb:bb≠b) (hcap:n≤cap) (hcn:c+n<4611686018427387904)
 (hcell:∀ j,j<n→w.cell? ⟨bb,ob+j,none⟩=some (.int .u8 (bs j))) (hh:c%64=0) :
 Calls Tryz.prog 132 #[.pointer (some ⟨b,o,none⟩),(.agg #[.int .i64 32,.int .i64 64,.int .u64 7,.int .u64 18,.int .u64 3,.int .u64 17,.int .u64 19,.int .u64 10,.int .u64 2,.int .u64 13,.int .u64 22,.int .u64 6,.int .u64 11,.int .u64 25]),.slice (some ⟨bb,ob,none⟩) n cap] w
  fun e w'=>e = .returned (.tuple #[])∧az .u32 w' b o (dZ rn K s R n bs).1 (dZ rn K s R n bs).2 (c+n)∧aT b o 137 w w':=by
 go_enter Tryz.func132,Tryz.ntmps132;go_wp2_with (go_at_call 185;refine (cG _).mono ?_;rintro e w1 ⟨rfl,hb1⟩;obtain ⟨hE1,hO1,hR1,hsz1,hc1,hf1⟩:=kC (n:=n) hE hb1;clear hb1);clear hc1 hf1
 obtain ⟨w2,hw2⟩:∃ w2,w2=w1.setCell ⟨b,o+136,none⟩ (.int .i64 ((c:Int)+n)):=⟨_,rfl⟩
 rw [←hw2] at hE1 hO1 hR1 ⊢
 replace hsz1:w.heap.size<w2.heap.size:=by rw [hw2];simpa using hsz1
 clear hw2;go_loopw [2] (fun v wr=>∃ i m p cp:Nat,v = .slice (some ⟨bb,p,none⟩) m cp∧Hid (n=i*64+m)∧Hid (m=0∨p=ob+i*64)∧m≤cp∧az .u32 wr b o (aX rn K s bs i) R (c+n)∧aT b o 137 w wr∧aY wr w.heap.size∧w.heap.size<wr.heap.size) (fun v _=>gV v)
 case atStart=>exact ⟨0,n,ob,cap,rfl,(Nat.zero_mul 64 ▸ (Nat.zero_add n).symm:n=0*64+n),(.inr (by simp):n=0∨ob=ob+0*64),hcap,hE1,hO1,hR1,hsz1⟩
 case round =>
  clear hE1 hO1 hR1 hsz1;obtain ⟨i,m,p,cp,rfl,Hn,Hp,hm,hE1,hO1,hR1,hsz1⟩:=hrel
  have hmn:m≤n:=by have:=Hn.out;omega
  by_cases hlt:64≤m
  · have hsi:(aX rn K s bs i).lt 4294967296:=gF (r:=rn) hs i
    have hcw:∀ j,j<80→wr.drew.cell? ⟨4,j,none⟩=some (.int .u64 (K j)):=fun j hj=>(hO1.cell' (J5 (hcub j hj)) hb3).trans (hcub j hj)
    have hcl:∀ j,j<64→wr.drew.cell? ⟨bb,p+j,none⟩=some (.int .u8 (bs (i*(2*Ru.m rn)+j))):=fun j hj=>by
     have h1:=hcell (i*64+j) (by have:=Hn.out;omega);have h2:=(hO1.cell' (q:=ob+(i*64+j)) (J5 h1) hbb).trans h1;rw [←Nat.add_assoc,←Hp.out.resolve_left (by omega)] at h2;exact h2
    have hmix:=lS K hK (aX rn K s bs i) hsi bb p cp (fun j=>bs (i*(2*Ru.m rn)+j)) (fun j=>hbs _) wr.drew hcw hcl;obtain ⟨q0,q1,q2,q3,q4,q5,q6,q7⟩:=hE1.st.st'
    obtain ⟨x,hx⟩:∃ x,x=aX rn K s bs i:=⟨_,rfl⟩
    have HX:Hid (x=aX rn K s bs i):=hx;rw [←hx] at hmix q0 q1 q2 q3 q4 q5 q6 q7;clear hx hcl hcw hcell hcub;obtain ⟨p0,p1,p2,p3,p4,p5,p6,p7,p8,p9,p10,p11,p12,p13⟩:=hR1;have hbw:Below wr.heap.size wr wr.drew:=(Below.refl _ _).drew;go_wp2;go_region_with ((go_at_call 186;refine hmix.mono ?_;rintro e w' ⟨rfl,hbm⟩;have hE5:=hE1.below (aa hbw hbm);have hst:=my w' b o (aU rn K (fun j=>bs (i*(2*Ru.m rn)+j)) x) hE5.st.there))
    all_goals
     have hE6:=hE5.state (aU rn K (fun j=>bs (i*(2*Ru.m rn)+j)) x);have hO6:aT b o 137 w (w'.setCells b o (St.vals .u32 (aU rn K (fun j=>bs (i*(2*Ru.m rn)+j)) x)).toList):=hO1.trans ((aT.of_below (aa hbw hbm) (J5 hE1.cnt)).trans (aT.setCells _ _ (JW _) (by rw [eH,ak];omega)));have hR6:aY (w'.setCells b o (St.vals .u32 (aU rn K (fun j=>bs (i*(2*Ru.m rn)+j)) x)).toList) w.heap.size:=(aY.below ⟨p0,p1,p2,p3,p4,p5,p6,p7,p8,p9,p10,p11,p12,p13⟩ (aa hbw hbm) hsz1).same (fun q=>World.cell?_of_block (aF b _ _ _ _ (Nat.ne_of_gt (J5 hE.cnt))))
     have hZ6:w.heap.size<(w'.setCells b o (St.vals .u32 (aU rn K (fun j=>bs (i*(2*Ru.m rn)+j)) x)).toList).heap.size:=by rw [(aj b _ _ _).2.2.2];have:=hbm.size;simp only [World.size_drew] at this;omega
     clear hst hE5 p0 p1 p2 p3 p4 p5 p6 p7 p8 p9 p10 p11 p12 p13 q0 q1 q2 q3 q4 q5 q6 q7 hmix hbw hbm;go_wp2;go_roundw
     case rel =>
      have hn':n=(i+1)*64+(m - 64):=by have:=Hn.out;omega
      have hE7:az .u32 (w'.setCells b o (St.vals .u32 (aU rn K (fun j=>bs (i*(2*Ru.m rn)+j)) x)).toList) b o (aX rn K s bs (i+1)) R (c+n):=by
       show az _ _ _ _ (aU rn K (fun j=>bs (i*(2*Ru.m rn)+j)) (aX rn K s bs i)) _ _;rw [←HX.out];exact hE6
      by_cases hcp:cp=64
      · exact ⟨i+1,m - 64,p,cp - 64,by rw [if_pos hcp],hn',.inl (by omega),by omega,hE7,hO6,hR6,hZ6⟩
      · exact ⟨i+1,m - 64,p+64,cp - 64,by rw [if_neg hcp],hn',.inr (by have:=Hp.out;omega),by omega,hE7,hO6,hR6,hZ6⟩
     case measure=>simp [gV];omega
  · have hi:i=n / 64∧m=n%64:=by have:=Hn.out;omega
    have hsrc:nK wr (some ⟨bb,p,none⟩) m (fun j=>bs (n / (2*Ru.m rn)*(2*Ru.m rn)+j)):=by
     by_cases h0:m=0
     · exact .inl h0
     · refine .inr ⟨bb,p,rfl,fun j hj => ?_⟩
       have h1:=hcell (i*64+j) (by have:=Hn.out;omega);have h2:=(hO1.cell' (q:=ob+(i*64+j)) (J5 h1) hbb).trans h1;rw [←Nat.add_assoc,←Hp.out.resolve_left h0,hi.1] at h2;exact h2
    have hE8:=hE1.bytes 0 m (fun j=>bs (n / (2*Ru.m rn)*(2*Ru.m rn)+j)) (by omega);have hth:=hE1.rest.there;have hO8:aT b o 137 w (wr.setCells b (o+8) (au .u8 m (fun j=>bs (n / (2*Ru.m rn)*(2*Ru.m rn)+j)))):=hO1.trans (aT.setCells _ _ (by omega) (by rw [ak];omega));have hmin:m=Nat.min m 128:=(Nat.min_eq_left (by omega)).symm;have HI:Hid (i=n / 64∧m=n%64):=hi;have HE:Hid (az .u32 (wr.setCells b (o+8) (au .u8 m (fun j=>bs (n / (2*Ru.m rn)*(2*Ru.m rn)+j)))) b o (aX rn K s bs i) (over R 0 m (fun j=>bs (n / (2*Ru.m rn)*(2*Ru.m rn)+j))) (c+n)):=hE8;have HO:Hid (aT b o 137 w (wr.setCells b (o+8) (au .u8 m (fun j=>bs (n / (2*Ru.m rn)*(2*Ru.m rn)+j))))):=hO8;have hmi:Hid (m=Nat.min m 128):=hmin;clear hi hE8 hO8 hcell hcub hmin;go_wp2_with (refine aM rfl _ _ 22 22 rfl 5 Tryz.underlying22 (by kernel_rfl) b (o+8) 128 128 (some ⟨bb,p,none⟩) m cp rfl rfl m (fun j=>bs (n / (2*Ru.m rn)*(2*Ru.m rn)+j)) hsrc hmi.out hth ?_);go_end0;refine ⟨rfl,?_,HO.out⟩
    have e:dZ rn K s R n bs=(aX rn K s bs i,over R 0 m (fun j=>bs (n / (2*Ru.m rn)*(2*Ru.m rn)+j))):=by rw [HI.out.1,HI.out.2];rfl
    rw [e];exact HE.out
theorem mh (w:World) (b o:Nat) (s:St) (ht:w.there b o 8):(storeCells ⟨b,o,none⟩ (St.vals .u64 s).toList).run Tryz.prog w = .ok () (w.setCells b o (St.vals .u64 s).toList):=by
 have:=run_storeCells_cells (P:=Tryz.prog) b o (St.vals .u64 s).toList 0 w (fun j hj=>(ht j hj).1) (fun j hj=>(ht j hj).2) (bW .u64 8 s.at);rw [Nat.add_zero] at this;exact this
theorem aZ.same {w1 w2:World} {B:Nat} (h:aZ w1 B) (hc:∀ j,w2.cell? ⟨B,j,none⟩=w1.cell? ⟨B,j,none⟩):aZ w2 B:=by
 unfold aZ at *;simp only [hc];exact h
theorem kr {w w1:World} {b o:Nat} {s:St} {R:Nat→Nat} {c n:Nat} (hE:az .u64 w b o s R c) (h:Below (w.alloc (.cells #[.int .i64 64,.int .i64 80,.int .u64 1,.int .u64 8,.int .u64 7,.int .u64 19,.int .u64 61,.int .u64 6,.int .u64 28,.int .u64 34,.int .u64 39,.int .u64 14,.int .u64 18,.int .u64 41] 158)).heap.size (w.alloc (.cells #[.int .i64 64,.int .i64 80,.int .u64 1,.int .u64 8,.int .u64 7,.int .u64 19,.int .u64 61,.int .u64 6,.int .u64 28,.int .u64 34,.int .u64 39,.int .u64 14,.int .u64 18,.int .u64 41] 158)) w1) :
 az .u64 (w1.setCell ⟨b,o+136,none⟩ (.int .i64 ((c:Int)+n))) b o s R (c+n)∧aT b o 137 w (w1.setCell ⟨b,o+136,none⟩ (.int .i64 ((c:Int)+n)))∧aZ (w1.setCell ⟨b,o+136,none⟩ (.int .i64 ((c:Int)+n))) w.heap.size∧w.heap.size<w1.heap.size∧w1.cell? ⟨b,o+136,none⟩=some (.int .i64 c)∧w1.frozen? ⟨b,o+136,none⟩=false:=by
 have hl:b<w.heap.size:=J5 hE.cnt;have h0:Below w.heap.size w w1:=((Below.refl _ _).alloc (JW _) _).trans (h.mono (by simp));have hs:=h.size;simp only [World.size_alloc] at hs h;have hR:aZ w1 w.heap.size:=aZ.of_box h;refine ⟨(hE.below h0).count (by omega),(aT.of_below h0 hl).trans (aT.setCell _ _ (by omega) (by omega)),?_,by omega,(hE.below h0).cnt,(hE.below h0).cntf⟩;exact hR.same (fun q=>World.cell?_setCell_other _ _ _ _ (fun e=>by injection e with e1;omega))
set_option maxRecDepth 20000 in
set_option maxHeartbeats 1000000 in
theorem A5 (K:Nat→Nat) (hK:∀ j,K j<18446744073709551616) (s:St) (hs:s.lt 18446744073709551616) (R:Nat→Nat) (b o c n bb ob cap:Nat) (bs:Nat→Nat) (hbs:∀ j,bs j<256) (w:World)
 (hE:az .u64 w b o s R c) (hcub:∀ j,j<80→w.cell? ⟨4,j,none⟩=some (.int .u64 (K j))) (hb3:4≠b) (hbb:bb≠b) (hcap:n≤cap) (hcn:c+n<4611686018427387904)
 (hcell:∀ j,j<n→w.cell? ⟨bb,ob+j,none⟩=some (.int .u8 (bs j))) (hh:c%128=0) :
 Calls Tryz.prog 151 #[.pointer (some ⟨b,o,none⟩),(.agg #[.int .i64 64,.int .i64 80,.int .u64 1,.int .u64 8,.int .u64 7,.int .u64 19,.int .u64 61,.int .u64 6,.int .u64 28,.int .u64 34,.int .u64 39,.int .u64 14,.int .u64 18,.int .u64 41]),.slice (some ⟨bb,ob,none⟩) n cap] w
  fun e w'=>e = .returned (.tuple #[])∧az .u64 w' b o (dZ aA K s R n bs).1 (dZ aA K s R n bs).2 (c+n)∧aT b o 137 w w':=by
 go_enter Tryz.func151,Tryz.ntmps151;go_wp2_with (go_at_call 185;refine (cC _).mono ?_;rintro e w1 ⟨rfl,hb1⟩;obtain ⟨hE1,hO1,hR1,hsz1,hc1,hf1⟩:=kr (n:=n) hE hb1;clear hb1);clear hc1 hf1
 obtain ⟨w2,hw2⟩:∃ w2,w2=w1.setCell ⟨b,o+136,none⟩ (.int .i64 ((c:Int)+n)):=⟨_,rfl⟩
 rw [←hw2] at hE1 hO1 hR1 ⊢
 replace hsz1:w.heap.size<w2.heap.size:=by rw [hw2];simpa using hsz1
 clear hw2;go_loopw [2] (fun v wr=>∃ i m p cp:Nat,v = .slice (some ⟨bb,p,none⟩) m cp∧Hid (n=i*128+m)∧Hid (m=0∨p=ob+i*128)∧m≤cp∧az .u64 wr b o (aX aA K s bs i) R (c+n)∧aT b o 137 w wr∧aZ wr w.heap.size∧w.heap.size<wr.heap.size) (fun v _=>gV v)
 case atStart=>exact ⟨0,n,ob,cap,rfl,(Nat.zero_mul 128 ▸ (Nat.zero_add n).symm:n=0*128+n),(.inr (by simp):n=0∨ob=ob+0*128),hcap,hE1,hO1,hR1,hsz1⟩
 case round =>
  clear hE1 hO1 hR1 hsz1;obtain ⟨i,m,p,cp,rfl,Hn,Hp,hm,hE1,hO1,hR1,hsz1⟩:=hrel
  have hmn:m≤n:=by have:=Hn.out;omega
  by_cases hlt:128≤m
  · have hsi:(aX aA K s bs i).lt 18446744073709551616:=gF (r:=aA) hs i
    have hcw:∀ j,j<80→wr.drew.cell? ⟨4,j,none⟩=some (.int .u64 (K j)):=fun j hj=>(hO1.cell' (J5 (hcub j hj)) hb3).trans (hcub j hj)
    have hcl:∀ j,j<128→wr.drew.cell? ⟨bb,p+j,none⟩=some (.int .u8 (bs (i*(2*Ru.m aA)+j))):=fun j hj=>by
     have h1:=hcell (i*128+j) (by have:=Hn.out;omega);have h2:=(hO1.cell' (q:=ob+(i*128+j)) (J5 h1) hbb).trans h1;rw [←Nat.add_assoc,←Hp.out.resolve_left (by omega)] at h2;exact h2
    have hmix:=mg K hK (aX aA K s bs i) hsi bb p cp (fun j=>bs (i*(2*Ru.m aA)+j)) (fun j=>hbs _) wr.drew hcw hcl;obtain ⟨q0,q1,q2,q3,q4,q5,q6,q7⟩:=hE1.st.st'
    obtain ⟨x,hx⟩:∃ x,x=aX aA K s bs i:=⟨_,rfl⟩
    have HX:Hid (x=aX aA K s bs i):=hx;rw [←hx] at hmix q0 q1 q2 q3 q4 q5 q6 q7;clear hx hcl hcw hcell hcub;obtain ⟨p0,p1,p2,p3,p4,p5,p6,p7,p8,p9,p10,p11,p12,p13⟩:=hR1;have hbw:Below wr.heap.size wr wr.drew:=(Below.refl _ _).drew;go_wp2;go_region_with ((go_at_call 206;refine hmix.mono ?_;rintro e w' ⟨rfl,hbm⟩;have hE5:=hE1.below (aa hbw hbm);have hst:=mh w' b o (aU aA K (fun j=>bs (i*(2*Ru.m aA)+j)) x) hE5.st.there))
    all_goals
     have hE6:=hE5.state (aU aA K (fun j=>bs (i*(2*Ru.m aA)+j)) x);have hO6:aT b o 137 w (w'.setCells b o (St.vals .u64 (aU aA K (fun j=>bs (i*(2*Ru.m aA)+j)) x)).toList):=hO1.trans ((aT.of_below (aa hbw hbm) (J5 hE1.cnt)).trans (aT.setCells _ _ (JW _) (by rw [eH,ak];omega)));have hR6:aZ (w'.setCells b o (St.vals .u64 (aU aA K (fun j=>bs (i*(2*Ru.m aA)+j)) x)).toList) w.heap.size:=(aZ.below ⟨p0,p1,p2,p3,p4,p5,p6,p7,p8,p9,p10,p11,p12,p13⟩ (aa hbw hbm) hsz1).same (fun q=>World.cell?_of_block (aF b _ _ _ _ (Nat.ne_of_gt (J5 hE.cnt))))
     have hZ6:w.heap.size<(w'.setCells b o (St.vals .u64 (aU aA K (fun j=>bs (i*(2*Ru.m aA)+j)) x)).toList).heap.size:=by rw [(aj b _ _ _).2.2.2];have:=hbm.size;simp only [World.size_drew] at this;omega
     clear hst hE5 p0 p1 p2 p3 p4 p5 p6 p7 p8 p9 p10 p11 p12 p13 q0 q1 q2 q3 q4 q5 q6 q7 hmix hbw hbm;go_wp2;go_roundw
     case rel =>
      have hn':n=(i+1)*128+(m - 128):=by have:=Hn.out;omega
      have hE7:az .u64 (w'.setCells b o (St.vals .u64 (aU aA K (fun j=>bs (i*(2*Ru.m aA)+j)) x)).toList) b o (aX aA K s bs (i+1)) R (c+n):=by
       show az _ _ _ _ (aU aA K (fun j=>bs (i*(2*Ru.m aA)+j)) (aX aA K s bs i)) _ _;rw [←HX.out];exact hE6
      by_cases hcp:cp=128
      · exact ⟨i+1,m - 128,p,cp - 128,by rw [if_pos hcp],hn',.inl (by omega),by omega,hE7,hO6,hR6,hZ6⟩
      · exact ⟨i+1,m - 128,p+128,cp - 128,by rw [if_neg hcp],hn',.inr (by have:=Hp.out;omega),by omega,hE7,hO6,hR6,hZ6⟩
     case measure=>simp [gV];omega
  · have hi:i=n / 128∧m=n%128:=by have:=Hn.out;omega
    have hsrc:nK wr (some ⟨bb,p,none⟩) m (fun j=>bs (n / (2*Ru.m aA)*(2*Ru.m aA)+j)):=by
     by_cases h0:m=0
     · exact .inl h0
     · refine .inr ⟨bb,p,rfl,fun j hj => ?_⟩
       have h1:=hcell (i*128+j) (by have:=Hn.out;omega);have h2:=(hO1.cell' (q:=ob+(i*128+j)) (J5 h1) hbb).trans h1;rw [←Nat.add_assoc,←Hp.out.resolve_left h0,hi.1] at h2;exact h2
    have hE8:=hE1.bytes 0 m (fun j=>bs (n / (2*Ru.m aA)*(2*Ru.m aA)+j)) (by omega);have hth:=hE1.rest.there;have hO8:aT b o 137 w (wr.setCells b (o+8) (au .u8 m (fun j=>bs (n / (2*Ru.m aA)*(2*Ru.m aA)+j)))):=hO1.trans (aT.setCells _ _ (by omega) (by rw [ak];omega));have hmin:m=Nat.min m 128:=(Nat.min_eq_left (by omega)).symm;have HI:Hid (i=n / 128∧m=n%128):=hi;have HE:Hid (az .u64 (wr.setCells b (o+8) (au .u8 m (fun j=>bs (n / (2*Ru.m aA)*(2*Ru.m aA)+j)))) b o (aX aA K s bs i) (over R 0 m (fun j=>bs (n / (2*Ru.m aA)*(2*Ru.m aA)+j))) (c+n)):=hE8;have HO:Hid (aT b o 137 w (wr.setCells b (o+8) (au .u8 m (fun j=>bs (n / (2*Ru.m aA)*(2*Ru.m aA)+j))))):=hO8;have hmi:Hid (m=Nat.min m 128):=hmin;clear hi hE8 hO8 hcell hcub hmin;go_wp2_with (refine aM rfl _ _ 22 22 rfl 5 Tryz.underlying22 (by kernel_rfl) b (o+8) 128 128 (some ⟨bb,p,none⟩) m cp rfl rfl m (fun j=>bs (n / (2*Ru.m aA)*(2*Ru.m aA)+j)) hsrc hmi.out hth ?_);go_end0;refine ⟨rfl,?_,HO.out⟩
    have e:dZ aA K s R n bs=(aX aA K s bs i,over R 0 m (fun j=>bs (n / (2*Ru.m aA)*(2*Ru.m aA)+j))):=by rw [HI.out.1,HI.out.2];rfl
    rw [e];exact HE.out
end Go.Proofs.YtibdhadbflfdpaaGreatDoor
