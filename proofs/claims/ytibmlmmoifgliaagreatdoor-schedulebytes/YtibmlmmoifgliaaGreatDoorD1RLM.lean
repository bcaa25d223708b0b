/- What the proof stands on: D1RL, D1RM, D1RO, D1Bk. -/
import Derived.Test.YtibmlmmoifgliaaGreatDoorD1CBM
import Derived.Test.YtibmlmmoifgliaaGreatDoorV6CM
namespace Go.Proofs.YtibmlmmoifgliaaGreatDoor
open Go.RowKit
set_option maxRecDepth 20000 in
set_option maxHeartbeats 2000000 in
theorem rLenR_err (g L:Nat) (B:Nat→Nat) (r:Rd) (he:r.e≠0) (w:World) (h:RdR w g L B r):Calls Tryz.prog 81 #[.pointer (some ⟨g,0,none⟩)] w fun e w'=>e = .returned (.int .i64 0)∧Below w.heap.size w w':=by
 have c2:=h.f2.1
 generalize r.e=er at *
 clear h
 go_enter Tryz.func81,Tryz.ntmps81
 go_wp2
 go_ret
 exact ⟨rfl,Below.refl _ _⟩
set_option maxRecDepth 20000 in
set_option maxHeartbeats 2000000 in
theorem rLenR_empty (g L:Nat) (B:Nat→Nat) (r:Rd) (he:r.e=0) (hL:L<140737488355000) (hq:L=r.at_) (w:World) (h:RdR w g L B r):Calls Tryz.prog 81 #[.pointer (some ⟨g,0,none⟩)] w fun e w'=>e = .returned (.int .i64 0)∧RdR w' g L B ⟨r.at_,20⟩∧Out g 1 2 w w':=by
 obtain ⟨c2,z2⟩:=h.f2
 rw [he] at c2
 have cl:=rLeft11_any g L B r hL w h
 rw [show (L:Int) - (r.at_:Int)=0 by omega] at cl
 have Hh:=Hid.mk' h
 have gl:=h.lt
 clear h
 go_enter Tryz.func81,Tryz.ntmps81
 go_wp2_with (go_at_call 79;refine cl.mono ?_;clear cl;rintro e w1 ⟨rfl,b1⟩;have Hh1:=Hid.mk' (Hh.out.keep b1);obtain ⟨d2,z2'⟩:=Hh1.out.f2)
 go_ret
 exact ⟨rfl,Hh1.out.setE 20,(Out.of_below b1 gl).trans (Out.setCell _ _ (by decide) (by decide))⟩
set_option maxRecDepth 20000 in
set_option maxHeartbeats 2000000 in
theorem rLenR_three (g L:Nat) (B:Nat→Nat) (lB:∀ j,B j<256) (r:Rd) (he:r.e=0) (hL:L<140737488355000) (hq:r.at_<L) (ht:B r.at_ / 64=3) (w:World) (h:RdR w g L B r):Calls Tryz.prog 81 #[.pointer (some ⟨g,0,none⟩)] w fun e w'=>e = .returned (.int .i64 0)∧RdR w' g L B ⟨r.at_,21⟩∧Out g 1 2 w w':=by
 obtain ⟨c2,z2⟩:=h.f2
 rw [he] at c2
 have cl:=rLeft11_any g L B r hL w h
 obtain ⟨x,hx⟩:∃ x:Int,x=(L:Int) - (r.at_:Int):=⟨_,rfl⟩
 rw [←hx] at cl
 have t1:¬x=0:=by omega
 have Hh:=Hid.mk' h
 have gl:=h.lt
 have hy:=lB r.at_
 have t4:(0:Int)≤(r.at_:Int)∧(r.at_:Int)<(L:Int):=by omega
 clear h hx
 go_enter Tryz.func81,Tryz.ntmps81
 go_wp2_with (go_at_call 79;refine cl.mono ?_;clear cl;rintro e w1 ⟨rfl,b1⟩;have Hh1:=Hid.mk' (Hh.out.keep b1);obtain ⟨d2,z2'⟩:=Hh1.out.f2)
 have bd:Below w1.heap.size w1 w1.drew:=(Below.refl _ _).drew
 have bw:=below_next b1 bd
 have Hd:=Hid.mk' (Hh1.out.keep bd)
 obtain ⟨v,rr,hv,-⟩:=Hd.out
 rcases hv with ⟨xo,rfl,h0⟩ | ⟨bb,ob,cap,rfl,hbb,hc,hcell⟩
 · omega
 have f0:w1.drew.cell? ⟨g,0,none⟩=some (.slice (some ⟨bb,ob,none⟩) L cap):=rr.range 0 _ rfl
 have f1:w1.drew.cell? ⟨g,1,none⟩=some (.int .i64 (r.at_:Int)):=rr.range 1 _ rfl
 have f3:=hcell r.at_ hq
 obtain ⟨d3,z3⟩:=Hd.out.f2
 clear hcell rr
 obtain ⟨a,ha⟩:∃ a,a=r.at_:=⟨_,rfl⟩
 have HA:=Hid.mk' ha
 rw [←ha] at f1 f3 t4 hy ht
 obtain ⟨y,hy'⟩:∃ y,y=B a:=⟨_,rfl⟩
 rw [←hy'] at f3 hy ht
 clear hy' ha
 have e1:(y:Int) / 64=3:=by omega
 have e2:(y:Int) / 2 ^ 6=3:=by omega
 go_region
 go_wp2
 go_ret
 exact ⟨rfl,Hd.out.setE 21,(Out.of_below bw gl).trans (Out.setCell _ _ (by decide) (by decide))⟩
set_option maxRecDepth 20000 in
set_option maxHeartbeats 2000000 in
theorem rLenR_end2 (g L:Nat) (B:Nat→Nat) (lB:∀ j,B j<256) (r:Rd) (he:r.e=0) (hL:L<140737488355000) (hq:r.at_<L) (ht:B r.at_ / 64=1) (h2:L<r.at_+2) (w:World) (h:RdR w g L B r):Calls Tryz.prog 81 #[.pointer (some ⟨g,0,none⟩)] w fun e w'=>e = .returned (.int .i64 0)∧RdR w' g L B ⟨r.at_,20⟩∧Out g 1 2 w w':=by
 obtain ⟨c2,z2⟩:=h.f2
 rw [he] at c2
 have cl:=rLeft11_any g L B r hL w h
 have cl2:∀ w1,Below w.heap.size w w1→_:=fun w1 b1=>rLeft11_any g L B r hL w1 (h.keep b1)
 obtain ⟨x,hx⟩:∃ x:Int,x=(L:Int) - (r.at_:Int):=⟨_,rfl⟩
 simp only [←hx] at cl cl2
 have t1:¬x=0:=by omega
 have t2:x<2:=by omega
 have Hh:=Hid.mk' h
 have gl:=h.lt
 have hy:=lB r.at_
 have t4:(0:Int)≤(r.at_:Int)∧(r.at_:Int)<(L:Int):=by omega
 clear h hx
 go_enter Tryz.func81,Tryz.ntmps81
 go_wp2_with (go_at_call 79;refine cl.mono ?_;clear cl;rintro e w1 ⟨rfl,b1⟩;have Hh1:=Hid.mk' (Hh.out.keep b1);obtain ⟨d2,z2'⟩:=Hh1.out.f2)
 have bd:Below w1.heap.size w1 w1.drew:=(Below.refl _ _).drew
 have bw:=below_next b1 bd
 have Hd:=Hid.mk' (Hh1.out.keep bd)
 obtain ⟨v,rr,hv,-⟩:=Hd.out
 rcases hv with ⟨xo,rfl,h0⟩ | ⟨bb,ob,cap,rfl,hbb,hc,hcell⟩
 · omega
 have f0:w1.drew.cell? ⟨g,0,none⟩=some (.slice (some ⟨bb,ob,none⟩) L cap):=rr.range 0 _ rfl
 have f1:w1.drew.cell? ⟨g,1,none⟩=some (.int .i64 (r.at_:Int)):=rr.range 1 _ rfl
 have f3:=hcell r.at_ hq
 obtain ⟨d3,z3⟩:=Hd.out.f2
 clear hcell rr
 obtain ⟨a,ha⟩:∃ a,a=r.at_:=⟨_,rfl⟩
 have HA:=Hid.mk' ha
 rw [←ha] at f1 f3 t4 hy ht
 obtain ⟨y,hy'⟩:∃ y,y=B a:=⟨_,rfl⟩
 rw [←hy'] at f3 hy ht
 clear hy' ha
 have e1:(y:Int) / 64=1:=by omega
 have e2:(y:Int) / 2 ^ 6=1:=by omega
 replace cl2:=cl2 _ bw
 go_region
 go_wp2_with (go_at_call 79;refine cl2.mono ?_;clear cl2;rintro e w2 ⟨rfl,b2⟩;have Hh2:=Hid.mk' (Hd.out.keep b2);obtain ⟨d4,z4⟩:=Hh2.out.f2)
 go_ret
 exact ⟨rfl,Hh2.out.setE 20,(Out.of_below (below_next bw b2) gl).trans (Out.setCell _ _ (by decide) (by decide))⟩
set_option maxRecDepth 20000 in
set_option maxHeartbeats 2000000 in
theorem rLenR_end4 (g L:Nat) (B:Nat→Nat) (lB:∀ j,B j<256) (r:Rd) (he:r.e=0) (hL:L<140737488355000) (hq:r.at_<L) (ht:B r.at_ / 64=2) (h2:L<r.at_+4) (w:World) (h:RdR w g L B r):Calls Tryz.prog 81 #[.pointer (some ⟨g,0,none⟩)] w fun e w'=>e = .returned (.int .i64 0)∧RdR w' g L B ⟨r.at_,20⟩∧Out g 1 2 w w':=by
 obtain ⟨c2,z2⟩:=h.f2
 rw [he] at c2
 have cl:=rLeft11_any g L B r hL w h
 have cl2:∀ w1,Below w.heap.size w w1→_:=fun w1 b1=>rLeft11_any g L B r hL w1 (h.keep b1)
 obtain ⟨x,hx⟩:∃ x:Int,x=(L:Int) - (r.at_:Int):=⟨_,rfl⟩
 simp only [←hx] at cl cl2
 have t1:¬x=0:=by omega
 have t2:x<4:=by omega
 have Hh:=Hid.mk' h
 have gl:=h.lt
 have hy:=lB r.at_
 have t4:(0:Int)≤(r.at_:Int)∧(r.at_:Int)<(L:Int):=by omega
 clear h hx
 go_enter Tryz.func81,Tryz.ntmps81
 go_wp2_with (go_at_call 79;refine cl.mono ?_;clear cl;rintro e w1 ⟨rfl,b1⟩;have Hh1:=Hid.mk' (Hh.out.keep b1);obtain ⟨d2,z2'⟩:=Hh1.out.f2)
 have bd:Below w1.heap.size w1 w1.drew:=(Below.refl _ _).drew
 have bw:=below_next b1 bd
 have Hd:=Hid.mk' (Hh1.out.keep bd)
 obtain ⟨v,rr,hv,-⟩:=Hd.out
 rcases hv with ⟨xo,rfl,h0⟩ | ⟨bb,ob,cap,rfl,hbb,hc,hcell⟩
 · omega
 have f0:w1.drew.cell? ⟨g,0,none⟩=some (.slice (some ⟨bb,ob,none⟩) L cap):=rr.range 0 _ rfl
 have f1:w1.drew.cell? ⟨g,1,none⟩=some (.int .i64 (r.at_:Int)):=rr.range 1 _ rfl
 have f3:=hcell r.at_ hq
 obtain ⟨d3,z3⟩:=Hd.out.f2
 clear hcell rr
 obtain ⟨a,ha⟩:∃ a,a=r.at_:=⟨_,rfl⟩
 have HA:=Hid.mk' ha
 rw [←ha] at f1 f3 t4 hy ht
 obtain ⟨y,hy'⟩:∃ y,y=B a:=⟨_,rfl⟩
 rw [←hy'] at f3 hy ht
 clear hy' ha
 have e1:(y:Int) / 64=2:=by omega
 have e2:(y:Int) / 2 ^ 6=2:=by omega
 replace cl2:=cl2 _ bw
 go_region
 go_wp2_with (go_at_call 79;refine cl2.mono ?_;clear cl2;rintro e w2 ⟨rfl,b2⟩;have Hh2:=Hid.mk' (Hd.out.keep b2);obtain ⟨d4,z4⟩:=Hh2.out.f2)
 go_ret
 exact ⟨rfl,Hh2.out.setE 20,(Out.of_below (below_next bw b2) gl).trans (Out.setCell _ _ (by decide) (by decide))⟩
end Go.Proofs.YtibmlmmoifgliaaGreatDoor
namespace Go.Proofs.YtibmlmmoifgliaaGreatDoor
open Go.RowKit
theorem and_mask (N k:Nat) (hk:k≤62) (hN:N<9223372036854775808):bits .and .i64 (N:Int) ((2 ^ k - 1:Nat):Int)=((N%2 ^ k:Nat):Int):=by
 have h1:(2:Nat) ^ k≤2 ^ 62:=Nat.pow_le_pow_right (by decide) hk
 have h2:(2:Nat) ^ 62=4611686018427387904:=by decide
 have h3:(2:Nat) ^ k - 1<9223372036854775808:=by omega
 refine (i64_and_nat _ _ hN h3).trans ?_
 rw [Nat.and_two_pow_sub_one_eq_mod]
set_option maxRecDepth 20000 in
set_option maxHeartbeats 2000000 in
theorem rLenR_form2 (g L:Nat) (B:Nat→Nat) (lB:∀ j,B j<256) (r:Rd) (he:r.e=0) (hL:L<140737488355000) (hq:r.at_<L) (ht:B r.at_ / 64=1) (h2:r.at_+2≤L) (h3:nbN B r.at_ 2%16384<64) (w:World) (h:RdR w g L B r):Calls Tryz.prog 81 #[.pointer (some ⟨g,0,none⟩)] w fun e w'=>e = .returned (.int .i64 0)∧RdR w' g L B ⟨r.at_,21⟩∧Out g 1 2 w w':=by
 obtain ⟨c2,z2⟩:=h.f2
 rw [he] at c2
 have cl:=rLeft11_any g L B r hL w h
 have cl2:∀ w1,Below w.heap.size w w1→_:=fun w1 b1=>rLeft11_any g L B r hL w1 (h.keep b1)
 obtain ⟨N,hN⟩:∃ N,N=nbN B r.at_ 2:=⟨_,rfl⟩
 have hNl:N<9223372036854775808:=by rw [hN];exact nbN_small lB r.at_ 2 (by decide) (by omega) 2 (Nat.le_refl _)
 have cn:∀ w1,Below w.heap.size w w1→Calls Tryz.prog 80 #[.pointer (some ⟨g,0,none⟩),.int .i64 2] w1 fun e w'=>e = .returned (.int .i64 (N:Int))∧Below w1.heap.size w1 w':=fun w1 b1=>by
  rw [hN];exact rnumber_any g L 2 B r lB (by decide) hL h2 (nbN_small lB r.at_ 2 (by decide) (by omega)) w1 (h.keep b1)
 have em:bits .and .i64 (N:Int) 16383=((N%16384:Nat):Int):=and_mask N 14 (by decide) hNl
 obtain ⟨x,hx⟩:∃ x:Int,x=(L:Int) - (r.at_:Int):=⟨_,rfl⟩
 simp only [←hx] at cl cl2
 have t1:¬x=0:=by omega
 have t2:¬x<2:=by omega
 rw [←hN] at h3
 obtain ⟨n,hn⟩:∃ n,n=N%16384:=⟨_,rfl⟩
 rw [←hn] at em h3
 obtain ⟨z,hz⟩:∃ z:Int,z=(n:Int):=⟨_,rfl⟩
 rw [←hz] at em
 have t3:z<64:=by omega
 clear hz
 clear hn h3
 have Hh:=Hid.mk' h
 have gl:=h.lt
 have hy:=lB r.at_
 have t4:(0:Int)≤(r.at_:Int)∧(r.at_:Int)<(L:Int):=by omega
 clear h hx hN
 go_enter Tryz.func81,Tryz.ntmps81
 go_wp2_with (go_at_call 79;refine cl.mono ?_;clear cl;rintro e w1 ⟨rfl,b1⟩;have Hh1:=Hid.mk' (Hh.out.keep b1);obtain ⟨d2,z2'⟩:=Hh1.out.f2)
 have bd:Below w1.heap.size w1 w1.drew:=(Below.refl _ _).drew
 have bw:=below_next b1 bd
 have Hd:=Hid.mk' (Hh1.out.keep bd)
 obtain ⟨v,rr,hv,-⟩:=Hd.out
 rcases hv with ⟨xo,rfl,h0⟩ | ⟨bb,ob,cap,rfl,hbb,hc,hcell⟩
 · omega
 have f0:w1.drew.cell? ⟨g,0,none⟩=some (.slice (some ⟨bb,ob,none⟩) L cap):=rr.range 0 _ rfl
 have f1:w1.drew.cell? ⟨g,1,none⟩=some (.int .i64 (r.at_:Int)):=rr.range 1 _ rfl
 have f3:=hcell r.at_ hq
 obtain ⟨d3,z3⟩:=Hd.out.f2
 clear hcell rr
 obtain ⟨a,ha⟩:∃ a,a=r.at_:=⟨_,rfl⟩
 have HA:=Hid.mk' ha
 rw [←ha] at f1 f3 t4 hy ht
 obtain ⟨y,hy'⟩:∃ y,y=B a:=⟨_,rfl⟩
 rw [←hy'] at f3 hy ht
 clear hy' ha
 have e1:(y:Int) / 64=1:=by omega
 have e2:(y:Int) / 2 ^ 6=1:=by omega
 replace cl2:=cl2 _ bw
 go_region
 go_wp2_with (first
  | (go_at_call 79;refine cl2.mono ?_;clear cl2;rintro e w2 ⟨rfl,b2⟩;have Hh2:=Hid.mk' (Hd.out.keep b2);have bw2:=below_next bw b2;replace cn:=cn _ bw2)
  | (go_at_call 80;refine cn.mono ?_;clear cn;rintro e w3 ⟨rfl,b3⟩;have Hh3:=Hid.mk' (Hh2.out.keep b3);have bw3:=below_next bw2 b3;obtain ⟨d5,z5⟩:=Hh3.out.f2;obtain ⟨k1,y1⟩:=Hh3.out.f1;rw [←HA.out] at k1))
 go_ret
 exact ⟨rfl,Hh3.out.setE 21,(Out.of_below bw3 gl).trans (Out.setCell _ _ (by decide) (by decide))⟩
set_option maxRecDepth 20000 in
set_option maxHeartbeats 2000000 in
theorem rLenR_form4 (g L:Nat) (B:Nat→Nat) (lB:∀ j,B j<256) (r:Rd) (he:r.e=0) (hL:L<140737488355000) (hq:r.at_<L) (ht:B r.at_ / 64=2) (h2:r.at_+4≤L) (h3:nbN B r.at_ 4%1073741824<16384) (w:World) (h:RdR w g L B r):Calls Tryz.prog 81 #[.pointer (some ⟨g,0,none⟩)] w fun e w'=>e = .returned (.int .i64 0)∧RdR w' g L B ⟨r.at_,21⟩∧Out g 1 2 w w':=by
 obtain ⟨c2,z2⟩:=h.f2
 rw [he] at c2
 have cl:=rLeft11_any g L B r hL w h
 have cl2:∀ w1,Below w.heap.size w w1→_:=fun w1 b1=>rLeft11_any g L B r hL w1 (h.keep b1)
 obtain ⟨N,hN⟩:∃ N,N=nbN B r.at_ 4:=⟨_,rfl⟩
 have hNl:N<9223372036854775808:=by rw [hN];exact nbN_small lB r.at_ 4 (by decide) (by omega) 4 (Nat.le_refl _)
 have cn:∀ w1,Below w.heap.size w w1→Calls Tryz.prog 80 #[.pointer (some ⟨g,0,none⟩),.int .i64 4] w1 fun e w'=>e = .returned (.int .i64 (N:Int))∧Below w1.heap.size w1 w':=fun w1 b1=>by
  rw [hN];exact rnumber_any g L 4 B r lB (by decide) hL h2 (nbN_small lB r.at_ 4 (by decide) (by omega)) w1 (h.keep b1)
 have em:bits .and .i64 (N:Int) 1073741823=((N%1073741824:Nat):Int):=and_mask N 30 (by decide) hNl
 obtain ⟨x,hx⟩:∃ x:Int,x=(L:Int) - (r.at_:Int):=⟨_,rfl⟩
 simp only [←hx] at cl cl2
 have t1:¬x=0:=by omega
 have t2:¬x<4:=by omega
 rw [←hN] at h3
 obtain ⟨n,hn⟩:∃ n,n=N%1073741824:=⟨_,rfl⟩
 rw [←hn] at em h3
 obtain ⟨z,hz⟩:∃ z:Int,z=(n:Int):=⟨_,rfl⟩
 rw [←hz] at em
 have t3:z<16384:=by omega
 clear hz
 clear hn h3
 have Hh:=Hid.mk' h
 have gl:=h.lt
 have hy:=lB r.at_
 have t4:(0:Int)≤(r.at_:Int)∧(r.at_:Int)<(L:Int):=by omega
 clear h hx hN
 go_enter Tryz.func81,Tryz.ntmps81
 go_wp2_with (go_at_call 79;refine cl.mono ?_;clear cl;rintro e w1 ⟨rfl,b1⟩;have Hh1:=Hid.mk' (Hh.out.keep b1);obtain ⟨d2,z2'⟩:=Hh1.out.f2)
 have bd:Below w1.heap.size w1 w1.drew:=(Below.refl _ _).drew
 have bw:=below_next b1 bd
 have Hd:=Hid.mk' (Hh1.out.keep bd)
 obtain ⟨v,rr,hv,-⟩:=Hd.out
 rcases hv with ⟨xo,rfl,h0⟩ | ⟨bb,ob,cap,rfl,hbb,hc,hcell⟩
 · omega
 have f0:w1.drew.cell? ⟨g,0,none⟩=some (.slice (some ⟨bb,ob,none⟩) L cap):=rr.range 0 _ rfl
 have f1:w1.drew.cell? ⟨g,1,none⟩=some (.int .i64 (r.at_:Int)):=rr.range 1 _ rfl
 have f3:=hcell r.at_ hq
 obtain ⟨d3,z3⟩:=Hd.out.f2
 clear hcell rr
 obtain ⟨a,ha⟩:∃ a,a=r.at_:=⟨_,rfl⟩
 have HA:=Hid.mk' ha
 rw [←ha] at f1 f3 t4 hy ht
 obtain ⟨y,hy'⟩:∃ y,y=B a:=⟨_,rfl⟩
 rw [←hy'] at f3 hy ht
 clear hy' ha
 have e1:(y:Int) / 64=2:=by omega
 have e2:(y:Int) / 2 ^ 6=2:=by omega
 replace cl2:=cl2 _ bw
 go_region
 go_wp2_with (first
  | (go_at_call 79;refine cl2.mono ?_;clear cl2;rintro e w2 ⟨rfl,b2⟩;have Hh2:=Hid.mk' (Hd.out.keep b2);have bw2:=below_next bw b2;replace cn:=cn _ bw2)
  | (go_at_call 80;refine cn.mono ?_;clear cn;rintro e w3 ⟨rfl,b3⟩;have Hh3:=Hid.mk' (Hh2.out.keep b3);have bw3:=below_next bw2 b3;obtain ⟨d5,z5⟩:=Hh3.out.f2;obtain ⟨k1,y1⟩:=Hh3.out.f1;rw [←HA.out] at k1))
 go_ret
 exact ⟨rfl,Hh3.out.setE 21,(Out.of_below bw3 gl).trans (Out.setCell _ _ (by decide) (by decide))⟩
set_option maxRecDepth 20000 in
set_option maxHeartbeats 2000000 in
theorem rLenR_good1 (g L:Nat) (B:Nat→Nat) (lB:∀ j,B j<256) (r:Rd) (he:r.e=0) (hL:L<140737488355000) (hq:r.at_<L) (ht:B r.at_ / 64=0) (h2:r.at_+1≤L) (w:World) (h:RdR w g L B r):Calls Tryz.prog 81 #[.pointer (some ⟨g,0,none⟩)] w fun e w'=>e = .returned (.int .i64 ((nbN B r.at_ 1%64:Nat):Int))∧RdR w' g L B ⟨r.at_+1,0⟩∧Out g 1 2 w w':=by
 obtain ⟨c2,z2⟩:=h.f2
 rw [he] at c2
 have cl:=rLeft11_any g L B r hL w h
 have cl2:∀ w1,Below w.heap.size w w1→_:=fun w1 b1=>rLeft11_any g L B r hL w1 (h.keep b1)
 obtain ⟨N,hN⟩:∃ N,N=nbN B r.at_ 1:=⟨_,rfl⟩
 have hNl:N<9223372036854775808:=by rw [hN];exact nbN_small lB r.at_ 1 (by decide) (by omega) 1 (Nat.le_refl _)
 have cn:∀ w1,Below w.heap.size w w1→Calls Tryz.prog 80 #[.pointer (some ⟨g,0,none⟩),.int .i64 1] w1 fun e w'=>e = .returned (.int .i64 (N:Int))∧Below w1.heap.size w1 w':=fun w1 b1=>by
  rw [hN];exact rnumber_any g L 1 B r lB (by decide) hL h2 (nbN_small lB r.at_ 1 (by decide) (by omega)) w1 (h.keep b1)
 have em:bits .and .i64 (N:Int) 63=((N%64:Nat):Int):=and_mask N 6 (by decide) hNl
 obtain ⟨x,hx⟩:∃ x:Int,x=(L:Int) - (r.at_:Int):=⟨_,rfl⟩
 simp only [←hx] at cl cl2
 have t1:¬x=0:=by omega
 have t2:¬x<1:=by omega
 rw [←hN]
 obtain ⟨n,hn⟩:∃ n,n=N%64:=⟨_,rfl⟩
 rw [←hn] at em ⊢
 obtain ⟨q,hq'⟩:∃ q,q=r.at_+1:=⟨_,rfl⟩
 have hqL:q≤L:=by omega
 have e3:IntKind.i64.wrap ((r.at_:Int)+1)=(q:Int):=by simp only [IntKind.wrap_i64];omega
 have e4:(r.at_:Int)+1=(q:Int):=by omega
 rw [←hq']
 clear hn hq'
 have Hh:=Hid.mk' h
 have gl:=h.lt
 have hy:=lB r.at_
 have t4:(0:Int)≤(r.at_:Int)∧(r.at_:Int)<(L:Int):=by omega
 clear h hx hN
 go_enter Tryz.func81,Tryz.ntmps81
 go_wp2_with (go_at_call 79;refine cl.mono ?_;clear cl;rintro e w1 ⟨rfl,b1⟩;have Hh1:=Hid.mk' (Hh.out.keep b1);obtain ⟨d2,z2'⟩:=Hh1.out.f2)
 have bd:Below w1.heap.size w1 w1.drew:=(Below.refl _ _).drew
 have bw:=below_next b1 bd
 have Hd:=Hid.mk' (Hh1.out.keep bd)
 obtain ⟨v,rr,hv,-⟩:=Hd.out
 rcases hv with ⟨xo,rfl,h0⟩ | ⟨bb,ob,cap,rfl,hbb,hc,hcell⟩
 · omega
 have f0:w1.drew.cell? ⟨g,0,none⟩=some (.slice (some ⟨bb,ob,none⟩) L cap):=rr.range 0 _ rfl
 have f1:w1.drew.cell? ⟨g,1,none⟩=some (.int .i64 (r.at_:Int)):=rr.range 1 _ rfl
 have f3:=hcell r.at_ hq
 obtain ⟨d3,z3⟩:=Hd.out.f2
 clear hcell rr
 obtain ⟨a,ha⟩:∃ a,a=r.at_:=⟨_,rfl⟩
 have HA:=Hid.mk' ha
 rw [←ha] at f1 f3 t4 hy ht e3 e4
 obtain ⟨y,hy'⟩:∃ y,y=B a:=⟨_,rfl⟩
 rw [←hy'] at f3 hy ht
 clear hy' ha
 have e1:(y:Int) / 64=0:=by omega
 have e2:(y:Int) / 2 ^ 6=0:=by omega
 replace cl2:=cl2 _ bw
 go_region
 go_wp2_with (first
  | (go_at_call 79;refine cl2.mono ?_;clear cl2;rintro e w2 ⟨rfl,b2⟩;have Hh2:=Hid.mk' (Hd.out.keep b2);have bw2:=below_next bw b2;replace cn:=cn _ bw2)
  | (go_at_call 80;refine cn.mono ?_;clear cn;rintro e w3 ⟨rfl,b3⟩;have Hh3:=Hid.mk' (Hh2.out.keep b3);have bw3:=below_next bw2 b3;obtain ⟨d5,z5⟩:=Hh3.out.f2;obtain ⟨k1,y1⟩:=Hh3.out.f1;rw [←HA.out] at k1))
 go_ret
 have k:=Hh3.out.setAt q hqL
 rw [he] at k
 exact ⟨rfl,k,(Out.of_below bw3 gl).trans (Out.setCell _ _ (by decide) (by decide))⟩
set_option maxRecDepth 20000 in
set_option maxHeartbeats 2000000 in
theorem rLenR_good2 (g L:Nat) (B:Nat→Nat) (lB:∀ j,B j<256) (r:Rd) (he:r.e=0) (hL:L<140737488355000) (hq:r.at_<L) (ht:B r.at_ / 64=1) (h2:r.at_+2≤L) (h3:¬nbN B r.at_ 2%16384<64) (w:World) (h:RdR w g L B r):Calls Tryz.prog 81 #[.pointer (some ⟨g,0,none⟩)] w fun e w'=>e = .returned (.int .i64 ((nbN B r.at_ 2%16384:Nat):Int))∧RdR w' g L B ⟨r.at_+2,0⟩∧Out g 1 2 w w':=by
 obtain ⟨c2,z2⟩:=h.f2
 rw [he] at c2
 have cl:=rLeft11_any g L B r hL w h
 have cl2:∀ w1,Below w.heap.size w w1→_:=fun w1 b1=>rLeft11_any g L B r hL w1 (h.keep b1)
 obtain ⟨N,hN⟩:∃ N,N=nbN B r.at_ 2:=⟨_,rfl⟩
 have hNl:N<9223372036854775808:=by rw [hN];exact nbN_small lB r.at_ 2 (by decide) (by omega) 2 (Nat.le_refl _)
 have cn:∀ w1,Below w.heap.size w w1→Calls Tryz.prog 80 #[.pointer (some ⟨g,0,none⟩),.int .i64 2] w1 fun e w'=>e = .returned (.int .i64 (N:Int))∧Below w1.heap.size w1 w':=fun w1 b1=>by
  rw [hN];exact rnumber_any g L 2 B r lB (by decide) hL h2 (nbN_small lB r.at_ 2 (by decide) (by omega)) w1 (h.keep b1)
 have em:bits .and .i64 (N:Int) 16383=((N%16384:Nat):Int):=and_mask N 14 (by decide) hNl
 obtain ⟨x,hx⟩:∃ x:Int,x=(L:Int) - (r.at_:Int):=⟨_,rfl⟩
 simp only [←hx] at cl cl2
 have t1:¬x=0:=by omega
 have t2:¬x<2:=by omega
 rw [←hN] at h3 ⊢
 obtain ⟨n,hn⟩:∃ n,n=N%16384:=⟨_,rfl⟩
 rw [←hn] at em h3 ⊢
 obtain ⟨z,hz⟩:∃ z:Int,z=(n:Int):=⟨_,rfl⟩
 rw [←hz] at em ⊢
 have t3:¬z<64:=by omega
 clear hz
 obtain ⟨q,hq'⟩:∃ q,q=r.at_+2:=⟨_,rfl⟩
 have hqL:q≤L:=by omega
 have e3:IntKind.i64.wrap ((r.at_:Int)+2)=(q:Int):=by simp only [IntKind.wrap_i64];omega
 have e4:(r.at_:Int)+2=(q:Int):=by omega
 rw [←hq']
 clear hn hq' h3
 have Hh:=Hid.mk' h
 have gl:=h.lt
 have hy:=lB r.at_
 have t4:(0:Int)≤(r.at_:Int)∧(r.at_:Int)<(L:Int):=by omega
 clear h hx hN
 go_enter Tryz.func81,Tryz.ntmps81
 go_wp2_with (go_at_call 79;refine cl.mono ?_;clear cl;rintro e w1 ⟨rfl,b1⟩;have Hh1:=Hid.mk' (Hh.out.keep b1);obtain ⟨d2,z2'⟩:=Hh1.out.f2)
 have bd:Below w1.heap.size w1 w1.drew:=(Below.refl _ _).drew
 have bw:=below_next b1 bd
 have Hd:=Hid.mk' (Hh1.out.keep bd)
 obtain ⟨v,rr,hv,-⟩:=Hd.out
 rcases hv with ⟨xo,rfl,h0⟩ | ⟨bb,ob,cap,rfl,hbb,hc,hcell⟩
 · omega
 have f0:w1.drew.cell? ⟨g,0,none⟩=some (.slice (some ⟨bb,ob,none⟩) L cap):=rr.range 0 _ rfl
 have f1:w1.drew.cell? ⟨g,1,none⟩=some (.int .i64 (r.at_:Int)):=rr.range 1 _ rfl
 have f3:=hcell r.at_ hq
 obtain ⟨d3,z3⟩:=Hd.out.f2
 clear hcell rr
 obtain ⟨a,ha⟩:∃ a,a=r.at_:=⟨_,rfl⟩
 have HA:=Hid.mk' ha
 rw [←ha] at f1 f3 t4 hy ht e3 e4
 obtain ⟨y,hy'⟩:∃ y,y=B a:=⟨_,rfl⟩
 rw [←hy'] at f3 hy ht
 clear hy' ha
 have e1:(y:Int) / 64=1:=by omega
 have e2:(y:Int) / 2 ^ 6=1:=by omega
 replace cl2:=cl2 _ bw
 go_region
 go_wp2_with (first
  | (go_at_call 79;refine cl2.mono ?_;clear cl2;rintro e w2 ⟨rfl,b2⟩;have Hh2:=Hid.mk' (Hd.out.keep b2);have bw2:=below_next bw b2;replace cn:=cn _ bw2)
  | (go_at_call 80;refine cn.mono ?_;clear cn;rintro e w3 ⟨rfl,b3⟩;have Hh3:=Hid.mk' (Hh2.out.keep b3);have bw3:=below_next bw2 b3;obtain ⟨d5,z5⟩:=Hh3.out.f2;obtain ⟨k1,y1⟩:=Hh3.out.f1;rw [←HA.out] at k1))
 go_ret
 have k:=Hh3.out.setAt q hqL
 rw [he] at k
 exact ⟨rfl,k,(Out.of_below bw3 gl).trans (Out.setCell _ _ (by decide) (by decide))⟩
set_option maxRecDepth 20000 in
set_option maxHeartbeats 2000000 in
theorem rLenR_good4 (g L:Nat) (B:Nat→Nat) (lB:∀ j,B j<256) (r:Rd) (he:r.e=0) (hL:L<140737488355000) (hq:r.at_<L) (ht:B r.at_ / 64=2) (h2:r.at_+4≤L) (h3:¬nbN B r.at_ 4%1073741824<16384) (w:World) (h:RdR w g L B r):Calls Tryz.prog 81 #[.pointer (some ⟨g,0,none⟩)] w fun e w'=>e = .returned (.int .i64 ((nbN B r.at_ 4%1073741824:Nat):Int))∧RdR w' g L B ⟨r.at_+4,0⟩∧Out g 1 2 w w':=by
 obtain ⟨c2,z2⟩:=h.f2
 rw [he] at c2
 have cl:=rLeft11_any g L B r hL w h
 have cl2:∀ w1,Below w.heap.size w w1→_:=fun w1 b1=>rLeft11_any g L B r hL w1 (h.keep b1)
 obtain ⟨N,hN⟩:∃ N,N=nbN B r.at_ 4:=⟨_,rfl⟩
 have hNl:N<9223372036854775808:=by rw [hN];exact nbN_small lB r.at_ 4 (by decide) (by omega) 4 (Nat.le_refl _)
 have cn:∀ w1,Below w.heap.size w w1→Calls Tryz.prog 80 #[.pointer (some ⟨g,0,none⟩),.int .i64 4] w1 fun e w'=>e = .returned (.int .i64 (N:Int))∧Below w1.heap.size w1 w':=fun w1 b1=>by
  rw [hN];exact rnumber_any g L 4 B r lB (by decide) hL h2 (nbN_small lB r.at_ 4 (by decide) (by omega)) w1 (h.keep b1)
 have em:bits .and .i64 (N:Int) 1073741823=((N%1073741824:Nat):Int):=and_mask N 30 (by decide) hNl
 obtain ⟨x,hx⟩:∃ x:Int,x=(L:Int) - (r.at_:Int):=⟨_,rfl⟩
 simp only [←hx] at cl cl2
 have t1:¬x=0:=by omega
 have t2:¬x<4:=by omega
 rw [←hN] at h3 ⊢
 obtain ⟨n,hn⟩:∃ n,n=N%1073741824:=⟨_,rfl⟩
 rw [←hn] at em h3 ⊢
 obtain ⟨z,hz⟩:∃ z:Int,z=(n:Int):=⟨_,rfl⟩
 rw [←hz] at em ⊢
 have t3:¬z<16384:=by omega
 clear hz
 obtain ⟨q,hq'⟩:∃ q,q=r.at_+4:=⟨_,rfl⟩
 have hqL:q≤L:=by omega
 have e3:IntKind.i64.wrap ((r.at_:Int)+4)=(q:Int):=by simp only [IntKind.wrap_i64];omega
 have e4:(r.at_:Int)+4=(q:Int):=by omega
 rw [←hq']
 clear hn hq' h3
 have Hh:=Hid.mk' h
 have gl:=h.lt
 have hy:=lB r.at_
 have t4:(0:Int)≤(r.at_:Int)∧(r.at_:Int)<(L:Int):=by omega
 clear h hx hN
 go_enter Tryz.func81,Tryz.ntmps81
 go_wp2_with (go_at_call 79;refine cl.mono ?_;clear cl;rintro e w1 ⟨rfl,b1⟩;have Hh1:=Hid.mk' (Hh.out.keep b1);obtain ⟨d2,z2'⟩:=Hh1.out.f2)
 have bd:Below w1.heap.size w1 w1.drew:=(Below.refl _ _).drew
 have bw:=below_next b1 bd
 have Hd:=Hid.mk' (Hh1.out.keep bd)
 obtain ⟨v,rr,hv,-⟩:=Hd.out
 rcases hv with ⟨xo,rfl,h0⟩ | ⟨bb,ob,cap,rfl,hbb,hc,hcell⟩
 · omega
 have f0:w1.drew.cell? ⟨g,0,none⟩=some (.slice (some ⟨bb,ob,none⟩) L cap):=rr.range 0 _ rfl
 have f1:w1.drew.cell? ⟨g,1,none⟩=some (.int .i64 (r.at_:Int)):=rr.range 1 _ rfl
 have f3:=hcell r.at_ hq
 obtain ⟨d3,z3⟩:=Hd.out.f2
 clear hcell rr
 obtain ⟨a,ha⟩:∃ a,a=r.at_:=⟨_,rfl⟩
 have HA:=Hid.mk' ha
 rw [←ha] at f1 f3 t4 hy ht e3 e4
 obtain ⟨y,hy'⟩:∃ y,y=B a:=⟨_,rfl⟩
 rw [←hy'] at f3 hy ht
 clear hy' ha
 have e1:(y:Int) / 64=2:=by omega
 have e2:(y:Int) / 2 ^ 6=2:=by omega
 replace cl2:=cl2 _ bw
 go_region
 go_wp2_with (first
  | (go_at_call 79;refine cl2.mono ?_;clear cl2;rintro e w2 ⟨rfl,b2⟩;have Hh2:=Hid.mk' (Hd.out.keep b2);have bw2:=below_next bw b2;replace cn:=cn _ bw2)
  | (go_at_call 80;refine cn.mono ?_;clear cn;rintro e w3 ⟨rfl,b3⟩;have Hh3:=Hid.mk' (Hh2.out.keep b3);have bw3:=below_next bw2 b3;obtain ⟨d5,z5⟩:=Hh3.out.f2;obtain ⟨k1,y1⟩:=Hh3.out.f1;rw [←HA.out] at k1))
 go_ret
 have k:=Hh3.out.setAt q hqL
 rw [he] at k
 exact ⟨rfl,k,(Out.of_below bw3 gl).trans (Out.setCell _ _ (by decide) (by decide))⟩
end Go.Proofs.YtibmlmmoifgliaaGreatDoor
namespace Go.Proofs.YtibmlmmoifgliaaGreatDoor
open Go.RowKit
theorem rLenR_any (g L:Nat) (B:Nat→Nat) (lB:∀ j,B j<256) (r:Rd) (hL:L<140737488355000) (w:World) (h:RdR w g L B r):Calls Tryz.prog 81 #[.pointer (some ⟨g,0,none⟩)] w fun e w'=>e = .returned (.int .i64 (((lenD L B r).1:Nat):Int))∧RdR w' g L B (lenD L B r).2∧Out g 1 2 w w':=by
 have ha:=h.le
 have gl:=h.lt
 have hy:=lB r.at_
 unfold lenD
 by_cases he:r.e≠0
 · rw [if_pos he]
   exact (rLenR_err g L B r he w h).mono fun e w' ⟨h1,h2⟩=>⟨h1,h.keep h2,Out.of_below h2 gl⟩
 replace he:r.e=0:=Decidable.not_not.mp he
 rw [if_neg (fun e=>e he)]
 by_cases h0:L=r.at_
 · rw [if_pos h0]
   exact rLenR_empty g L B r he hL h0 w h
 rw [if_neg h0]
 have hq:r.at_<L:=by omega
 by_cases h3:B r.at_ / 64=3
 · rw [if_pos h3]
   exact rLenR_three g L B lB r he hL hq h3 w h
 rw [if_neg h3]
 rcases (show B r.at_ / 64=0∨B r.at_ / 64=1∨B r.at_ / 64=2 by omega) with ht | ht | ht
 · rw [ht,show (2:Nat) ^ 0=1 from rfl,if_neg (by omega),if_neg (by omega)]
   exact rLenR_good1 g L B lB r he hL hq ht (by omega) w h
 · rw [ht,show (2:Nat) ^ 1=2 from rfl]
   by_cases h2:L - r.at_<2
   · rw [if_pos h2]
     exact rLenR_end2 g L B lB r he hL hq ht (by omega) w h
   rw [if_neg h2,show (2:Nat) ^ (8*2 - 2)=16384 from rfl]
   by_cases h4:nbN B r.at_ 2%16384<64
   · rw [if_pos (.inl ⟨rfl,h4⟩)]
     exact rLenR_form2 g L B lB r he hL hq ht (by omega) h4 w h
   rw [if_neg (fun e=>e.elim (fun e=>h4 e.2) (fun e=>absurd e.1 (by decide)))]
   exact rLenR_good2 g L B lB r he hL hq ht (by omega) h4 w h
 · rw [ht,show (2:Nat) ^ 2=4 from rfl]
   by_cases h2:L - r.at_<4
   · rw [if_pos h2]
     exact rLenR_end4 g L B lB r he hL hq ht (by omega) w h
   rw [if_neg h2,show (2:Nat) ^ (8*4 - 2)=1073741824 from rfl]
   by_cases h4:nbN B r.at_ 4%1073741824<16384
   · rw [if_pos (.inr ⟨rfl,h4⟩)]
     exact rLenR_form4 g L B lB r he hL hq ht (by omega) h4 w h
   rw [if_neg (fun e=>e.elim (fun e=>absurd e.1 (by decide)) (fun e=>h4 e.2))]
   exact rLenR_good4 g L B lB r he hL hq ht (by omega) h4 w h
set_option maxRecDepth 20000 in
set_option maxHeartbeats 2000000 in
theorem rVecR_any (g L:Nat) (B:Nat→Nat) (lB:∀ j,B j<256) (r:Rd) (hL:L<140737488355000) (w:World) (h:RdR w g L B r):Calls Tryz.prog 45 #[.pointer (some ⟨g,0,none⟩)] w fun e w'=>∃ v,e = .returned v∧Own w.heap.size w' v (vecD L B r).1 (fun j=>B ((lenD L B r).2.at_+j))∧RdR w' g L B (vecD L B r).2∧Out g 1 2 w w':=by
 have ha:=h.le
 have gl:=h.lt
 obtain ⟨k1,y1⟩:=h.f1
 have c1:=rLenR_any g L B lB r hL w h
 unfold vecD
 obtain ⟨p,hp⟩:∃ p,p=lenD L B r:=⟨_,rfl⟩
 rw [←hp] at c1 ⊢
 obtain ⟨a,hA⟩:∃ a,a=r.at_:=⟨_,rfl⟩
 rw [←hA] at k1 ⊢
 have hal:a≤L:=by omega
 clear hA hp h ha
 obtain ⟨n,s⟩:=p
 dsimp only at c1 ⊢
 by_cases h1:s.e=0∧65536<n
 · rw [if_pos h1]
   have e1:takD L (n:Int) ⟨s.at_,21⟩=(0,⟨s.at_,21⟩):=by unfold takD;exact if_pos (fun e=>by cases e)
   rw [e1,if_pos (show (21:Int)≠0 by decide)]
   have t1:(65536:Int)<(n:Int):=by omega
   obtain ⟨m,hm⟩:∃ m:Int,m=(n:Int):=⟨_,rfl⟩
   rw [←hm] at c1 t1
   have he:=h1.1
   clear hm h1 e1
   go_enter Tryz.func45,Tryz.ntmps45
   go_wp2_with (first
    | (go_at_call 81;refine c1.mono ?_;clear c1;rintro e w1 ⟨rfl,H1,o1⟩;obtain ⟨d2,z2⟩:=H1.f2;rw [he] at d2;have Hd:=Hid.mk' H1;clear H1)
    | (go_at_call 82;refine (rTakR_err g L B ⟨s.at_,21⟩ m (show (21:Int)≠0 by decide) _ (Hd.out.setE 21)).mono ?_;rintro e w2 ⟨rfl,b2⟩;have H2:=Hid.mk' ((Hd.out.setE 21).keep b2);obtain ⟨d3,z3⟩:=H2.out.f2;obtain ⟨d4,z4⟩:=H2.out.f1))
   go_ret
   exact ⟨_,rfl,Own.nil _ _ _,H2.out.setAt a hal,((o1.trans (Out.setCell _ _ (by decide) (by decide))).trans (Out.of_below b2 (Hd.out.setE 21).lt)).trans (Out.setCell _ _ (by decide) (by decide))⟩
 · rw [if_neg h1]
   by_cases he:s.e=0
   · have t1:¬(65536:Int)<(n:Int):=by omega
     obtain ⟨m,hm⟩:∃ m:Int,m=(n:Int):=⟨_,rfl⟩
     rw [←hm] at c1 t1 ⊢
     have c2:∀ w1,RdR w1 g L B s→_:=fun w1 H1=>rTakR_any g L B s m hL w1 H1
     obtain ⟨⟨k,u⟩,hu⟩:∃ t,t=takD L m s:=⟨_,rfl⟩
     simp only [←hu] at c2 ⊢
     clear hm h1 hu
     by_cases h2:u.e≠0
     · rw [if_pos h2]
       go_enter Tryz.func45,Tryz.ntmps45
       go_wp2_with (first
        | (go_at_call 81;refine c1.mono ?_;clear c1;rintro e w1 ⟨rfl,H1,o1⟩;obtain ⟨d2,z2⟩:=H1.f2;rw [he] at d2;replace c2:=c2 _ H1;have Hd:=Hid.mk' H1;clear H1)
        | (go_at_call 82;refine c2.mono ?_;clear c2;rintro e w2 ⟨v2,rfl,own2,H2,o2⟩;obtain ⟨d3,z3⟩:=H2.f2;obtain ⟨d4,z4⟩:=H2.f1;have Hd2:=Hid.mk' H2;clear H2))
       go_ret
       exact ⟨_,rfl,Own.nil _ _ _,Hd2.out.setAt a hal,(o1.trans o2).trans (Out.setCell _ _ (by decide) (by decide))⟩
     · rw [if_neg h2]
       replace h2:u.e=0:=Decidable.not_not.mp h2
       go_enter Tryz.func45,Tryz.ntmps45
       go_wp2_with (first
        | (go_at_call 81;refine c1.mono ?_;clear c1;rintro e w1 ⟨rfl,H1,o1⟩;obtain ⟨d2,z2⟩:=H1.f2;rw [he] at d2;replace c2:=c2 _ H1;have Hd:=Hid.mk' H1;clear H1)
        | (go_at_call 82;refine c2.mono ?_;clear c2;rintro e w2 ⟨v2,rfl,own2,H2,o2⟩;obtain ⟨d3,z3⟩:=H2.f2;rw [h2] at d3;obtain ⟨d4,z4⟩:=H2.f1;have Hd2:=Hid.mk' H2;clear H2))
       go_ret
       exact ⟨_,rfl,World.ownsRow.mono own2 o1.size,Hd2.out,o1.trans o2⟩
   · have e1:takD L (n:Int) s=(0,s):=by unfold takD;exact if_pos he
     rw [e1,if_pos he]
     have c2:∀ w1 m,RdR w1 g L B s→_:=fun w1 m H1=>rTakR_err g L B s m he w1 H1
     obtain ⟨m,hm⟩:∃ m:Int,m=(n:Int):=⟨_,rfl⟩
     rw [←hm] at c1
     clear hm h1 e1
     go_enter Tryz.func45,Tryz.ntmps45
     go_wp2_with (first
      | (go_at_call 81;refine c1.mono ?_;clear c1;rintro e w1 ⟨rfl,H1,o1⟩;obtain ⟨d2,z2⟩:=H1.f2;replace c2:=c2 _ m H1;have Hd:=Hid.mk' H1;clear H1)
      | (go_at_call 82;refine c2.mono ?_;clear c2;rintro e w2 ⟨rfl,b2⟩;have H2:=Hid.mk' (Hd.out.keep b2);obtain ⟨d3,z3⟩:=H2.out.f2;obtain ⟨d4,z4⟩:=H2.out.f1))
     go_ret
     exact ⟨_,rfl,Own.nil _ _ _,H2.out.setAt a hal,(o1.trans (Out.of_below b2 Hd.out.lt)).trans (Out.setCell _ _ (by decide) (by decide))⟩
end Go.Proofs.YtibmlmmoifgliaaGreatDoor
namespace Go.Proofs.YtibmlmmoifgliaaGreatDoor
open Go.RowKit
theorem pow_step (t:Nat):2 ^ (8*(t+1))=2 ^ (8*t)*256:=by
 rw [Nat.mul_add,Nat.pow_add]
theorem nbN_be {B:Nat→Nat} {a s W:Nat} (h:∀ j,j<s→B (a+j)=beN W s j) (hW:W<2 ^ (8*s)):∀ k,k≤s→nbN B a k=W / 2 ^ (8*(s - k))
 | 0,_=>by
  rw [Nat.sub_zero,Nat.div_eq_of_lt hW];rfl
 | k+1,hk=>by
  have ih:=nbN_be h hW k (by omega)
  show nbN B a k*256+B (a+k)=_
  rw [ih,h k (by omega)]
  unfold beN
  obtain ⟨t,ht⟩:∃ t,t=s - 1 - k:=⟨_,rfl⟩
  rw [←ht,show s - k=t+1 by omega,show s - (k+1)=t by omega,pow_step,←Nat.div_div_eq_div_mul]
  omega
theorem be_nbN {B:Nat→Nat} (lB:∀ j,B j<256) (a:Nat):∀ s j,j<s→beN (nbN B a s) s j=B (a+j)
 | 0,j,hj=>absurd hj (Nat.not_lt_zero _)
 | s+1,j,hj=>by
  have hb:=lB (a+s)
  have e:nbN B a (s+1)=nbN B a s*256+B (a+s):=rfl
  by_cases h:j=s
  · subst h
    unfold beN
    rw [show j+1 - 1 - j=0 by omega,e,Nat.mul_zero,Nat.pow_zero,Nat.div_one]
    omega
  · have ih:=be_nbN lB a s j (by omega)
    unfold beN at ih ⊢
    rw [show s+1 - 1 - j=(s - 1 - j)+1 by omega,pow_step,Nat.mul_comm (2 ^ (8*(s - 1 - j))) 256,←Nat.div_div_eq_div_mul,e,show (nbN B a s*256+B (a+s)) / 256=nbN B a s by omega]
    exact ih
theorem nbN_one (B:Nat→Nat) (a:Nat):nbN B a 1=B a:=by show 0*256+B (a+0)=_;rw [Nat.add_zero];omega
theorem nbN_two (B:Nat→Nat) (a:Nat):nbN B a 2=B a*256+B (a+1):=by show nbN B a 1*256+_=_;rw [nbN_one]
theorem nbN_four (B:Nat→Nat) (a:Nat):nbN B a 4=((B a*256+B (a+1))*256+B (a+2))*256+B (a+3):=by show (nbN B a 2*256+_)*256+_=_;rw [nbN_two]
theorem lnW_lt {n:Nat} (hn:n<1073741824):lnW n<2 ^ (8*lnS n):=by
 unfold lnW lnS
 by_cases h1:n<64
 · simp only [if_pos h1];omega
 · by_cases h2:n<16384
   · simp only [if_neg h1,if_pos h2];omega
   · simp only [if_neg h1,if_neg h2];omega
theorem lenD_back {L:Nat} {B:Nat→Nat} {a n:Nat} (lB:∀ j,B j<256) (hn:n<1073741824) (hL:a+lnS n≤L) (h:∀ j,j<lnS n→B (a+j)=lnB n j):lenD L B ⟨a,0⟩=(n,⟨a+lnS n,0⟩):=by
 have hN:=nbN_be h (lnW_lt hn) (lnS n) (Nat.le_refl _)
 rw [Nat.sub_self,Nat.mul_zero,Nat.pow_zero,Nat.div_one] at hN
 have b0:=lB a
 have b1:=lB (a+1)
 have b2:=lB (a+2)
 have b3:=lB (a+3)
 have hp:=lnS_pos n
 unfold lenD
 dsimp only
 rw [if_neg (fun e=>e rfl),if_neg (by omega)]
 by_cases h1:n<64
 · have e1:lnS n=1:=by unfold lnS;rw [if_pos h1]
   have e2:lnW n=n:=by unfold lnW;rw [if_pos h1]
   rw [e1] at hN hL ⊢
   rw [e2,nbN_one] at hN
   have ht:B a / 64=0:=by omega
   rw [ht,if_neg (by decide),show (2:Nat) ^ 0=1 from rfl,if_neg (by omega),if_neg (by omega),nbN_one,hN,show n%2 ^ (8*1 - 2)=n from Nat.mod_eq_of_lt h1]
 · by_cases h2:n<16384
   · have e1:lnS n=2:=by unfold lnS;rw [if_neg h1,if_pos h2]
     have e2:lnW n=n+16384:=by unfold lnW;rw [if_neg h1,if_pos h2]
     rw [e1] at hN hL ⊢
     rw [e2] at hN
     have hN':=hN
     rw [nbN_two] at hN'
     have ht:B a / 64=1:=by omega
     have em:(n+16384)%2 ^ (8*2 - 2)=n:=by show (n+16384)%16384=n;omega
     rw [ht,if_neg (by decide),show (2:Nat) ^ 1=2 from rfl,if_neg (by omega),hN,em,if_neg (by omega)]
   · have e1:lnS n=4:=by unfold lnS;rw [if_neg h1,if_neg h2]
     have e2:lnW n=n+2147483648:=by unfold lnW;rw [if_neg h1,if_neg h2]
     rw [e1] at hN hL ⊢
     rw [e2] at hN
     have hN':=hN
     rw [nbN_four] at hN'
     have ht:B a / 64=2:=by omega
     have em:(n+2147483648)%2 ^ (8*4 - 2)=n:=by show (n+2147483648)%1073741824=n;omega
     rw [ht,if_neg (by decide),show (2:Nat) ^ 2=4 from rfl,if_neg (by omega),hN,em,if_neg (by omega)]
theorem lenD_said {L:Nat} {B:Nat→Nat} {r:Rd} (lB:∀ j,B j<256) (hr:r.e=0) (hl:r.at_≤L) (h:(lenD L B r).2.e=0):(lenD L B r).1<1073741824∧(lenD L B r).2.at_=r.at_+lnS (lenD L B r).1∧(lenD L B r).2.at_≤L∧∀ j,j<lnS (lenD L B r).1→B (r.at_+j)=lnB (lenD L B r).1 j:=by
 have b0:=lB r.at_
 have b1:=lB (r.at_+1)
 have b2:=lB (r.at_+2)
 have b3:=lB (r.at_+3)
 obtain ⟨p,hp⟩:∃ p,p=lenD L B r:=⟨_,rfl⟩
 rw [←hp] at h ⊢
 unfold lenD at hp
 rw [if_neg (fun e=>e hr)] at hp
 by_cases h0:L=r.at_
 · rw [if_pos h0] at hp;subst hp;cases h
 rw [if_neg h0] at hp
 by_cases h3:B r.at_ / 64=3
 · rw [if_pos h3] at hp;subst hp;cases h
 rw [if_neg h3] at hp
 rcases (show B r.at_ / 64=0∨B r.at_ / 64=1∨B r.at_ / 64=2 by omega) with ht | ht | ht
 · rw [ht,show (2:Nat) ^ 0=1 from rfl,if_neg (by omega),if_neg (by omega),nbN_one,show B r.at_%2 ^ (8*1 - 2)=B r.at_ from Nat.mod_eq_of_lt (show B r.at_<64 by omega)] at hp
   subst hp
   dsimp only
   have h1:B r.at_<64:=by omega
   have e1:lnS (B r.at_)=1:=by unfold lnS;rw [if_pos h1]
   have e2:lnW (B r.at_)=B r.at_:=by unfold lnW;rw [if_pos h1]
   refine ⟨by omega,by rw [e1],by omega,fun j hj => ?_⟩
   unfold lnB
   rw [e1] at hj
   rw [e1,e2,←be_nbN lB r.at_ 1 j hj,nbN_one]
 · rw [ht,show (2:Nat) ^ 1=2 from rfl] at hp
   by_cases h2:L - r.at_<2
   · rw [if_pos h2] at hp;subst hp;cases h
   rw [if_neg h2,show (2:Nat) ^ (8*2 - 2)=16384 from rfl] at hp
   by_cases h4:nbN B r.at_ 2%16384<64
   · rw [if_pos (.inl ⟨rfl,h4⟩)] at hp;subst hp;cases h
   rw [if_neg (fun e=>e.elim (fun e=>h4 e.2) (fun e=>absurd e.1 (by decide)))] at hp
   subst hp
   dsimp only
   obtain ⟨N,hN⟩:∃ N,N=nbN B r.at_ 2:=⟨_,rfl⟩
   have hN':=hN
   rw [nbN_two] at hN'
   have hb:=fun j hj=>be_nbN lB r.at_ 2 j hj
   rw [←hN] at h4 hb ⊢
   have h1:¬N%16384<64:=h4
   have h5:N%16384<16384:=Nat.mod_lt _ (by decide)
   have e1:lnS (N%16384)=2:=by unfold lnS;rw [if_neg h1,if_pos h5]
   have e2:lnW (N%16384)=N:=by unfold lnW;rw [if_neg h1,if_pos h5];omega
   refine ⟨by omega,by rw [e1],by omega,fun j hj => ?_⟩
   unfold lnB
   rw [e1] at hj
   rw [e1,e2,hb j hj]
 · rw [ht,show (2:Nat) ^ 2=4 from rfl] at hp
   by_cases h2:L - r.at_<4
   · rw [if_pos h2] at hp;subst hp;cases h
   rw [if_neg h2,show (2:Nat) ^ (8*4 - 2)=1073741824 from rfl] at hp
   by_cases h4:nbN B r.at_ 4%1073741824<16384
   · rw [if_pos (.inr ⟨rfl,h4⟩)] at hp;subst hp;cases h
   rw [if_neg (fun e=>e.elim (fun e=>absurd e.1 (by decide)) (fun e=>h4 e.2))] at hp
   subst hp
   dsimp only
   obtain ⟨N,hN⟩:∃ N,N=nbN B r.at_ 4:=⟨_,rfl⟩
   have hN':=hN
   rw [nbN_four] at hN'
   have hb:=fun j hj=>be_nbN lB r.at_ 4 j hj
   rw [←hN] at h4 hb ⊢
   have h1:¬N%1073741824<64:=by omega
   have e1:lnS (N%1073741824)=4:=by unfold lnS;rw [if_neg h1,if_neg h4]
   have e2:lnW (N%1073741824)=N:=by unfold lnW;rw [if_neg h1,if_neg h4];omega
   refine ⟨Nat.mod_lt _ (by decide),by rw [e1],by omega,fun j hj => ?_⟩
   unfold lnB
   rw [e1] at hj
   rw [e1,e2,hb j hj]
end Go.Proofs.YtibmlmmoifgliaaGreatDoor
