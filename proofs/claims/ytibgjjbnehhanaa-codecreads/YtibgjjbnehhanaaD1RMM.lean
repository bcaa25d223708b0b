/- What the proof stands on: D1RM, D1RO, D1CA, D1CC, EqN, D1CG, D1CB, D1Pcs, D1Bk, D1CD, D1CH. -/
import Derived.Test.YtibgjjbnehhanaaBaseM
import Derived.Laws.Cover3
import Derived.ScopeJumps
import Derived.WalkMore
namespace Go.Proofs.Ytibgjjbnehhanaa
open Go.RowKit
theorem and_mask (N k:Nat) (hk:k≤62) (hN:N<9223372036854775808):bits .and .i64 (N:Int) ((2 ^ k - 1:Nat):Int)=((N%2 ^ k:Nat):Int):=by
 have h1:(2:Nat) ^ k≤2 ^ 62:=Nat.pow_le_pow_right (by decide) hk
 have h2:(2:Nat) ^ 62=4611686018427387904:=by decide
 have h3:(2:Nat) ^ k - 1<9223372036854775808:=by omega
 refine (i64_and_nat _ _ hN h3).trans ?_
 rw [Nat.and_two_pow_sub_one_eq_mod]
set_option maxRecDepth 20000 in
set_option maxHeartbeats 2000000 in
theorem rLenR_form2 (g L:Nat) (B:Nat→Nat) (lB:∀ j,B j<256) (r:Rd) (he:r.e=0) (hL:L<140737488355000) (hq:r.at_<L) (ht:B r.at_ / 64=1) (h2:r.at_+2≤L) (h3:nbN B r.at_ 2%16384<64) (w:World) (h:RdR w g L B r):Calls Try.prog 27 #[.pointer (some ⟨g,0,none⟩)] w fun e w'=>e = .returned (.int .i64 0)∧RdR w' g L B ⟨r.at_,21⟩∧Out g 1 2 w w':=by
 obtain ⟨c2,z2⟩:=h.f2
 rw [he] at c2
 have cl:=rLeft11_any g L B r hL w h
 have cl2:∀ w1,Below w.heap.size w w1→_:=fun w1 b1=>rLeft11_any g L B r hL w1 (h.keep b1)
 obtain ⟨N,hN⟩:∃ N,N=nbN B r.at_ 2:=⟨_,rfl⟩
 have hNl:N<9223372036854775808:=by rw [hN];exact nbN_small lB r.at_ 2 (by decide) (by omega) 2 (Nat.le_refl _)
 have cn:∀ w1,Below w.heap.size w w1→Calls Try.prog 52 #[.pointer (some ⟨g,0,none⟩),.int .i64 2] w1 fun e w'=>e = .returned (.int .i64 (N:Int))∧Below w1.heap.size w1 w':=fun w1 b1=>by
  rw [hN];exact rnumber_any g L 2 B r lB (by decide) hL h2 (nbN_small lB r.at_ 2 (by decide) (by omega)) w1 (h.keep b1)
 have em:bits .and .i64 (N:Int) 16383=((N%16384:Nat):Int):=and_mask N 14 (by decide) hNl
 obtain ⟨x,hx⟩:∃ x:Int,x=(L:Int) - (r.at_:Int):=⟨_,rfl⟩
 simp only [←hx] at cl cl2
 have t1:¬x=0:=by omega
 have t2:¬x<2:=by omega
 rw [←hN] at h3
 obtain ⟨n,hn⟩:∃ n,n=N%16384:=⟨_,rfl⟩
 rw [←hn] at em h3
 obtain ⟨z,hz⟩:∃ z:Int,z=(n:Int):=⟨_,rfl⟩
 rw [←hz] at em
 have t3:z<64:=by omega
 clear hz
 clear hn h3
 have Hh:=Hid.mk' h
 have gl:=h.lt
 have hy:=lB r.at_
 have t4:(0:Int)≤(r.at_:Int)∧(r.at_:Int)<(L:Int):=by omega
 clear h hx hN
 go_enter Try.func27,Try.ntmps27
 go_wp2_with (go_at_call 33;refine cl.mono ?_;clear cl;rintro e w1 ⟨rfl,b1⟩;have Hh1:=Hid.mk' (Hh.out.keep b1);obtain ⟨d2,z2'⟩:=Hh1.out.f2)
 have bd:Below w1.heap.size w1 w1.drew:=(Below.refl _ _).drew
 have bw:=below_next b1 bd
 have Hd:=Hid.mk' (Hh1.out.keep bd)
 obtain ⟨v,rr,hv,-⟩:=Hd.out
 rcases hv with ⟨xo,rfl,h0⟩ | ⟨bb,ob,cap,rfl,hbb,hc,hcell⟩
 · omega
 have f0:w1.drew.cell? ⟨g,0,none⟩=some (.slice (some ⟨bb,ob,none⟩) L cap):=rr.range 0 _ rfl
 have f1:w1.drew.cell? ⟨g,1,none⟩=some (.int .i64 (r.at_:Int)):=rr.range 1 _ rfl
 have f3:=hcell r.at_ hq
 obtain ⟨d3,z3⟩:=Hd.out.f2
 clear hcell rr
 obtain ⟨a,ha⟩:∃ a,a=r.at_:=⟨_,rfl⟩
 have HA:=Hid.mk' ha
 rw [←ha] at f1 f3 t4 hy ht
 obtain ⟨y,hy'⟩:∃ y,y=B a:=⟨_,rfl⟩
 rw [←hy'] at f3 hy ht
 clear hy' ha
 have e1:(y:Int) / 64=1:=by omega
 have e2:(y:Int) / 2 ^ 6=1:=by omega
 replace cl2:=cl2 _ bw
 go_region
 go_wp2_with (first
  | (go_at_call 33;refine cl2.mono ?_;clear cl2;rintro e w2 ⟨rfl,b2⟩;have Hh2:=Hid.mk' (Hd.out.keep b2);have bw2:=below_next bw b2;replace cn:=cn _ bw2)
  | (go_at_call 52;refine cn.mono ?_;clear cn;rintro e w3 ⟨rfl,b3⟩;have Hh3:=Hid.mk' (Hh2.out.keep b3);have bw3:=below_next bw2 b3;obtain ⟨d5,z5⟩:=Hh3.out.f2;obtain ⟨k1,y1⟩:=Hh3.out.f1;rw [←HA.out] at k1))
 go_ret
 exact ⟨rfl,Hh3.out.setE 21,(Out.of_below bw3 gl).trans (Out.setCell _ _ (by decide) (by decide))⟩
set_option maxRecDepth 20000 in
set_option maxHeartbeats 2000000 in
theorem rLenR_form4 (g L:Nat) (B:Nat→Nat) (lB:∀ j,B j<256) (r:Rd) (he:r.e=0) (hL:L<140737488355000) (hq:r.at_<L) (ht:B r.at_ / 64=2) (h2:r.at_+4≤L) (h3:nbN B r.at_ 4%1073741824<16384) (w:World) (h:RdR w g L B r):Calls Try.prog 27 #[.pointer (some ⟨g,0,none⟩)] w fun e w'=>e = .returned (.int .i64 0)∧RdR w' g L B ⟨r.at_,21⟩∧Out g 1 2 w w':=by
 obtain ⟨c2,z2⟩:=h.f2
 rw [he] at c2
 have cl:=rLeft11_any g L B r hL w h
 have cl2:∀ w1,Below w.heap.size w w1→_:=fun w1 b1=>rLeft11_any g L B r hL w1 (h.keep b1)
 obtain ⟨N,hN⟩:∃ N,N=nbN B r.at_ 4:=⟨_,rfl⟩
 have hNl:N<9223372036854775808:=by rw [hN];exact nbN_small lB r.at_ 4 (by decide) (by omega) 4 (Nat.le_refl _)
 have cn:∀ w1,Below w.heap.size w w1→Calls Try.prog 52 #[.pointer (some ⟨g,0,none⟩),.int .i64 4] w1 fun e w'=>e = .returned (.int .i64 (N:Int))∧Below w1.heap.size w1 w':=fun w1 b1=>by
  rw [hN];exact rnumber_any g L 4 B r lB (by decide) hL h2 (nbN_small lB r.at_ 4 (by decide) (by omega)) w1 (h.keep b1)
 have em:bits .and .i64 (N:Int) 1073741823=((N%1073741824:Nat):Int):=and_mask N 30 (by decide) hNl
 obtain ⟨x,hx⟩:∃ x:Int,x=(L:Int) - (r.at_:Int):=⟨_,rfl⟩
 simp only [←hx] at cl cl2
 have t1:¬x=0:=by omega
 have t2:¬x<4:=by omega
 rw [←hN] at h3
 obtain ⟨n,hn⟩:∃ n,n=N%1073741824:=⟨_,rfl⟩
 rw [←hn] at em h3
 obtain ⟨z,hz⟩:∃ z:Int,z=(n:Int):=⟨_,rfl⟩
 rw [←hz] at em
 have t3:z<16384:=by omega
 clear hz
 clear hn h3
 have Hh:=Hid.mk' h
 have gl:=h.lt
 have hy:=lB r.at_
 have t4:(0:Int)≤(r.at_:Int)∧(r.at_:Int)<(L:Int):=by omega
 clear h hx hN
 go_enter Try.func27,Try.ntmps27
 go_wp2_with (go_at_call 33;refine cl.mono ?_;clear cl;rintro e w1 ⟨rfl,b1⟩;have Hh1:=Hid.mk' (Hh.out.keep b1);obtain ⟨d2,z2'⟩:=Hh1.out.f2)
 have bd:Below w1.heap.size w1 w1.drew:=(Below.refl _ _).drew
 have bw:=below_next b1 bd
 have Hd:=Hid.mk' (Hh1.out.keep bd)
 obtain ⟨v,rr,hv,-⟩:=Hd.out
 rcases hv with ⟨xo,rfl,h0⟩ | ⟨bb,ob,cap,rfl,hbb,hc,hcell⟩
 · omega
 have f0:w1.drew.cell? ⟨g,0,none⟩=some (.slice (some ⟨bb,ob,none⟩) L cap):=rr.range 0 _ rfl
 have f1:w1.drew.cell? ⟨g,1,none⟩=some (.int .i64 (r.at_:Int)):=rr.range 1 _ rfl
 have f3:=hcell r.at_ hq
 obtain ⟨d3,z3⟩:=Hd.out.f2
 clear hcell rr
 obtain ⟨a,ha⟩:∃ a,a=r.at_:=⟨_,rfl⟩
 have HA:=Hid.mk' ha
 rw [←ha] at f1 f3 t4 hy ht
 obtain ⟨y,hy'⟩:∃ y,y=B a:=⟨_,rfl⟩
 rw [←hy'] at f3 hy ht
 clear hy' ha
 have e1:(y:Int) / 64=2:=by omega
 have e2:(y:Int) / 2 ^ 6=2:=by omega
 replace cl2:=cl2 _ bw
 go_region
 go_wp2_with (first
  | (go_at_call 33;refine cl2.mono ?_;clear cl2;rintro e w2 ⟨rfl,b2⟩;have Hh2:=Hid.mk' (Hd.out.keep b2);have bw2:=below_next bw b2;replace cn:=cn _ bw2)
  | (go_at_call 52;refine cn.mono ?_;clear cn;rintro e w3 ⟨rfl,b3⟩;have Hh3:=Hid.mk' (Hh2.out.keep b3);have bw3:=below_next bw2 b3;obtain ⟨d5,z5⟩:=Hh3.out.f2;obtain ⟨k1,y1⟩:=Hh3.out.f1;rw [←HA.out] at k1))
 go_ret
 exact ⟨rfl,Hh3.out.setE 21,(Out.of_below bw3 gl).trans (Out.setCell _ _ (by decide) (by decide))⟩
set_option maxRecDepth 20000 in
set_option maxHeartbeats 2000000 in
theorem rLenR_good1 (g L:Nat) (B:Nat→Nat) (lB:∀ j,B j<256) (r:Rd) (he:r.e=0) (hL:L<140737488355000) (hq:r.at_<L) (ht:B r.at_ / 64=0) (h2:r.at_+1≤L) (w:World) (h:RdR w g L B r):Calls Try.prog 27 #[.pointer (some ⟨g,0,none⟩)] w fun e w'=>e = .returned (.int .i64 ((nbN B r.at_ 1%64:Nat):Int))∧RdR w' g L B ⟨r.at_+1,0⟩∧Out g 1 2 w w':=by
 obtain ⟨c2,z2⟩:=h.f2
 rw [he] at c2
 have cl:=rLeft11_any g L B r hL w h
 have cl2:∀ w1,Below w.heap.size w w1→_:=fun w1 b1=>rLeft11_any g L B r hL w1 (h.keep b1)
 obtain ⟨N,hN⟩:∃ N,N=nbN B r.at_ 1:=⟨_,rfl⟩
 have hNl:N<9223372036854775808:=by rw [hN];exact nbN_small lB r.at_ 1 (by decide) (by omega) 1 (Nat.le_refl _)
 have cn:∀ w1,Below w.heap.size w w1→Calls Try.prog 52 #[.pointer (some ⟨g,0,none⟩),.int .i64 1] w1 fun e w'=>e = .returned (.int .i64 (N:Int))∧Below w1.heap.size w1 w':=fun w1 b1=>by
  rw [hN];exact rnumber_any g L 1 B r lB (by decide) hL h2 (nbN_small lB r.at_ 1 (by decide) (by omega)) w1 (h.keep b1)
 have em:bits .and .i64 (N:Int) 63=((N%64:Nat):Int):=and_mask N 6 (by decide) hNl
 obtain ⟨x,hx⟩:∃ x:Int,x=(L:Int) - (r.at_:Int):=⟨_,rfl⟩
 simp only [←hx] at cl cl2
 have t1:¬x=0:=by omega
 have t2:¬x<1:=by omega
 rw [←hN]
 obtain ⟨n,hn⟩:∃ n,n=N%64:=⟨_,rfl⟩
 rw [←hn] at em ⊢
 obtain ⟨q,hq'⟩:∃ q,q=r.at_+1:=⟨_,rfl⟩
 have hqL:q≤L:=by omega
 have e3:IntKind.i64.wrap ((r.at_:Int)+1)=(q:Int):=by simp only [IntKind.wrap_i64];omega
 have e4:(r.at_:Int)+1=(q:Int):=by omega
 rw [←hq']
 clear hn hq'
 have Hh:=Hid.mk' h
 have gl:=h.lt
 have hy:=lB r.at_
 have t4:(0:Int)≤(r.at_:Int)∧(r.at_:Int)<(L:Int):=by omega
 clear h hx hN
 go_enter Try.func27,Try.ntmps27
 go_wp2_with (go_at_call 33;refine cl.mono ?_;clear cl;rintro e w1 ⟨rfl,b1⟩;have Hh1:=Hid.mk' (Hh.out.keep b1);obtain ⟨d2,z2'⟩:=Hh1.out.f2)
 have bd:Below w1.heap.size w1 w1.drew:=(Below.refl _ _).drew
 have bw:=below_next b1 bd
 have Hd:=Hid.mk' (Hh1.out.keep bd)
 obtain ⟨v,rr,hv,-⟩:=Hd.out
 rcases hv with ⟨xo,rfl,h0⟩ | ⟨bb,ob,cap,rfl,hbb,hc,hcell⟩
 · omega
 have f0:w1.drew.cell? ⟨g,0,none⟩=some (.slice (some ⟨bb,ob,none⟩) L cap):=rr.range 0 _ rfl
 have f1:w1.drew.cell? ⟨g,1,none⟩=some (.int .i64 (r.at_:Int)):=rr.range 1 _ rfl
 have f3:=hcell r.at_ hq
 obtain ⟨d3,z3⟩:=Hd.out.f2
 clear hcell rr
 obtain ⟨a,ha⟩:∃ a,a=r.at_:=⟨_,rfl⟩
 have HA:=Hid.mk' ha
 rw [←ha] at f1 f3 t4 hy ht e3 e4
 obtain ⟨y,hy'⟩:∃ y,y=B a:=⟨_,rfl⟩
 rw [←hy'] at f3 hy ht
 clear hy' ha
 have e1:(y:Int) / 64=0:=by omega
 have e2:(y:Int) / 2 ^ 6=0:=by omega
 replace cl2:=cl2 _ bw
 go_region
 go_wp2_with (first
  | (go_at_call 33;refine cl2.mono ?_;clear cl2;rintro e w2 ⟨rfl,b2⟩;have Hh2:=Hid.mk' (Hd.out.keep b2);have bw2:=below_next bw b2;replace cn:=cn _ bw2)
  | (go_at_call 52;refine cn.mono ?_;clear cn;rintro e w3 ⟨rfl,b3⟩;have Hh3:=Hid.mk' (Hh2.out.keep b3);have bw3:=below_next bw2 b3;obtain ⟨d5,z5⟩:=Hh3.out.f2;obtain ⟨k1,y1⟩:=Hh3.out.f1;rw [←HA.out] at k1))
 go_ret
 have k:=Hh3.out.setAt q hqL
 rw [he] at k
 exact ⟨rfl,k,(Out.of_below bw3 gl).trans (Out.setCell _ _ (by decide) (by decide))⟩
set_option maxRecDepth 20000 in
set_option maxHeartbeats 2000000 in
theorem rLenR_good2 (g L:Nat) (B:Nat→Nat) (lB:∀ j,B j<256) (r:Rd) (he:r.e=0) (hL:L<140737488355000) (hq:r.at_<L) (ht:B r.at_ / 64=1) (h2:r.at_+2≤L) (h3:¬nbN B r.at_ 2%16384<64) (w:World) (h:RdR w g L B r):Calls Try.prog 27 #[.pointer (some ⟨g,0,none⟩)] w fun e w'=>e = .returned (.int .i64 ((nbN B r.at_ 2%16384:Nat):Int))∧RdR w' g L B ⟨r.at_+2,0⟩∧Out g 1 2 w w':=by
 obtain ⟨c2,z2⟩:=h.f2
 rw [he] at c2
 have cl:=rLeft11_any g L B r hL w h
 have cl2:∀ w1,Below w.heap.size w w1→_:=fun w1 b1=>rLeft11_any g L B r hL w1 (h.keep b1)
 obtain ⟨N,hN⟩:∃ N,N=nbN B r.at_ 2:=⟨_,rfl⟩
 have hNl:N<9223372036854775808:=by rw [hN];exact nbN_small lB r.at_ 2 (by decide) (by omega) 2 (Nat.le_refl _)
 have cn:∀ w1,Below w.heap.size w w1→Calls Try.prog 52 #[.pointer (some ⟨g,0,none⟩),.int .i64 2] w1 fun e w'=>e = .returned (.int .i64 (N:Int))∧Below w1.heap.size w1 w':=fun w1 b1=>by
  rw [hN];exact rnumber_any g L 2 B r lB (by decide) hL h2 (nbN_small lB r.at_ 2 (by decide) (by omega)) w1 (h.keep b1)
 have em:bits .and .i64 (N:Int) 16383=((N%16384:Nat):Int):=and_mask N 14 (by decide) hNl
 obtain ⟨x,hx⟩:∃ x:Int,x=(L:Int) - (r.at_:Int):=⟨_,rfl⟩
 simp only [←hx] at cl cl2
 have t1:¬x=0:=by omega
 have t2:¬x<2:=by omega
 rw [←hN] at h3 ⊢
 obtain ⟨n,hn⟩:∃ n,n=N%16384:=⟨_,rfl⟩
 rw [←hn] at em h3 ⊢
 obtain ⟨z,hz⟩:∃ z:Int,z=(n:Int):=⟨_,rfl⟩
 rw [←hz] at em ⊢
 have t3:¬z<64:=by omega
 clear hz
 obtain ⟨q,hq'⟩:∃ q,q=r.at_+2:=⟨_,rfl⟩
 have hqL:q≤L:=by omega
 have e3:IntKind.i64.wrap ((r.at_:Int)+2)=(q:Int):=by simp only [IntKind.wrap_i64];omega
 have e4:(r.at_:Int)+2=(q:Int):=by omega
 rw [←hq']
 clear hn hq' h3
 have Hh:=Hid.mk' h
 have gl:=h.lt
 have hy:=lB r.at_
 have t4:(0:Int)≤(r.at_:Int)∧(r.at_:Int)<(L:Int):=by omega
 clear h hx hN
 go_enter Try.func27,Try.ntmps27
 go_wp2_with (go_at_call 33;refine cl.mono ?_;clear cl;rintro e w1 ⟨rfl,b1⟩;have Hh1:=Hid.mk' (Hh.out.keep b1);obtain ⟨d2,z2'⟩:=Hh1.out.f2)
 have bd:Below w1.heap.size w1 w1.drew:=(Below.refl _ _).drew
 have bw:=below_next b1 bd
 have Hd:=Hid.mk' (Hh1.out.keep bd)
 obtain ⟨v,rr,hv,-⟩:=Hd.out
 rcases hv with ⟨xo,rfl,h0⟩ | ⟨bb,ob,cap,rfl,hbb,hc,hcell⟩
 · omega
 have f0:w1.drew.cell? ⟨g,0,none⟩=some (.slice (some ⟨bb,ob,none⟩) L cap):=rr.range 0 _ rfl
 have f1:w1.drew.cell? ⟨g,1,none⟩=some (.int .i64 (r.at_:Int)):=rr.range 1 _ rfl
 have f3:=hcell r.at_ hq
 obtain ⟨d3,z3⟩:=Hd.out.f2
 clear hcell rr
 obtain ⟨a,ha⟩:∃ a,a=r.at_:=⟨_,rfl⟩
 have HA:=Hid.mk' ha
 rw [←ha] at f1 f3 t4 hy ht e3 e4
 obtain ⟨y,hy'⟩:∃ y,y=B a:=⟨_,rfl⟩
 rw [←hy'] at f3 hy ht
 clear hy' ha
 have e1:(y:Int) / 64=1:=by omega
 have e2:(y:Int) / 2 ^ 6=1:=by omega
 replace cl2:=cl2 _ bw
 go_region
 go_wp2_with (first
  | (go_at_call 33;refine cl2.mono ?_;clear cl2;rintro e w2 ⟨rfl,b2⟩;have Hh2:=Hid.mk' (Hd.out.keep b2);have bw2:=below_next bw b2;replace cn:=cn _ bw2)
  | (go_at_call 52;refine cn.mono ?_;clear cn;rintro e w3 ⟨rfl,b3⟩;have Hh3:=Hid.mk' (Hh2.out.keep b3);have bw3:=below_next bw2 b3;obtain ⟨d5,z5⟩:=Hh3.out.f2;obtain ⟨k1,y1⟩:=Hh3.out.f1;rw [←HA.out] at k1))
 go_ret
 have k:=Hh3.out.setAt q hqL
 rw [he] at k
 exact ⟨rfl,k,(Out.of_below bw3 gl).trans (Out.setCell _ _ (by decide) (by decide))⟩
set_option maxRecDepth 20000 in
set_option maxHeartbeats 2000000 in
theorem rLenR_good4 (g L:Nat) (B:Nat→Nat) (lB:∀ j,B j<256) (r:Rd) (he:r.e=0) (hL:L<140737488355000) (hq:r.at_<L) (ht:B r.at_ / 64=2) (h2:r.at_+4≤L) (h3:¬nbN B r.at_ 4%1073741824<16384) (w:World) (h:RdR w g L B r):Calls Try.prog 27 #[.pointer (some ⟨g,0,none⟩)] w fun e w'=>e = .returned (.int .i64 ((nbN B r.at_ 4%1073741824:Nat):Int))∧RdR w' g L B ⟨r.at_+4,0⟩∧Out g 1 2 w w':=by
 obtain ⟨c2,z2⟩:=h.f2
 rw [he] at c2
 have cl:=rLeft11_any g L B r hL w h
 have cl2:∀ w1,Below w.heap.size w w1→_:=fun w1 b1=>rLeft11_any g L B r hL w1 (h.keep b1)
 obtain ⟨N,hN⟩:∃ N,N=nbN B r.at_ 4:=⟨_,rfl⟩
 have hNl:N<9223372036854775808:=by rw [hN];exact nbN_small lB r.at_ 4 (by decide) (by omega) 4 (Nat.le_refl _)
 have cn:∀ w1,Below w.heap.size w w1→Calls Try.prog 52 #[.pointer (some ⟨g,0,none⟩),.int .i64 4] w1 fun e w'=>e = .returned (.int .i64 (N:Int))∧Below w1.heap.size w1 w':=fun w1 b1=>by
  rw [hN];exact rnumber_any g L 4 B r lB (by decide) hL h2 (nbN_small lB r.at_ 4 (by decide) (by omega)) w1 (h.keep b1)
 have em:bits .and .i64 (N:Int) 1073741823=((N%1073741824:Nat):Int):=and_mask N 30 (by decide) hNl
 obtain ⟨x,hx⟩:∃ x:Int,x=(L:Int) - (r.at_:Int):=⟨_,rfl⟩
 simp only [←hx] at cl cl2
 have t1:¬x=0:=by omega
 have t2:¬x<4:=by omega
 rw [←hN] at h3 ⊢
 obtain ⟨n,hn⟩:∃ n,n=N%1073741824:=⟨_,rfl⟩
 rw [←hn] at em h3 ⊢
 obtain ⟨z,hz⟩:∃ z:Int,z=(n:Int):=⟨_,rfl⟩
 rw [←hz] at em ⊢
 have t3:¬z<16384:=by omega
 clear hz
 obtain ⟨q,hq'⟩:∃ q,q=r.at_+4:=⟨_,rfl⟩
 have hqL:q≤L:=by omega
 have e3:IntKind.i64.wrap ((r.at_:Int)+4)=(q:Int):=by simp only [IntKind.wrap_i64];omega
 have e4:(r.at_:Int)+4=(q:Int):=by omega
 rw [←hq']
 clear hn hq' h3
 have Hh:=Hid.mk' h
 have gl:=h.lt
 have hy:=lB r.at_
 have t4:(0:Int)≤(r.at_:Int)∧(r.at_:Int)<(L:Int):=by omega
 clear h hx hN
 go_enter Try.func27,Try.ntmps27
 go_wp2_with (go_at_call 33;refine cl.mono ?_;clear cl;rintro e w1 ⟨rfl,b1⟩;have Hh1:=Hid.mk' (Hh.out.keep b1);obtain ⟨d2,z2'⟩:=Hh1.out.f2)
 have bd:Below w1.heap.size w1 w1.drew:=(Below.refl _ _).drew
 have bw:=below_next b1 bd
 have Hd:=Hid.mk' (Hh1.out.keep bd)
 obtain ⟨v,rr,hv,-⟩:=Hd.out
 rcases hv with ⟨xo,rfl,h0⟩ | ⟨bb,ob,cap,rfl,hbb,hc,hcell⟩
 · omega
 have f0:w1.drew.cell? ⟨g,0,none⟩=some (.slice (some ⟨bb,ob,none⟩) L cap):=rr.range 0 _ rfl
 have f1:w1.drew.cell? ⟨g,1,none⟩=some (.int .i64 (r.at_:Int)):=rr.range 1 _ rfl
 have f3:=hcell r.at_ hq
 obtain ⟨d3,z3⟩:=Hd.out.f2
 clear hcell rr
 obtain ⟨a,ha⟩:∃ a,a=r.at_:=⟨_,rfl⟩
 have HA:=Hid.mk' ha
 rw [←ha] at f1 f3 t4 hy ht e3 e4
 obtain ⟨y,hy'⟩:∃ y,y=B a:=⟨_,rfl⟩
 rw [←hy'] at f3 hy ht
 clear hy' ha
 have e1:(y:Int) / 64=2:=by omega
 have e2:(y:Int) / 2 ^ 6=2:=by omega
 replace cl2:=cl2 _ bw
 go_region
 go_wp2_with (first
  | (go_at_call 33;refine cl2.mono ?_;clear cl2;rintro e w2 ⟨rfl,b2⟩;have Hh2:=Hid.mk' (Hd.out.keep b2);have bw2:=below_next bw b2;replace cn:=cn _ bw2)
  | (go_at_call 52;refine cn.mono ?_;clear cn;rintro e w3 ⟨rfl,b3⟩;have Hh3:=Hid.mk' (Hh2.out.keep b3);have bw3:=below_next bw2 b3;obtain ⟨d5,z5⟩:=Hh3.out.f2;obtain ⟨k1,y1⟩:=Hh3.out.f1;rw [←HA.out] at k1))
 go_ret
 have k:=Hh3.out.setAt q hqL
 rw [he] at k
 exact ⟨rfl,k,(Out.of_below bw3 gl).trans (Out.setCell _ _ (by decide) (by decide))⟩
end Go.Proofs.Ytibgjjbnehhanaa
namespace Go.Proofs.Ytibgjjbnehhanaa
open Go.RowKit
theorem rLenR_any (g L:Nat) (B:Nat→Nat) (lB:∀ j,B j<256) (r:Rd) (hL:L<140737488355000) (w:World) (h:RdR w g L B r):Calls Try.prog 27 #[.pointer (some ⟨g,0,none⟩)] w fun e w'=>e = .returned (.int .i64 (((lenD L B r).1:Nat):Int))∧RdR w' g L B (lenD L B r).2∧Out g 1 2 w w':=by
 have ha:=h.le
 have gl:=h.lt
 have hy:=lB r.at_
 unfold lenD
 by_cases he:r.e≠0
 · rw [if_pos he]
   exact (rLenR_err g L B r he w h).mono fun e w' ⟨h1,h2⟩=>⟨h1,h.keep h2,Out.of_below h2 gl⟩
 replace he:r.e=0:=Decidable.not_not.mp he
 rw [if_neg (fun e=>e he)]
 by_cases h0:L=r.at_
 · rw [if_pos h0]
   exact rLenR_empty g L B r he hL h0 w h
 rw [if_neg h0]
 have hq:r.at_<L:=by omega
 by_cases h3:B r.at_ / 64=3
 · rw [if_pos h3]
   exact rLenR_three g L B lB r he hL hq h3 w h
 rw [if_neg h3]
 rcases (show B r.at_ / 64=0∨B r.at_ / 64=1∨B r.at_ / 64=2 by omega) with ht | ht | ht
 · rw [ht,show (2:Nat) ^ 0=1 from rfl,if_neg (by omega),if_neg (by omega)]
   exact rLenR_good1 g L B lB r he hL hq ht (by omega) w h
 · rw [ht,show (2:Nat) ^ 1=2 from rfl]
   by_cases h2:L - r.at_<2
   · rw [if_pos h2]
     exact rLenR_end2 g L B lB r he hL hq ht (by omega) w h
   rw [if_neg h2,show (2:Nat) ^ (8*2 - 2)=16384 from rfl]
   by_cases h4:nbN B r.at_ 2%16384<64
   · rw [if_pos (.inl ⟨rfl,h4⟩)]
     exact rLenR_form2 g L B lB r he hL hq ht (by omega) h4 w h
   rw [if_neg (fun e=>e.elim (fun e=>h4 e.2) (fun e=>absurd e.1 (by decide)))]
   exact rLenR_good2 g L B lB r he hL hq ht (by omega) h4 w h
 · rw [ht,show (2:Nat) ^ 2=4 from rfl]
   by_cases h2:L - r.at_<4
   · rw [if_pos h2]
     exact rLenR_end4 g L B lB r he hL hq ht (by omega) w h
   rw [if_neg h2,show (2:Nat) ^ (8*4 - 2)=1073741824 from rfl]
   by_cases h4:nbN B r.at_ 4%1073741824<16384
   · rw [if_pos (.inr ⟨rfl,h4⟩)]
     exact rLenR_form4 g L B lB r he hL hq ht (by omega) h4 w h
   rw [if_neg (fun e=>e.elim (fun e=>absurd e.1 (by decide)) (fun e=>h4 e.2))]
   exact rLenR_good4 g L B lB r he hL hq ht (by omega) h4 w h
set_option maxRecDepth 20000 in
set_option maxHeartbeats 2000000 in
theorem rVecR_any (g L:Nat) (B:Nat→Nat) (lB:∀ j,B j<256) (r:Rd) (hL:L<140737488355000) (w:World) (h:RdR w g L B r):Calls Try.prog 29 #[.pointer (some ⟨g,0,none⟩)] w fun e w'=>∃ v,e = .returned v∧Own w.heap.size w' v (vecD L B r).1 (fun j=>B ((lenD L B r).2.at_+j))∧RdR w' g L B (vecD L B r).2∧Out g 1 2 w w':=by
 have ha:=h.le
 have gl:=h.lt
 obtain ⟨k1,y1⟩:=h.f1
 have c1:=rLenR_any g L B lB r hL w h
 unfold vecD
 obtain ⟨p,hp⟩:∃ p,p=lenD L B r:=⟨_,rfl⟩
 rw [←hp] at c1 ⊢
 obtain ⟨a,hA⟩:∃ a,a=r.at_:=⟨_,rfl⟩
 rw [←hA] at k1 ⊢
 have hal:a≤L:=by omega
 clear hA hp h ha
 obtain ⟨n,s⟩:=p
 dsimp only at c1 ⊢
 by_cases h1:s.e=0∧65536<n
 · rw [if_pos h1]
   have e1:takD L (n:Int) ⟨s.at_,21⟩=(0,⟨s.at_,21⟩):=by unfold takD;exact if_pos (fun e=>by cases e)
   rw [e1,if_pos (show (21:Int)≠0 by decide)]
   have t1:(65536:Int)<(n:Int):=by omega
   obtain ⟨m,hm⟩:∃ m:Int,m=(n:Int):=⟨_,rfl⟩
   rw [←hm] at c1 t1
   have he:=h1.1
   clear hm h1 e1
   go_enter Try.func29,Try.ntmps29
   go_wp2_with (first
    | (go_at_call 27;refine c1.mono ?_;clear c1;rintro e w1 ⟨rfl,H1,o1⟩;obtain ⟨d2,z2⟩:=H1.f2;rw [he] at d2;have Hd:=Hid.mk' H1;clear H1)
    | (go_at_call 31;refine (rTakR_err g L B ⟨s.at_,21⟩ m (show (21:Int)≠0 by decide) _ (Hd.out.setE 21)).mono ?_;rintro e w2 ⟨rfl,b2⟩;have H2:=Hid.mk' ((Hd.out.setE 21).keep b2);obtain ⟨d3,z3⟩:=H2.out.f2;obtain ⟨d4,z4⟩:=H2.out.f1))
   go_ret
   exact ⟨_,rfl,Own.nil _ _ _,H2.out.setAt a hal,((o1.trans (Out.setCell _ _ (by decide) (by decide))).trans (Out.of_below b2 (Hd.out.setE 21).lt)).trans (Out.setCell _ _ (by decide) (by decide))⟩
 · rw [if_neg h1]
   by_cases he:s.e=0
   · have t1:¬(65536:Int)<(n:Int):=by omega
     obtain ⟨m,hm⟩:∃ m:Int,m=(n:Int):=⟨_,rfl⟩
     rw [←hm] at c1 t1 ⊢
     have c2:∀ w1,RdR w1 g L B s→_:=fun w1 H1=>rTakR_any g L B s m hL w1 H1
     obtain ⟨⟨k,u⟩,hu⟩:∃ t,t=takD L m s:=⟨_,rfl⟩
     simp only [←hu] at c2 ⊢
     clear hm h1 hu
     by_cases h2:u.e≠0
     · rw [if_pos h2]
       go_enter Try.func29,Try.ntmps29
       go_wp2_with (first
        | (go_at_call 27;refine c1.mono ?_;clear c1;rintro e w1 ⟨rfl,H1,o1⟩;obtain ⟨d2,z2⟩:=H1.f2;rw [he] at d2;replace c2:=c2 _ H1;have Hd:=Hid.mk' H1;clear H1)
        | (go_at_call 31;refine c2.mono ?_;clear c2;rintro e w2 ⟨v2,rfl,own2,H2,o2⟩;obtain ⟨d3,z3⟩:=H2.f2;obtain ⟨d4,z4⟩:=H2.f1;have Hd2:=Hid.mk' H2;clear H2))
       go_ret
       exact ⟨_,rfl,Own.nil _ _ _,Hd2.out.setAt a hal,(o1.trans o2).trans (Out.setCell _ _ (by decide) (by decide))⟩
     · rw [if_neg h2]
       replace h2:u.e=0:=Decidable.not_not.mp h2
       go_enter Try.func29,Try.ntmps29
       go_wp2_with (first
        | (go_at_call 27;refine c1.mono ?_;clear c1;rintro e w1 ⟨rfl,H1,o1⟩;obtain ⟨d2,z2⟩:=H1.f2;rw [he] at d2;replace c2:=c2 _ H1;have Hd:=Hid.mk' H1;clear H1)
        | (go_at_call 31;refine c2.mono ?_;clear c2;rintro e w2 ⟨v2,rfl,own2,H2,o2⟩;obtain ⟨d3,z3⟩:=H2.f2;rw [h2] at d3;obtain ⟨d4,z4⟩:=H2.f1;have Hd2:=Hid.mk' H2;clear H2))
       go_ret
       exact ⟨_,rfl,World.ownsRow.mono own2 o1.size,Hd2.out,o1.trans o2⟩
   · have e1:takD L (n:Int) s=(0,s):=by unfold takD;exact if_pos he
     rw [e1,if_pos he]
     have c2:∀ w1 m,RdR w1 g L B s→_:=fun w1 m H1=>rTakR_err g L B s m he w1 H1
     obtain ⟨m,hm⟩:∃ m:Int,m=(n:Int):=⟨_,rfl⟩
     rw [←hm] at c1
     clear hm h1 e1
     go_enter Try.func29,Try.ntmps29
     go_wp2_with (first
      | (go_at_call 27;refine c1.mono ?_;clear c1;rintro e w1 ⟨rfl,H1,o1⟩;obtain ⟨d2,z2⟩:=H1.f2;replace c2:=c2 _ m H1;have Hd:=Hid.mk' H1;clear H1)
      | (go_at_call 31;refine c2.mono ?_;clear c2;rintro e w2 ⟨rfl,b2⟩;have H2:=Hid.mk' (Hd.out.keep b2);obtain ⟨d3,z3⟩:=H2.out.f2;obtain ⟨d4,z4⟩:=H2.out.f1))
     go_ret
     exact ⟨_,rfl,Own.nil _ _ _,H2.out.setAt a hal,(o1.trans (Out.of_below b2 Hd.out.lt)).trans (Out.setCell _ _ (by decide) (by decide))⟩
end Go.Proofs.Ytibgjjbnehhanaa
namespace Go.Proofs.Ytibgjjbnehhanaa
open Go.RowKit
def beK (n s k:Nat):Nat→Nat:=fun j=>if s≤j+k then beN n s j else 0
theorem beK_next (n s k:Nat) (hk:k<s) (j:Nat) (_hj:j<s):upd (beK n s k) (s - 1 - k) (n / 2 ^ (8*k)%256) j=beK n s (k+1) j:=by
 unfold upd beK
 by_cases h:j=s - 1 - k
 · rw [if_pos h,if_pos (by omega)]
   unfold beN
   rw [show s - 1 - j=k by omega]
 · rw [if_neg h]
   by_cases h2:s≤j+k
   · rw [if_pos h2,if_pos (by omega)]
   · rw [if_neg h2,if_neg (by omega)]
set_option maxRecDepth 20000 in
set_option maxHeartbeats 4000000 in
theorem cSplit_any (n s:Nat) (hs:s≤8) (w:World) :
 Calls Try.prog 40 #[.int .i64 n,.int .i64 s] w fun e w'=>∃ v,e = .returned v∧BytesIn w' v s (beN n s)∧Below w.heap.size w w':=by
 have hmk:=make_bytes w s (s:Int) rfl (by omega)
 have b0:Below w.heap.size w (w.alloc (.cells (zb s) 5)):=(Below.refl _ _).alloc (Nat.le_refl _) _
 have r0:RowAt .u8 (w.alloc (.cells (zb s) 5)) w.heap.size 0 s (beK n s 0):=(RowAt.fresh (X:=fun _=>0) (fun j hj=>zb_at s j hj)).congr fun j hj=>by
  unfold beK
  rw [if_neg (by omega)]
 obtain ⟨W,hW⟩:∃ W,W=w.alloc (.cells (zb s) 5):=⟨_,rfl⟩
 have gW:w.heap.size<W.heap.size:=by rw [hW];simp
 obtain ⟨g,hg⟩:∃ g,g=w.heap.size:=⟨_,rfl⟩
 rw [←hW] at hmk b0 r0
 rw [←hg] at hmk r0
 have hgl:w.heap.size≤g:=by omega
 have gW':g<W.heap.size:=by omega
 clear hW gW hg
 go_enter Try.func40,Try.ntmps40
 go_wp2
 go_loopw [10] (fun i wr=>∃ k:Nat,k≤s∧i = .int .i64 k∧RowAt .u8 wr g 0 s (beK n s k)∧Below w.heap.size w wr∧g<wr.heap.size) (fun i _=>s - (intOf i).toNat)
 case atStart=>exact ⟨0,Nat.zero_le _,rfl,r0,b0,gW'⟩
 case round =>
  clear r0 b0 hmk
  obtain ⟨k,hk,rfl,hr,hb,gl⟩:=hrel
  by_cases hlt:k<s
  · obtain ⟨q1,z1⟩:=hr (s - 1 - k) (by omega)
    have hst:=hr.set (i:=s - 1 - k) (by omega) (v:=((n / 2 ^ (8*k)%256:Nat):Int)) rfl
    rw [Nat.zero_add] at q1 z1 hst
    replace hst:=hst.congr fun j hj=>beK_next n s k hlt j hj
    have e1:IntKind.u8.wrap ((n:Int) / 2 ^ (8*k))=((n / 2 ^ (8*k)%256:Nat):Int):=by
     show (n:Int) / 2 ^ (8*k)%256=_
     simp
    obtain ⟨y,hy⟩:∃ y,y=n / 2 ^ (8*k)%256:=⟨_,rfl⟩
    rw [←hy] at hst e1
    obtain ⟨q,hq⟩:∃ q,q=s - 1 - k:=⟨_,rfl⟩
    rw [←hq] at q1 z1 hst
    obtain ⟨u,hu⟩:∃ u,u=beK n s k q:=⟨_,rfl⟩
    rw [←hu] at q1
    obtain ⟨sh,hsh⟩:∃ sh,sh=8*k:=⟨_,rfl⟩
    rw [←hsh] at e1
    have e2:(s:Int) - 1 - (k:Int)=(q:Int):=by omega
    have e2':IntKind.i64.wrap ((s:Int) - 1 - (k:Int))=(q:Int):=by simp only [IntKind.wrap_i64];omega
    have e2'':IntKind.i64.wrap ((s:Int) - 1)=(s:Int) - 1:=by simp only [IntKind.wrap_i64];omega
    have e3:8*(k:Int)=(sh:Int):=by omega
    have e3':IntKind.i64.wrap (8*(k:Int))=(sh:Int):=by simp only [IntKind.wrap_i64];omega
    have e4:IntKind.u64.wrap (sh:Int)=(sh:Int):=by show (sh:Int)%18446744073709551616=_;omega
    have t1:(0:Int)≤(q:Int)∧(q:Int)<(s:Int):=by omega
    have t2:(0:Int)≤(sh:Int)∧(sh:Int)<64:=by omega
    have hlt':(k:Int)<(s:Int):=by omega
    clear hy hq hu hsh hr
    go_wp2
    go_roundw
    case rel=>exact ⟨k+1,hlt,by go_num,hst,hb.setCell hgl _,by simp;exact gl⟩
    case measure=>simp [intOf];omega
  · obtain rfl:k=s:=by omega
    have hlt':¬(k:Int)<(k:Int):=by omega
    go_wp2
    go_ret
    exact ⟨_,rfl,.inr ⟨g,0,k,rfl,gl,Nat.le_refl _,fun j hj=>by rw [(hr j hj).1];unfold beK;rw [if_pos (by omega)]⟩,hb⟩
theorem cSize_any (s:Int) (w:World):Calls Try.prog 38 #[.int .i64 s] w fun e w'=>e = .returned (.bool (szB s))∧w'=w:=by
 by_cases h1:s=1
 · subst h1
   go_enter Try.func38,Try.ntmps38
   go_wp2
   go_ret
   exact ⟨rfl,rfl⟩
 · by_cases h2:s=2
   · subst h2
     go_enter Try.func38,Try.ntmps38
     go_wp2
     go_ret
     exact ⟨rfl,rfl⟩
   · by_cases h4:s=4
     · subst h4
       go_enter Try.func38,Try.ntmps38
       go_wp2
       go_ret
       exact ⟨rfl,rfl⟩
     · by_cases h8:s=8
       · subst h8
         go_enter Try.func38,Try.ntmps38
         go_wp2
         go_ret
         exact ⟨rfl,rfl⟩
       · go_enter Try.func38,Try.ntmps38
         go_wp2
         go_ret
         exact ⟨by simp [szB],rfl⟩
theorem cMost_any (s:Nat) (h:s=1∨s=2∨s=4∨s=8) (w:World):Calls Try.prog 39 #[.int .i64 (s:Int)] w fun e w'=>e = .returned (.int .i64 ((mstN s - 1:Nat):Int))∧w'=w:=by
 rcases h with rfl | rfl | rfl | rfl <;>
 · go_enter Try.func39,Try.ntmps39
   go_wp2
   go_ret
   exact ⟨rfl,rfl⟩
def lbN (k:Nat):Nat:=8*2 ^ k - 2
theorem cBits_any (k:Nat) (h:k<3) (w:World):Calls Try.prog 45 #[.int .i64 (k:Int)] w fun e w'=>e = .returned (.int .i64 ((lbN k:Nat):Int))∧w'=w:=by
 rcases (show k=0∨k=1∨k=2 by omega) with rfl | rfl | rfl <;>
 · go_enter Try.func45,Try.ntmps45
   go_wp2
   go_ret
   exact ⟨rfl,rfl⟩
end Go.Proofs.Ytibgjjbnehhanaa
namespace Go.Proofs.Ytibgjjbnehhanaa
open Go.RowKit
def BI (lo hi:Nat) (w:World) (v:Value) (n:Nat) (B:Nat→Nat):Prop:=(∃ xo,v = .slice xo 0 0∧n=0)∨∃ bb ob cap,v = .slice (some ⟨bb,ob,none⟩) n cap∧(lo≤bb∧bb<hi)∧n≤cap∧∀ j,j<n→w.cell? ⟨bb,ob+j,none⟩=some (.int .u8 (B j))
theorem BI.of {lo hi:Nat} {w:World} {v:Value} {n:Nat} {B:Nat→Nat} (h:BI lo hi w v n B) (hh:hi≤w.heap.size):BytesIn w v n B:=by
 rcases h with h | ⟨bb,ob,cap,e,hb,hc,hl⟩
 · exact .inl h
 · exact .inr ⟨bb,ob,cap,e,Nat.lt_of_lt_of_le hb.2 hh,hc,hl⟩
theorem BI.all {w:World} {v:Value} {n:Nat} {B:Nat→Nat} (h:BytesIn w v n B):BI 0 w.heap.size w v n B:=by
 rcases h with h | ⟨bb,ob,cap,e,hb,hc,hl⟩
 · exact .inl h
 · exact .inr ⟨bb,ob,cap,e,⟨Nat.zero_le _,hb⟩,hc,hl⟩
theorem BI.own {base:Nat} {w:World} {v:Value} {n:Nat} {X:Nat→Nat} (h:Own base w v n X):BI base w.heap.size w v n X:=by
 rcases h.form with ⟨rfl,rfl⟩ | ⟨g,cap,rfl,h1,h2,h3,h4⟩
 · exact .inl ⟨none,rfl,rfl⟩
 · exact .inr ⟨g,0,cap,rfl,⟨h1,h2⟩,h3,fun j hj=>(h4 j hj).1⟩
theorem BI.wide {lo hi lo' hi':Nat} {w:World} {v:Value} {n:Nat} {B:Nat→Nat} (h:BI lo hi w v n B) (h1:lo'≤lo) (h2:hi≤hi'):BI lo' hi' w v n B:=by
 rcases h with h | ⟨bb,ob,cap,e,hb,hc,hl⟩
 · exact .inl h
 · exact .inr ⟨bb,ob,cap,e,⟨by omega,by omega⟩,hc,hl⟩
theorem BI.cong {lo hi:Nat} {w:World} {v:Value} {n:Nat} {B C:Nat→Nat} (h:BI lo hi w v n B) (e:∀ j,j<n→B j=C j):BI lo hi w v n C:=by
 rcases h with h | ⟨bb,ob,cap,e',hb,hc,hl⟩
 · exact .inl h
 · exact .inr ⟨bb,ob,cap,e',hb,hc,fun j hj=>by rw [hl j hj,e j hj]⟩
theorem BI.same {lo hi:Nat} {w w':World} {v:Value} {n:Nat} {B:Nat→Nat} (h:BI lo hi w v n B) (e:∀ b o z,lo≤b→b<hi→w.cell? ⟨b,o,none⟩=some (.int .u8 z)→w'.cell? ⟨b,o,none⟩=some (.int .u8 z)):BI lo hi w' v n B:=by
 rcases h with h | ⟨bb,ob,cap,e',hb,hc,hl⟩
 · exact .inl h
 · exact .inr ⟨bb,ob,cap,e',hb,hc,fun j hj=>e _ _ _ hb.1 hb.2 (hl j hj)⟩
theorem BI.below {lo hi M:Nat} {w w':World} {v:Value} {n:Nat} {B:Nat→Nat} (h:BI lo hi w v n B) (hb:Below M w w') (hM:hi≤M):BI lo hi w' v n B :=
 h.same fun b o _ _ h2 hc=>(hb.cell (p:=⟨b,o,none⟩) (Nat.lt_of_lt_of_le h2 hM)).trans hc
theorem BI.put {lo hi:Nat} {w:World} {v:Value} {n:Nat} {B:Nat→Nat} (h:BI lo hi w v n B) {g o:Nat} {u:Value} (hc:w.cell? ⟨g,o,none⟩=some u) (hu:∀ z,u ≠ .int .u8 z) (y:Value):BI lo hi (w.setCell ⟨g,o,none⟩ y) v n B:=by
 refine h.same fun b p z _ _ hz => ?_
 by_cases e:(⟨b,p,none⟩:Addr)=⟨g,o,none⟩
 · rw [e,hc] at hz
   exact absurd (Option.some.inj hz) (hu z)
 · exact (World.cell?_setCell_other _ _ _ _ (fun h=>e h.symm)).trans hz
theorem BI.cut {lo hi:Nat} {w:World} {v:Value} {L:Nat} {B:Nat→Nat} (hv:BI lo hi w v L B) (m:Nat) (hm:m≤L):∃ xo cx x1 c1 x2 c2,v = .slice xo L cx∧(xo=none→cx=0)
 ∧ (∀ W:World,(Instr.sliceAt 22 (.slice xo L cx) none (some (.int .i64 m)) none).run Try.prog W = .ok (.slice x1 m c1) W)∧BI lo hi w (.slice x1 m c1) m B
 ∧ (∀ W:World,(Instr.sliceAt 22 (.slice xo L cx) (some (.int .i64 m)) none none).run Try.prog W = .ok (.slice x2 (L - m) c2) W)∧BI lo hi w (.slice x2 (L - m) c2) (L - m) (fun j=>B (m+j)):=by
 have u1:Try.prog.underlying 22=some (.slice (Try.prog.elem 22)):=by kernel_rfl
 have u2:Try.prog.elem 22=5:=by kernel_rfl
 have u3:∀ W,((sizeOf 5).run Try.prog W) = .ok 1 W:=fun W=>by kernel_rfl
 rcases hv with ⟨xo,rfl,rfl⟩ | ⟨bb,ob,cap,rfl,hb,hc,hcell⟩
 · obtain rfl:m=0:=by omega
   refine ⟨xo,0,xo,0,xo,0,rfl,fun _=>rfl,fun W => ?_,.inl ⟨xo,rfl,rfl⟩,fun W => ?_,.inl ⟨xo,rfl,rfl⟩⟩
   · rw [run_sliceAt_slice W 22 _ _ _ _ u1,run_slice_h W 22 _ 0 0 u1 .i64 _ (by omega) (by omega),u2,u3]
     cases xo <;> simp [sliced]
   · rw [run_sliceAt_slice W 22 _ _ _ _ u1,run_slice_l W 22 _ 0 0 u1 .i64 _ (by omega) (by omega),u2,u3]
     cases xo <;> simp [sliced]
 · have h1:∀ W:World,(Instr.sliceAt 22 (.slice (some ⟨bb,ob,none⟩) L cap) none (some (.int .i64 m)) none).run Try.prog W = .ok (.slice (some ⟨bb,ob,none⟩) m cap) W:=fun W=>by
    rw [run_sliceAt_slice W 22 _ _ _ _ u1,run_slice_h W 22 _ L cap u1 .i64 _ (by omega) (by omega),u2,u3]
    simp [sliced,Addr.add_mid]
   by_cases ha:cap=m
   · refine ⟨some ⟨bb,ob,none⟩,cap,some ⟨bb,ob,none⟩,cap,some ⟨bb,ob,none⟩,cap - m,rfl,(fun e=>by cases e),h1,.inr ⟨bb,ob,cap,rfl,hb,by omega,fun j hj=>hcell j (by omega)⟩,fun W => ?_,.inr ⟨bb,ob,cap - m,rfl,hb,by omega,fun j hj=>absurd hj (by omega)⟩⟩
     rw [run_sliceAt_slice W 22 _ _ _ _ u1,run_slice_l W 22 _ L cap u1 .i64 _ (by omega) (by omega),u2,u3]
     simp [sliced,ha]
   · refine ⟨some ⟨bb,ob,none⟩,cap,some ⟨bb,ob,none⟩,cap,some ⟨bb,ob+m,none⟩,cap - m,rfl,(fun e=>by cases e),h1,.inr ⟨bb,ob,cap,rfl,hb,by omega,fun j hj=>hcell j (by omega)⟩,fun W => ?_,.inr ⟨bb,ob+m,cap - m,rfl,hb,by omega,fun j hj=>by rw [Nat.add_assoc];exact hcell (m+j) (by omega)⟩⟩
     rw [run_sliceAt_slice W 22 _ _ _ _ u1,run_slice_l W 22 _ L cap u1 .i64 _ (by omega) (by omega),u2,u3]
     simp [sliced,Addr.add_mid,ha]
theorem u64_or_nat (a b:Nat) (ha:a<18446744073709551616) (hb:b<18446744073709551616):bits .or .u64 (a:Int) (b:Int)=((a ||| b:Nat):Int):=by
 have hx:a ||| b<2 ^ 64:=Nat.or_lt_two_pow (by omega) (by omega)
 show IntKind.u64.wrap ((BitVec.ofInt 64 (a:Int) ||| BitVec.ofInt 64 (b:Int)).toNat:Int)=_
 rw [BitVec.toNat_or,show (BitVec.ofInt 64 (a:Int)).toNat=a by simp;omega,show (BitVec.ofInt 64 (b:Int)).toNat=b by simp;omega]
 show ((a ||| b:Nat):Int)%18446744073709551616=_
 omega
theorem or_byteU (x y:Nat) (hx:x*256+y<18446744073709551616) (hy:y<256):bits .or .u64 ((x*256:Nat):Int) (y:Int)=((x*256+y:Nat):Int):=by
 have h1:x*256<18446744073709551616:=Nat.lt_of_le_of_lt (Nat.le_add_right _ _) hx
 have h2:y<18446744073709551616:=Nat.lt_of_le_of_lt (Nat.le_add_left _ _) hx
 refine (u64_or_nat _ _ h1 h2).trans ?_
 have h:=Nat.two_pow_add_eq_or_of_lt (i:=8) (b:=y) hy x
 have e:(2:Nat) ^ 8*x=x*256:=Nat.mul_comm _ _
 rw [e] at h
 exact congrArg Int.ofNat h.symm
theorem nbN_shift (B:Nat→Nat) (a:Nat):∀ s,nbN (fun j=>B (a+j)) 0 s=nbN B a s
 | 0=>rfl
 | s+1=>by
  show nbN (fun j=>B (a+j)) 0 s*256+B (a+(0+s))=nbN B a s*256+B (a+s)
  rw [nbN_shift B a s,Nat.zero_add]
theorem nbN_lt8 {B:Nat→Nat} (lB:∀ j,B j<256) (a:Nat):∀ k,k≤8→nbN B a k<18446744073709551616:=fun k hk =>
 Nat.lt_of_lt_of_le (nbN_lt lB a k) (Nat.le_trans (Nat.pow_le_pow_right (by decide) hk) (by decide))
set_option maxRecDepth 20000 in
set_option maxHeartbeats 4000000 in
theorem cJoin_any (v:Value) (s:Nat) (B:Nat→Nat) (lB:∀ j,B j<256) (hs:s≤8) (w:World) (hv:BytesIn w v s B):Calls Try.prog 50 #[v] w fun e w'=>e = .returned (.int .u64 ((nbN B 0 s:Nat):Int))∧w'=w:=by
 have hlt:=nbN_lt8 lB 0
 obtain ⟨xo,cx,rfl,-,-,-⟩:=hv.src
 go_enter Try.func50,Try.ntmps50
 go_wp2
 go_loopw [3,7] (fun n i wr=>∃ k:Nat,k≤s∧i = .int .i64 (k:Int)∧n = .int .u64 ((nbN B 0 k:Nat):Int)∧w=wr) (fun _ i _=>s - (intOf i).toNat)
 case atStart=>exact ⟨0,Nat.zero_le _,by go_num,rfl,rfl⟩
 case round =>
  obtain ⟨k,hk,rfl,rfl,rfl⟩:=hrel
  by_cases hks:k<s
  · have q1:(k:Int)<(s:Int):=by omega
    rcases hv with ⟨xo,-,h0⟩ | ⟨bb,ob,cap,e0,hbb,hc,hcell⟩
    · omega
    cases e0
    have f2:=hcell k hks
    have hx:=hlt k (by omega)
    have hx1:=hlt (k+1) (by omega)
    have hy:=lB k
    have hstep:nbN B 0 (k+1)=nbN B 0 k*256+B k:=by show nbN B 0 k*256+B (0+k)=_;rw [Nat.zero_add]
    rw [hstep] at hx1
    have e1:=or_byteU (nbN B 0 k) (B k) hx1 hy
    obtain ⟨x,hx'⟩:∃ x,x=nbN B 0 k:=⟨_,rfl⟩
    obtain ⟨y,hy'⟩:∃ y,y=B k:=⟨_,rfl⟩
    rw [←hx',←hy'] at hstep e1 hx1
    rw [←hy'] at f2 hy
    rw [←hx'] at hx ⊢
    have e3:IntKind.u64.wrap ((x:Int)*256)=((x*256:Nat):Int):=by show ((x:Int)*256)%18446744073709551616=_;omega
    have e5:IntKind.u64.wrap (y:Int)=(y:Int):=by show (y:Int)%18446744073709551616=_;omega
    have t1:(0:Int)≤(k:Int)∧(k:Int)<(s:Int):=by omega
    have Hs:=Hid.mk' hstep
    clear hx' hy' hstep hcell hlt
    go_wp2
    go_roundw
    case rel=>exact ⟨k+1,hks,by go_num,by rw [Hs.out,←e1];rfl,trivial⟩
    case measure=>simp [intOf];omega
  · obtain rfl:k=s:=by omega
    have q1:¬((k:Int)<(k:Int)):=by omega
    go_wp2
    go_ret
    exact ⟨rfl,rfl⟩
end Go.Proofs.Ytibgjjbnehhanaa
namespace Go.Proofs.Ytibgjjbnehhanaa
open Go.RowKit
theorem run_eql_slice_nil {P:Program} (w:World) (t e:TypeId) (a:Option Addr) (l c:Nat) (h:P.underlying t=some (.slice e)):(binOp .eql t (.slice a l c) (.slice none 0 0)).run P w = .ok (.bool a.isNone) w:=by
 simp only [binOp]
 simp [run_equal_slice_nil w t e a l c h]
theorem wpList_eqnil {ops:Array Oper} {rest:List Oper} {op:Oper} {a:Act} {w:World} {Q:Exit→Act→World→Prop} (hgd:op.guard=none) (x y:Operand) (t2:TypeId) (ho:op.op = .binOp .eql 22 x y t2) (ad:Addr) (l c:Nat)
 (hx:a.eval x = .slice (some ad) l c) (hy:a.eval y = .slice none 0 0) (h:wpList Try.prog ops Q rest (a.put op.dst (.bool false)) w):wpList Try.prog ops Q (op :: rest) a w :=
 wpList_plain hgd fun K hK=>by
  unfold Oper.wp execOp
  simp only [ho,hx,hy]
  have e:(eqGuard .eql 22 x y (.slice (some ad) l c) (.slice none 0 0)).run Try.prog w = .ok () w:=by
   simp [eqGuard]
  rw [Sem.run_bind,Sem.run_bind,e]
  simp only [Result.andThen_ok]
  rw [run_eql_slice_nil w 22 5 (some ad) l c Try.underlying22]
  exact hK _ _ h
end Go.Proofs.Ytibgjjbnehhanaa
namespace Go.Proofs.Ytibgjjbnehhanaa
open Go.RowKit
def RdC (lo hi:Nat) (w:World) (g L:Nat) (B:Nat→Nat) (r:Rd):Prop:=∃ v,RW w g 0 [v,.int .i64 r.e,.bool true]∧BI lo hi w v (L - r.at_) (fun j=>B (r.at_+j))∧r.at_≤L∧(lo≤g∧g<hi)∧hi≤w.heap.size
theorem RdC.keep {lo hi:Nat} {w w':World} {g L:Nat} {B:Nat→Nat} {r:Rd} (h:RdC lo hi w g L B r) (hb:Below hi w w'):RdC lo hi w' g L B r:=by
 obtain ⟨v,rw_,hv,ha,hg,hh⟩:=h
 exact ⟨v,rw_.below hb hg.2,hv.below hb (Nat.le_refl _),ha,hg,Nat.le_trans hh hb.size⟩
theorem RdC.still {lo hi:Nat} {w w':World} {g L:Nat} {B:Nat→Nat} {r:Rd} (h:RdC lo hi w g L B r) (hb:Below w.heap.size w w'):RdC lo hi w' g L B r :=
 h.keep (hb.mono h.choose_spec.2.2.2.2)
theorem RdC.lt {lo hi:Nat} {w:World} {g L:Nat} {B:Nat→Nat} {r:Rd} (h:RdC lo hi w g L B r):g<w.heap.size:=by
 obtain ⟨_,r,_⟩:=h
 exact r.lt
theorem RdC.le {lo hi:Nat} {w:World} {g L:Nat} {B:Nat→Nat} {r:Rd} (h:RdC lo hi w g L B r):r.at_≤L:=by
 obtain ⟨_,_,_,h,_⟩:=h
 exact h
theorem RdC.cells {lo hi:Nat} {w:World} {g L:Nat} {B:Nat→Nat} {r:Rd} (h:RdC lo hi w g L B r):∃ v,(w.cell? ⟨g,0,none⟩=some v∧w.frozen? ⟨g,0,none⟩=false)∧(w.cell? ⟨g,1,none⟩=some (.int .i64 r.e)∧w.frozen? ⟨g,1,none⟩=false)∧w.cell? ⟨g,2,none⟩=some (.bool true)∧BI lo hi w v (L - r.at_) (fun j=>B (r.at_+j)):=by
 obtain ⟨v,rr,hv,ha,hg,hh⟩:=h
 exact ⟨v,⟨rr.range 0 _ rfl,(rr.there 0 (by simp)).2⟩,⟨rr.range 1 _ rfl,(rr.there 1 (by simp)).2⟩,rr.range 2 _ rfl,hv⟩
theorem RdC.setE {lo hi:Nat} {w:World} {g L:Nat} {B:Nat→Nat} {r:Rd} (h:RdC lo hi w g L B r) (e:Int):RdC lo hi (w.setCell ⟨g,1,none⟩ (.int .i64 e)) g L B ⟨r.at_,e⟩:=by
 obtain ⟨v,rr,hv,ha,hg,hh⟩:=h
 exact ⟨v,rr.put 1 (by simp) _,hv.put (rr.range 1 _ rfl) (fun z e=>by cases e) _,ha,hg,by rw [World.size_setCell];exact hh⟩
theorem RdC.setR {lo hi:Nat} {w:World} {g L:Nat} {B:Nat→Nat} {r:Rd} (h:RdC lo hi w g L B r) (a:Nat) (ha:a≤L) (x:Option Addr) (c:Nat) (hx:BI lo hi w (.slice x (L - a) c) (L - a) (fun j=>B (a+j))):RdC lo hi (w.setCell ⟨g,0,none⟩ (.slice x (L - a) c)) g L B ⟨a,r.e⟩:=by
 obtain ⟨v,rr,hv,-,hg,hh⟩:=h
 refine ⟨_,rr.put 0 (by simp) _,hx.put (rr.range 0 _ rfl) (fun z e => ?_) _,ha,hg,by rw [World.size_setCell];exact hh⟩
 rcases hv with ⟨xo,rfl,_⟩ | ⟨bb,ob,cap,rfl,_⟩
 · cases e
 · cases e
theorem wpList_eqnil0 {ops:Array Oper} {rest:List Oper} {op:Oper} {a:Act} {w:World} {Q:Exit→Act→World→Prop} (hgd:op.guard=none) (x y:Operand) (t2:TypeId) (ho:op.op = .binOp .eql 22 x y t2) (l c:Nat)
 (hx:a.eval x = .slice none l c) (hy:a.eval y = .slice none 0 0) (h:wpList Try.prog ops Q rest (a.put op.dst (.bool true)) w):wpList Try.prog ops Q (op :: rest) a w :=
 wpList_plain hgd fun K hK=>by
  unfold Oper.wp execOp
  simp only [ho,hx,hy]
  have e:(eqGuard .eql 22 x y (.slice none l c) (.slice none 0 0)).run Try.prog w = .ok () w:=by
   simp [eqGuard]
  rw [Sem.run_bind,Sem.run_bind,e]
  simp only [Result.andThen_ok]
  rw [run_eql_slice_nil w 22 5 none l c Try.underlying22]
  exact hK _ _ h
set_option maxRecDepth 20000 in
set_option maxHeartbeats 2000000 in
theorem cClone_any (v:Value) (n:Nat) (b:Nat→Nat) (hn:n<140737488355000) (w:World) (hv:BytesIn w v n b):Calls Try.prog 48 #[v] w fun e w'=>∃ u,e = .returned u∧Own w.heap.size w' u n b∧Below w.heap.size w w':=by
 obtain ⟨x1,c1,rfl,hxn,-,hsrc⟩:=hv.src
 have hsu:=hsrc _ ((Below.refl w.heap.size w).alloc (Nat.le_refl _) (.cells #[] 5))
 rcases x1 with _ | ad
 · obtain rfl:=hxn rfl
   obtain rfl:n=0:=by
    rcases hv with ⟨xo,_,h⟩ | ⟨bb,ob,cap,e,_⟩
    · exact h
    · cases e
   clear hv hsrc hsu
   go_enter Try.func48,Try.ntmps48
   go_wp2_with (refine wpList_eqnil0 rfl _ _ _ rfl _ _ rfl rfl ?_)
   go_ret
   exact ⟨_,rfl,Own.nil _ _ _,Below.refl _ _⟩
 · clear hv hsrc
   go_enter Try.func48,Try.ntmps48
   go_wp2_with (first
    | (refine wpList_eqnil rfl _ _ _ rfl _ _ _ rfl rfl ?_)
    | (at_builtin;refine wpList_append_empty rfl (.tmp 5) (.tmp 6) rfl w.heap.size b w.heap.size rfl rfl (some ad) n c1 rfl hsu hxn (by omega) (Nat.le_refl _) ?_;intro v3 w3 own3 hb3;(obtain ⟨y3,d3,e3⟩:=own3.slice);subst e3))
   go_ret
   exact ⟨_,rfl,own3,hb3⟩
set_option maxRecDepth 20000 in
set_option maxHeartbeats 2000000 in
theorem cNew_any (v:Value) (n:Nat) (b:Nat→Nat) (hn:n<140737488355000) (w:World) (hv:BytesIn w v n b):Calls Try.prog 22 #[v] w fun e w'=>∃ g,e = .returned (.pointer (some ⟨g,0,none⟩))∧RdC w.heap.size w'.heap.size w' g n b ⟨0,0⟩∧Below w.heap.size w w':=by
 have cc:=cClone_any v n b hn w hv
 obtain ⟨x1,c1,rfl,-,-,-⟩:=hv.src
 clear hv
 go_enter Try.func22,Try.ntmps22
 go_wp2_with (go_at_call 48;refine cc.mono ?_;clear cc;rintro e w1 ⟨u,rfl,own,b1⟩;(obtain ⟨x2,c2,e2⟩:=own.slice);subst e2)
 go_ret
 have hb:=(Below.refl w1.heap.size w1).alloc (Nat.le_refl _) (.cells #[.slice x2 n c2,.int .i64 0,.bool true] 57)
 refine ⟨w1.heap.size,rfl,⟨_,RW.fresh w1 [_,_,_] _,?_,Nat.zero_le _,⟨b1.size,by simp⟩,Nat.le_refl _⟩,below_next b1 hb⟩
 refine BI.cong ((BI.own own).below hb (Nat.le_refl _) |>.wide (Nat.le_refl _) hb.size) fun j _ => ?_
 show b j=b (0+j)
 rw [Nat.zero_add]
set_option maxRecDepth 20000 in
theorem cErr_any (lo hi g L:Nat) (B:Nat→Nat) (r:Rd) (w:World) (h:RdC lo hi w g L B r):Calls Try.prog 34 #[.pointer (some ⟨g,0,none⟩)] w fun e w'=>e = .returned (.int .i64 r.e)∧w'=w:=by
 obtain ⟨v,-,⟨c1,-⟩,c2,-⟩:=h.cells
 generalize r.e=er at *
 clear h
 go_enter Try.func34,Try.ntmps34
 go_wp2
 go_ret
 exact ⟨rfl,rfl⟩
set_option maxRecDepth 20000 in
theorem cReads_any (lo hi g L:Nat) (B:Nat→Nat) (r:Rd) (w:World) (h:RdC lo hi w g L B r):Calls Try.prog 49 #[.pointer (some ⟨g,0,none⟩)] w fun e w'=>e = .returned (.bool (decide (r.e=0)))∧w'=w:=by
 have c:=cErr_any lo hi g L B r w h
 clear h
 by_cases he:r.e=0
 · rw [he] at c ⊢
   go_enter Try.func49,Try.ntmps49
   go_wp2_with (go_at_call 34;refine c.mono ?_;clear c;rintro e w1 ⟨rfl,hw⟩;obtain rfl:=hw.symm)
   go_ret
   exact ⟨rfl,rfl⟩
 · rw [decide_eq_false he]
   generalize r.e=er at *
   go_enter Try.func49,Try.ntmps49
   go_wp2_with (go_at_call 34;refine c.mono ?_;clear c;rintro e w1 ⟨rfl,hw⟩;obtain rfl:=hw.symm)
   go_ret
   exact ⟨by simp [he],rfl⟩
set_option maxRecDepth 20000 in
theorem cLeft_any (lo hi g L:Nat) (B:Nat→Nat) (r:Rd) (w:World) (h:RdC lo hi w g L B r):Calls Try.prog 32 #[.pointer (some ⟨g,0,none⟩)] w fun e w'=>e = .returned (.int .i64 ((L:Int) - (r.at_:Int)))∧w'=w:=by
 have ha:=h.le
 obtain ⟨v,⟨c0,-⟩,-,-,hv⟩:=h.cells
 obtain ⟨xo,cx,-,-,-,-,rfl,-,-,-,-,-⟩:=hv.cut 0 (Nat.zero_le _)
 have e0:(L:Int) - (r.at_:Int)=((L - r.at_:Nat):Int):=by omega
 rw [e0]
 generalize L - r.at_=m at *
 clear h hv e0
 go_enter Try.func32,Try.ntmps32
 go_wp2
 go_ret
 exact ⟨rfl,rfl⟩
set_option maxRecDepth 20000 in
theorem cEnd_any (lo hi g L:Nat) (B:Nat→Nat) (r:Rd) (w:World) (h:RdC lo hi w g L B r):Calls Try.prog 35 #[.pointer (some ⟨g,0,none⟩)] w fun e w'=>e = .returned (.int .i64 (endD L r))∧w'=w:=by
 have ha:=h.le
 have c:=cErr_any lo hi g L B r w h
 have cl:=cLeft_any lo hi g L B r w h
 obtain ⟨x,hx⟩:∃ x:Int,x=(L:Int) - (r.at_:Int):=⟨_,rfl⟩
 rw [←hx] at cl
 clear h
 unfold endD
 by_cases he:r.e=0
 · rw [he] at c
   by_cases hl:r.at_<L
   · rw [if_pos ⟨he,hl⟩]
     have t1:¬x=0:=by omega
     clear hx
     go_enter Try.func35,Try.ntmps35
     go_wp2_with (first
      | (go_at_call 34;refine c.mono ?_;clear c;rintro e w1 ⟨rfl,hw⟩;obtain rfl:=hw.symm)
      | (go_at_call 32;refine cl.mono ?_;clear cl;rintro e w1 ⟨rfl,hw⟩;obtain rfl:=hw.symm))
     go_ret
     exact ⟨rfl,rfl⟩
   · rw [if_neg (fun e=>hl e.2),he]
     have t1:x=0:=by omega
     clear hx
     go_enter Try.func35,Try.ntmps35
     go_wp2_with (first
      | (go_at_call 34;refine c.mono ?_;clear c;rintro e w1 ⟨rfl,hw⟩;obtain rfl:=hw.symm)
      | (go_at_call 32;refine cl.mono ?_;clear cl;rintro e w1 ⟨rfl,hw⟩;obtain rfl:=hw.symm))
     go_ret
     exact ⟨rfl,rfl⟩
 · rw [if_neg (fun e=>he e.1)]
   clear hx cl
   generalize r.e=er at *
   go_enter Try.func35,Try.ntmps35
   go_wp2_with (go_at_call 34;refine c.mono ?_;clear c;rintro e w1 ⟨rfl,hw⟩;obtain rfl:=hw.symm)
   go_ret
   exact ⟨rfl,rfl⟩
end Go.Proofs.Ytibgjjbnehhanaa
namespace Go.Proofs.Ytibgjjbnehhanaa
open Go.RowKit
def knI (n:Int):Nat:=if n / 2 ^ 6=0 then 0 else if n / 2 ^ 14=0 then 1 else if n / 2 ^ 30=0 then 2 else 3
theorem knI_at (n:Int) (k:Nat) (hk:k<3) (h:n / 2 ^ lbN k=0) (hl:∀ q,q<k→¬n / 2 ^ lbN q=0):knI n=k:=by
 unfold knI
 rcases (show k=0∨k=1∨k=2 by omega) with rfl | rfl | rfl
 · exact if_pos h
 · exact (if_neg (hl 0 (by decide))).trans (if_pos h)
 · exact (if_neg (hl 0 (by decide))).trans ((if_neg (hl 1 (by decide))).trans (if_pos h))
theorem knI_none (n:Int) (hl:∀ q,q<3→¬n / 2 ^ lbN q=0):knI n=3:=by
 unfold knI
 exact (if_neg (hl 0 (by decide))).trans ((if_neg (hl 1 (by decide))).trans (if_neg (hl 2 (by decide))))
set_option maxRecDepth 20000 in
set_option maxHeartbeats 4000000 in
theorem cKind_any (n:Int) (w:World):Calls Try.prog 44 #[.int .i64 n] w fun e w'=>e = .returned (.int .i64 ((knI n:Nat):Int))∧w'=w:=by
 go_enter Try.func44,Try.ntmps44
 go_wp2
 go_loopw [4] (fun i wr=>∃ k:Nat,k≤3∧i = .int .i64 k∧w=wr∧∀ q,q<k→¬n / 2 ^ lbN q=0) (fun i _=>3 - (intOf i).toNat)
 case atStart=>exact ⟨0,Nat.zero_le _,rfl,rfl,fun q hq=>absurd hq (Nat.not_lt_zero _)⟩
 case round =>
  obtain ⟨k,hk,rfl,rfl,hl⟩:=hrel
  by_cases hlt:k<3
  · have cb:=cBits_any k hlt w
    have t1:(k:Int)<3:=by omega
    obtain ⟨b,hb⟩:∃ b,b=lbN k:=⟨_,rfl⟩
    have hb64:b<64:=by rw [hb];rcases (show k=0∨k=1∨k=2 by omega) with rfl | rfl | rfl <;> decide
    have t2:(0:Int)≤(b:Int)∧(b:Int)<64:=by omega
    rw [←hb] at cb
    have e4:IntKind.u64.wrap (b:Int)=(b:Int):=by show (b:Int)%18446744073709551616=_;omega
    by_cases hn:n / 2 ^ b=0
    · have hkn:knI n=k:=knI_at n k hlt (by rw [←hb];exact hn) hl
      clear hl hb
      go_wp2_with (go_at_call 45;refine cb.mono ?_;clear cb;rintro e w1 ⟨rfl,hw⟩;obtain rfl:=hw.symm)
      go_ret
      exact ⟨by rw [hkn];rfl,rfl⟩
    · have Hb:=Hid.mk' hb
      have Hl:=Hid.mk' hl
      clear hl hb
      go_wp2_with (go_at_call 45;refine cb.mono ?_;clear cb;rintro e w1 ⟨rfl,hw⟩;obtain rfl:=hw.symm)
      go_roundw
      case rel=>exact ⟨k+1,hlt,by go_num,trivial,fun q hq=>by
       by_cases e:q=k
       · subst e;rw [←Hb.out];exact hn
       · exact Hl.out q (by omega)⟩
      case measure=>simp [intOf];omega
  · obtain rfl:k=3:=by omega
    have hkn:=knI_none n hl
    clear hl
    go_wp2
    go_ret
    exact ⟨by rw [hkn];rfl,rfl⟩
theorem cLen11_kind (n k q:Nat) (hk:k<3) (hkn:knI n=k) (hq:bits .or .i64 ((k*2 ^ lbN k:Nat):Int) (n:Int)=(q:Int)) (w:World):Calls Try.prog 13 #[.int .i64 n] w fun e w'=>∃ v,e = .returned (.tuple #[v,.int .i64 0])∧BytesIn w' v (2 ^ k) (beN q (2 ^ k))∧Below w.heap.size w w':=by
 have c:=cKind_any n w
 rw [hkn] at c
 clear hkn
 have cb:=cBits_any k hk w.drew
 have bd:Below w.heap.size w w.drew:=(Below.refl _ _).drew
 rcases (show k=0∨k=1∨k=2 by omega) with rfl | rfl | rfl
 · have cs:=cSplit_any q 1 (by decide) w.drew
   replace hq:bits .or .i64 (0:Int) (n:Int)=(q:Int):=hq
   clear hk
   go_enter Try.func13,Try.ntmps13
   go_wp2_with (go_at_call 44;refine c.mono ?_;clear c;rintro e w1 ⟨rfl,hw⟩;obtain rfl:=hw.symm)
   go_upto_region 4 with (fail)
   refine wp_region_held_drew (S:=fun u=>Below w.drew.heap.size w.drew u) (by kernel_rfl) (Below.refl _ _) (fun hS => ?_)
   refine tg 0 hS ?_
   (try simp only [pS])
   refine tg 1 hS ?_
   (try simp only [pS])
   refine tg 4 hS ?_
   (try simp only [pS])
   refine tg 6 hS ?_
   (try simp only [pS])
   refine tg 7 hS (v := .int .i64 1) ?_ (hy:=fun u _=>by kernel_rfl)
   (try simp only [pS])
   refine cl 2 cb ?_
   rintro e w2 ⟨rfl,hw⟩
   obtain rfl:=hw.symm
   refine ⟨_,rfl,hS,?_⟩
   (try simp only [pS])
   refine tg 3 hS (v := .int .i64 0) ?_ (hy:=fun u _=>by kernel_rfl)
   (try simp only [pS])
   refine tg 5 hS (v := .int .i64 (q:Int)) ?_ (hy := ?_)
   rotate_left
   · exact fun u _=>Eq.trans (b := .ok (.value (.int .i64 (bits .or .i64 (0:Int) (n:Int)))) u) (by kernel_rfl) (by rw [hq])
   (try simp only [pS])
   refine cn 8 cs ?_
   rintro e w3 ⟨v3,rfl,hv3,b3⟩
   refine ⟨_,rfl,b3,?_⟩
   (try simp only [pS])
   refine tg 9 (Below.refl _ _) ?_
   (try simp only [pS])
   refine tg 10 (Below.refl _ _) ?_
   (try simp only [pS])
   refine wpAnyH_done (by kernel_rfl) ?_ _
   go_wp2
   go_ret2
   exact ⟨_,rfl,hv3,below_next bd b3⟩
 · have cs:=cSplit_any q 2 (by decide) w.drew
   replace hq:bits .or .i64 (16384:Int) (n:Int)=(q:Int):=hq
   clear hk
   go_enter Try.func13,Try.ntmps13
   go_wp2_with (go_at_call 44;refine c.mono ?_;clear c;rintro e w1 ⟨rfl,hw⟩;obtain rfl:=hw.symm)
   go_upto_region 4 with (fail)
   refine wp_region_held_drew (S:=fun u=>Below w.drew.heap.size w.drew u) (by kernel_rfl) (Below.refl _ _) (fun hS => ?_)
   refine tg 0 hS ?_
   (try simp only [pS])
   refine tg 1 hS ?_
   (try simp only [pS])
   refine tg 4 hS ?_
   (try simp only [pS])
   refine tg 6 hS ?_
   (try simp only [pS])
   refine tg 7 hS (v := .int .i64 2) ?_ (hy:=fun u _=>by kernel_rfl)
   (try simp only [pS])
   refine cl 2 cb ?_
   rintro e w2 ⟨rfl,hw⟩
   obtain rfl:=hw.symm
   refine ⟨_,rfl,hS,?_⟩
   (try simp only [pS])
   refine tg 3 hS (v := .int .i64 16384) ?_ (hy:=fun u _=>by kernel_rfl)
   (try simp only [pS])
   refine tg 5 hS (v := .int .i64 (q:Int)) ?_ (hy := ?_)
   rotate_left
   · exact fun u _=>Eq.trans (b := .ok (.value (.int .i64 (bits .or .i64 (16384:Int) (n:Int)))) u) (by kernel_rfl) (by rw [hq])
   (try simp only [pS])
   refine cn 8 cs ?_
   rintro e w3 ⟨v3,rfl,hv3,b3⟩
   refine ⟨_,rfl,b3,?_⟩
   (try simp only [pS])
   refine tg 9 (Below.refl _ _) ?_
   (try simp only [pS])
   refine tg 10 (Below.refl _ _) ?_
   (try simp only [pS])
   refine wpAnyH_done (by kernel_rfl) ?_ _
   go_wp2
   go_ret2
   exact ⟨_,rfl,hv3,below_next bd b3⟩
 · have cs:=cSplit_any q 4 (by decide) w.drew
   replace hq:bits .or .i64 (2147483648:Int) (n:Int)=(q:Int):=hq
   clear hk
   go_enter Try.func13,Try.ntmps13
   go_wp2_with (go_at_call 44;refine c.mono ?_;clear c;rintro e w1 ⟨rfl,hw⟩;obtain rfl:=hw.symm)
   go_upto_region 4 with (fail)
   refine wp_region_held_drew (S:=fun u=>Below w.drew.heap.size w.drew u) (by kernel_rfl) (Below.refl _ _) (fun hS => ?_)
   refine tg 0 hS ?_
   (try simp only [pS])
   refine tg 1 hS ?_
   (try simp only [pS])
   refine tg 4 hS ?_
   (try simp only [pS])
   refine tg 6 hS ?_
   (try simp only [pS])
   refine tg 7 hS (v := .int .i64 4) ?_ (hy:=fun u _=>by kernel_rfl)
   (try simp only [pS])
   refine cl 2 cb ?_
   rintro e w2 ⟨rfl,hw⟩
   obtain rfl:=hw.symm
   refine ⟨_,rfl,hS,?_⟩
   (try simp only [pS])
   refine tg 3 hS (v := .int .i64 2147483648) ?_ (hy:=fun u _=>by kernel_rfl)
   (try simp only [pS])
   refine tg 5 hS (v := .int .i64 (q:Int)) ?_ (hy := ?_)
   rotate_left
   · exact fun u _=>Eq.trans (b := .ok (.value (.int .i64 (bits .or .i64 (2147483648:Int) (n:Int)))) u) (by kernel_rfl) (by rw [hq])
   (try simp only [pS])
   refine cn 8 cs ?_
   rintro e w3 ⟨v3,rfl,hv3,b3⟩
   refine ⟨_,rfl,b3,?_⟩
   (try simp only [pS])
   refine tg 9 (Below.refl _ _) ?_
   (try simp only [pS])
   refine tg 10 (Below.refl _ _) ?_
   (try simp only [pS])
   refine wpAnyH_done (by kernel_rfl) ?_ _
   go_wp2
   go_ret2
   exact ⟨_,rfl,hv3,below_next bd b3⟩
theorem cLen11_good (n:Nat) (hn:n<1073741824) (w:World):Calls Try.prog 13 #[.int .i64 n] w fun e w'=>∃ v,e = .returned (.tuple #[v,.int .i64 0])∧BytesIn w' v (lnS n) (lnB n)∧Below w.heap.size w w':=by
 unfold lnB
 by_cases h2:n<64
 · have e1:lnW n=n:=by unfold lnW;rw [if_pos h2]
   have e2:lnS n=2 ^ 0:=by unfold lnS;rw [if_pos h2]
   rw [e1,e2]
   refine cLen11_kind n 0 n (by decide) (knI_at _ 0 (by decide) (show (n:Int) / 64=0 by omega) (fun q hq=>absurd hq (Nat.not_lt_zero _))) ?_ w
   have:=i64_or_nat 0 n (by decide) (by omega)
   rw [Nat.zero_or] at this
   exact this
 · have g0:¬(n:Int) / 64=0:=by omega
   by_cases h3:n<16384
   · have e1:lnW n=n+16384:=by unfold lnW;rw [if_neg h2,if_pos h3]
     have e2:lnS n=2 ^ 1:=by unfold lnS;rw [if_neg h2,if_pos h3]
     rw [e1,e2]
     refine cLen11_kind n 1 (n+16384) (by decide) (knI_at _ 1 (by decide) (show (n:Int) / 16384=0 by omega) (fun q hq=>by
      obtain rfl:q=0:=by omega
      exact g0)) ?_ w
     have h:=Nat.two_pow_add_eq_or_of_lt (i:=14) (b:=n) h3 1
     have:=i64_or_nat 16384 n (by decide) (by omega)
     rw [←(show 16384+n=16384 ||| n from h),Nat.add_comm] at this
     exact this
   · have g1:¬(n:Int) / 16384=0:=by omega
     have e1:lnW n=n+2147483648:=by unfold lnW;rw [if_neg h2,if_neg h3]
     have e2:lnS n=2 ^ 2:=by unfold lnS;rw [if_neg h2,if_neg h3]
     rw [e1,e2]
     refine cLen11_kind n 2 (n+2147483648) (by decide) (knI_at _ 2 (by decide) (show (n:Int) / 1073741824=0 by omega) (fun q hq=>by
      rcases (show q=0∨q=1 by omega) with rfl | rfl
      · exact g0
      · exact g1)) ?_ w
     have h:=Nat.two_pow_add_eq_or_of_lt (i:=31) (b:=n) (by omega) 1
     have:=i64_or_nat 2147483648 n (by decide) (by omega)
     rw [←(show 2147483648+n=2147483648 ||| n from h),Nat.add_comm] at this
     exact this
end Go.Proofs.Ytibgjjbnehhanaa
namespace Go.Proofs.Ytibgjjbnehhanaa
open Go.RowKit
def sumN (pn:Nat→Nat):Nat→Nat
 | 0=>0
 | i+1=>sumN pn i+pn i
def allB (pn:Nat→Nat) (pb:Nat→Nat→Nat):Nat→Nat→Nat
 | 0=>fun _=>0
 | i+1=>cat (sumN pn i) (allB pn pb i) (pb i)
structure PiecesIn (w:World) (xo:Option Addr) (cnt:Nat) (pv:Nat→Value) (pn:Nat→Nat) (pb:Nat→Nat→Nat):Prop where
 cell:∀ q,q<cnt→∃ lb lo,xo=some ⟨lb,lo,none⟩∧∀ i,i<cnt→w.cell? ⟨lb,lo+i,none⟩=some (pv i)
 each:∀ i,i<cnt→BytesIn w (pv i) (pn i) (pb i)
 byte:∀ i j,pb i j<256
theorem PiecesIn.keep {w w':World} {xo:Option Addr} {cnt:Nat} {pv:Nat→Value} {pn:Nat→Nat} {pb:Nat→Nat→Nat} (h:PiecesIn w xo cnt pv pn pb) (hb:Below w.heap.size w w'):PiecesIn w' xo cnt pv pn pb:=by
 refine ⟨fun q hq => ?_,fun i hi=>(h.each i hi).keep hb,h.byte⟩
 obtain ⟨lb,lo,rfl,hc⟩:=h.cell q hq
 exact ⟨lb,lo,rfl,fun i hi=>(hb.cell (p:=⟨lb,lo+i,none⟩) (block_lt_of_cell (hc i hi))).trans (hc i hi)⟩
def vsL (pn:Nat→Nat):Nat→Nat:=sumN (fun i=>vcL (pn i))
def vsB (pn:Nat→Nat) (pb:Nat→Nat→Nat):Nat→Nat→Nat:=allB (fun i=>vcL (pn i)) (fun i=>vcB (pn i) (pb i))
end Go.Proofs.Ytibgjjbnehhanaa
namespace Go.Proofs.Ytibgjjbnehhanaa
open Go.RowKit
theorem pow_step (t:Nat):2 ^ (8*(t+1))=2 ^ (8*t)*256:=by
 rw [Nat.mul_add,Nat.pow_add]
theorem be_nbN {B:Nat→Nat} (lB:∀ j,B j<256) (a:Nat):∀ s j,j<s→beN (nbN B a s) s j=B (a+j)
 | 0,j,hj=>absurd hj (Nat.not_lt_zero _)
 | s+1,j,hj=>by
  have hb:=lB (a+s)
  have e:nbN B a (s+1)=nbN B a s*256+B (a+s):=rfl
  by_cases h:j=s
  · subst h
    unfold beN
    rw [show j+1 - 1 - j=0 by omega,e,Nat.mul_zero,Nat.pow_zero,Nat.div_one]
    omega
  · have ih:=be_nbN lB a s j (by omega)
    unfold beN at ih ⊢
    rw [show s+1 - 1 - j=(s - 1 - j)+1 by omega,pow_step,Nat.mul_comm (2 ^ (8*(s - 1 - j))) 256,←Nat.div_div_eq_div_mul,e,show (nbN B a s*256+B (a+s)) / 256=nbN B a s by omega]
    exact ih
theorem nbN_one (B:Nat→Nat) (a:Nat):nbN B a 1=B a:=by show 0*256+B (a+0)=_;rw [Nat.add_zero];omega
theorem nbN_two (B:Nat→Nat) (a:Nat):nbN B a 2=B a*256+B (a+1):=by show nbN B a 1*256+_=_;rw [nbN_one]
theorem nbN_four (B:Nat→Nat) (a:Nat):nbN B a 4=((B a*256+B (a+1))*256+B (a+2))*256+B (a+3):=by show (nbN B a 2*256+_)*256+_=_;rw [nbN_two]
theorem lenD_said {L:Nat} {B:Nat→Nat} {r:Rd} (lB:∀ j,B j<256) (hr:r.e=0) (hl:r.at_≤L) (h:(lenD L B r).2.e=0):(lenD L B r).1<1073741824∧(lenD L B r).2.at_=r.at_+lnS (lenD L B r).1∧(lenD L B r).2.at_≤L∧∀ j,j<lnS (lenD L B r).1→B (r.at_+j)=lnB (lenD L B r).1 j:=by
 have b0:=lB r.at_
 have b1:=lB (r.at_+1)
 have b2:=lB (r.at_+2)
 have b3:=lB (r.at_+3)
 obtain ⟨p,hp⟩:∃ p,p=lenD L B r:=⟨_,rfl⟩
 rw [←hp] at h ⊢
 unfold lenD at hp
 rw [if_neg (fun e=>e hr)] at hp
 by_cases h0:L=r.at_
 · rw [if_pos h0] at hp;subst hp;cases h
 rw [if_neg h0] at hp
 by_cases h3:B r.at_ / 64=3
 · rw [if_pos h3] at hp;subst hp;cases h
 rw [if_neg h3] at hp
 rcases (show B r.at_ / 64=0∨B r.at_ / 64=1∨B r.at_ / 64=2 by omega) with ht | ht | ht
 · rw [ht,show (2:Nat) ^ 0=1 from rfl,if_neg (by omega),if_neg (by omega),nbN_one,show B r.at_%2 ^ (8*1 - 2)=B r.at_ from Nat.mod_eq_of_lt (show B r.at_<64 by omega)] at hp
   subst hp
   dsimp only
   have h1:B r.at_<64:=by omega
   have e1:lnS (B r.at_)=1:=by unfold lnS;rw [if_pos h1]
   have e2:lnW (B r.at_)=B r.at_:=by unfold lnW;rw [if_pos h1]
   refine ⟨by omega,by rw [e1],by omega,fun j hj => ?_⟩
   unfold lnB
   rw [e1] at hj
   rw [e1,e2,←be_nbN lB r.at_ 1 j hj,nbN_one]
 · rw [ht,show (2:Nat) ^ 1=2 from rfl] at hp
   by_cases h2:L - r.at_<2
   · rw [if_pos h2] at hp;subst hp;cases h
   rw [if_neg h2,show (2:Nat) ^ (8*2 - 2)=16384 from rfl] at hp
   by_cases h4:nbN B r.at_ 2%16384<64
   · rw [if_pos (.inl ⟨rfl,h4⟩)] at hp;subst hp;cases h
   rw [if_neg (fun e=>e.elim (fun e=>h4 e.2) (fun e=>absurd e.1 (by decide)))] at hp
   subst hp
   dsimp only
   obtain ⟨N,hN⟩:∃ N,N=nbN B r.at_ 2:=⟨_,rfl⟩
   have hN':=hN
   rw [nbN_two] at hN'
   have hb:=fun j hj=>be_nbN lB r.at_ 2 j hj
   rw [←hN] at h4 hb ⊢
   have h1:¬N%16384<64:=h4
   have h5:N%16384<16384:=Nat.mod_lt _ (by decide)
   have e1:lnS (N%16384)=2:=by unfold lnS;rw [if_neg h1,if_pos h5]
   have e2:lnW (N%16384)=N:=by unfold lnW;rw [if_neg h1,if_pos h5];omega
   refine ⟨by omega,by rw [e1],by omega,fun j hj => ?_⟩
   unfold lnB
   rw [e1] at hj
   rw [e1,e2,hb j hj]
 · rw [ht,show (2:Nat) ^ 2=4 from rfl] at hp
   by_cases h2:L - r.at_<4
   · rw [if_pos h2] at hp;subst hp;cases h
   rw [if_neg h2,show (2:Nat) ^ (8*4 - 2)=1073741824 from rfl] at hp
   by_cases h4:nbN B r.at_ 4%1073741824<16384
   · rw [if_pos (.inr ⟨rfl,h4⟩)] at hp;subst hp;cases h
   rw [if_neg (fun e=>e.elim (fun e=>absurd e.1 (by decide)) (fun e=>h4 e.2))] at hp
   subst hp
   dsimp only
   obtain ⟨N,hN⟩:∃ N,N=nbN B r.at_ 4:=⟨_,rfl⟩
   have hN':=hN
   rw [nbN_four] at hN'
   have hb:=fun j hj=>be_nbN lB r.at_ 4 j hj
   rw [←hN] at h4 hb ⊢
   have h1:¬N%1073741824<64:=by omega
   have e1:lnS (N%1073741824)=4:=by unfold lnS;rw [if_neg h1,if_neg h4]
   have e2:lnW (N%1073741824)=N:=by unfold lnW;rw [if_neg h1,if_neg h4];omega
   refine ⟨Nat.mod_lt _ (by decide),by rw [e1],by omega,fun j hj => ?_⟩
   unfold lnB
   rw [e1] at hj
   rw [e1,e2,hb j hj]
end Go.Proofs.Ytibgjjbnehhanaa
namespace Go.Proofs.Ytibgjjbnehhanaa
open Go.RowKit
theorem lenD_shift (L:Nat) (B:Nat→Nat) (a:Nat) (ha:a≤L):lenD L B ⟨a,0⟩=((lenD (L - a) (fun j=>B (a+j)) ⟨0,0⟩).1,⟨a+(lenD (L - a) (fun j=>B (a+j)) ⟨0,0⟩).2.at_,(lenD (L - a) (fun j=>B (a+j)) ⟨0,0⟩).2.e⟩):=by
 unfold lenD
 simp only [nbN_shift,Nat.add_zero,ne_eq,not_true_eq_false,if_false]
 by_cases h0:L=a
 · rw [if_pos h0,if_pos (by omega)];rfl
 rw [if_neg h0,if_neg (show ¬L - a=0 by omega)]
 by_cases h1:B a / 64=3
 · rw [if_pos h1,if_pos h1];rfl
 rw [if_neg h1,if_neg h1,Nat.sub_zero]
 by_cases h2:L - a<2 ^ (B a / 64)
 · rw [if_pos h2,if_pos h2];rfl
 rw [if_neg h2,if_neg h2]
 split
 · rfl
 · simp
theorem wp_scope_fwd {P:Program} {a:Act} {w:World} {Q:Exit→Act→World→Prop} {c rest:Code} (l:Nat) (hf:findLabel c l=some rest) (first:c.wp P (Exit.jump l (fun a w=>rest.wp P (Exit.noGoto Q) a w) Q) a w):(Code.scope c).wp P Q a w :=
 wp_scope_jumps l (fun a w=>rest.wp P (Exit.noGoto Q) a w) (fun _ _=>0) hf first fun a w h=>Code.wp_mono (fun e a w hq=>by
  cases e with
  | goto l=>exact absurd hq (fun h=>h)
  | _=>exact hq) h
theorem jump_ret {l:Nat} {J:Act→World→Prop} {Q:Exit→Act→World→Prop} {a:Act} {w:World}:Exit.jump l J Q .ret a w=Q .ret a w:=rfl
def ansL (p:Nat × Rd):Ending := .returned (.tuple #[.int .i64 ((p.1:Nat):Int),.int .i64 ((p.2.at_:Nat):Int),.int .i64 p.2.e])
set_option maxRecDepth 20000 in
set_option maxHeartbeats 4000000 in
theorem cLenAt_empty (v:Value) (B:Nat→Nat) (w:World) (hv:BytesIn w v 0 B):Calls Try.prog 53 #[v] w fun e w'=>e = .returned (.tuple #[.int .i64 0,.int .i64 0,.int .i64 20])∧w'=w:=by
 obtain ⟨xo,cx,rfl,-,-,-⟩:=hv.src
 clear hv
 go_enter Try.func53,Try.ntmps53
 go_wp2
 refine wp_scope_fwd 0 rfl ?_
 go_wp2
 go_step3
 refine ⟨rfl,?_⟩
 go_wp2
 rw [Exit.noGoto_ret]
 go_ret3
 exact ⟨rfl,rfl⟩
theorem at_first {w:World} {v:Value} {L:Nat} {B:Nat→Nat} (hv:BytesIn w v L B) (h0:0<L):∃ bb ob cap,v = .slice (some ⟨bb,ob,none⟩) L cap∧w.cell? ⟨bb,ob,none⟩=some (.int .u8 ((B 0:Nat):Int)):=by
 rcases hv with ⟨xo,-,h⟩ | ⟨bb,ob,cap,rfl,hbb,hc,hcell⟩
 · omega
 · exact ⟨bb,ob,cap,rfl,hcell 0 h0⟩
set_option maxRecDepth 20000 in
set_option maxHeartbeats 4000000 in
theorem cLenAt_three (v:Value) (L:Nat) (B:Nat→Nat) (w:World) (hv:BytesIn w v L B) (h0:0<L) (ht:B 0 / 64=3):Calls Try.prog 53 #[v] w fun e w'=>e = .returned (.tuple #[.int .i64 0,.int .i64 0,.int .i64 21])∧w'=w:=by
 obtain ⟨bb,ob,cap,rfl,f0⟩:=at_first hv h0
 obtain ⟨y,hy⟩:∃ y,y=B 0:=⟨_,rfl⟩
 rw [←hy] at ht f0
 have e1:(y:Int) / 64=3:=by omega
 have t0:¬(L:Int)=0:=by omega
 have t1:(0:Int)<(L:Int):=by omega
 clear hv ht hy
 go_enter Try.func53,Try.ntmps53
 go_wp2
 refine wp_scope_fwd 0 rfl ?_
 go_wp2
 go_step3
 refine ⟨rfl,?_⟩
 go_wp2
 rw [Exit.noGoto_ret]
 go_ret3
 exact ⟨rfl,rfl⟩
set_option maxRecDepth 20000 in
set_option maxHeartbeats 4000000 in
theorem cLenAt_end2 (v:Value) (L:Nat) (B:Nat→Nat) (w:World) (hv:BytesIn w v L B) (h0:0<L) (ht:B 0 / 64=1) (h2:L<2):Calls Try.prog 53 #[v] w fun e w'=>e = .returned (.tuple #[.int .i64 0,.int .i64 0,.int .i64 20])∧w'=w:=by
 obtain ⟨bb,ob,cap,rfl,f0⟩:=at_first hv h0
 obtain ⟨y,hy⟩:∃ y,y=B 0:=⟨_,rfl⟩
 rw [←hy] at ht f0
 have e1:(y:Int) / 64=1:=by omega
 have t0:¬(L:Int)=0:=by omega
 have t1:(0:Int)<(L:Int):=by omega
 have t3:(L:Int)<2:=by omega
 clear h2
 clear hv ht hy
 go_enter Try.func53,Try.ntmps53
 go_wp2
 refine wp_scope_fwd 0 rfl ?_
 go_wp2
 go_step3
 refine ⟨rfl,?_⟩
 go_wp2
 rw [Exit.noGoto_ret]
 go_ret3
 exact ⟨rfl,rfl⟩
set_option maxRecDepth 20000 in
set_option maxHeartbeats 4000000 in
theorem cLenAt_end4 (v:Value) (L:Nat) (B:Nat→Nat) (w:World) (hv:BytesIn w v L B) (h0:0<L) (ht:B 0 / 64=2) (h2:L<4):Calls Try.prog 53 #[v] w fun e w'=>e = .returned (.tuple #[.int .i64 0,.int .i64 0,.int .i64 20])∧w'=w:=by
 obtain ⟨bb,ob,cap,rfl,f0⟩:=at_first hv h0
 obtain ⟨y,hy⟩:∃ y,y=B 0:=⟨_,rfl⟩
 rw [←hy] at ht f0
 have e1:(y:Int) / 64=2:=by omega
 have t0:¬(L:Int)=0:=by omega
 have t1:(0:Int)<(L:Int):=by omega
 have t3:(L:Int)<4:=by omega
 clear h2
 clear hv ht hy
 go_enter Try.func53,Try.ntmps53
 go_wp2
 refine wp_scope_fwd 0 rfl ?_
 go_wp2
 go_step3
 refine ⟨rfl,?_⟩
 go_wp2
 rw [Exit.noGoto_ret]
 go_ret3
 exact ⟨rfl,rfl⟩
set_option maxRecDepth 20000 in
set_option maxHeartbeats 4000000 in
theorem cLenAt_good1 (v:Value) (L:Nat) (B:Nat→Nat) (lB:∀ j,B j<256) (w:World) (hv:BytesIn w v L B) (h0:0<L) (ht:B 0 / 64=0) (h2:1≤L) (h3:knI ((nbN B 0 1%64:Nat):Int)=0):Calls Try.prog 53 #[v] w fun e w'=>e = .returned (.tuple #[.int .i64 ((nbN B 0 1%64:Nat):Int),.int .i64 1,.int .i64 0])∧w'=w:=by
 obtain ⟨bb,ob,cap,rfl,f0⟩:=at_first hv h0
 obtain ⟨xo,cx,x1,c1,-,-,e0,-,hsl,hv1,-,-⟩:=(BI.all hv).cut 1 (by omega)
 cases e0
 replace hsl:∀ W:World,(Instr.sliceAt 22 (.slice (some ⟨bb,ob,none⟩) L cap) none (some (.int .i64 1)) none).run Try.prog W = .ok (.slice x1 1 c1) W:=hsl
 have cj:=cJoin_any _ 1 B lB (by decide) w (hv1.of (Nat.le_refl _))
 have cb:Calls Try.prog 45 #[.int .i64 0] w fun e w'=>e = .returned (.int .i64 6)∧w'=w:=cBits_any 0 (by decide) w
 have hN:nbN B 0 1 / 64=0:=by
  rw [nbN_one]
  try simp only [Nat.zero_add]
  have:=lB 0
  have:=lB 1
  have:=lB 2
  have:=lB 3
  omega
 obtain ⟨m,hm⟩:∃ m:Int,m=((nbN B 0 1%64:Nat):Int):=⟨_,rfl⟩
 have ck:=cKind_any m w
 rw [←hm] at h3 ⊢
 obtain ⟨z,hz⟩:∃ z:Int,z=((nbN B 0 1:Nat):Int):=⟨_,rfl⟩
 rw [←hz] at cj
 have e8:wrap64 (wrap64 z)=m:=by unfold wrap64;omega
 replace ck:Calls Try.prog 44 #[.int .i64 m] w fun e w'=>e = .returned (.int .i64 0)∧w'=w:=by rw [h3] at ck;exact ck
 obtain ⟨y,hy⟩:∃ y,y=B 0:=⟨_,rfl⟩
 rw [←hy] at ht f0
 have e1:(y:Int) / 64=0:=by omega
 have t0:¬(L:Int)=0:=by omega
 have t1:(0:Int)<(L:Int):=by omega
 have t3:¬(L:Int)<1:=by omega
 clear hv ht hy h2 hN hm hz hv1 h3
 go_enter Try.func53,Try.ntmps53
 go_wp2
 refine wp_scope_fwd 0 rfl ?_
 go_wp2_with (first
  | (go_at_call 50;refine cj.mono ?_;clear cj;rintro e w1 ⟨rfl,hw⟩;obtain rfl:=hw.symm)
  | (go_at_call 45;refine cb.mono ?_;clear cb;rintro e w1 ⟨rfl,hw⟩;obtain rfl:=hw.symm)
  | (go_at_call 44;(try rw [e8]);with_reducible refine ck.mono ?_;clear ck;rintro e w1 ⟨rfl,hw⟩;obtain rfl:=hw.symm))
 rw [jump_ret]
 go_ret3
 exact ⟨rfl,rfl⟩
set_option maxRecDepth 20000 in
set_option maxHeartbeats 4000000 in
theorem cLenAt_good2 (v:Value) (L:Nat) (B:Nat→Nat) (lB:∀ j,B j<256) (w:World) (hv:BytesIn w v L B) (h0:0<L) (ht:B 0 / 64=1) (h2:2≤L) (h3:knI ((nbN B 0 2%16384:Nat):Int)=1):Calls Try.prog 53 #[v] w fun e w'=>e = .returned (.tuple #[.int .i64 ((nbN B 0 2%16384:Nat):Int),.int .i64 2,.int .i64 0])∧w'=w:=by
 obtain ⟨bb,ob,cap,rfl,f0⟩:=at_first hv h0
 obtain ⟨xo,cx,x1,c1,-,-,e0,-,hsl,hv1,-,-⟩:=(BI.all hv).cut 2 (by omega)
 cases e0
 replace hsl:∀ W:World,(Instr.sliceAt 22 (.slice (some ⟨bb,ob,none⟩) L cap) none (some (.int .i64 2)) none).run Try.prog W = .ok (.slice x1 2 c1) W:=hsl
 have cj:=cJoin_any _ 2 B lB (by decide) w (hv1.of (Nat.le_refl _))
 have cb:Calls Try.prog 45 #[.int .i64 1] w fun e w'=>e = .returned (.int .i64 14)∧w'=w:=cBits_any 1 (by decide) w
 have hN:nbN B 0 2 / 16384=1:=by
  rw [nbN_two]
  try simp only [Nat.zero_add]
  have:=lB 0
  have:=lB 1
  have:=lB 2
  have:=lB 3
  omega
 obtain ⟨m,hm⟩:∃ m:Int,m=((nbN B 0 2%16384:Nat):Int):=⟨_,rfl⟩
 have ck:=cKind_any m w
 rw [←hm] at h3 ⊢
 obtain ⟨z,hz⟩:∃ z:Int,z=((nbN B 0 2:Nat):Int):=⟨_,rfl⟩
 rw [←hz] at cj
 have e8:wrap64 (wrap64 z - 16384)=m:=by unfold wrap64;omega
 replace ck:Calls Try.prog 44 #[.int .i64 m] w fun e w'=>e = .returned (.int .i64 1)∧w'=w:=by rw [h3] at ck;exact ck
 obtain ⟨y,hy⟩:∃ y,y=B 0:=⟨_,rfl⟩
 rw [←hy] at ht f0
 have e1:(y:Int) / 64=1:=by omega
 have t0:¬(L:Int)=0:=by omega
 have t1:(0:Int)<(L:Int):=by omega
 have t3:¬(L:Int)<2:=by omega
 clear hv ht hy h2 hN hm hz hv1 h3
 go_enter Try.func53,Try.ntmps53
 go_wp2
 refine wp_scope_fwd 0 rfl ?_
 go_wp2_with (first
  | (go_at_call 50;refine cj.mono ?_;clear cj;rintro e w1 ⟨rfl,hw⟩;obtain rfl:=hw.symm)
  | (go_at_call 45;refine cb.mono ?_;clear cb;rintro e w1 ⟨rfl,hw⟩;obtain rfl:=hw.symm)
  | (go_at_call 44;(try rw [e8]);with_reducible refine ck.mono ?_;clear ck;rintro e w1 ⟨rfl,hw⟩;obtain rfl:=hw.symm))
 rw [jump_ret]
 go_ret3
 exact ⟨rfl,rfl⟩
set_option maxRecDepth 20000 in
set_option maxHeartbeats 4000000 in
theorem cLenAt_good4 (v:Value) (L:Nat) (B:Nat→Nat) (lB:∀ j,B j<256) (w:World) (hv:BytesIn w v L B) (h0:0<L) (ht:B 0 / 64=2) (h2:4≤L) (h3:knI ((nbN B 0 4%1073741824:Nat):Int)=2):Calls Try.prog 53 #[v] w fun e w'=>e = .returned (.tuple #[.int .i64 ((nbN B 0 4%1073741824:Nat):Int),.int .i64 4,.int .i64 0])∧w'=w:=by
 obtain ⟨bb,ob,cap,rfl,f0⟩:=at_first hv h0
 obtain ⟨xo,cx,x1,c1,-,-,e0,-,hsl,hv1,-,-⟩:=(BI.all hv).cut 4 (by omega)
 cases e0
 replace hsl:∀ W:World,(Instr.sliceAt 22 (.slice (some ⟨bb,ob,none⟩) L cap) none (some (.int .i64 4)) none).run Try.prog W = .ok (.slice x1 4 c1) W:=hsl
 have cj:=cJoin_any _ 4 B lB (by decide) w (hv1.of (Nat.le_refl _))
 have cb:Calls Try.prog 45 #[.int .i64 2] w fun e w'=>e = .returned (.int .i64 30)∧w'=w:=cBits_any 2 (by decide) w
 have hN:nbN B 0 4 / 1073741824=2:=by
  rw [nbN_four]
  try simp only [Nat.zero_add]
  have:=lB 0
  have:=lB 1
  have:=lB 2
  have:=lB 3
  omega
 obtain ⟨m,hm⟩:∃ m:Int,m=((nbN B 0 4%1073741824:Nat):Int):=⟨_,rfl⟩
 have ck:=cKind_any m w
 rw [←hm] at h3 ⊢
 obtain ⟨z,hz⟩:∃ z:Int,z=((nbN B 0 4:Nat):Int):=⟨_,rfl⟩
 rw [←hz] at cj
 have e8:wrap64 (wrap64 z - 2147483648)=m:=by unfold wrap64;omega
 replace ck:Calls Try.prog 44 #[.int .i64 m] w fun e w'=>e = .returned (.int .i64 2)∧w'=w:=by rw [h3] at ck;exact ck
 obtain ⟨y,hy⟩:∃ y,y=B 0:=⟨_,rfl⟩
 rw [←hy] at ht f0
 have e1:(y:Int) / 64=2:=by omega
 have t0:¬(L:Int)=0:=by omega
 have t1:(0:Int)<(L:Int):=by omega
 have t3:¬(L:Int)<4:=by omega
 clear hv ht hy h2 hN hm hz hv1 h3
 go_enter Try.func53,Try.ntmps53
 go_wp2
 refine wp_scope_fwd 0 rfl ?_
 go_wp2_with (first
  | (go_at_call 50;refine cj.mono ?_;clear cj;rintro e w1 ⟨rfl,hw⟩;obtain rfl:=hw.symm)
  | (go_at_call 45;refine cb.mono ?_;clear cb;rintro e w1 ⟨rfl,hw⟩;obtain rfl:=hw.symm)
  | (go_at_call 44;(try rw [e8]);with_reducible refine ck.mono ?_;clear ck;rintro e w1 ⟨rfl,hw⟩;obtain rfl:=hw.symm))
 rw [jump_ret]
 go_ret3
 exact ⟨rfl,rfl⟩
set_option maxRecDepth 20000 in
set_option maxHeartbeats 4000000 in
theorem cLenAt_form2 (v:Value) (L:Nat) (B:Nat→Nat) (lB:∀ j,B j<256) (w:World) (hv:BytesIn w v L B) (h0:0<L) (ht:B 0 / 64=1) (h2:2≤L) (h3:¬knI ((nbN B 0 2%16384:Nat):Int)=1):Calls Try.prog 53 #[v] w fun e w'=>e = .returned (.tuple #[.int .i64 0,.int .i64 0,.int .i64 21])∧w'=w:=by
 obtain ⟨bb,ob,cap,rfl,f0⟩:=at_first hv h0
 obtain ⟨xo,cx,x1,c1,-,-,e0,-,hsl,hv1,-,-⟩:=(BI.all hv).cut 2 (by omega)
 cases e0
 replace hsl:∀ W:World,(Instr.sliceAt 22 (.slice (some ⟨bb,ob,none⟩) L cap) none (some (.int .i64 2)) none).run Try.prog W = .ok (.slice x1 2 c1) W:=hsl
 have cj:=cJoin_any _ 2 B lB (by decide) w (hv1.of (Nat.le_refl _))
 have cb:Calls Try.prog 45 #[.int .i64 1] w fun e w'=>e = .returned (.int .i64 14)∧w'=w:=cBits_any 1 (by decide) w
 have hN:nbN B 0 2 / 16384=1:=by
  rw [nbN_two]
  try simp only [Nat.zero_add]
  have:=lB 0
  have:=lB 1
  have:=lB 2
  have:=lB 3
  omega
 obtain ⟨m,hm⟩:∃ m:Int,m=((nbN B 0 2%16384:Nat):Int):=⟨_,rfl⟩
 have ck:=cKind_any m w
 rw [←hm] at h3
 obtain ⟨z,hz⟩:∃ z:Int,z=((nbN B 0 2:Nat):Int):=⟨_,rfl⟩
 rw [←hz] at cj
 have e8:wrap64 (wrap64 z - 16384)=m:=by unfold wrap64;omega
 obtain ⟨q,hq⟩:∃ q:Int,q=((knI m:Nat):Int):=⟨_,rfl⟩
 rw [←hq] at ck
 have t7:¬q=1:=by omega
 clear hq
 obtain ⟨y,hy⟩:∃ y,y=B 0:=⟨_,rfl⟩
 rw [←hy] at ht f0
 have e1:(y:Int) / 64=1:=by omega
 have t0:¬(L:Int)=0:=by omega
 have t1:(0:Int)<(L:Int):=by omega
 have t3:¬(L:Int)<2:=by omega
 clear hv ht hy h2 hN hm hz hv1 h3
 go_enter Try.func53,Try.ntmps53
 go_wp2
 refine wp_scope_fwd 0 rfl ?_
 go_wp2_with (first
  | (go_at_call 50;refine cj.mono ?_;clear cj;rintro e w1 ⟨rfl,hw⟩;obtain rfl:=hw.symm)
  | (go_at_call 45;refine cb.mono ?_;clear cb;rintro e w1 ⟨rfl,hw⟩;obtain rfl:=hw.symm)
  | (go_at_call 44;(try rw [e8]);with_reducible refine ck.mono ?_;clear ck;rintro e w1 ⟨rfl,hw⟩;obtain rfl:=hw.symm))
 go_step3
 refine ⟨rfl,?_⟩
 go_wp2
 rw [Exit.noGoto_ret]
 go_ret3
 exact ⟨rfl,rfl⟩
set_option maxRecDepth 20000 in
set_option maxHeartbeats 4000000 in
theorem cLenAt_form4 (v:Value) (L:Nat) (B:Nat→Nat) (lB:∀ j,B j<256) (w:World) (hv:BytesIn w v L B) (h0:0<L) (ht:B 0 / 64=2) (h2:4≤L) (h3:¬knI ((nbN B 0 4%1073741824:Nat):Int)=2):Calls Try.prog 53 #[v] w fun e w'=>e = .returned (.tuple #[.int .i64 0,.int .i64 0,.int .i64 21])∧w'=w:=by
 obtain ⟨bb,ob,cap,rfl,f0⟩:=at_first hv h0
 obtain ⟨xo,cx,x1,c1,-,-,e0,-,hsl,hv1,-,-⟩:=(BI.all hv).cut 4 (by omega)
 cases e0
 replace hsl:∀ W:World,(Instr.sliceAt 22 (.slice (some ⟨bb,ob,none⟩) L cap) none (some (.int .i64 4)) none).run Try.prog W = .ok (.slice x1 4 c1) W:=hsl
 have cj:=cJoin_any _ 4 B lB (by decide) w (hv1.of (Nat.le_refl _))
 have cb:Calls Try.prog 45 #[.int .i64 2] w fun e w'=>e = .returned (.int .i64 30)∧w'=w:=cBits_any 2 (by decide) w
 have hN:nbN B 0 4 / 1073741824=2:=by
  rw [nbN_four]
  try simp only [Nat.zero_add]
  have:=lB 0
  have:=lB 1
  have:=lB 2
  have:=lB 3
  omega
 obtain ⟨m,hm⟩:∃ m:Int,m=((nbN B 0 4%1073741824:Nat):Int):=⟨_,rfl⟩
 have ck:=cKind_any m w
 rw [←hm] at h3
 obtain ⟨z,hz⟩:∃ z:Int,z=((nbN B 0 4:Nat):Int):=⟨_,rfl⟩
 rw [←hz] at cj
 have e8:wrap64 (wrap64 z - 2147483648)=m:=by unfold wrap64;omega
 obtain ⟨q,hq⟩:∃ q:Int,q=((knI m:Nat):Int):=⟨_,rfl⟩
 rw [←hq] at ck
 have t7:¬q=2:=by omega
 clear hq
 obtain ⟨y,hy⟩:∃ y,y=B 0:=⟨_,rfl⟩
 rw [←hy] at ht f0
 have e1:(y:Int) / 64=2:=by omega
 have t0:¬(L:Int)=0:=by omega
 have t1:(0:Int)<(L:Int):=by omega
 have t3:¬(L:Int)<4:=by omega
 clear hv ht hy h2 hN hm hz hv1 h3
 go_enter Try.func53,Try.ntmps53
 go_wp2
 refine wp_scope_fwd 0 rfl ?_
 go_wp2_with (first
  | (go_at_call 50;refine cj.mono ?_;clear cj;rintro e w1 ⟨rfl,hw⟩;obtain rfl:=hw.symm)
  | (go_at_call 45;refine cb.mono ?_;clear cb;rintro e w1 ⟨rfl,hw⟩;obtain rfl:=hw.symm)
  | (go_at_call 44;(try rw [e8]);with_reducible refine ck.mono ?_;clear ck;rintro e w1 ⟨rfl,hw⟩;obtain rfl:=hw.symm))
 go_step3
 refine ⟨rfl,?_⟩
 go_wp2
 rw [Exit.noGoto_ret]
 go_ret3
 exact ⟨rfl,rfl⟩
theorem knI_eq (m k:Nat) (_hk:k<3):knI (m:Int)=k↔(if m<64 then 0 else if m<16384 then 1 else if m<1073741824 then 2 else 3)=k:=by
 unfold knI
 have e0:(m:Int) / 2 ^ 6=0↔m<64:=by show (m:Int) / 64=0↔_;omega
 have e1:(m:Int) / 2 ^ 14=0↔m<16384:=by show (m:Int) / 16384=0↔_;omega
 have e2:(m:Int) / 2 ^ 30=0↔m<1073741824:=by show (m:Int) / 1073741824=0↔_;omega
 simp only [e0,e1,e2]
theorem cLenAt_any (v:Value) (L:Nat) (B:Nat→Nat) (lB:∀ j,B j<256) (w:World) (hv:BytesIn w v L B):Calls Try.prog 53 #[v] w fun e w'=>e=ansL (lenD L B ⟨0,0⟩)∧w'=w:=by
 unfold lenD ansL
 rw [if_neg (fun h=>h rfl)]
 have hy:=lB 0
 by_cases h0:L=0
 · subst h0
   rw [if_pos rfl]
   exact cLenAt_empty v B w hv
 rw [if_neg h0]
 by_cases h3:B 0 / 64=3
 · rw [if_pos h3]
   exact cLenAt_three v L B w hv (by omega) h3
 rw [if_neg h3]
 simp only [Nat.sub_zero,Nat.zero_add]
 rcases (show B 0 / 64=0∨B 0 / 64=1∨B 0 / 64=2 by omega) with ht | ht | ht
 · rw [ht,show (2:Nat) ^ 0=1 from rfl,if_neg (by omega),if_neg (by omega)]
   exact cLenAt_good1 v L B lB w hv (by omega) ht (by omega) ((knI_eq _ 0 (by decide)).2 (if_pos (Nat.mod_lt _ (by decide))))
 · rw [ht,show (2:Nat) ^ 1=2 from rfl,show (2:Nat) ^ (8*2 - 2)=16384 from rfl]
   by_cases h2:L<2
   · rw [if_pos h2]
     exact cLenAt_end2 v L B w hv (by omega) ht h2
   rw [if_neg h2]
   have hm:=Nat.mod_lt (nbN B 0 2) (show 16384 > 0 by decide)
   by_cases h4:nbN B 0 2%16384<64
   · rw [if_pos (.inl ⟨rfl,h4⟩)]
     exact cLenAt_form2 v L B lB w hv (by omega) ht (by omega) (fun e=>by
      rw [knI_eq _ 1 (by decide),if_pos h4] at e
      exact absurd e (by decide))
   rw [if_neg (fun e=>e.elim (fun e=>h4 e.2) (fun e=>absurd e.1 (by decide)))]
   exact cLenAt_good2 v L B lB w hv (by omega) ht (by omega) ((knI_eq _ 1 (by decide)).2 (by rw [if_neg h4,if_pos hm]))
 · rw [ht,show (2:Nat) ^ 2=4 from rfl,show (2:Nat) ^ (8*4 - 2)=1073741824 from rfl]
   by_cases h2:L<4
   · rw [if_pos h2]
     exact cLenAt_end4 v L B w hv (by omega) ht h2
   rw [if_neg h2]
   have hm:=Nat.mod_lt (nbN B 0 4) (show 1073741824 > 0 by decide)
   by_cases h4:nbN B 0 4%1073741824<16384
   · rw [if_pos (.inr ⟨rfl,h4⟩)]
     exact cLenAt_form4 v L B lB w hv (by omega) ht (by omega) (fun e=>by
      rw [knI_eq _ 2 (by decide),if_pos h4] at e
      by_cases h5:nbN B 0 4%1073741824<64
      · rw [if_pos h5] at e;exact absurd e (by decide)
      · rw [if_neg h5] at e;exact absurd e (by decide))
   rw [if_neg (fun e=>e.elim (fun e=>absurd e.1 (by decide)) (fun e=>h4 e.2))]
   exact cLenAt_good4 v L B lB w hv (by omega) ht (by omega) ((knI_eq _ 2 (by decide)).2 (by rw [if_neg (show ¬nbN B 0 4%1073741824<64 by omega),if_neg h4,if_pos hm]))
end Go.Proofs.Ytibgjjbnehhanaa
namespace Go.Proofs.Ytibgjjbnehhanaa
open Go.RowKit
theorem BI.at0 {lo hi:Nat} {w:World} {v:Value} {n:Nat} {B:Nat→Nat} (h:BI lo hi w v n B) {g:Nat} {u:Value} (hc:w.cell? ⟨g,0,none⟩=some u) {m:Nat} {C:Nat→Nat} (hu:BI lo hi w u m C) (y:Value):BI lo hi (w.setCell ⟨g,0,none⟩ y) v n B:=by
 refine h.put hc (fun z e => ?_) y
 rcases hu with ⟨xo,rfl,_⟩ | ⟨bb,ob,cap,rfl,_⟩
 · cases e
 · cases e
set_option maxRecDepth 20000 in
set_option maxHeartbeats 2000000 in
theorem cPass_any (lo hi g L:Nat) (B:Nat→Nat) (r:Rd) (n:Nat) (hn:r.at_+n≤L) (w:World) (h:RdC lo hi w g L B r):Calls Try.prog 51 #[.pointer (some ⟨g,0,none⟩),.int .i64 (n:Int)] w fun e w'=>∃ v,e = .returned v∧BI lo hi w' v n (fun j=>B (r.at_+j))∧RdC lo hi w' g L B ⟨r.at_+n,r.e⟩∧Out g 0 2 w w':=by
 obtain ⟨v,⟨c0,z0⟩,-,-,hv⟩:=h.cells
 obtain ⟨xo,cx,x1,c1,x2,c2,rfl,-,hs1,hv1,hs2,hv2⟩:=hv.cut n (by omega)
 have e1:L - r.at_ - n=L - (r.at_+n):=by omega
 rw [e1] at hs2 hv2
 have hv2':BI lo hi w (.slice x2 (L - (r.at_+n)) c2) (L - (r.at_+n)) (fun j=>B (r.at_+n+j)):=hv2.cong fun j _=>by
  show B (r.at_+(n+j))=_
  rw [Nat.add_assoc]
 have H2:=Hid.mk' (h.setR (r.at_+n) hn x2 c2 hv2')
 have H1:=Hid.mk' (hv1.at0 c0 hv (.slice x2 (L - (r.at_+n)) c2))
 obtain ⟨q,hq⟩:∃ q,q=L - (r.at_+n):=⟨_,rfl⟩
 rw [←hq] at hs2 H1 H2
 obtain ⟨p,hp⟩:∃ p,p=L - r.at_:=⟨_,rfl⟩
 rw [←hp] at hs1 hs2 c0
 clear h hv hv1 hv2 hv2' e1 hp hq
 go_enter Try.func51,Try.ntmps51
 go_wp2
 go_ret
 exact ⟨_,rfl,H1.out,H2.out,Out.setCell _ _ (by decide) (by decide)⟩
set_option maxRecDepth 20000 in
set_option maxHeartbeats 2000000 in
theorem cNumR_err (lo hi g L:Nat) (B:Nat→Nat) (r:Rd) (s:Int) (he:r.e≠0) (w:World) (h:RdC lo hi w g L B r):Calls Try.prog 24 #[.pointer (some ⟨g,0,none⟩),.int .i64 s] w fun e w'=>e = .returned (.int .i64 0)∧w'=w:=by
 have c:=cReads_any lo hi g L B r w h
 rw [decide_eq_false he] at c
 clear h
 go_enter Try.func24,Try.ntmps24
 go_wp2
 refine wp_scope_fwd 0 rfl ?_
 go_wp2_with (go_at_call 49;refine c.mono ?_;clear c;rintro e w1 ⟨rfl,hw⟩;obtain rfl:=hw.symm)
 rw [jump_ret]
 go_ret
 exact ⟨rfl,rfl⟩
set_option maxRecDepth 20000 in
set_option maxHeartbeats 2000000 in
theorem cNumR_arg (lo hi g L:Nat) (B:Nat→Nat) (r:Rd) (s:Int) (he:r.e=0) (hs:szB s=false) (w:World) (h:RdC lo hi w g L B r):Calls Try.prog 24 #[.pointer (some ⟨g,0,none⟩),.int .i64 s] w fun e w'=>e = .returned (.int .i64 0)∧RdC lo hi w' g L B ⟨r.at_,1⟩∧Out g 0 2 w w':=by
 have c:=cReads_any lo hi g L B r w h
 rw [decide_eq_true he] at c
 have cs:=cSize_any s w
 rw [hs] at cs
 obtain ⟨v,-,⟨c1,z1⟩,-,-⟩:=h.cells
 have Hh:=Hid.mk' h
 clear h hs
 rw [he] at c1
 go_enter Try.func24,Try.ntmps24
 go_wp2
 refine wp_scope_fwd 0 rfl ?_
 go_wp2_with (first
  | (go_at_call 49;refine c.mono ?_;clear c;rintro e w1 ⟨rfl,hw⟩;obtain rfl:=hw.symm)
  | (go_at_call 38;refine cs.mono ?_;clear cs;rintro e w1 ⟨rfl,hw⟩;obtain rfl:=hw.symm))
 go_step3
 refine ⟨rfl,?_⟩
 go_wp2
 rw [Exit.noGoto_ret]
 go_ret
 exact ⟨rfl,Hh.out.setE 1,Out.setCell _ _ (by decide) (by decide)⟩
set_option maxRecDepth 20000 in
set_option maxHeartbeats 2000000 in
theorem cNumR_end (lo hi g L:Nat) (B:Nat→Nat) (r:Rd) (s:Nat) (he:r.e=0) (hs:szB s=true) (hq:L<r.at_+s) (w:World) (h:RdC lo hi w g L B r):Calls Try.prog 24 #[.pointer (some ⟨g,0,none⟩),.int .i64 s] w fun e w'=>e = .returned (.int .i64 0)∧RdC lo hi w' g L B ⟨r.at_,20⟩∧Out g 0 2 w w':=by
 have c:=cReads_any lo hi g L B r w h
 rw [decide_eq_true he] at c
 have cs:=cSize_any s w
 rw [hs] at cs
 obtain ⟨v,⟨c0,-⟩,⟨c1,z1⟩,-,hv⟩:=h.cells
 obtain ⟨xo,cx,-,-,-,-,rfl,-,-,-,-,-⟩:=hv.cut 0 (Nat.zero_le _)
 have Hh:=Hid.mk' h
 obtain ⟨p,hp⟩:∃ p,p=L - r.at_:=⟨_,rfl⟩
 rw [←hp] at c0
 have ha:=h.le
 have t1:(p:Int)<(s:Int):=by omega
 clear h hs hp hq hv ha
 rw [he] at c1
 go_enter Try.func24,Try.ntmps24
 go_wp2
 refine wp_scope_fwd 0 rfl ?_
 go_wp2_with (first
  | (go_at_call 49;refine c.mono ?_;clear c;rintro e w1 ⟨rfl,hw⟩;obtain rfl:=hw.symm)
  | (go_at_call 38;refine cs.mono ?_;clear cs;rintro e w1 ⟨rfl,hw⟩;obtain rfl:=hw.symm))
 go_step3
 refine ⟨rfl,?_⟩
 go_wp2
 rw [Exit.noGoto_ret]
 go_ret
 exact ⟨rfl,Hh.out.setE 20,Out.setCell _ _ (by decide) (by decide)⟩
set_option maxRecDepth 20000 in
set_option maxHeartbeats 4000000 in
theorem cNumR_range (lo hi g L:Nat) (B:Nat→Nat) (lB:∀ j,B j<256) (r:Rd) (s:Nat) (he:r.e=0) (hs:szB s=true) (hq:r.at_+s≤L) (hN:mstN s≤nbN B r.at_ s) (w:World) (h:RdC lo hi w g L B r):Calls Try.prog 24 #[.pointer (some ⟨g,0,none⟩),.int .i64 s] w fun e w'=>e = .returned (.int .i64 0)∧RdC lo hi w' g L B ⟨r.at_,11⟩∧Out g 0 2 w w':=by
 have c:=cReads_any lo hi g L B r w h
 rw [decide_eq_true he] at c
 have cs:=cSize_any s w
 rw [hs] at cs
 have hs':=szB_cases hs
 have cm:=cMost_any s (by omega) w
 obtain ⟨v,⟨c0,-⟩,⟨c1,z1⟩,-,hv⟩:=h.cells
 obtain ⟨xo,cx,x1,d1,-,-,rfl,-,hsl,hv1,-,-⟩:=hv.cut s (by omega)
 have hh:hi≤w.heap.size:=h.choose_spec.2.2.2.2
 have cj:=cJoin_any _ s _ (fun j=>lB (r.at_+j)) (by omega) w (hv1.of hh)
 rw [nbN_shift] at cj
 have Hh:=Hid.mk' h
 obtain ⟨p,hp⟩:∃ p,p=L - r.at_:=⟨_,rfl⟩
 rw [←hp] at c0 hsl
 have t1:¬(p:Int)<(s:Int):=by omega
 have hml:=mstN_lt s (by omega)
 have hmp:0<mstN s:=by
  unfold mstN
  split
  · decide
  · exact Nat.two_pow_pos _
 obtain ⟨z,hz⟩:∃ z:Int,z=((nbN B r.at_ s:Nat):Int):=⟨_,rfl⟩
 rw [←hz] at cj
 obtain ⟨y,hy⟩:∃ y:Int,y=((mstN s - 1:Nat):Int):=⟨_,rfl⟩
 rw [←hy] at cm
 have e9:IntKind.u64.wrap y=y:=by show y%18446744073709551616=y;omega
 have t2:y<z:=by omega
 clear h hs hp hq hv hv1 hs' hml hmp hz hy hN
 rw [he] at c1
 go_enter Try.func24,Try.ntmps24
 go_wp2
 refine wp_scope_fwd 0 rfl ?_
 go_wp2_with (first
  | (go_at_call 49;refine c.mono ?_;clear c;rintro e w1 ⟨rfl,hw⟩;obtain rfl:=hw.symm)
  | (go_at_call 38;refine cs.mono ?_;clear cs;rintro e w1 ⟨rfl,hw⟩;obtain rfl:=hw.symm)
  | (go_at_call 50;refine cj.mono ?_;clear cj;rintro e w1 ⟨rfl,hw⟩;obtain rfl:=hw.symm)
  | (go_at_call 39;refine cm.mono ?_;clear cm;rintro e w1 ⟨rfl,hw⟩;obtain rfl:=hw.symm))
 go_step3
 refine ⟨rfl,?_⟩
 go_wp2
 rw [Exit.noGoto_ret]
 go_ret
 exact ⟨rfl,Hh.out.setE 11,Out.setCell _ _ (by decide) (by decide)⟩
set_option maxRecDepth 20000 in
set_option maxHeartbeats 4000000 in
theorem cNumR_good (lo hi g L:Nat) (B:Nat→Nat) (lB:∀ j,B j<256) (r:Rd) (s:Nat) (he:r.e=0) (hs:szB s=true) (hq:r.at_+s≤L) (hN:nbN B r.at_ s<mstN s) (w:World) (h:RdC lo hi w g L B r):Calls Try.prog 24 #[.pointer (some ⟨g,0,none⟩),.int .i64 s] w fun e w'=>e = .returned (.int .i64 ((nbN B r.at_ s:Nat):Int))∧RdC lo hi w' g L B ⟨r.at_+s,0⟩∧Out g 0 2 w w':=by
 have c:=cReads_any lo hi g L B r w h
 rw [decide_eq_true he] at c
 have cs:=cSize_any s w
 rw [hs] at cs
 have hs':=szB_cases hs
 have cm:=cMost_any s (by omega) w
 have cp:=cPass_any lo hi g L B r s hq w h
 rw [he] at cp
 obtain ⟨v,⟨c0,-⟩,-,-,hv⟩:=h.cells
 obtain ⟨xo,cx,x1,d1,-,-,rfl,-,hsl,hv1,-,-⟩:=hv.cut s (by omega)
 have hh:hi≤w.heap.size:=h.choose_spec.2.2.2.2
 have cj:=cJoin_any _ s _ (fun j=>lB (r.at_+j)) (by omega) w (hv1.of hh)
 rw [nbN_shift] at cj
 obtain ⟨p,hp⟩:∃ p,p=L - r.at_:=⟨_,rfl⟩
 rw [←hp] at c0 hsl
 have t1:¬(p:Int)<(s:Int):=by omega
 have hml:=mstN_lt s (by omega)
 obtain ⟨z,hz⟩:∃ z:Int,z=((nbN B r.at_ s:Nat):Int):=⟨_,rfl⟩
 rw [←hz] at cj ⊢
 obtain ⟨y,hy⟩:∃ y:Int,y=((mstN s - 1:Nat):Int):=⟨_,rfl⟩
 rw [←hy] at cm
 have e9:IntKind.u64.wrap y=y:=by show y%18446744073709551616=y;omega
 have e8:wrap64 z=z:=by unfold wrap64;omega
 have E8:=Hid.mk' e8
 have t2:¬y<z:=by omega
 clear h hs hp hq hv hv1 hs' hml hz hy hN e8
 go_enter Try.func24,Try.ntmps24
 go_wp2
 refine wp_scope_fwd 0 rfl ?_
 go_wp2_with (first
  | (go_at_call 49;refine c.mono ?_;clear c;rintro e w1 ⟨rfl,hw⟩;obtain rfl:=hw.symm)
  | (go_at_call 38;refine cs.mono ?_;clear cs;rintro e w1 ⟨rfl,hw⟩;obtain rfl:=hw.symm)
  | (go_at_call 50;refine cj.mono ?_;clear cj;rintro e w1 ⟨rfl,hw⟩;obtain rfl:=hw.symm)
  | (go_at_call 39;refine cm.mono ?_;clear cm;rintro e w1 ⟨rfl,hw⟩;obtain rfl:=hw.symm)
  | (go_at_call 51;refine cp.mono ?_;clear cp;rintro e w2 ⟨v2,rfl,hv2,hr2,o2⟩))
 rw [jump_ret]
 go_ret
 exact ⟨by show Ending.returned (.int .i64 (wrap64 z))=_;rw [E8.out],hr2,o2⟩
theorem nbN_eight {B:Nat→Nat} (lB:∀ j,B j<256) (a:Nat):mstN 8≤nbN B a 8↔64≤B a:=by
 have h:∀ s,nbN B a (s+1)<(B a+1)*256 ^ s∧B a*256 ^ s≤nbN B a (s+1):=fun s=>by
  induction s with
  | zero=>show 0*256+B (a+0)<(B a+1)*1∧B a*1≤0*256+B (a+0);rw [Nat.add_zero];omega
  | succ s ih =>
   obtain ⟨h1,h2⟩:=ih
   have:=lB (a+(s+1))
   show nbN B a (s+1)*256+B (a+(s+1))<(B a+1)*(256 ^ s*256)∧B a*(256 ^ s*256)≤nbN B a (s+1)*256+B (a+(s+1))
   rw [←Nat.mul_assoc,←Nat.mul_assoc]
   generalize (B a+1)*256 ^ s=X at *
   generalize B a*256 ^ s=Y at *
   omega
 obtain ⟨h1,h2⟩:nbN B a 8<(B a+1)*256 ^ 7∧B a*256 ^ 7≤nbN B a 8:=h 7
 show 4611686018427387904≤nbN B a 8↔_
 simp only [Nat.reducePow] at h1 h2
 have:=lB a
 omega
theorem cNumR_any (lo hi g L:Nat) (B:Nat→Nat) (lB:∀ j,B j<256) (r:Rd) (s:Int) (w:World) (h:RdC lo hi w g L B r):Calls Try.prog 24 #[.pointer (some ⟨g,0,none⟩),.int .i64 s] w fun e w'=>e = .returned (.int .i64 (((numD L B s r).1:Nat):Int))∧RdC lo hi w' g L B (numD L B s r).2∧Out g 0 2 w w':=by
 have ha:=h.le
 unfold numD
 by_cases he:r.e≠0
 · rw [if_pos he]
   exact (cNumR_err lo hi g L B r s he w h).mono fun e w' ⟨h1,h2⟩=>⟨h1,by rw [h2];exact h,by rw [h2];exact Out.refl _ _ _ _⟩
 replace he:r.e=0:=Decidable.not_not.mp he
 rw [if_neg (fun e=>e he)]
 by_cases hs:szB s=false
 · rw [if_pos hs]
   exact cNumR_arg lo hi g L B r s he hs w h
 rw [if_neg hs]
 replace hs:szB s=true:=by simpa using hs
 have hs':=szB_cases hs
 obtain ⟨k,rfl⟩:∃ k:Nat,s=(k:Int):=⟨s.toNat,by omega⟩
 rw [Int.toNat_natCast]
 by_cases h1:(L:Int) - (r.at_:Int)<(k:Int)
 · rw [if_pos h1]
   exact cNumR_end lo hi g L B r k he hs (by omega) w h
 rw [if_neg h1]
 have hk:k=1∨k=2∨k=4∨k=8:=by omega
 by_cases h2:(k:Int)=8∧64≤B r.at_
 · rw [if_pos h2]
   obtain rfl:k=8:=by omega
   exact cNumR_range lo hi g L B lB r 8 he hs (by omega) ((nbN_eight lB _).2 h2.2) w h
 rw [if_neg h2]
 refine cNumR_good lo hi g L B lB r k he hs (by omega) ?_ w h
 rcases hk with rfl | rfl | rfl | rfl
 · exact nbN_lt lB _ 1
 · exact nbN_lt lB _ 2
 · exact nbN_lt lB _ 4
 · exact Nat.lt_of_not_le fun e=>h2 ⟨rfl,(nbN_eight lB _).1 e⟩
end Go.Proofs.Ytibgjjbnehhanaa
