/- The order of the base point is a prime; what two agree on is never 0. -/
import Derived.Test.YtcgkajlehdgpoaaGreatDoorEdAM
namespace Go.Proofs.YtcgkajlehdgpoaaGreatDoor
def ordN:Nat:=7237005577332262213973186563042994240857116359379907606001950938285454250989
theorem lprime0:Prm 1224481:=prime_trial 1224481 1107 (by decide) (by decide) (by kernel_rfl)
theorem lprime1:Prm 1257559732178653 :=
 pock (f:=1224481) (Q:=1027014492) (a:=2) lprime0 (by decide) (by decide)
  (by rw [←pm_eq 1257559732178653 2 256 (1257559732178653 - 1) (by decide)];kernel_rfl)
  (by rw [←pm_eq 1257559732178653 2 256 1027014492 (by decide)];kernel_rfl) (by decide)
theorem lprime2:Prm 4434155615661930479 :=
 pock (f:=1257559732178653) (Q:=3526) (a:=2) lprime1 (by decide) (by decide)
  (by rw [←pm_eq 4434155615661930479 2 256 (4434155615661930479 - 1) (by decide)];kernel_rfl)
  (by rw [←pm_eq 4434155615661930479 2 256 3526 (by decide)];kernel_rfl) (by decide)
theorem lprime3:Prm 172054593956031949258510691 :=
 pock (f:=4434155615661930479) (Q:=38802110) (a:=2) lprime2 (by decide) (by decide)
  (by rw [←pm_eq 172054593956031949258510691 2 256 (172054593956031949258510691 - 1) (by decide)];kernel_rfl)
  (by rw [←pm_eq 172054593956031949258510691 2 256 38802110 (by decide)];kernel_rfl) (by decide)
theorem lprime4:Prm 19757330305831588566944191468367130476339 :=
 pock (f:=172054593956031949258510691) (Q:=114831751082918) (a:=2) lprime3 (by decide) (by decide)
  (by rw [←pm_eq 19757330305831588566944191468367130476339 2 256 (19757330305831588566944191468367130476339 - 1) (by decide)];kernel_rfl)
  (by rw [←pm_eq 19757330305831588566944191468367130476339 2 256 114831751082918 (by decide)];kernel_rfl) (by decide)
theorem lprime5:Prm 276602624281642239937218680557139826668747 :=
 pock (f:=19757330305831588566944191468367130476339) (Q:=14) (a:=2) lprime4 (by decide) (by decide)
  (by rw [←pm_eq 276602624281642239937218680557139826668747 2 256 (276602624281642239937218680557139826668747 - 1) (by decide)];kernel_rfl)
  (by rw [←pm_eq 276602624281642239937218680557139826668747 2 256 14 (by decide)];kernel_rfl) (by decide)
theorem lprime6:Prm 7237005577332262213973186563042994240857116359379907606001950938285454250989 :=
 pock (f:=276602624281642239937218680557139826668747) (Q:=26163907866482859529727157400808004) (a:=2) lprime5 (by decide) (by decide)
  (by rw [←pm_eq 7237005577332262213973186563042994240857116359379907606001950938285454250989 2 256 (7237005577332262213973186563042994240857116359379907606001950938285454250989 - 1) (by decide)];kernel_rfl)
  (by rw [←pm_eq 7237005577332262213973186563042994240857116359379907606001950938285454250989 2 256 26163907866482859529727157400808004 (by decide)];kernel_rfl) (by decide)
theorem ord_prime:Prm ordN:=lprime6
set_option maxRecDepth 100000 in
theorem ord_end:(climbL 9 (byt ordN) 255).zl=0:=by kernel_rfl
theorem ord_bits:nOf (byt ordN) 255=ordN:=by kernel_rfl
theorem nine_lt:9<pF:=by decide
section
variable {n:Nat} [NeZero n]
theorem g_dbl {y:Fin n} (h:y*y=1):(y*y - 0*0)*1=1∧(0*y+0*y)*1=0:=by constructor <;> grind
end
theorem emul_ord {e D:Fp} {P:Fp × Fp} (h:HasU e D P 9):emul D ordN P=ezero:=by
 obtain ⟨s,si,hs,hX,hZ⟩:=(climb_rep h nine_lt (byt ordN) 255).1
 have hz:cF 0=0:=by decide
 rw [ord_bits,ord_end,hz] at hZ
 have h1:=(fp_zero hZ.symm).resolve_left (fp_unit hs)
 have h2:uOf e (emul D ordN P).2=0:=by unfold uOf;rw [h1,fi_zero,Fin.mul_zero]
 rcases uOf_zero h.ee h.ns (emul_on h.ns h.on ordN) h2 with e1 | e1
 · exact e1
 · rw [e1] at h1
   exact absurd h1 (by decide)
theorem emul_zero_pt (D:Fp):∀ n,emul D n ezero=ezero
 | 0=>rfl
 | n+1=>by show eadd D (emul D n ezero) ezero=ezero;rw [emul_zero_pt D n,eadd_zero]
theorem emul_gcd {e D:Fp} {P:Fp × Fp} {u:Nat} (h:HasU e D P u):∀ m n:Nat,emul D m P=ezero→emul D n P=ezero→emul D (Nat.gcd m n) P=ezero:=fun m n=>by
 induction m,n using Nat.gcd.induction with
 | H0 n=>intro _ h2;rw [Nat.gcd_zero_left];exact h2
 | H1 m n hm ih =>
  intro h1 h2
  rw [Nat.gcd_rec]
  refine ih ?_ h1
  have e2:emul D (m*(n / m)+n%m) P=ezero:=by rw [Nat.div_add_mod];exact h2
  rw [emul_add h.ns h.on,←emul_mul h.ns h.on,h1,emul_zero_pt,zero_eadd] at e2
  exact e2
theorem emul_half_two {D:Fp} {Q:Fp × Fp} (h:Q.1=0∧Q.2*Q.2=1):eadd D Q Q=ezero:=by
 unfold eadd ezero
 rw [h.1]
 have e1:(1 - D*0*0*Q.2*Q.2:Fp)=1:=g_h1
 have e2:(1+D*0*0*Q.2*Q.2:Fp)=1:=g_h2
 rw [e1,e2,fi_one]
 exact Prod.ext (g_dbl h.2).2 (g_dbl h.2).1
theorem no_half {e D:Fp} {P:Fp × Fp} (h:HasU e D P 9) {k:Nat} (hk:¬ordN ∣ k):uOf e (emul D k P).2≠0:=fun h0=>by
 have hh:(emul D k P).1=0∧(emul D k P).2*(emul D k P).2=1:=by
  rcases uOf_zero h.ee h.ns (emul_on h.ns h.on k) h0 with e1 | e1
  · rw [e1];exact ⟨rfl,(by decide:(1:Fp)*1=1)⟩
  · rw [e1];exact ⟨rfl,g_m1⟩
 have h2:emul D (k+k) P=ezero:=by rw [emul_add h.ns h.on];exact emul_half_two hh
 have hg:Nat.gcd ordN (k+k)=1:=ord_prime.gcd (fun hd=>by
  rw [←Nat.two_mul] at hd
  rcases ord_prime.euclid hd with h3 | h3
  · exact absurd (Nat.le_of_dvd (by decide) h3) (by decide)
  · exact hk h3)
 have h3:=emul_gcd h ordN (k+k) (emul_ord h) h2
 rw [hg] at h3
 have h4:emul D 1 P=P:=zero_eadd D P
 rw [h4] at h3
 have h5:=h.y2
 rw [h3] at h5
 exact h5 (by decide)
theorem clamp_bits (bs:Nat→Nat):bitN (clB bs) 254=true∧bitN (clB bs) 2=false∧bitN (clB bs) 1=false∧bitN (clB bs) 0=false:=by
 unfold bitN
 refine ⟨?_,?_,?_,?_⟩
 · show (clB bs 31 / 64%2 == 1)=true
   rw [show clB bs 31=bs 31%64+64 from rfl,show (bs 31%64+64) / 64%2=1 by omega];rfl
 · show (clB bs 0 / 4%2 == 1)=false
   rw [show clB bs 0=bs 0 / 8*8 from rfl,show bs 0 / 8*8 / 4%2=0 by omega];rfl
 · show (clB bs 0 / 2%2 == 1)=false
   rw [show clB bs 0=bs 0 / 8*8 from rfl,show bs 0 / 8*8 / 2%2=0 by omega];rfl
 · show (clB bs 0 / 1%2 == 1)=false
   rw [show clB bs 0=bs 0 / 8*8 from rfl,show bs 0 / 8*8 / 1%2=0 by omega];rfl
theorem nOf_size (bs:Nat→Nat):∀ j,2 ^ j≤nOf (clB bs) (j+1)∧nOf (clB bs) (j+1)<2 ^ (j+1)
 | 0=>by
  show 2 ^ 0≤2*0+_∧2*0+_<2 ^ 1
  rw [show (254 - 0:Nat)=254 from rfl,(clamp_bits bs).1]
  decide
 | j+1=>by
  have ih:=nOf_size bs j
  have e:nOf (clB bs) (j+1+1)=2*nOf (clB bs) (j+1)+(if bitN (clB bs) (254 - (j+1)) then 1 else 0):=rfl
  rw [e,Nat.pow_succ,Nat.pow_succ _ (j+1),Nat.pow_succ] at *
  split <;> omega
theorem nOf_eight (bs:Nat→Nat):nOf (clB bs) 255=8*nOf (clB bs) 252:=by
 have c:=clamp_bits bs
 have e1:nOf (clB bs) 255=2*nOf (clB bs) 254+(if bitN (clB bs) 0 then 1 else 0):=rfl
 have e2:nOf (clB bs) 254=2*nOf (clB bs) 253+(if bitN (clB bs) 1 then 1 else 0):=rfl
 have e3:nOf (clB bs) 253=2*nOf (clB bs) 252+(if bitN (clB bs) 2 then 1 else 0):=rfl
 rw [c.2.2.2] at e1
 rw [c.2.2.1] at e2
 rw [c.2.1] at e3
 simp only [Bool.false_eq_true,if_false] at e1 e2 e3
 omega
theorem key_ord (bs:Nat→Nat):¬ordN ∣ nOf (clB bs) 255:=fun h=>by
 rw [nOf_eight] at h
 rcases ord_prime.euclid h with h1 | h1
 · exact absurd (Nat.le_of_dvd (by decide) h1) (by decide)
 · have s:=nOf_size bs 251
   have h2:=Nat.le_of_dvd (Nat.lt_of_lt_of_le (by decide) s.1) h1
   have h3:ordN<2 ^ (251+1):=Nat.lt_of_le_of_lt h2 s.2
   exact absurd h3 (by decide)
theorem agreed (ss bs:Nat→Nat):mulL (clB ss) (mulL (clB bs) 9)≠0∧mulL (clB bs) (mulL (clB ss) 9)=mulL (clB ss) (mulL (clB bs) 9):=by
 refine ⟨fun h0 => ?_,mulL_comm _ _ 9 nine_lt⟩
 obtain ⟨e,D,P,h⟩:=has_point 9 nine_lt (by decide)
 have hz:cF 0=0:=by decide
 have hb:mulL (clB bs) 9≠0:=fun hb=>by
  have hm:=mulL_u h nine_lt (clB bs)
  rw [hb,hz] at hm
  exact no_half h (key_ord bs) hm.symm
 have hm:=mulL_u (h.next nine_lt (clB bs) hb) (mulL_less _ _) (clB ss)
 rw [h0,hz,emul_mul h.ns h.on] at hm
 refine no_half h (fun hd => ?_) hm.symm
 rcases ord_prime.euclid hd with h1 | h1
 · exact key_ord bs h1
 · exact key_ord ss h1
end Go.Proofs.YtcgkajlehdgpoaaGreatDoor
