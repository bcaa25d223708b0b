/- What the proof stands on: EdE, EdF, QLBm, QLB. -/
import Derived.Test.YtcgkajlehdgpoaaGreatDoorLPubM
import Derived.Test.YtcgkajlehdgpoaaGreatDoorQCQM
import Derived.Test.YtcgkajlehdgpoaaGreatDoorQOpM
namespace Go.Proofs.YtcgkajlehdgpoaaGreatDoor
def kQ:Nat:=7237005577332262213973186563042994240829374041602535252466099000494570602493
theorem kQ_eq:8*kQ+5=pF:=by decide
theorem c0_euler:236839902240 ^ (4*kQ+2)%pF=pF - 1:=by
 have h:=pm_eq pF 236839902240 255 (4*kQ+2) (by decide)
 exact h.symm.trans (by kernel_rfl)
theorem fp_val (a b:Fp):(a*b).val=a.val*b.val%pF:=Fin.val_mul a b
theorem pow_sq_one {z h:Nat} (hh:2*h+1=pF) (hz:¬pF ∣ z):(z*z%pF) ^ h%pF=1:=by
 rw [powm,←Nat.pow_two,←Nat.pow_mul,show 2*h=pF - 1 by omega,prime_p.fermat1 hz];decide
theorem ns_c0:NS (236839902240:Fp):=fun z hz=>by
 have hv:=congrArg Fin.val hz
 rw [fp_val] at hv
 have hz0:¬pF ∣ z.val:=fun hd=>by
  have h0:z.val=0:=by
   rcases Nat.eq_zero_or_pos z.val with h | h
   · exact h
   · have:=Nat.le_of_dvd h hd;have:=z.isLt;omega
  rw [h0] at hv
  exact absurd hv (by decide)
 have h1:=pow_sq_one (h:=4*kQ+2) (by decide) hz0
 rw [hv] at h1
 have h2:(236839902240:Fp).val=236839902240:=by decide
 rw [h2,c0_euler] at h1
 exact absurd h1 (by decide)
theorem pm_one:(pF - 1)*(pF - 1)%pF=1:=by kernel_rfl
theorem dich (c:Fp) (hc:c≠0):(∃ r:Fp,r*r=c)∨(∃ r:Fp,r*r=c*236839902240):=by
 have hd:¬pF ∣ c.val:=fun hd=>by
  rcases Nat.eq_zero_or_pos c.val with h | h
  · exact hc (Fin.ext h)
  · have:=Nat.le_of_dvd h hd;have:=c.isLt;omega
 have up:∀ d:Fp,d.val ^ (4*kQ+2)%pF=1→∃ r:Fp,r*r=d:=fun d h=>by
  obtain ⟨r,hr,he⟩:=root_nat kQ_eq d.isLt h
  exact ⟨⟨r,hr⟩,Fin.ext (by rw [fp_val];exact he)⟩
 rcases euler_or (h:=4*kQ+2) (by decide) hd with h | h
 · exact .inl (up c h)
 · right
   refine up _ ?_
   have h2:(236839902240:Fp).val=236839902240:=by decide
   rw [fp_val,h2,powm,Nat.mul_pow,Nat.mul_mod,h,c0_euler]
   exact pm_one
section
variable {n:Nat} [NeZero n]
theorem g_on {u r a D g gi v:Fin n} (hv:(u+1)*v=1) (hg:g*gi=1) (hgd:g=u*(u*u+(a-2)*u+1)) (hr:r*r=a*g) (hD:D*a=a-4):(u*r*gi)^2+((u-1)*v)^2=1+D*(u*r*gi)^2*((u-1)*v)^2:=by
 have q:(u*r*gi)^2=u*u*a*gi:=by clear hv hgd hD;grind
 have q2:D*(u*r*gi)^2=u*u*(a-4)*gi:=by rw [q];clear hv hgd hr q hg;grind
 have q3:u*(u*u+(a-2)*u+1)*gi=1:=by rw [←hgd];exact hg
 rw [q2,q]
 clear q q2 hr hD hg hgd
 have q4:(u*u*a*gi+((u-1)*v)^2)*((u+1)*(u+1))=(1+u*u*(a-4)*gi*((u-1)*v)^2)*((u+1)*(u+1)):=by grind
 generalize u*u*a*gi+((u-1)*v)^2=L at *
 generalize 1+u*u*(a-4)*gi*((u-1)*v)^2=R at *
 clear q3
 generalize u+1=w at *
 grind
theorem g_y {u v:Fin n} (hv:(u+1)*v=1):1 - (u-1)*v=2*v∧1+(u-1)*v=2*u*v:=by constructor <;> grind
theorem g_hu {e c U v:Fin n} (he:e*e=1) (hU:U=e*c) (hv:(U+1)*v=1):c*(1-(U-1)*v)=e*(1+(U-1)*v):=by
 rw [(g_y hv).1,(g_y hv).2,hU];clear hv hU;grind
theorem g_ns {z D a b c:Fin n} (hz:z*z=D) (hD:D*a=b) (hc:a*b=c):(z*a)*(z*a)=c:=by grind
theorem g_r {r a b c g i:Fin n} (hr:r*r=a*g*c) (hc:a*b=c) (hi:a*i=1):(r*i)*(r*i)=b*g:=by grind
theorem g_quad {u A c:Fin n} (h:u*u+A*u+1=0) (hc:A*A - 4=c):(2*u+A)*(2*u+A)=c:=by grind
end
theorem hasU_of {e D c U r a G:Fp} {u:Nat} (hc:cF u=c) (he:e*e=1) (hU:U=e*c) (hU0:U≠0) (hU1:U+1≠0) (hG:G=U*(U*U+(a-2)*U+1)) (hG0:G≠0) (hr:r*r=a*G) (hD:D*a=a-4) (hns:NS D) (hda:D*(486662+2*e)=486662-2*e) (hne:(486662+2*e:Fp)≠0) :
 HasU e D (U*r*fi G,(U-1)*fi (U+1)) u:=by
 have hv:=fi_mul hU1
 have y:=g_y hv
 have hv0:fi (U+1)≠0:=fun h0=>by
  rw [h0,Fin.mul_zero] at hv
  exact absurd hv (by decide)
 refine ⟨he,hns,hda,hne,g_on hv (fi_mul hG0) hG hr hD,?_,?_,?_⟩
 · rw [hc];exact g_hu he hU hv
 · show 1+(U-1)*fi (U+1)≠0
   rw [y.2];exact fp_ne (fp_ne two_ne hU0) hv0
 · show 1 - (U-1)*fi (U+1)≠0
   rw [y.1];exact fp_ne two_ne hv0
theorem am_ne:(486660:Fp)≠0:=by decide
theorem ap_ne:(486664:Fp)≠0:=by decide
section
variable {n:Nat} [NeZero n]
theorem g_G1 {c:Fin n}:c*(c*c+486662*c+1)=c*(c*c+(486664-2)*c+1):=by grind
theorem g_D1 {D:Fin n} (h:D*486664=486660):D*486664=486664-4∧D*(486662+2*1)=486662-2*1:=by constructor <;> grind
theorem g_u1 {c:Fin n} (h:c+1=0):c*(c*c+486662*c+1)=486660:=by grind
theorem g_u2 {c:Fin n} (h:(0-1)*c+1=0):c*(c*c+486662*c+1)=486664:=by grind
theorem g_G2 {c r:Fin n} (hr:r*r=486660*(c*(c*c+486662*c+1))):r*r=(0-486660)*(((0-1)*c)*(((0-1)*c)*((0-1)*c)+((0-486660)-2)*((0-1)*c)+1)):=by grind
theorem g_G3 {c:Fin n} (h:((0-1)*c)*(((0-1)*c)*((0-1)*c)+((0-486660)-2)*((0-1)*c)+1)=0):c*(c*c+486662*c+1)=0:=by grind
theorem g_D2 {D:Fin n} (h:D*486660=486664):D*(0-486660)=(0-486660)-4∧D*(486662+2*(0-1))=486662-2*(0-1):=by constructor <;> grind
theorem g_m1:(0-1)*(0-1)=(1:Fin n):=by grind
theorem g_m2 {c:Fin n} (h:(0-1)*c=0):c=0:=by grind
theorem g_m3:(486662+2*(0-1):Fin n)=486660:=by grind
theorem g_m4:(486662+2*1:Fin n)=486664:=by grind
theorem g_y0 {y:Fin n} (h:1 - y=0):y=1:=by grind
theorem g_y1 {y:Fin n} (h:1+y=0):y=0 - 1:=by grind
theorem g_h1 {D y z:Fin n}:1 - D*0*0*y*z=1:=by grind
theorem g_h2 {D y z:Fin n}:1+D*0*0*y*z=1:=by grind
theorem g_h3 {y z:Fin n}:(0*z+0*y)*1=0:=by grind
theorem g_h4 {y z:Fin n} (h:y*y=1) (k:z*z=1):((y*z - 0*0)*1)*((y*z - 0*0)*1)=1:=by grind
theorem g_u {e y f:Fin n} (h:(1-y)*f=1):e*(1+y)*f*(1-y)=e*(1+y):=by grind
theorem g_inv {a b i:Fin n} (h:a*i=1):b*i*a=b:=by grind
end
theorem c0_prod:(486664:Fp)*486660=236839902240:=by decide
theorem c0_prod2:(486660:Fp)*486664=236839902240:=by decide
theorem c0_quad:(486662:Fp)*486662 - 4=236839902240:=by decide
theorem has_point (u:Nat) (hu:u<pF) (h0:u≠0):∃ e D P,HasU e D P u:=by
 obtain ⟨c,hc⟩:∃ c,cF u=c:=⟨_,rfl⟩
 have c0:c≠0:=fun h=>h0 (cF_inj hu (by decide) (by rw [hc,h];decide))
 have hq:c*c+486662*c+1≠0:=fun h=>ns_c0 _ (g_quad h c0_quad)
 have hg:c*(c*c+486662*c+1)≠0:=fp_ne c0 hq
 have mk1:∀ r:Fp,r*r=486664*(c*(c*c+486662*c+1))→∃ e D P,HasU e D P u:=fun r hr=>by
  have hD:(486660*fi 486664:Fp)*486664=486660:=g_inv (fi_mul ap_ne)
  have hns:NS (486660*fi 486664:Fp):=fun z hz=>ns_c0 _ (g_ns hz hD c0_prod)
  have d:=g_D1 hD
  have h1:c+1≠0:=fun h=>by
   rw [g_u1 h,c0_prod] at hr
   exact ns_c0 r hr
  rw [g_G1] at hr hg
  exact ⟨1,_,_,hasU_of (G:=c*(c*c+(486664-2)*c+1)) hc (Fin.mul_one 1) (Fin.one_mul c).symm c0 h1 rfl hg hr d.1 hns d.2 (by rw [g_m4];exact ap_ne)⟩
 have mk2:∀ r:Fp,r*r=486660*(c*(c*c+486662*c+1))→∃ e D P,HasU e D P u:=fun r hr=>by
  have hD:(486664*fi 486660:Fp)*486660=486664:=g_inv (fi_mul am_ne)
  have hns:NS (486664*fi 486660:Fp):=fun z hz=>ns_c0 _ (g_ns hz hD c0_prod2)
  have d:=g_D2 hD
  have h1:(0-1)*c+1≠0:=fun h=>by
   rw [g_u2 h,c0_prod2] at hr
   exact ns_c0 r hr
  exact ⟨0-1,_,_,hasU_of (U:=(0-1)*c) hc g_m1 rfl (fun h=>c0 (g_m2 h)) h1 rfl (fun h=>hg (g_G3 h)) (g_G2 hr) d.1 hns d.2 (by rw [g_m3];exact am_ne)⟩
 rcases dich (486664*(c*(c*c+486662*c+1))) (fp_ne ap_ne hg) with ⟨r,hr⟩ | ⟨r,hr⟩
 · exact mk1 r hr
 · exact mk2 (r*fi 486664) (g_r hr c0_prod (fi_mul ap_ne))
theorem uOf_zero {e D:Fp} (he:e*e=1) (hD:NS D) {Q:Fp × Fp} (hQ:On D Q) (h:uOf e Q.2=0):Q=(0,1)∨Q=(0,0-1):=by
 have hx:∀ y:Fp,y*y=1→Q.2=y→Q.1=0:=fun y hy hq=>by
  have e1:(1 - D*1*1)*(Q.1*Q.1)=0:=by
   have:=hQ
   unfold On at this
   rw [hq] at this
   clear hQ h hq he hD
   generalize Q.1=x at *
   grind
  have:=(fp_zero e1).resolve_left (ns_one hD)
  exact (fp_zero this).elim id id
 unfold uOf at h
 by_cases h1:1 - Q.2=0
 · left
   have hy:Q.2=1:=g_y0 h1
   exact Prod.ext (hx 1 (by decide) hy) hy
 · right
   have hf:fi (1 - Q.2)≠0:=fun h0=>by
    have:=fi_mul h1
    rw [h0,Fin.mul_zero] at this
    exact absurd this (by decide)
   have h2:=(fp_zero h).resolve_right hf
   have h3:=(fp_zero h2).resolve_left (fp_unit he)
   have hy:Q.2=0 - 1:=g_y1 h3
   exact Prod.ext (hx (0-1) g_m1 hy) hy
theorem eadd_half {D:Fp} {P Q:Fp × Fp} (hP:P.1=0∧P.2*P.2=1) (hQ:Q.1=0∧Q.2*Q.2=1):(eadd D P Q).1=0∧(eadd D P Q).2*(eadd D P Q).2=1:=by
 unfold eadd
 simp only
 rw [hP.1,hQ.1]
 have e1:(1 - D*0*0*P.2*Q.2:Fp)=1:=g_h1
 have e2:(1+D*0*0*P.2*Q.2:Fp)=1:=g_h2
 rw [e1,e2,fi_one]
 exact ⟨g_h3,g_h4 hP.2 hQ.2⟩
theorem emul_half {D:Fp} {P:Fp × Fp} (hP:P.1=0∧P.2*P.2=1):∀ n,(emul D n P).1=0∧(emul D n P).2*(emul D n P).2=1
 | 0=>⟨rfl,(by decide:(1:Fp)*1=1)⟩
 | n+1=>eadd_half (emul_half hP n) hP
theorem uOf_half {e y:Fp} (h:y*y=1):uOf e y=0:=by
 unfold uOf
 have h1:(1 - y)*(1+y)=0:=by grind
 rcases fp_zero h1 with h2 | h2
 · rw [h2,fi_zero,Fin.mul_zero]
 · rw [h2,Fin.mul_zero,Fin.zero_mul]
theorem mulL_less (ks:Nat→Nat) (u:Nat):mulL ks u<pF:=fmul_lt _ _
theorem HasU.next {e D:Fp} {P:Fp × Fp} {u:Nat} (h:HasU e D P u) (hu:u<pF) (ks:Nat→Nat) (h0:mulL ks u≠0):HasU e D (emul D (nOf ks 255) P) (mulL ks u):=by
 have hm:=mulL_u h hu ks
 have hc0:cF (mulL ks u)≠0:=fun e0=>h0 (cF_inj (mulL_less _ _) (by decide) (by rw [e0];decide))
 have hon:=emul_on h.ns h.on (nOf ks 255)
 generalize emul D (nOf ks 255) P=Q at *
 have h1:1 - Q.2≠0:=fun e0=>hc0 (by rw [hm];unfold uOf;rw [e0,fi_zero,Fin.mul_zero])
 have h2:1+Q.2≠0:=fun e0=>hc0 (by rw [hm];unfold uOf;rw [e0,Fin.mul_zero,Fin.zero_mul])
 refine ⟨h.ee,h.ns,h.da,h.ne,hon,?_,h2,h1⟩
 rw [hm]
 exact g_u (fi_mul h1)
theorem mulL_comm (ka kb:Nat→Nat) (u:Nat) (hu:u<pF):mulL kb (mulL ka u)=mulL ka (mulL kb u):=by
 by_cases h0:u=0
 · simp only [h0,mulL_zero]
 obtain ⟨e,D,P,h⟩:=has_point u hu h0
 have zero:∀ ks:Nat→Nat,mulL ks u=0→(emul D (nOf ks 255) P).1=0∧(emul D (nOf ks 255) P).2*(emul D (nOf ks 255) P).2=1:=fun ks hz=>by
  have hm:=mulL_u h hu ks
  rw [hz,show cF 0=0 by decide] at hm
  rcases uOf_zero h.ee h.ns (emul_on h.ns h.on _) hm.symm with e1 | e1
  · rw [e1];exact ⟨rfl,by decide⟩
  · rw [e1];exact ⟨rfl,g_m1⟩
 by_cases ha:mulL ka u=0
 · by_cases hb:mulL kb u=0
   · simp only [ha,hb,mulL_zero]
   · rw [ha,mulL_zero]
     have hm:=mulL_u (h.next hu kb hb) (mulL_less _ _) ka
     rw [emul_comm h.ns h.on,uOf_half (emul_half (zero ka ha) _).2] at hm
     exact (cF_inj (mulL_less _ _) (by decide) (by rw [hm];decide)).symm
 · by_cases hb:mulL kb u=0
   · rw [hb,mulL_zero]
     have hm:=mulL_u (h.next hu ka ha) (mulL_less _ _) kb
     rw [emul_comm h.ns h.on,uOf_half (emul_half (zero kb hb) _).2] at hm
     exact cF_inj (mulL_less _ _) (by decide) (by rw [hm];decide)
   · have m1:=mulL_u (h.next hu ka ha) (mulL_less _ _) kb
     have m2:=mulL_u (h.next hu kb hb) (mulL_less _ _) ka
     rw [emul_comm h.ns h.on,←m2] at m1
     exact cF_inj (mulL_less _ _) (mulL_less _ _) m1
end Go.Proofs.YtcgkajlehdgpoaaGreatDoor
namespace Go.Proofs.YtcgkajlehdgpoaaGreatDoor
def ordN:Nat:=7237005577332262213973186563042994240857116359379907606001950938285454250989
theorem lprime0:Prm 1224481:=prime_trial 1224481 1107 (by decide) (by decide) (by kernel_rfl)
theorem lprime1:Prm 1257559732178653 :=
 pock (f:=1224481) (Q:=1027014492) (a:=2) lprime0 (by decide) (by decide)
  (by rw [←pm_eq 1257559732178653 2 256 (1257559732178653 - 1) (by decide)];kernel_rfl)
  (by rw [←pm_eq 1257559732178653 2 256 1027014492 (by decide)];kernel_rfl) (by decide)
theorem lprime2:Prm 4434155615661930479 :=
 pock (f:=1257559732178653) (Q:=3526) (a:=2) lprime1 (by decide) (by decide)
  (by rw [←pm_eq 4434155615661930479 2 256 (4434155615661930479 - 1) (by decide)];kernel_rfl)
  (by rw [←pm_eq 4434155615661930479 2 256 3526 (by decide)];kernel_rfl) (by decide)
theorem lprime3:Prm 172054593956031949258510691 :=
 pock (f:=4434155615661930479) (Q:=38802110) (a:=2) lprime2 (by decide) (by decide)
  (by rw [←pm_eq 172054593956031949258510691 2 256 (172054593956031949258510691 - 1) (by decide)];kernel_rfl)
  (by rw [←pm_eq 172054593956031949258510691 2 256 38802110 (by decide)];kernel_rfl) (by decide)
theorem lprime4:Prm 19757330305831588566944191468367130476339 :=
 pock (f:=172054593956031949258510691) (Q:=114831751082918) (a:=2) lprime3 (by decide) (by decide)
  (by rw [←pm_eq 19757330305831588566944191468367130476339 2 256 (19757330305831588566944191468367130476339 - 1) (by decide)];kernel_rfl)
  (by rw [←pm_eq 19757330305831588566944191468367130476339 2 256 114831751082918 (by decide)];kernel_rfl) (by decide)
theorem lprime5:Prm 276602624281642239937218680557139826668747 :=
 pock (f:=19757330305831588566944191468367130476339) (Q:=14) (a:=2) lprime4 (by decide) (by decide)
  (by rw [←pm_eq 276602624281642239937218680557139826668747 2 256 (276602624281642239937218680557139826668747 - 1) (by decide)];kernel_rfl)
  (by rw [←pm_eq 276602624281642239937218680557139826668747 2 256 14 (by decide)];kernel_rfl) (by decide)
theorem lprime6:Prm 7237005577332262213973186563042994240857116359379907606001950938285454250989 :=
 pock (f:=276602624281642239937218680557139826668747) (Q:=26163907866482859529727157400808004) (a:=2) lprime5 (by decide) (by decide)
  (by rw [←pm_eq 7237005577332262213973186563042994240857116359379907606001950938285454250989 2 256 (7237005577332262213973186563042994240857116359379907606001950938285454250989 - 1) (by decide)];kernel_rfl)
  (by rw [←pm_eq 7237005577332262213973186563042994240857116359379907606001950938285454250989 2 256 26163907866482859529727157400808004 (by decide)];kernel_rfl) (by decide)
theorem ord_prime:Prm ordN:=lprime6
set_option maxRecDepth 100000 in
theorem ord_end:(climbL 9 (byt ordN) 255).zl=0:=by kernel_rfl
theorem ord_bits:nOf (byt ordN) 255=ordN:=by kernel_rfl
theorem nine_lt:9<pF:=by decide
section
variable {n:Nat} [NeZero n]
theorem g_dbl {y:Fin n} (h:y*y=1):(y*y - 0*0)*1=1∧(0*y+0*y)*1=0:=by constructor <;> grind
end
theorem emul_ord {e D:Fp} {P:Fp × Fp} (h:HasU e D P 9):emul D ordN P=ezero:=by
 obtain ⟨s,si,hs,hX,hZ⟩:=(climb_rep h nine_lt (byt ordN) 255).1
 have hz:cF 0=0:=by decide
 rw [ord_bits,ord_end,hz] at hZ
 have h1:=(fp_zero hZ.symm).resolve_left (fp_unit hs)
 have h2:uOf e (emul D ordN P).2=0:=by unfold uOf;rw [h1,fi_zero,Fin.mul_zero]
 rcases uOf_zero h.ee h.ns (emul_on h.ns h.on ordN) h2 with e1 | e1
 · exact e1
 · rw [e1] at h1
   exact absurd h1 (by decide)
theorem emul_zero_pt (D:Fp):∀ n,emul D n ezero=ezero
 | 0=>rfl
 | n+1=>by show eadd D (emul D n ezero) ezero=ezero;rw [emul_zero_pt D n,eadd_zero]
theorem emul_gcd {e D:Fp} {P:Fp × Fp} {u:Nat} (h:HasU e D P u):∀ m n:Nat,emul D m P=ezero→emul D n P=ezero→emul D (Nat.gcd m n) P=ezero:=fun m n=>by
 induction m,n using Nat.gcd.induction with
 | H0 n=>intro _ h2;rw [Nat.gcd_zero_left];exact h2
 | H1 m n hm ih =>
  intro h1 h2
  rw [Nat.gcd_rec]
  refine ih ?_ h1
  have e2:emul D (m*(n / m)+n%m) P=ezero:=by rw [Nat.div_add_mod];exact h2
  rw [emul_add h.ns h.on,←emul_mul h.ns h.on,h1,emul_zero_pt,zero_eadd] at e2
  exact e2
theorem emul_half_two {D:Fp} {Q:Fp × Fp} (h:Q.1=0∧Q.2*Q.2=1):eadd D Q Q=ezero:=by
 unfold eadd ezero
 rw [h.1]
 have e1:(1 - D*0*0*Q.2*Q.2:Fp)=1:=g_h1
 have e2:(1+D*0*0*Q.2*Q.2:Fp)=1:=g_h2
 rw [e1,e2,fi_one]
 exact Prod.ext (g_dbl h.2).2 (g_dbl h.2).1
theorem no_half {e D:Fp} {P:Fp × Fp} (h:HasU e D P 9) {k:Nat} (hk:¬ordN ∣ k):uOf e (emul D k P).2≠0:=fun h0=>by
 have hh:(emul D k P).1=0∧(emul D k P).2*(emul D k P).2=1:=by
  rcases uOf_zero h.ee h.ns (emul_on h.ns h.on k) h0 with e1 | e1
  · rw [e1];exact ⟨rfl,(by decide:(1:Fp)*1=1)⟩
  · rw [e1];exact ⟨rfl,g_m1⟩
 have h2:emul D (k+k) P=ezero:=by rw [emul_add h.ns h.on];exact emul_half_two hh
 have hg:Nat.gcd ordN (k+k)=1:=ord_prime.gcd (fun hd=>by
  rw [←Nat.two_mul] at hd
  rcases ord_prime.euclid hd with h3 | h3
  · exact absurd (Nat.le_of_dvd (by decide) h3) (by decide)
  · exact hk h3)
 have h3:=emul_gcd h ordN (k+k) (emul_ord h) h2
 rw [hg] at h3
 have h4:emul D 1 P=P:=zero_eadd D P
 rw [h4] at h3
 have h5:=h.y2
 rw [h3] at h5
 exact h5 (by decide)
theorem clamp_bits (bs:Nat→Nat):bitN (clB bs) 254=true∧bitN (clB bs) 2=false∧bitN (clB bs) 1=false∧bitN (clB bs) 0=false:=by
 unfold bitN
 refine ⟨?_,?_,?_,?_⟩
 · show (clB bs 31 / 64%2 == 1)=true
   rw [show clB bs 31=bs 31%64+64 from rfl,show (bs 31%64+64) / 64%2=1 by omega];rfl
 · show (clB bs 0 / 4%2 == 1)=false
   rw [show clB bs 0=bs 0 / 8*8 from rfl,show bs 0 / 8*8 / 4%2=0 by omega];rfl
 · show (clB bs 0 / 2%2 == 1)=false
   rw [show clB bs 0=bs 0 / 8*8 from rfl,show bs 0 / 8*8 / 2%2=0 by omega];rfl
 · show (clB bs 0 / 1%2 == 1)=false
   rw [show clB bs 0=bs 0 / 8*8 from rfl,show bs 0 / 8*8 / 1%2=0 by omega];rfl
theorem nOf_size (bs:Nat→Nat):∀ j,2 ^ j≤nOf (clB bs) (j+1)∧nOf (clB bs) (j+1)<2 ^ (j+1)
 | 0=>by
  show 2 ^ 0≤2*0+_∧2*0+_<2 ^ 1
  rw [show (254 - 0:Nat)=254 from rfl,(clamp_bits bs).1]
  decide
 | j+1=>by
  have ih:=nOf_size bs j
  have e:nOf (clB bs) (j+1+1)=2*nOf (clB bs) (j+1)+(if bitN (clB bs) (254 - (j+1)) then 1 else 0):=rfl
  rw [e,Nat.pow_succ,Nat.pow_succ _ (j+1),Nat.pow_succ] at *
  split <;> omega
theorem nOf_eight (bs:Nat→Nat):nOf (clB bs) 255=8*nOf (clB bs) 252:=by
 have c:=clamp_bits bs
 have e1:nOf (clB bs) 255=2*nOf (clB bs) 254+(if bitN (clB bs) 0 then 1 else 0):=rfl
 have e2:nOf (clB bs) 254=2*nOf (clB bs) 253+(if bitN (clB bs) 1 then 1 else 0):=rfl
 have e3:nOf (clB bs) 253=2*nOf (clB bs) 252+(if bitN (clB bs) 2 then 1 else 0):=rfl
 rw [c.2.2.2] at e1
 rw [c.2.2.1] at e2
 rw [c.2.1] at e3
 simp only [Bool.false_eq_true,if_false] at e1 e2 e3
 omega
theorem key_ord (bs:Nat→Nat):¬ordN ∣ nOf (clB bs) 255:=fun h=>by
 rw [nOf_eight] at h
 rcases ord_prime.euclid h with h1 | h1
 · exact absurd (Nat.le_of_dvd (by decide) h1) (by decide)
 · have s:=nOf_size bs 251
   have h2:=Nat.le_of_dvd (Nat.lt_of_lt_of_le (by decide) s.1) h1
   have h3:ordN<2 ^ (251+1):=Nat.lt_of_le_of_lt h2 s.2
   exact absurd h3 (by decide)
theorem agreed (ss bs:Nat→Nat):mulL (clB ss) (mulL (clB bs) 9)≠0∧mulL (clB bs) (mulL (clB ss) 9)=mulL (clB ss) (mulL (clB bs) 9):=by
 refine ⟨fun h0 => ?_,mulL_comm _ _ 9 nine_lt⟩
 obtain ⟨e,D,P,h⟩:=has_point 9 nine_lt (by decide)
 have hz:cF 0=0:=by decide
 have hb:mulL (clB bs) 9≠0:=fun hb=>by
  have hm:=mulL_u h nine_lt (clB bs)
  rw [hb,hz] at hm
  exact no_half h (key_ord bs) hm.symm
 have hm:=mulL_u (h.next nine_lt (clB bs) hb) (mulL_less _ _) (clB ss)
 rw [h0,hz,emul_mul h.ns h.on] at hm
 refine no_half h (fun hd => ?_) hm.symm
 rcases ord_prime.euclid hd with h1 | h1
 · exact key_ord bs h1
 · exact key_ord ss h1
end Go.Proofs.YtcgkajlehdgpoaaGreatDoor
namespace Go.Proofs.YtcgkajlehdgpoaaGreatDoor
open Go.RowKit
theorem sd_pub (a b:Nat→Nat):sdN a (puN b)=mulL (clB a) (mulL (clB b) 9):=by
 unfold sdN puN
 rw [loB_byt (mulL_less _ _)]
theorem sd_both (a b:Nat→Nat):sdN a (puN b)≠0∧sdN b (puN a)=sdN a (puN b):=by
 rw [sd_pub,sd_pub]
 exact agreed a b
theorem open_none (v u m t:Value) (ml n:Nat) (ks nn M X:Nat→Nat) (q x:Nat) (hq:q<16) (hx:x<256) (h0:¬x=0) (hml:ml≤65536) (hn:n≤65536) (hks:∀ j,ks j<256) (hnn:∀ j,nn j<256) (hM:∀ j,M j<256) (hX:∀ j,X j<256) (w:World) (hv:BytesIn w v 16 ks) (hu:BytesIn w u 12 nn) (hm:BytesIn w m ml M) (ht:BytesIn w t (n+16) (upd (slB ks nn ml M n X) (n+q) (slB ks nn ml M n X (n+q) ^^^ x))) :
 AnsC 47 #[v,u,m,t] w 0 z0 32:=by
 have hlt:∀ j,upd (slB ks nn ml M n X) (n+q) (slB ks nn ml M n X (n+q) ^^^ x) j<256:=fun j=>by
  unfold upd
  split
  · exact xor_byte (Nat.mod_lt _ (by decide)) hx
  · exact Nat.mod_lt _ (by decide)
 refine ans_nil ((open_long v u m t ml n ks nn M _ hml hn hks hnn hM hlt w hv hu hm ht).mono fun _ _ ⟨_,h2,hb⟩=>⟨h2 fun hs=>h0 ?_,hb⟩)
 have e:=hs q hq
 rw [tgN_same ks nn ml M n (F:=trN ks nn X) (fun j hj=>by
  unfold upd
  rw [if_neg (by omega)]
  exact slB_low hks hnn hX ml M n j hj),←slB_tag hks hnn X ml M n q hq] at e
 unfold upd at e
 dsimp only at e
 rw [if_pos rfl] at e
 have e2:=congrArg (fun y=>slB ks nn ml M n X (n+q) ^^^ y) e
 simp only [Nat.xor_self,←Nat.xor_assoc,Nat.zero_xor] at e2
 exact e2.symm
def o4 (k n:Int) (u v:Value):List Value:=[.int .i64 k,.int .i64 n,u,v]
theorem infoOp (k n:Int) (u v:Value):(Tryz.prog.info? 41).map (·.size)=some (o4 k n u v).length:=by kernel_rfl
theorem infoOpA (k n:Int) (u v:Value):(Tryz.prog.info? 41).map (·.size)=some (o4 k n u v).toArray.size:=by kernel_rfl
theorem oneOp (k n:Int) (x y:Option Addr) (a b c d:Nat):(o4 k n (.slice x a b) (.slice y c d)).toArray.all (·.oneCell')=true:=by simp [o4,Value.oneCell']
theorem zeroOp (w:World):Sem.run Tryz.prog (zeroValue 41) w = .ok (.agg (o4 0 0 (.slice none 0 0) (.slice none 0 0)).toArray) w:=by kernel_rfl
end Go.Proofs.YtcgkajlehdgpoaaGreatDoor
namespace Go.Proofs.YtcgkajlehdgpoaaGreatDoor
open Go.RowKit
set_option maxRecDepth 20000 in
set_option maxHeartbeats 16000000 in
theorem hpkeBack_any (v0 v1 v2:Value) (n0 n1 n2:Nat) (b0 b1 b2:Nat→Nat) (l0:∀ j,b0 j<256) (l1:∀ j,b1 j<256) (l2:∀ j,b2 j<256) (k0:n0+300<140737488355000) (k1:n1+300<140737488355000) (xo:Option Addr) (cnt cap:Nat) (kd nn:Nat→Int) (mv tv:Nat→Value) (mn tn:Nat→Nat) (mb tb:Nat→Nat→Nat) (x:Nat) (hx:x<256) (w:World) (hT:HTab w cubeK squareK) (h0:BytesIn w v0 n0 b0) (h1:BytesIn w v1 n1 b1) (h2:BytesIn w v2 n2 b2) (ho:OpsQ w xo cnt kd nn mv tv mn tn mb tb) :
 Calls Tryz.prog 7 #[v0,v1,v2,.slice xo cnt cap,.int .u8 (x:Int)] w fun e w'=>e = .returned (.bool true)∧Below w.heap.size w w':=by
 have hnum:=num10_any
 have hK:=fun W hb=>knows10 W (hT.keep hb)
 have zo:=zeroOp
 obtain ⟨x2,d2,rfl,-,-,-⟩:=h2.src
 by_cases h6:n2≤65536
 · have i6:¬((65536:Int)<(n2:Int)):=by omega
   have ag:=sd_both (dsN n1 b1) (dsN n0 b0)
   have c1:=cDerive_any v0 n0 b0 l0 k0 w hT h0
   have c2:=fun p W hb hp=>cEncap_some p v1 n1 (puN (dsN n0 b0)) b1 (puN_lt _) l1 k1 ag.1 W (hT.keep hb) hp (h1.keep hb)
   have c3:=fun s p W hb hs hp=>cDecap_some s p (dsN n0 b0) (puN (dsN n1 b1)) (dsN_lt _ _) (puN_lt _) (by rw [ag.2];exact ag.1) W (hT.keep hb) hs hp
   rw [ag.2] at c3
   have lS:∀ j,shN2 (byt (sdN (dsN n1 b1) (puN (dsN n0 b0)))) (puN (dsN n1 b1)) (puN (dsN n0 b0)) j<256:=shN2_lt _ _ _
   generalize shN2 (byt (sdN (dsN n1 b1) (puN (dsN n0 b0)))) (puN (dsN n1 b1)) (puN (dsN n0 b0))=S at *
   have c4:=fun s W hb hs=>cNew_good s (.slice x2 n2 d2) n2 S b2 lS l2 h6 W (hT.keep hb) hs (h2.keep hb)
   have lK:∀ j,ckN lKey 16 S n2 b2 j<256:=ckN_lt _ _ _ _ _
   have lN:∀ j,ckN lBn 12 S n2 b2 j<256:=ckN_lt _ _ _ _ _
   have lX:∀ j,ckN lExp 32 S n2 b2 j<256:=ckN_lt _ _ _ _ _
   generalize ckN lKey 16 S n2 b2=K at *
   generalize ckN lBn 12 S n2 b2=N at *
   generalize ckN lExp 32 S n2 b2=X at *
   generalize puN (dsN n1 b1)=P1 at *
   generalize puN (dsN n0 b0)=P0 at *
   generalize dsN n0 b0=D0 at *
   have c7:=fun g m W hb hc=>cExport_good g m K N X lX (.slice x2 n2 d2) n2 40 b2 l2 h6 (by decide) W (hT.keep hb) hc (h2.keep hb)
   have lE:∀ j,leN lAll 32 X lSec n2 b2 40 j<256:=leN_lt _ _ _ _ _ _ _
   generalize leN lAll 32 X lSec n2 b2 40=EX at *
   have s0:=fun S:ByteArray=>beq_self_eq_true S.toList
   have e1:=s0 (strB 32 S)
   have e2:=s0 (strB 40 EX)
   clear ag h2 hT s0
   go_enter Tryz.func7,Tryz.ntmps7
   go_upto_region 6 with (first
    | (go_at_call 9;refine c1.mono ?_;clear c1;rintro e w1 ⟨s1,p1,rfl,o1,q1,b1⟩;(have y1:=c2 p1 w1 b1 q1);clear c2 q1)
    | (go_at_call 11;refine y1.mono ?_;clear y1;rintro e w2 ⟨s2,p2,rfl,o2,q2,hb2⟩;(have b2:=below_next b1 hb2);(replace o1:=o1.keep hb2);(have y2:=c3 s1 p2 w2 b2 o1 q2);clear c3 hb2 b1 q2 o1)
    | (go_at_call 13;refine y2.mono ?_;clear y2;rintro e w3 ⟨s3,rfl,o3,hb3⟩;(have b3:=below_next b2 hb3);(replace o2:=o2.keep hb3);clear hb3 b2))
   have r1:=o2.conv lS w3 (Below.refl _ _)
   have r2:=o3.conv lS w3 (Below.refl _ _)
   have z1:=hK w3 b3
   clear hK
   generalize strB 32 S=SS at *
   go_upto_region 8 with (first
    | (go_at_call 15;refine (hnum _ _).mono ?_;rintro e wn ⟨rfl,rfl⟩)
    | rw [r1]
    | rw [r2]
    | (go_at_call 17;refine z1.mono ?_;clear z1;rintro e w4 ⟨rfl,hb4⟩;(have b4:=below_next b3 hb4);(replace o2:=o2.keep hb4);(replace o3:=o3.keep hb4);(have y4:=c4 _ w4 b4 o2);clear r1 r2 o2 hb4 b3))
   go_upto_region 12 with (first
    | (go_at_call 18;refine y4.mono ?_;clear y4;rintro e w5 ⟨g5,rfl,hg5,x5,hb5⟩;(have l5:w.heap.size≤g5:=Nat.le_trans b4.size hg5);(have b5:=below_next b4 hb5);(replace o3:=o3.keep hb5);(have y5:=c4 _ w5 b5 o3);clear hb5 b4 c4 hg5)
    | (go_at_call 18;refine y5.mono ?_;clear y5;rintro e w6 ⟨g6,rfl,hg6,x6,hb6⟩;(have ne:g6≠g5:=Nat.ne_of_gt (Nat.lt_of_lt_of_le x5.lt hg6));(have l6:w.heap.size≤g6:=Nat.le_trans b5.size hg6);(have b6:=below_next b5 hb6);(replace x5:=x5.keep hb6);clear hb6 b5 hg6 o3)
    | (go_at_call 15;refine (hnum _ _).mono ?_;rintro e wn ⟨rfl,rfl⟩))
   clear e1 lS
   go_wp2
   go_loopw [22] (fun i wr=>∃ k m:Nat,k≤cnt∧k≤20∧m≤k∧i = .int .i64 (k:Int)∧CCtx wr g5 K N X m∧CCtx wr g6 K N X m∧Below w.heap.size w wr) (fun i _=>20 - (intOf i).toNat)
   case atStart=>exact ⟨0,0,Nat.zero_le _,Nat.zero_le _,Nat.le_refl _,by go_num,x5,x6,b6⟩
   case round =>
    clear x5 x6 b6
    obtain ⟨k,m,hk1,hk2,hmk,rfl,xc,xd,b⟩:=hrel
    by_cases hlt:k<cnt∧k<20
    · obtain ⟨q1,q2⟩:=hlt
      have q1':(k:Int)<(cnt:Int):=by omega
      have q2':(k:Int)<20:=by omega
      obtain ⟨lb,lo,hxo,hlb,hcells⟩:=ho.cell k q1
      subst hxo
      obtain ⟨hm,lm,-⟩:=ho.more k q1
      obtain ⟨ht,lt,-⟩:=ho.text k q1
      obtain ⟨xm,dm,em,-,-,-⟩:=hm.src
      obtain ⟨xt,dt,et,-,-,-⟩:=ht.src
      have hrange:wr.rangeAt lb (lo+k*4) (o4 (kd k) (nn k) (mv k) (tv k)):=fun j v hv=>(b.cell (p:=⟨lb,lo+k*4+j,none⟩) hlb).trans (hcells j v hv)
      rw [em] at hm hrange
      rw [et] at ht hrange
      generalize kd k=ik at *
      generalize nn k=ni at *
      generalize mn k=ml at *
      generalize tn k=n at *
      generalize mb k=M at *
      generalize tb k=T at *
      have hz:=RW.fresh wr (o4 0 0 (.slice none 0 0) (.slice none 0 0)) 41
      have th:(wr.alloc (.cells (o4 0 0 (.slice none 0 0) (.slice none 0 0)).toArray 41)).there wr.heap.size 0 (o4 ik ni (.slice xm ml dm) (.slice xt n dt)).toArray.size:=hz.there
      obtain ⟨V,hV⟩:∃ V,V=(wr.alloc (.cells (o4 0 0 (.slice none 0 0) (.slice none 0 0)).toArray 41)).setCells wr.heap.size 0 (o4 ik ni (.slice xm ml dm) (.slice xt n dt)):=⟨_,rfl⟩
      have r:RW V wr.heap.size 0 (o4 ik ni (.slice xm ml dm) (.slice xt n dt)):=by rw [hV];exact hz.stored _ rfl
      have bV:Below wr.heap.size wr V:=by rw [hV];exact below_setCells (Nat.le_refl _) _ _ _ ((Below.refl _ _).alloc (Nat.le_refl _) _)
      have HV:=Hid.mk' hV
      clear hV hz hcells em et c7
      go_upto_region 16 with (first
       | (refine wpList_load_mid rfl 41 _ rfl lb (lo+k*4) rfl (o4 ik ni (.slice xm ml dm) (.slice xt n dt)) _ hrange Tryz.underlying41 rfl (infoOp _ _ _ _) ?_)
       | (with_reducible (refine id (?_:wpList _ _ _ _ _ _));refine wpList_store_mid rfl 41 _ _ rfl wr.heap.size 0 (o4 ik ni (.slice xm ml dm) (.slice xt n dt)).toArray rfl rfl th (infoOpA _ _ _ _) (oneOp _ _ _ _ _ _ _ _) ?_;rw [List.toList_toArray,←HV.out];clear th HV))
      (try dsimp only [Act.put])
      have ng:wr.heap.size≠g5:=Nat.ne_of_gt xc.lt
      have ng6:wr.heap.size≠g6:=Nat.ne_of_gt xd.lt
      replace xc:=xc.keep bV
      replace xd:=xd.keep bV
      replace b:=below_next b bV
      generalize wr.heap.size=go at *
      clear hrange bV
      have f2:V.cell? ⟨go,2,none⟩=some (.slice xm ml dm):=r.range 2 _ rfl
      have f3:V.cell? ⟨go,3,none⟩=some (.slice xt n dt):=r.range 3 _ rfl
      by_cases hs:ml≤65536∧n≤65536
      · obtain ⟨hs1,hs2⟩:=hs
        have i1:¬((65536:Int)<(ml:Int)):=by omega
        have i2:¬((65536:Int)<(n:Int)):=by omega
        have lNm:∀ j,ncN N m j<256:=ncN_lt lN m
        have y1:=cSeal g5 m K N X lN (.slice xm ml dm) (.slice xt n dt) (n+16) _ 0 (.inl rfl) (by omega) V xc (fun kv nv W hb h1 h2=>sealA K (ncN N m) M T ml n hs1 hs2 lK lNm lm lt kv nv _ _ W h1 h2 (hm.keep (below_next b hb)) (ht.keep (below_next b hb)))
        have lY:∀ j,slB K (ncN N m) ml M n T j<256:=slB_lt _ _ _ _ _ _
        have oB:∀ z W W',BytesIn W z (n+16) (slB K (ncN N m) ml M n T)→Below w.heap.size w W→CCtx W g6 K N X m→Below W.heap.size W W'→True:=fun _ _ _ _ _ _ _=>trivial
        have aB:∀ z W,BytesIn W z (n+16) (slB K (ncN N m) ml M n T)→Below w.heap.size w W→CCtx W g6 K N X m→Calls Tryz.prog 22 #[.pointer (some ⟨g6,0,none⟩),.slice xm ml dm,z] W fun e w'=>∃ s,e = .returned (.tuple #[s,.int .i64 0])∧BytesIn w' s n T∧CCtx w' g6 K N X (m+1)∧Out g6 3 1 W w':=fun z W hz hb hc =>
         cOpen g6 m K N X lN _ _ n T 0 (.inl rfl) (by omega) W hc (fun kv nv W' hb' h1 h2=>open_back kv nv _ z ml n K (ncN N m) M T hs1 hs2 lK lNm lm lt W' h1 h2 (hm.keep (below_next hb hb')) (hz.keep hb'))
        have aN:¬x=0→∀ z W,BytesIn W z (n+16) (upd (slB K (ncN N m) ml M n T) (n+15) (slB K (ncN N m) ml M n T (n+15) ^^^ x))→Below w.heap.size w W→CCtx W g6 K N X m→Calls Tryz.prog 22 #[.pointer (some ⟨g6,0,none⟩),.slice xm ml dm,z] W fun e w'=>∃ s,e = .returned (.tuple #[s,.int .i64 32])∧BytesIn w' s 0 z0∧CCtx w' g6 K N X m∧Out g6 3 1 W w':=fun h0 z W hz hb hc =>
         cOpen g6 m K N X lN _ _ 0 z0 32 (.inr rfl) (by omega) W hc (fun kv nv W' hb' h1 h2=>open_none kv nv _ z ml n K (ncN N m) M T 15 x (by decide) hx h0 hs1 hs2 lK lNm lm lt W' h1 h2 (hm.keep (below_next hb hb')) (hz.keep hb'))
        clear oB
        obtain ⟨Y,hY⟩:∃ Y,Y=slB K (ncN N m) ml M n T:=⟨_,rfl⟩
        rw [←hY] at y1 lY aB aN
        have hn6:n≤65536:=hs2
        clear hY hs1 hs2
        obtain ⟨L,hL⟩:∃ L,L=n+16:=⟨_,rfl⟩
        obtain ⟨q,hq⟩:∃ q,q=n+15:=⟨_,rfl⟩
        rw [←hL] at y1 aB aN
        rw [←hq] at aN
        have iL:(n:Int)+16=(L:Int):=by omega
        have iL2:IntKind.i64.wrap ((n:Int)+16)=(L:Int):=by simp only [IntKind.wrap_i64];omega
        have iq:(L:Int) - 1=(q:Int):=by omega
        have iq2:IntKind.i64.wrap ((L:Int) - 1)=(q:Int):=by simp only [IntKind.wrap_i64];omega
        have t1:(0:Int)≤(q:Int)∧(q:Int)<(L:Int):=by omega
        have t3:q<L:=by omega
        have hL6:L≤140737488355328:=by omega
        have HL:=Hid.mk' hL
        clear hL hq hn6
        go_upto_region 18 with (go_at_call 21;refine y1.mono ?_;clear y1;rintro e w1 ⟨s1,rfl,o1,c1,u1⟩;(replace c1:CCtx w1 g5 K N X (m+1):=c1);(have bb1:Below w.heap.size w w1:=b.trans (u1.below l5 b.size));(replace r:=r.out u1 ng);(replace xd:=xd.outU xc.num ne u1);clear f2 f3;(have f2:w1.cell? ⟨go,2,none⟩=some (.slice xm ml dm):=r.range 2 _ rfl);(have f3:w1.cell? ⟨go,3,none⟩=some (.slice xt n dt):=r.range 3 _ rfl);(obtain ⟨xy,dy,ey,hxn,-,hsrc⟩:=o1.src);subst ey;(have hsu:=hsrc _ ((Below.refl w1.heap.size w1).alloc (Nat.le_refl _) (.cells #[] 5)));clear xc u1 b hsrc)
        go_upto_region 22 with (first
         | (go_at_call 15;refine (hnum _ _).mono ?_;rintro e wn ⟨rfl,hwn⟩;obtain rfl:=hwn.symm)
         | (at_builtin;refine wpList_append_empty rfl (.tmp 137) (.tmp 138) rfl w1.heap.size Y w1.heap.size rfl rfl xy L dy rfl hsu hxn hL6 (Nat.le_refl _) ?_;intro v2 w2 own2 hb2;(obtain ⟨g2,c2,hv2,hg2,-,hc2,r2⟩:=own2.form.resolve_left (fun h=>by omega));subst hv2;clear own2 hsu;(have z1:=(r2 q t3).1);(have z2:=(r2 q t3).2);(have rz:=r2.set (i:=q) t3 (v:=((Y q ^^^ x:Nat):Int)) rfl);(have x1:=u8_xor_nat (Y q) x (lY q) hx);rw [Nat.zero_add] at z1 z2 rz;(have b3:=hb2.setCell (p:=⟨g2,q,none⟩) hg2 (.int .u8 ((Y q ^^^ x:Nat):Int)));(have Hx:=Hid.mk' rz);clear rz;(obtain ⟨u,hu⟩:∃ u,u=Y q:=⟨_,rfl⟩);(obtain ⟨z,hz⟩:∃ z,z=Y q ^^^ x:=⟨_,rfl⟩);rw [←hz] at x1 b3;rw [←hu] at z1 x1;(have Hz:=Hid.mk' hz);clear hu hz r2 hb2))
        have rz:=Hx.out
        rw [←Hz.out] at rz aN
        obtain ⟨W3,hW3⟩:∃ W,W=w2.setCell ⟨g2,q,none⟩ (.int .u8 (z:Int)):=⟨_,rfl⟩
        rw [←hW3] at rz b3 ⊢
        have b:=below_next bb1 b3
        replace c1:=c1.keep b3
        replace xd:=xd.keep b3
        replace r:=r.still b3
        replace o1:=o1.keep b3
        clear f2 f3 z1 z2 x1 hW3 Hx b3 bb1
        have f2:W3.cell? ⟨go,2,none⟩=some (.slice xm ml dm):=r.range 2 _ rfl
        have hzb:BytesIn W3 (.slice (some ⟨g2,0,none⟩) L c2) L (upd Y q z) := .inr ⟨g2,0,c2,rfl,block_lt_of_cell (rz q t3).1,hc2,fun j hj=>(rz j hj).1⟩
        have e3:=beq_self_eq_true (strB n T).toList
        clear rz
        by_cases h0:x=0
        · have i0:(x:Int)=0:=by omega
          have H0:=Hid.mk' (congrArg (Value.int .u8) i0.symm)
          have hzy:BytesIn W3 (.slice (some ⟨g2,0,none⟩) L c2) L Y:=hzb.like fun j hj=>by
           unfold upd
           by_cases e:j=q
           · rw [if_pos e,Hz.out,h0,Nat.xor_zero,e]
           · rw [if_neg e]
          have y2:=aB _ W3 hzy b xd
          clear aB aN h0 hzb hzy
          go_upto_region 23 with (go_at_call 22;refine y2.mono ?_;clear y2;rintro e w4 ⟨s4,rfl,-,x4,u4⟩;(have b4:Below w.heap.size w w4:=b.trans (u4.below l6 b.size));(replace c1:=c1.outU xd.num ne.symm u4);clear xd u4 r f2 o1)
          go_wp2_with (go_at_call 15;refine (hnum _ _).mono ?_;rintro e wn ⟨rfl,hwn⟩;obtain rfl:=hwn.symm)
          rw [H0.out]
          go_roundw
          case rel=>exact ⟨k+1,m+1,by omega,by omega,by omega,by go_num,c1,x4,b4⟩
          case measure=>simp [intOf];omega
        · have i0:¬((x:Int)=0):=by omega
          have y2:=aN h0 _ W3 hzb b xd
          clear aN h0 hzb
          go_upto_region 26 with (first
           | (go_at_call 22;refine y2.mono ?_;clear y2;rintro e w4 ⟨s4,rfl,-,x4,u4⟩;(have b4:Below w.heap.size w w4:=b.trans (u4.below l6 b.size));(replace c1:=c1.outU xd.num ne.symm u4);(replace o1:=o1.outU xd.num u4);(replace r:=r.out u4 ng6);clear f2;(have f2:w4.cell? ⟨go,2,none⟩=some (.slice xm ml dm):=r.range 2 _ rfl);(have y3:=aB _ w4 o1 b4 x4);clear xd u4 o1 aB)
           | (go_at_call 15;refine (hnum _ _).mono ?_;rintro e wn ⟨rfl,hwn⟩;obtain rfl:=hwn.symm))
          go_upto_region 27 with (go_at_call 22;refine y3.mono ?_;clear y3;rintro e w5 ⟨s5,rfl,o5,x5,u5⟩;(have b5:Below w.heap.size w w5:=b4.trans (u5.below l6 b4.size));(replace c1:=c1.outU x4.num ne.symm u5);(replace r:=r.out u5 ng6);clear f2;(have f3:w5.cell? ⟨go,3,none⟩=some (.slice xt n dt):=r.range 3 _ rfl);clear x4 u5 b4)
          have r1:=o5.conv lt w5 (Below.refl _ _)
          have r2:=(ht.keep b5).conv lt w5 (Below.refl _ _)
          clear o5
          generalize strB n T=ST at *
          go_wp2_with (first
           | (go_at_call 15;refine (hnum _ _).mono ?_;rintro e wn ⟨rfl,hwn⟩;obtain rfl:=hwn.symm)
           | rw [r1]
           | rw [r2])
          go_roundw
          case rel=>exact ⟨k+1,m+1,by omega,by omega,by omega,by go_num,c1,x5,b5⟩
          case measure=>simp [intOf];omega
      · have hcase:(65536:Int)<(ml:Int)∨(¬((65536:Int)<(ml:Int))∧(65536:Int)<(n:Int)):=by omega
        clear hs
        rcases hcase with hz | ⟨hz,hz2⟩
        · go_wp2
          go_roundw
          case rel=>exact ⟨k+1,m,by omega,by omega,by omega,by go_num,xc,xd,b⟩
          case measure=>simp [intOf];omega
        · go_wp2
          go_roundw
          case rel=>exact ⟨k+1,m,by omega,by omega,by omega,by go_num,xc,xd,b⟩
          case measure=>simp [intOf];omega
    · have hend:¬((k:Int)<(cnt:Int))∨((k:Int)<(cnt:Int)∧¬((k:Int)<20)):=by omega
      clear hlt
      have y1:=c7 g5 m wr b xc
      have y2:=fun W hb=>c7 g6 m W (below_next b hb) (xd.keep hb)
      clear c7
      rcases hend with hz | ⟨hz,hz2⟩
      · go_upto_region 33 with (first
         | (go_at_call 23;refine y1.mono ?_;clear y1;rintro e w7 ⟨s7,rfl,o7,hb7⟩;(have b7:=below_next b hb7);(replace o7:=NewR.bytes (by decide) o7);(have y3:=y2 w7 hb7);clear y2)
         | (go_at_call 23;refine y3.mono ?_;clear y3;rintro e w8 ⟨s8,rfl,o8,hb8⟩;(have b8:=below_next b7 hb8);(replace o8:=NewR.bytes (by decide) o8);(replace o7:=o7.keep hb8);clear hb8 b7))
        have r1:=o7.conv lE w8 (Below.refl _ _)
        have r2:=o8.conv lE w8 (Below.refl _ _)
        generalize strB 40 EX=SX at *
        go_wp2_with (first
         | (go_at_call 15;refine (hnum _ _).mono ?_;rintro e wn ⟨rfl,rfl⟩)
         | rw [r1]
         | rw [r2])
        go_ret
        exact ⟨rfl,b8⟩
      · go_upto_region 33 with (first
         | (go_at_call 23;refine y1.mono ?_;clear y1;rintro e w7 ⟨s7,rfl,o7,hb7⟩;(have b7:=below_next b hb7);(replace o7:=NewR.bytes (by decide) o7);(have y3:=y2 w7 hb7);clear y2)
         | (go_at_call 23;refine y3.mono ?_;clear y3;rintro e w8 ⟨s8,rfl,o8,hb8⟩;(have b8:=below_next b7 hb8);(replace o8:=NewR.bytes (by decide) o8);(replace o7:=o7.keep hb8);clear hb8 b7))
        have r1:=o7.conv lE w8 (Below.refl _ _)
        have r2:=o8.conv lE w8 (Below.refl _ _)
        generalize strB 40 EX=SX at *
        go_wp2_with (first
         | (go_at_call 15;refine (hnum _ _).mono ?_;rintro e wn ⟨rfl,rfl⟩)
         | rw [r1]
         | rw [r2])
        go_ret
        exact ⟨rfl,b8⟩
 · have i6:(65536:Int)<(n2:Int):=by omega
   have cK:=hK w (Below.refl _ _)
   go_enter Tryz.func7,Tryz.ntmps7
   go_wp2_with (go_at_call 17;refine cK.mono ?_;clear cK;rintro e w5 ⟨rfl,hb5⟩)
   go_ret
   exact ⟨rfl,hb5⟩
end Go.Proofs.YtcgkajlehdgpoaaGreatDoor
