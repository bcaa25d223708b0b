/- The base of the reference; bytes of another length. -/
import Derived.Test.YtibdhadbflfdpaaGreatDoorRDec6
import Derived.Test.YtibdhadbflfdpaaGreatDoorRootQAM
namespace Go.Proofs.YtibdhadbflfdpaaGreatDoor
open Nat renaming le_refl → JW
open Go renaming wpList_store_mid → J2
open Go.RowKit
def qB:Nat:=26187595835145689230469591415084376402084551887632582719101735842039498021991
def rB:Nat:=42783823269122696939284341094755422415180979639778424813682678720006717057747
def uB:Nat:=37053468555941182535542715202780130513046395093004980492626426882532201484767
def vB:Nat:=35320460721920060721965471946471712506633951349663716574434581141966314745466
theorem I7:dV yB=uB:=by kernel_rfl
theorem I2:d8 yB=vB:=by kernel_rfl
theorem G1 {u v q:Nat} (hq:q<pF) (hv0:v≠0) (hv:v<pF) (h:q*v%pF=u):gL u v=q:=o9 hq hv0 hv h
theorem sK:gL uB vB=qB:=G1 (by decide) (by decide) (by decide) (by decide)
theorem IE {b k e r:Nat} (h:e<2 ^ k) (hp:pm pF b k e=r):b ^ e%pF=r:=by rw [←ir pF b k e h,hp]
theorem Io:pm pF qB 252 7237005577332262213973186563042994240829374041602535252466099000494570602494=rB:=by kernel_rfl
theorem Bn {k u v q r:Nat} (hq:gL u v=q) {e:Nat} (he:k+1=e) (hl:e<2 ^ 252) (hp:pm pF q 252 e=r):dv k u v=r:=by
 unfold dv;rw [hq,he];exact IE hl hp
theorem EB:kP+1=7237005577332262213973186563042994240829374041602535252466099000494570602494:=by decide
theorem wK:dv kP uB vB=rB:=Bn sK EB (by decide) Io
theorem BN {k u v q r:Nat} (hq:gL u v=q) (hy:dv k u v=r) (h:r*r%pF=q):fw k u v=r:=by
 unfold fw;rw [hy,hq];exact if_pos h
theorem CH {k u v q r x:Nat} (hq:gL u v=q) (hz:fw k u v=r) (h:r*r%pF=q) (hv:v≠0) (hx:me r=x):eE k u v=some x:=by
 unfold eE;rw [hz,hq,if_pos ⟨h,fun h=>hv h.1⟩,hx]
theorem FE:rB*rB%pF=qB:=by decide
theorem Al:eE kP (dV yB) (d8 yB)=some xB:=by
 rw [I7,I2];exact CH sK (BN sK wK FE) FE (by decide) (by decide)
theorem EC {N:Nat} (h:N<pF) {j:Nat} (_hj:j<32):fR (bf N) j=bf N j:=by
 unfold fR
 by_cases h31:j=31
 · rw [if_pos h31,h31]
   exact Nat.mod_eq_of_lt (eu h)
 · rw [if_neg h31]
theorem uF:bv (bf yB)=some (eO xB yB):=by
 have e:aK (fR (bf yB)) 32=yB:=by
  rw [dP 32 (fun j hj=>EC mI hj),ed];decide
 have e31:¬(bf yB 31 / 128=1):=by
  have:=eu mI;omega
 unfold bv;rw [e,if_pos mI,Al];show (if bf yB 31 / 128=1∧xB=0 then none else some (eO (if bf yB 31 / 128=1 then cj 0 xB else xB) yB))=_;rw [if_neg (fun h=>e31 h.1),if_neg e31]
theorem El:av 4 (de 5)=yB:=o9 mI (by decide) (by decide) (by decide)
set_option maxRecDepth 20000 in
set_option maxHeartbeats 4000000 in
theorem Ao (w:World):Calls Tryz.prog 106 #[] w fun e w'=>∃ t:P4,e = .returned t.V∧t.Rep (eO xB yB)∧Below w.heap.size w w':=by
 have hz:=dC;have hzq:=jd
 have c4':∀ W,Calls Tryz.prog 119 #[.int .i64 4] W fun e w'=>∃ R,e = .returned (.agg (aD R).toArray)∧Rw R 4∧Below W.heap.size W w':=ia 4 (by decide)
 have c5':∀ W,Calls Tryz.prog 119 #[.int .i64 5] W fun e w'=>∃ R,e = .returned (.agg (aD R).toArray)∧Rw R 5∧Below W.heap.size W w':=ia 5 (by decide)
 have ci:∀ A,Rw A 5→∀ W,Calls Tryz.prog 126 #[.agg (aD A).toArray] W fun e w'=>∃ R,e = .returned (.agg (aD R).toArray)∧Rw R (de 5)∧Below W.heap.size W w':=fun A hA W=>gD A _ hA W
 have ct:∀ A B,Rw A 4→Rw B (de 5)→∀ W,Calls Tryz.prog 120 #[.agg (aD A).toArray,.agg (aD B).toArray] W fun e w'=>∃ R,e = .returned (.agg (aD R).toArray)∧Rw R yB∧Below W.heap.size W w':=fun A B hA hB W=>(bL hA hB W).mono fun e w' ⟨he,hb⟩=>⟨_,he,by rw [←El];exact iD hA hB,hb⟩
 have cb:∀ R,Rw R yB→∀ W,Calls Tryz.prog 118 #[.agg (aD R).toArray] W fun e w'=>∃ v,e = .returned v∧bx W.heap.size w' v 32 (bf yB)∧Below W.heap.size W w':=fun R hR W=>vr R _ hR mI W
 have cd:∀ v W,ae W v 32 (bf yB)→Calls Tryz.prog 57 #[v] W fun e w'=>∃ t:P4,e = .returned (.tuple #[.agg (aW t.X t.Y t.Z t.T).toArray,.int .i64 0])∧t.Rep (eO xB yB)∧Below W.heap.size W w':=fun v W h=>(qg v (bf yB) (bS _) W h).mono fun e w' ⟨t,er,he,hd,hb⟩=>by
  rcases hd with ⟨-,-,h1⟩ | ⟨h0,p,h1,h2⟩
  · rw [uF] at h1;cases h1
  · rw [uF] at h1
    obtain rfl:=Option.some.inj h1;subst h0;exact ⟨t,he,h2,hb⟩
 generalize eO xB yB=pb at *;generalize de 5=f5 at *;generalize yB=yb at *;obtain ⟨W,g0,eW,hg0,b,h0⟩:=mv w;have HW:Hid (w.alloc (.cells zQ 94)=W):=Hid.mk' eW;have Hg:Hid (w.heap.size=g0):=Hid.mk' hg0;have w0:w.heap.size≤g0:=Nat.le_of_eq hg0;clear eW hg0;go_enter Tryz.func106,Tryz.ntmps106
 go_wp2_with (first
  | (go_at_call 119;rw [HW.out,Hg.out];refine (c4' _).mono ?_;clear c4' HW Hg;rintro e w1 ⟨R1,rfl,hR1,hb1⟩;(replace h0:=h0.still hb1);(replace b:=aa b hb1);clear hb1)
  | (go_at_call 119;refine (c5' _).mono ?_;clear c5';rintro e w2 ⟨R2,rfl,hR2,hb2⟩;(replace h0:=h0.still hb2);(replace b:=aa b hb2);clear hb2)
  | (go_at_call 126;refine (ci R2 hR2 _).mono ?_;clear ci;rintro e w3 ⟨R3,rfl,hR3,hb3⟩;(replace h0:=h0.still hb3);(replace b:=aa b hb3);clear hb3)
  | (go_at_call 120;refine (ct R1 R3 hR1 hR3 _).mono ?_;clear ct;rintro e w4 ⟨R4,rfl,hR4,hb4⟩;(replace h0:=h0.still hb4);(replace b:=aa b hb4);clear hb4;(have z4:=dx w4);(have t4:=dH w4 R4);(obtain ⟨V4,hV4⟩:∃ V,V=(w4.alloc (.cells zI 92)).setCells w4.heap.size 0 (aD R4):=⟨_,rfl⟩);(have h1:RW V4 w4.heap.size 0 (aD R4):=by rw [hV4];exact z4.stored _ (by rw [ao,ao]));(have b4:Below w4.heap.size w4 V4:=by rw [hV4];exact ac (JW _) _ _ _ ((Below.refl _ _).alloc (JW _) _));(have H4:=Hid.mk' hV4);clear hV4 z4;(replace h0:=h0.still b4);(replace b:=aa b b4);clear b4)
  | (with_reducible (refine id (?_:wpList _ _ _ _ _ _));refine J2 rfl 92 _ _ rfl w4.heap.size 0 (aD R4).toArray rfl rfl t4 (bQ _) (fC _) ?_;rw [List.toList_toArray,←H4.out];clear t4 H4)
  | (refine wpList_load_mid rfl 92 _ rfl w4.heap.size 0 rfl (aD R4) _ h1.range Tryz.underlying92 rfl (aG _) ?_)
  | (go_at_call 118;refine (cb R4 hR4 _).mono ?_;clear cb;rintro e w5 ⟨v5,rfl,own5,hb5⟩;(replace h0:=h0.still hb5);(replace b:=aa b hb5);clear hb5 h1;(have cd5:=cd v5 w5 (ae.of_own own5));clear cd)
  | (go_at_call 57;refine cd5.mono ?_;clear cd5 own5;rintro e w6 ⟨t,rfl,ht,hb6⟩;(replace h0:=h0.still hb6);(replace b:=aa b hb6);clear hb6;(have l0:=h0.lt);(have z6:=eT w6);(have t6:(w6.alloc (.cells zQ 94)).there w6.heap.size 0 (aW t.X t.Y t.Z t.T).toArray.size:=bj z6);(obtain ⟨V6,hV6⟩:∃ V,V=(w6.alloc (.cells zQ 94)).setCells w6.heap.size 0 (aW t.X t.Y t.Z t.T):=⟨_,rfl⟩);(have h2:RW V6 w6.heap.size 0 (aW t.X t.Y t.Z t.T):=by rw [hV6];exact z6.stored _ (bk _ _ _ _ _ _ _ _));(have b6:Below w6.heap.size w6 V6:=by rw [hV6];exact ac (JW _) _ _ _ ((Below.refl _ _).alloc (JW _) _));(have H6:=Hid.mk' hV6);clear hV6 z6;(replace h0:=h0.still b6);(replace b:=aa b b6);clear b6;(have t0:V6.there g0 0 (aW t.X t.Y t.Z t.T).toArray.size:=bj h0))
  | (with_reducible (refine id (?_:wpList _ _ _ _ _ _));refine J2 rfl 94 _ _ rfl w6.heap.size 0 (aW t.X t.Y t.Z t.T).toArray rfl rfl t6 (bt _ _ _ _) (eq _ _ _ _) ?_;rw [List.toList_toArray,←H6.out];clear t6 H6)
  | (refine wpList_load_mid rfl 94 _ rfl w6.heap.size 0 rfl (aW t.X t.Y t.Z t.T) _ h2.range Tryz.underlying94 rfl (dQ _ _ _ _) ?_)
  | (with_reducible (refine id (?_:wpList _ _ _ _ _ _));refine J2 rfl 94 _ _ rfl g0 0 (aW t.X t.Y t.Z t.T).toArray rfl rfl t0 (bt _ _ _ _) (eq _ _ _ _) ?_))
 (try simp only [Exit.inBlock,Exit.then]);exact bodyPost_ret (ai Tryz.results106 _ _ g0 0 (aW t.X t.Y t.Z t.T) _ rfl (h0.stored (aW t.X t.Y t.Z t.T) (bk _ _ _ _ _ _ _ _)).range Tryz.underlying94 rfl (dQ _ _ _ _)) rfl ⟨t,rfl,ht,ac w0 _ _ _ b⟩
end Go.Proofs.YtibdhadbflfdpaaGreatDoor
