/- What the proof stands on: Then, Ones, Inverse, FSmall. -/
import Derived.Test.YtcgkajlehdgpoaaGreatDoorLimbsM
namespace Go.Proofs.YtcgkajlehdgpoaaGreatDoor
open Go.RowKit
theorem pF_pos:0<pF:=by decide
def sqN (n k:Nat):Nat:=n ^ (2 ^ k)%pF
theorem sqN_lt (n k:Nat):sqN n k<pF:=Nat.mod_lt _ pF_pos
theorem sqN_zero (n:Nat) (h:n<pF):sqN n 0=n:=by unfold sqN;rw [Nat.pow_zero,Nat.pow_one,Nat.mod_eq_of_lt h]
theorem sqN_step (n k:Nat):sqN n k*sqN n k%pF=sqN n (k+1):=by
 unfold sqN
 rw [←Nat.mul_mod,←Nat.pow_add,Nat.pow_succ,Nat.mul_two]
def NumW (w:World) (g n:Nat):Prop:=FourAt w g (.int .u64 (lw n 0)) (.int .u64 (lw n 1)) (.int .u64 (lw n 2)) (.int .u64 (lw n 3))
theorem NumW.ex {w:World} {g n:Nat} (h:NumW w g n):∃ x0 x1 x2 x3:Nat,numV n = .agg #[.int .u64 x0,.int .u64 x1,.int .u64 x2,.int .u64 x3]∧FourAt w g (.int .u64 x0) (.int .u64 x1) (.int .u64 x2) (.int .u64 x3):=⟨_,_,_,_,rfl,h⟩
set_option maxRecDepth 20000 in
set_option maxHeartbeats 2000000 in
theorem then_any (n m k:Nat) (hn:n<pF) (hm:m<pF) (hk:k<1000) (w:World) :
 Calls Tryz.prog 157 #[numV n,.int .i64 k,.func (.func 126) #[numV m] #[]] w fun e w'=>e = .returned (numV (m*sqN n k%pF))∧Below w.heap.size w w':=by
 have ct:=fun W=>times_any m (sqN n k) hm (sqN_lt n k) W
 obtain ⟨R,hR⟩:∃ R,R=m*sqN n k%pF:=⟨_,rfl⟩
 rw [←hR] at ct ⊢
 obtain ⟨z0,z1,z2,z3,hz⟩:=numV_ex R
 obtain ⟨m0,m1,m2,m3,hmv⟩:=numV_ex m
 rw [hz] at ct ⊢
 rw [hmv] at ct ⊢
 obtain ⟨W,hW⟩:∃ W,W=(w.alloc (.cells #[.int .u64 (lw n 0),.int .u64 (lw n 1),.int .u64 (lw n 2),.int .u64 (lw n 3)] 88)).alloc (.cells #[.int .u64 0,.int .u64 0,.int .u64 0,.int .u64 0] 88):=⟨_,rfl⟩
 have HW:=Hid.mk' hW
 have hWs:W.heap.size=w.heap.size+1+1:=by rw [hW];simp
 have hbW:Below w.heap.size w W:=by rw [hW];exact ((Below.refl _ _).alloc (Nat.le_refl _) _).alloc (by simp) _
 have hA:NumW W w.heap.size (sqN n 0):=by rw [sqN_zero n hn,hW];exact (four_fresh w _ _ _ _ _).below ((Below.refl _ _).alloc (Nat.le_refl _) _) (by simp)
 have hB:FourAt W (w.heap.size+1) (.int .u64 0) (.int .u64 0) (.int .u64 0) (.int .u64 0):=by
  have:=four_fresh (w.alloc (.cells #[.int .u64 (lw n 0),.int .u64 (lw n 1),.int .u64 (lw n 2),.int .u64 (lw n 3)] 88)) (.int .u64 0) (.int .u64 0) (.int .u64 0) (.int .u64 0) 88
  rw [World.size_alloc] at this
  rw [hW];exact this
 unfold numV
 clear hW hR hz hmv
 go_enter Tryz.func157,Tryz.ntmps157
 go_wp2
 rw [←HW.out]
 go_loopw [8] (fun i wr=>∃ q:Nat,q≤k∧i = .int .i64 q∧NumW wr w.heap.size (sqN n q)∧FourAt wr (w.heap.size+1) (.int .u64 0) (.int .u64 0) (.int .u64 0) (.int .u64 0)∧Below w.heap.size w wr∧w.heap.size+1<wr.heap.size) (fun i _=>k - (intOf i).toNat)
 case atStart=>exact ⟨0,Nat.zero_le _,rfl,hA,hB,hbW,by omega⟩
 case round =>
  clear hA hB hbW
  obtain ⟨q,hq,rfl,hA,hB,hb,hs⟩:=hrel
  by_cases hlt:q<k
  · have cs:=times_any (sqN n q) (sqN n q) (sqN_lt n q) (sqN_lt n q) wr
    rw [sqN_step] at cs
    obtain ⟨x0,x1,x2,x3,hx,hA'⟩:=hA.ex
    have hy:∃ y0 y1 y2 y3:Nat,numV (sqN n (q+1)) = .agg #[.int .u64 y0,.int .u64 y1,.int .u64 y2,.int .u64 y3]∧∀ W,FourAt W w.heap.size (.int .u64 y0) (.int .u64 y1) (.int .u64 y2) (.int .u64 y3)→NumW W w.heap.size (sqN n (q+1)):=⟨_,_,_,_,rfl,fun _ h=>h⟩
    obtain ⟨y0,y1,y2,y3,hye,hyn⟩:=hy
    rw [hx,hye] at cs
    obtain ⟨c0,c1,c2,c3,f0,f1,f2,f3⟩:=id hA'
    clear ct hx hye hA
    go_wp2_with (go_at_call 126;refine cs.mono ?_;clear cs;rintro e w1 ⟨rfl,hb1⟩;(have A1:=hA'.below hb1 (by omega));clear c0 c1 c2 c3 f0 f1 f2 f3;obtain ⟨c0,c1,c2,c3,f0,f1,f2,f3⟩:=id A1)
    go_roundw
    case rel =>
     refine ⟨q+1,by omega,by go_num,hyn _ (A1.set _ _ _ _),(hB.below hb1 (by omega)).far (by omega) _ _ _ _,below_set4' (hb.trans (hb1.mono hb.size)) (Nat.le_refl _) _ _ _ _,?_⟩
     show w.heap.size+1<(set4 _ _ _ _ _ _).heap.size
     rw [size_set4];have:=hb1.size;omega
    case measure=>simp [intOf];omega
  · have hqe:q=k:=by omega
    rw [hqe] at hA
    obtain ⟨x0,x1,x2,x3,hx,hA'⟩:=hA.ex
    have ct':=ct wr
    rw [hx] at ct'
    obtain ⟨c0,c1,c2,c3,f0,f1,f2,f3⟩:=id hA'
    clear ct hx hA
    go_wp2_with (go_at_call 126;refine ct'.mono ?_;clear ct';rintro e w1 ⟨rfl,hb1⟩;(have B1:=hB.below hb1 (by omega));(have ht1:=B1.there);clear c0 c1 c2 c3 f0 f1 f2 f3;obtain ⟨c0,c1,c2,c3,f0,f1,f2,f3⟩:=B1)
    (try simp only [Exit.inBlock,Exit.then])
    exact bodyPost_ret (results_set4 Tryz.results157 _ _ _ _ _ _ _ ht1 rfl Tryz.underlying88 rfl (by kernel_rfl)) rfl ⟨rfl,below_set4 (hb.trans (hb1.mono hb.size)) (by omega) _ _ _ _⟩
end Go.Proofs.YtcgkajlehdgpoaaGreatDoor
namespace Go.Proofs.YtcgkajlehdgpoaaGreatDoor
open Go.RowKit
theorem then_pow (x a b k e:Nat) (he:b+a*2 ^ k=e) (hk:k<1000) (w:World) :
 Calls Tryz.prog 157 #[numV (x ^ a%pF),.int .i64 k,.func (.func 126) #[numV (x ^ b%pF)] #[]] w fun e' w'=>e' = .returned (numV (x ^ e%pF))∧Below w.heap.size w w':=by
 have h:=then_any (x ^ a%pF) (x ^ b%pF) k (Nat.mod_lt _ pF_pos) (Nat.mod_lt _ pF_pos) hk w
 have e1:x ^ b%pF*sqN (x ^ a%pF) k%pF=x ^ e%pF:=by
  unfold sqN
  rw [←Nat.pow_mod,←Nat.mul_mod,←Nat.pow_mul,←Nat.pow_add,he]
 rw [e1] at h
 exact h
set_option maxRecDepth 20000 in
set_option maxHeartbeats 4000000 in
theorem ones250_any (x:Nat) (w:World) :
 Calls Tryz.prog 156 #[numV (x ^ 1%pF)] w fun e w'=>e = .returned (numV (x ^ 1809251394333065553493296640760748560207343510400633813116524750123642650623%pF))∧Below w.heap.size w w':=by
 have cc0:=fun W=>then_pow x 1 1 1 3 (by decide) (by decide) W
 have cc1:=fun W=>then_pow x 3 3 2 15 (by decide) (by decide) W
 have cc2:=fun W=>then_pow x 15 1 1 31 (by decide) (by decide) W
 have cc3:=fun W=>then_pow x 31 31 5 1023 (by decide) (by decide) W
 have cc4:=fun W=>then_pow x 1023 1023 10 1048575 (by decide) (by decide) W
 have cc5:=fun W=>then_pow x 1048575 1048575 20 1099511627775 (by decide) (by decide) W
 have cc6:=fun W=>then_pow x 1099511627775 1023 10 1125899906842623 (by decide) (by decide) W
 have cc7:=fun W=>then_pow x 1125899906842623 1125899906842623 50 1267650600228229401496703205375 (by decide) (by decide) W
 have cc8:=fun W=>then_pow x 1267650600228229401496703205375 1267650600228229401496703205375 100 1606938044258990275541962092341162602522202993782792835301375 (by decide) (by decide) W
 have cc9:=fun W=>then_pow x 1606938044258990275541962092341162602522202993782792835301375 1125899906842623 50 1809251394333065553493296640760748560207343510400633813116524750123642650623 (by decide) (by decide) W
 obtain ⟨va0,va1,va2,va3,hva⟩:=numV_ex (x ^ 1%pF)
 obtain ⟨vb0,vb1,vb2,vb3,hvb⟩:=numV_ex (x ^ 3%pF)
 obtain ⟨vc0,vc1,vc2,vc3,hvc⟩:=numV_ex (x ^ 15%pF)
 obtain ⟨vd0,vd1,vd2,vd3,hvd⟩:=numV_ex (x ^ 31%pF)
 obtain ⟨ve0,ve1,ve2,ve3,hve⟩:=numV_ex (x ^ 1023%pF)
 obtain ⟨vf0,vf1,vf2,vf3,hvf⟩:=numV_ex (x ^ 1048575%pF)
 obtain ⟨vg0,vg1,vg2,vg3,hvg⟩:=numV_ex (x ^ 1099511627775%pF)
 obtain ⟨vh0,vh1,vh2,vh3,hvh⟩:=numV_ex (x ^ 1125899906842623%pF)
 obtain ⟨vi0,vi1,vi2,vi3,hvi⟩:=numV_ex (x ^ 1267650600228229401496703205375%pF)
 obtain ⟨vj0,vj1,vj2,vj3,hvj⟩:=numV_ex (x ^ 1606938044258990275541962092341162602522202993782792835301375%pF)
 obtain ⟨vk0,vk1,vk2,vk3,hvk⟩:=numV_ex (x ^ 1809251394333065553493296640760748560207343510400633813116524750123642650623%pF)
 rw [hva,hvb] at cc0
 rw [hvb,hvc] at cc1
 rw [hvc,hva,hvd] at cc2
 rw [hvd,hve] at cc3
 rw [hve,hvf] at cc4
 rw [hvf,hvg] at cc5
 rw [hvg,hve,hvh] at cc6
 rw [hvh,hvi] at cc7
 rw [hvi,hvj] at cc8
 rw [hvj,hvh,hvk] at cc9
 rw [hva,hvk]
 have dd0:∀ W,Calls Tryz.prog 157 #[.agg #[.int .u64 va0,.int .u64 va1,.int .u64 va2,.int .u64 va3],.int .i64 1,.func (.func 126) #[.agg #[.int .u64 va0,.int .u64 va1,.int .u64 va2,.int .u64 va3]] #[]] W fun e w'=>e = .returned (.agg #[.int .u64 vb0,.int .u64 vb1,.int .u64 vb2,.int .u64 vb3])∧Below W.heap.size W w':=cc0
 have dd1:∀ W,Calls Tryz.prog 157 #[.agg #[.int .u64 vb0,.int .u64 vb1,.int .u64 vb2,.int .u64 vb3],.int .i64 2,.func (.func 126) #[.agg #[.int .u64 vb0,.int .u64 vb1,.int .u64 vb2,.int .u64 vb3]] #[]] W fun e w'=>e = .returned (.agg #[.int .u64 vc0,.int .u64 vc1,.int .u64 vc2,.int .u64 vc3])∧Below W.heap.size W w':=cc1
 have dd2:∀ W,Calls Tryz.prog 157 #[.agg #[.int .u64 vc0,.int .u64 vc1,.int .u64 vc2,.int .u64 vc3],.int .i64 1,.func (.func 126) #[.agg #[.int .u64 va0,.int .u64 va1,.int .u64 va2,.int .u64 va3]] #[]] W fun e w'=>e = .returned (.agg #[.int .u64 vd0,.int .u64 vd1,.int .u64 vd2,.int .u64 vd3])∧Below W.heap.size W w':=cc2
 have dd3:∀ W,Calls Tryz.prog 157 #[.agg #[.int .u64 vd0,.int .u64 vd1,.int .u64 vd2,.int .u64 vd3],.int .i64 5,.func (.func 126) #[.agg #[.int .u64 vd0,.int .u64 vd1,.int .u64 vd2,.int .u64 vd3]] #[]] W fun e w'=>e = .returned (.agg #[.int .u64 ve0,.int .u64 ve1,.int .u64 ve2,.int .u64 ve3])∧Below W.heap.size W w':=cc3
 have dd4:∀ W,Calls Tryz.prog 157 #[.agg #[.int .u64 ve0,.int .u64 ve1,.int .u64 ve2,.int .u64 ve3],.int .i64 10,.func (.func 126) #[.agg #[.int .u64 ve0,.int .u64 ve1,.int .u64 ve2,.int .u64 ve3]] #[]] W fun e w'=>e = .returned (.agg #[.int .u64 vf0,.int .u64 vf1,.int .u64 vf2,.int .u64 vf3])∧Below W.heap.size W w':=cc4
 have dd5:∀ W,Calls Tryz.prog 157 #[.agg #[.int .u64 vf0,.int .u64 vf1,.int .u64 vf2,.int .u64 vf3],.int .i64 20,.func (.func 126) #[.agg #[.int .u64 vf0,.int .u64 vf1,.int .u64 vf2,.int .u64 vf3]] #[]] W fun e w'=>e = .returned (.agg #[.int .u64 vg0,.int .u64 vg1,.int .u64 vg2,.int .u64 vg3])∧Below W.heap.size W w':=cc5
 have dd6:∀ W,Calls Tryz.prog 157 #[.agg #[.int .u64 vg0,.int .u64 vg1,.int .u64 vg2,.int .u64 vg3],.int .i64 10,.func (.func 126) #[.agg #[.int .u64 ve0,.int .u64 ve1,.int .u64 ve2,.int .u64 ve3]] #[]] W fun e w'=>e = .returned (.agg #[.int .u64 vh0,.int .u64 vh1,.int .u64 vh2,.int .u64 vh3])∧Below W.heap.size W w':=cc6
 have dd7:∀ W,Calls Tryz.prog 157 #[.agg #[.int .u64 vh0,.int .u64 vh1,.int .u64 vh2,.int .u64 vh3],.int .i64 50,.func (.func 126) #[.agg #[.int .u64 vh0,.int .u64 vh1,.int .u64 vh2,.int .u64 vh3]] #[]] W fun e w'=>e = .returned (.agg #[.int .u64 vi0,.int .u64 vi1,.int .u64 vi2,.int .u64 vi3])∧Below W.heap.size W w':=cc7
 have dd8:∀ W,Calls Tryz.prog 157 #[.agg #[.int .u64 vi0,.int .u64 vi1,.int .u64 vi2,.int .u64 vi3],.int .i64 100,.func (.func 126) #[.agg #[.int .u64 vi0,.int .u64 vi1,.int .u64 vi2,.int .u64 vi3]] #[]] W fun e w'=>e = .returned (.agg #[.int .u64 vj0,.int .u64 vj1,.int .u64 vj2,.int .u64 vj3])∧Below W.heap.size W w':=cc8
 have dd9:∀ W,Calls Tryz.prog 157 #[.agg #[.int .u64 vj0,.int .u64 vj1,.int .u64 vj2,.int .u64 vj3],.int .i64 50,.func (.func 126) #[.agg #[.int .u64 vh0,.int .u64 vh1,.int .u64 vh2,.int .u64 vh3]] #[]] W fun e w'=>e = .returned (.agg #[.int .u64 vk0,.int .u64 vk1,.int .u64 vk2,.int .u64 vk3])∧Below W.heap.size W w':=cc9
 clear cc0 cc1 cc2 cc3 cc4 cc5 cc6 cc7 cc8 cc9 hva hvb hvc hvd hve hvf hvg hvh hvi hvj hvk
 obtain ⟨W,hW⟩:∃ W,W=(w.alloc (.cells #[.int .u64 va0,.int .u64 va1,.int .u64 va2,.int .u64 va3] 88)).alloc (.cells #[.int .u64 0,.int .u64 0,.int .u64 0,.int .u64 0] 88):=⟨_,rfl⟩
 have HW:=Hid.mk' hW
 have hWs:W.heap.size=w.heap.size+1+1:=by rw [hW];simp
 have hbW:Below w.heap.size w W:=by rw [hW];exact ((Below.refl _ _).alloc (Nat.le_refl _) _).alloc (by simp) _
 have N0:FourAt W w.heap.size (.int .u64 va0) (.int .u64 va1) (.int .u64 va2) (.int .u64 va3):=by rw [hW];exact (four_fresh w _ _ _ _ _).below ((Below.refl _ _).alloc (Nat.le_refl _) _) (by simp)
 have R0:FourAt W (w.heap.size+1) (.int .u64 0) (.int .u64 0) (.int .u64 0) (.int .u64 0):=by
  have:=four_fresh (w.alloc (.cells #[.int .u64 va0,.int .u64 va1,.int .u64 va2,.int .u64 va3] 88)) (.int .u64 0) (.int .u64 0) (.int .u64 0) (.int .u64 0) 88
  rw [World.size_alloc] at this
  rw [hW];exact this
 clear hW
 go_enter Tryz.func156,Tryz.ntmps156
 go_wp2_with (first
  | (go_at_call 157;rw [←HW.out];refine (dd0 _).mono ?_;clear dd0;rintro e w1 ⟨rfl,bel1⟩;(have N1:=N0.below bel1 (by omega));(have R1:=R0.below bel1 (by omega));(have zz1:w.heap.size+1+1≤w1.heap.size:=by have:=bel1.size;omega);(have hw1:Below w.heap.size w w1:=hbW.trans (bel1.mono (by omega))))
  | (go_at_call 157;refine (dd1 _).mono ?_;clear dd1;rintro e w2 ⟨rfl,bel2⟩;(have sz2:w1.heap.size+1≤w2.heap.size:=by have:=bel2.size;rw [World.size_alloc] at this;exact this);(have tb2:Below w1.heap.size w1 w2:=((Below.refl w1.heap.size w1).alloc (Nat.le_refl _) _).trans (bel2.mono (by rw [World.size_alloc];omega)));(have zz2:w.heap.size+1+1≤w2.heap.size:=by omega);(have hw2:Below w.heap.size w w2:=hw1.trans (tb2.mono (by omega)));(have R2:=R1.below tb2 (by omega));(have N2:=N1.below tb2 (by omega));(have q2:w.heap.size<w2.heap.size:=by omega);(obtain ⟨n0,n1,n2,n3,-,-,-,-⟩:=id N2))
  | (go_at_call 157;refine (dd2 _).mono ?_;clear dd2;rintro e w3 ⟨rfl,bel3⟩;(have sz3:w2.heap.size+1≤w3.heap.size:=by have:=bel3.size;rw [World.size_alloc] at this;exact this);(have tb3:Below w2.heap.size w2 w3:=((Below.refl w2.heap.size w2).alloc (Nat.le_refl _) _).trans (bel3.mono (by rw [World.size_alloc];omega)));(have zz3:w.heap.size+1+1≤w3.heap.size:=by omega);(have hw3:Below w.heap.size w w3:=hw2.trans (tb3.mono (by omega)));(have R3:=R2.below tb3 (by omega)))
  | (go_at_call 157;refine (dd3 _).mono ?_;clear dd3;rintro e w4 ⟨rfl,bel4⟩;(have sz4:w3.heap.size+1≤w4.heap.size:=by have:=bel4.size;rw [World.size_alloc] at this;exact this);(have tb4:Below w3.heap.size w3 w4:=((Below.refl w3.heap.size w3).alloc (Nat.le_refl _) _).trans (bel4.mono (by rw [World.size_alloc];omega)));(have zz4:w.heap.size+1+1≤w4.heap.size:=by omega);(have hw4:Below w.heap.size w w4:=hw3.trans (tb4.mono (by omega)));(have R4:=R3.below tb4 (by omega)))
  | (go_at_call 157;refine (dd4 _).mono ?_;clear dd4;rintro e w5 ⟨rfl,bel5⟩;(have sz5:w4.heap.size+1≤w5.heap.size:=by have:=bel5.size;rw [World.size_alloc] at this;exact this);(have tb5:Below w4.heap.size w4 w5:=((Below.refl w4.heap.size w4).alloc (Nat.le_refl _) _).trans (bel5.mono (by rw [World.size_alloc];omega)));(have zz5:w.heap.size+1+1≤w5.heap.size:=by omega);(have hw5:Below w.heap.size w w5:=hw4.trans (tb5.mono (by omega)));(have R5:=R4.below tb5 (by omega));(have T5:=(four_fresh w4 (.int .u64 ve0) (.int .u64 ve1) (.int .u64 ve2) (.int .u64 ve3) 88).below bel5 (by simp));(have q5:w4.heap.size<w5.heap.size:=by omega))
  | (go_at_call 157;refine (dd5 _).mono ?_;clear dd5;rintro e w6 ⟨rfl,bel6⟩;(have sz6:w5.heap.size+1≤w6.heap.size:=by have:=bel6.size;rw [World.size_alloc] at this;exact this);(have tb6:Below w5.heap.size w5 w6:=((Below.refl w5.heap.size w5).alloc (Nat.le_refl _) _).trans (bel6.mono (by rw [World.size_alloc];omega)));(have zz6:w.heap.size+1+1≤w6.heap.size:=by omega);(have hw6:Below w.heap.size w w6:=hw5.trans (tb6.mono (by omega)));(have R6:=R5.below tb6 (by omega));(have T6:=T5.below tb6 (by omega));(have q6:w4.heap.size<w6.heap.size:=by omega);(obtain ⟨m0,m1,m2,m3,-,-,-,-⟩:=id T6))
  | (go_at_call 157;refine (dd6 _).mono ?_;clear dd6;rintro e w7 ⟨rfl,bel7⟩;(have sz7:w6.heap.size+1≤w7.heap.size:=by have:=bel7.size;rw [World.size_alloc] at this;exact this);(have tb7:Below w6.heap.size w6 w7:=((Below.refl w6.heap.size w6).alloc (Nat.le_refl _) _).trans (bel7.mono (by rw [World.size_alloc];omega)));(have zz7:w.heap.size+1+1≤w7.heap.size:=by omega);(have hw7:Below w.heap.size w w7:=hw6.trans (tb7.mono (by omega)));(have R7:=R6.below tb7 (by omega)))
  | (go_at_call 157;refine (dd7 _).mono ?_;clear dd7;rintro e w8 ⟨rfl,bel8⟩;(have sz8:w7.heap.size+1≤w8.heap.size:=by have:=bel8.size;rw [World.size_alloc] at this;exact this);(have tb8:Below w7.heap.size w7 w8:=((Below.refl w7.heap.size w7).alloc (Nat.le_refl _) _).trans (bel8.mono (by rw [World.size_alloc];omega)));(have zz8:w.heap.size+1+1≤w8.heap.size:=by omega);(have hw8:Below w.heap.size w w8:=hw7.trans (tb8.mono (by omega)));(have R8:=R7.below tb8 (by omega));(have F8:=(four_fresh w7 (.int .u64 vh0) (.int .u64 vh1) (.int .u64 vh2) (.int .u64 vh3) 88).below bel8 (by simp));(have q8:w7.heap.size<w8.heap.size:=by omega))
  | (go_at_call 157;refine (dd8 _).mono ?_;clear dd8;rintro e w9 ⟨rfl,bel9⟩;(have sz9:w8.heap.size+1≤w9.heap.size:=by have:=bel9.size;rw [World.size_alloc] at this;exact this);(have tb9:Below w8.heap.size w8 w9:=((Below.refl w8.heap.size w8).alloc (Nat.le_refl _) _).trans (bel9.mono (by rw [World.size_alloc];omega)));(have zz9:w.heap.size+1+1≤w9.heap.size:=by omega);(have hw9:Below w.heap.size w w9:=hw8.trans (tb9.mono (by omega)));(have R9:=R8.below tb9 (by omega));(have F9:=F8.below tb9 (by omega));(have q9:w7.heap.size<w9.heap.size:=by omega);(obtain ⟨p0,p1,p2,p3,-,-,-,-⟩:=id F9))
  | (go_at_call 157;refine (dd9 _).mono ?_;clear dd9;rintro e w10 ⟨rfl,bel10⟩;(have sz10:w9.heap.size+1≤w10.heap.size:=by have:=bel10.size;rw [World.size_alloc] at this;exact this);(have tb10:Below w9.heap.size w9 w10:=((Below.refl w9.heap.size w9).alloc (Nat.le_refl _) _).trans (bel10.mono (by rw [World.size_alloc];omega)));(have zz10:w.heap.size+1+1≤w10.heap.size:=by omega);(have hw10:Below w.heap.size w w10:=hw9.trans (tb10.mono (by omega)));(have R10:=R9.below tb10 (by omega));(have ht:=R10.there);(obtain ⟨r0,r1,r2,r3,f0,f1,f2,f3⟩:=id R10)))
 (try simp only [Exit.inBlock,Exit.then])
 exact bodyPost_ret (results_set4 Tryz.results156 _ _ _ _ _ _ _ ht rfl Tryz.underlying88 rfl (by kernel_rfl)) rfl ⟨rfl,below_set4 hw10 (by omega) _ _ _ _⟩
end Go.Proofs.YtcgkajlehdgpoaaGreatDoor
namespace Go.Proofs.YtcgkajlehdgpoaaGreatDoor
open Go.RowKit
set_option maxRecDepth 20000 in
set_option maxHeartbeats 4000000 in
theorem inverse_pow (x:Nat) (w:World) :
 Calls Tryz.prog 127 #[numV (x ^ 1%pF)] w fun e w'=>e = .returned (numV (x ^ 57896044618658097711785492504343953926634992332820282019728792003956564819947%pF))∧Below w.heap.size w w':=by
 have cc0:=fun W=>ones250_any x W
 have cc1:=fun W=>then_pow x 1809251394333065553493296640760748560207343510400633813116524750123642650623 1 2 7237005577332262213973186563042994240829374041602535252466099000494570602493 (by decide) (by decide) W
 have cc2:=fun W=>then_pow x 7237005577332262213973186563042994240829374041602535252466099000494570602493 1 2 28948022309329048855892746252171976963317496166410141009864396001978282409973 (by decide) (by decide) W
 have cc3:=fun W=>then_pow x 28948022309329048855892746252171976963317496166410141009864396001978282409973 1 1 57896044618658097711785492504343953926634992332820282019728792003956564819947 (by decide) (by decide) W
 obtain ⟨va0,va1,va2,va3,hva⟩:=numV_ex (x ^ 1%pF)
 obtain ⟨vb0,vb1,vb2,vb3,hvb⟩:=numV_ex (x ^ 1809251394333065553493296640760748560207343510400633813116524750123642650623%pF)
 obtain ⟨vc0,vc1,vc2,vc3,hvc⟩:=numV_ex (x ^ 7237005577332262213973186563042994240829374041602535252466099000494570602493%pF)
 obtain ⟨vd0,vd1,vd2,vd3,hvd⟩:=numV_ex (x ^ 28948022309329048855892746252171976963317496166410141009864396001978282409973%pF)
 obtain ⟨ve0,ve1,ve2,ve3,hve⟩:=numV_ex (x ^ 57896044618658097711785492504343953926634992332820282019728792003956564819947%pF)
 rw [hva,hvb] at cc0
 rw [hvb,hva,hvc] at cc1
 rw [hvc,hva,hvd] at cc2
 rw [hvd,hva,hve] at cc3
 rw [hva,hve]
 have dd1:∀ W,Calls Tryz.prog 157 #[.agg #[.int .u64 vb0,.int .u64 vb1,.int .u64 vb2,.int .u64 vb3],.int .i64 2,.func (.func 126) #[.agg #[.int .u64 va0,.int .u64 va1,.int .u64 va2,.int .u64 va3]] #[]] W fun e w'=>e = .returned (.agg #[.int .u64 vc0,.int .u64 vc1,.int .u64 vc2,.int .u64 vc3])∧Below W.heap.size W w':=cc1
 have dd2:∀ W,Calls Tryz.prog 157 #[.agg #[.int .u64 vc0,.int .u64 vc1,.int .u64 vc2,.int .u64 vc3],.int .i64 2,.func (.func 126) #[.agg #[.int .u64 va0,.int .u64 va1,.int .u64 va2,.int .u64 va3]] #[]] W fun e w'=>e = .returned (.agg #[.int .u64 vd0,.int .u64 vd1,.int .u64 vd2,.int .u64 vd3])∧Below W.heap.size W w':=cc2
 have dd3:∀ W,Calls Tryz.prog 157 #[.agg #[.int .u64 vd0,.int .u64 vd1,.int .u64 vd2,.int .u64 vd3],.int .i64 1,.func (.func 126) #[.agg #[.int .u64 va0,.int .u64 va1,.int .u64 va2,.int .u64 va3]] #[]] W fun e w'=>e = .returned (.agg #[.int .u64 ve0,.int .u64 ve1,.int .u64 ve2,.int .u64 ve3])∧Below W.heap.size W w':=cc3
 clear cc1 cc2 cc3 hva hvb hvc hvd hve
 obtain ⟨W,hW⟩:∃ W,W=(w.alloc (.cells #[.int .u64 va0,.int .u64 va1,.int .u64 va2,.int .u64 va3] 88)).alloc (.cells #[.int .u64 0,.int .u64 0,.int .u64 0,.int .u64 0] 88):=⟨_,rfl⟩
 have HW:=Hid.mk' hW
 have hWs:W.heap.size=w.heap.size+1+1:=by rw [hW];simp
 have hbW:Below w.heap.size w W:=by rw [hW];exact ((Below.refl _ _).alloc (Nat.le_refl _) _).alloc (by simp) _
 have N0:FourAt W w.heap.size (.int .u64 va0) (.int .u64 va1) (.int .u64 va2) (.int .u64 va3):=by rw [hW];exact (four_fresh w _ _ _ _ _).below ((Below.refl _ _).alloc (Nat.le_refl _) _) (by simp)
 have R0:FourAt W (w.heap.size+1) (.int .u64 0) (.int .u64 0) (.int .u64 0) (.int .u64 0):=by
  have:=four_fresh (w.alloc (.cells #[.int .u64 va0,.int .u64 va1,.int .u64 va2,.int .u64 va3] 88)) (.int .u64 0) (.int .u64 0) (.int .u64 0) (.int .u64 0) 88
  rw [World.size_alloc] at this
  rw [hW];exact this
 have hr:∀ w':World,Below (w.heap.size+1) W w'→w'.rangeAt w.heap.size 0 [.int .u64 va0,.int .u64 va1,.int .u64 va2,.int .u64 va3]:=fun w' h=>(N0.below h (by omega)).range
 have hi':(Tryz.prog.info? 88).map (·.size)=some 4:=by kernel_rfl
 have hb0:Below (w.heap.size+1) W W.drew:=(Below.refl _ _).drew
 clear hW
 go_enter Tryz.func127,Tryz.ntmps127
 go_wp2
 rw [←HW.out]
 refine wp_region_held_drew (S:=fun w2=>Below (w.heap.size+1) W w2) (by kernel_rfl) hb0 (fun hHeld => ?_)
 refine wpAnyH_take (i:=0) (v := .agg #[.int .u64 va0,.int .u64 va1,.int .u64 va2,.int .u64 va3]) rfl (by kernel_rfl) (by kernel_rfl) (by kernel_rfl) (fun _ _ _ h=>h) (yieldsIf_load_mid (by rfl) 88 _ rfl w.heap.size 0 rfl [.int .u64 va0,.int .u64 va1,.int .u64 va2,.int .u64 va3] _ hr Tryz.underlying88 rfl hi') hHeld ?_
 refine wpAnyH_take (i:=2) (v := .agg #[.int .u64 va0,.int .u64 va1,.int .u64 va2,.int .u64 va3]) rfl (by kernel_rfl) (by kernel_rfl) (by kernel_rfl) (fun _ _ _ h=>h) (yieldsIf_load_mid (by rfl) 88 _ rfl w.heap.size 0 rfl [.int .u64 va0,.int .u64 va1,.int .u64 va2,.int .u64 va3] _ hr Tryz.underlying88 rfl hi') hHeld ?_
 refine wpAnyH_take (i:=5) (v := .agg #[.int .u64 va0,.int .u64 va1,.int .u64 va2,.int .u64 va3]) rfl (by kernel_rfl) (by kernel_rfl) (by kernel_rfl) (fun _ _ _ h=>h) (yieldsIf_load_mid (by rfl) 88 _ rfl w.heap.size 0 rfl [.int .u64 va0,.int .u64 va1,.int .u64 va2,.int .u64 va3] _ hr Tryz.underlying88 rfl hi') hHeld ?_
 refine wpAnyH_take (i:=8) (v := .agg #[.int .u64 va0,.int .u64 va1,.int .u64 va2,.int .u64 va3]) rfl (by kernel_rfl) (by kernel_rfl) (by kernel_rfl) (fun _ _ _ h=>h) (yieldsIf_load_mid (by rfl) 88 _ rfl w.heap.size 0 rfl [.int .u64 va0,.int .u64 va1,.int .u64 va2,.int .u64 va3] _ hr Tryz.underlying88 rfl hi') hHeld ?_
 refine wpAnyH_take (i:=3) (v := .func (.func 126) #[.agg #[.int .u64 va0,.int .u64 va1,.int .u64 va2,.int .u64 va3]] #[]) rfl (by kernel_rfl) (by kernel_rfl) (by kernel_rfl) (fun _ _ _ h=>h) (Or.inl ⟨by rfl,fun w2 _=>by go_simp⟩) hHeld ?_
 refine wpAnyH_take (i:=6) (v := .func (.func 126) #[.agg #[.int .u64 va0,.int .u64 va1,.int .u64 va2,.int .u64 va3]] #[]) rfl (by kernel_rfl) (by kernel_rfl) (by kernel_rfl) (fun _ _ _ h=>h) (Or.inl ⟨by rfl,fun w2 _=>by go_simp⟩) hHeld ?_
 refine wpAnyH_take (i:=9) (v := .func (.func 126) #[.agg #[.int .u64 va0,.int .u64 va1,.int .u64 va2,.int .u64 va3]] #[]) rfl (by kernel_rfl) (by kernel_rfl) (by kernel_rfl) (fun _ _ _ h=>h) (Or.inl ⟨by rfl,fun w2 _=>by go_simp⟩) hHeld ?_
 refine wpAnyH_ready (rs:=[1]) (by kernel_rfl) (by simp) ?_
 refine AllReadyH.cons rfl (fun K hK => ?_) AllReadyH.nil
 go_simp
 go_at_call 156
 refine (cc0 _).mono ?_
 clear cc0
 rintro e w1 ⟨rfl,bel_w1⟩
 have S_w1:Below (w.heap.size+1) W w1:=hb0.trans (bel_w1.mono (by have:=hb0.size;omega))
 go_simp
 refine hK.out _ _ S_w1 (fun h1 => ?_)
 clear hK K
 refine wpAnyH_ready (rs:=[4]) (by kernel_rfl) (by simp) ?_
 refine AllReadyH.cons rfl (fun K hK => ?_) AllReadyH.nil
 go_simp
 go_at_call 157
 refine (dd1 _).mono ?_
 clear dd1
 rintro e w2 ⟨rfl,bel_w2⟩
 have S_w2:Below (w.heap.size+1) W w2:=S_w1.trans (bel_w2.mono (by have:=S_w1.size;omega))
 go_simp
 refine hK.out _ _ S_w2 (fun h2 => ?_)
 clear hK K
 refine wpAnyH_ready (rs:=[7]) (by kernel_rfl) (by simp) ?_
 refine AllReadyH.cons rfl (fun K hK => ?_) AllReadyH.nil
 go_simp
 go_at_call 157
 refine (dd2 _).mono ?_
 clear dd2
 rintro e w3 ⟨rfl,bel_w3⟩
 have S_w3:Below (w.heap.size+1) W w3:=S_w2.trans (bel_w3.mono (by have:=S_w2.size;omega))
 go_simp
 refine hK.out _ _ S_w3 (fun h3 => ?_)
 clear hK K
 refine wpAnyH_ready (rs:=[10]) (by kernel_rfl) (by simp) ?_
 refine AllReadyH.cons rfl (fun K hK => ?_) AllReadyH.nil
 go_simp
 go_at_call 157
 refine (dd3 _).mono ?_
 clear dd3
 rintro e w4 ⟨rfl,bel_w4⟩
 have S_w4:Below (w.heap.size+1) W w4:=S_w3.trans (bel_w4.mono (by have:=S_w3.size;omega))
 go_simp
 refine hK.out _ _ S_w4 (fun h4 => ?_)
 clear hK K
 have z1:=bel_w1.size
 have z2:=bel_w2.size
 have z3:=bel_w3.size
 have zd:W.drew.heap.size=w.heap.size+1+1:=hWs
 have R4:=(((R0.drew.below bel_w1 (by omega)).below bel_w2 (by omega)).below bel_w3 (by omega)).below bel_w4 (by omega)
 have ht:=R4.there
 have S5:Below (w.heap.size+1) W (set4 w4 (w.heap.size+1) (.int .u64 ve0) (.int .u64 ve1) (.int .u64 ve2) (.int .u64 ve3)):=below_set4' S_w4 (Nat.le_refl _) _ _ _ _
 have hbw4:Below w.heap.size w w4:=hbW.trans (S_w4.mono (by omega))
 obtain ⟨r0,r1,r2,r3,f0,f1,f2,f3⟩:=R4
 refine wpAnyH_ready (rs:=[11]) (by kernel_rfl) (by simp) ?_
 refine AllReadyH.cons rfl (fun K hK => ?_) AllReadyH.nil
 go_simp
 refine hK.out _ _ S5 (fun h5 => ?_)
 clear hK K
 refine wpAnyH_done (by kernel_rfl) ?_ _
 go_simp
 go_wp2
 (try simp only [Exit.inBlock,Exit.then])
 exact bodyPost_ret (results_set4 Tryz.results127 _ _ _ _ _ _ _ ht rfl Tryz.underlying88 rfl (by kernel_rfl)) rfl ⟨rfl,below_set4 hbw4 (by omega) _ _ _ _⟩
theorem inverse_any (x:Nat) (hx:x<pF) (w:World) :
 Calls Tryz.prog 127 #[numV x] w fun e w'=>e = .returned (numV (x ^ (pF - 2)%pF))∧Below w.heap.size w w':=by
 have h:=inverse_pow x w
 rw [Nat.pow_one,Nat.mod_eq_of_lt hx] at h
 have e:57896044618658097711785492504343953926634992332820282019728792003956564819947=pF - 2:=by decide
 rw [e] at h
 exact h
end Go.Proofs.YtcgkajlehdgpoaaGreatDoor
namespace Go.Proofs.YtcgkajlehdgpoaaGreatDoor
open Go.RowKit
theorem numV_small (n:Nat) (h:n<18446744073709551616):(Value.agg #[.int .u64 n,.int .u64 0,.int .u64 0,.int .u64 0]:Value)=numV n :=
 numV_of n n 0 0 0 h (by decide) (by decide) (by decide) (by unfold val4;omega)
set_option maxRecDepth 20000 in
set_option maxHeartbeats 2000000 in
theorem fsmall_pos (n:Nat) (h:n≤9223372036854775807) (w:World):Calls Tryz.prog 54 #[.int .i64 n] w fun e w'=>e = .returned (numV n)∧Below w.heap.size w w':=by
 have fin:=Hid.mk' (numV_small n (by omega))
 have hni:¬(n:Int)<0:=by omega
 go_enter Tryz.func54,Tryz.ntmps54
 go_wp2
 (try simp only [Exit.inBlock,Exit.then])
 exact bodyPost_ret (results_fresh4 Tryz.results54 _ _ _ _ _ _ _ rfl Tryz.underlying88 rfl (by kernel_rfl)) rfl ⟨by rw [fin.out],(Below.refl _ _).alloc (Nat.le_refl _) _⟩
end Go.Proofs.YtcgkajlehdgpoaaGreatDoor
