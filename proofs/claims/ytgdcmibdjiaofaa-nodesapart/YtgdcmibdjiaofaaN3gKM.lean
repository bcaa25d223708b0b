/- What the proof stands on: N3gK, N3Kg, N3Z, N3GA, LdOn, N3rd, N3rf, N3rg, N3rh, N3rj, N3rk, N3ct. -/
import Derived.Test.YtgdcmibdjiaofaaBaseM
import Derived.Test.YtgdcmibdjiaofaaN3KM
import Derived.Test.YtgdcmibdjiaofaaN3SM
namespace Go.Proofs.Ytgdcmibdjiaofaa
open Go.RowKit
theorem infoK:(Try.prog.info? 58).map (·.size)=some 8:=by kernel_rfl
def zeroK:List Value:=[.slice none 0 0,.slice none 0 0,.slice none 0 0,.slice none 0 0,.int .i64 0,.slice none 0 0,.slice none 0 0,.slice none 0 0]
set_option maxRecDepth 20000 in
theorem catchK (p q:Nat) (cs:List Value) (y:Value) (u:TypeId) (pv:Value) (older:List PanicEntry) (w:World) (hp:RW w p 0 cs) (hl:cs.length=8) (hq:RW w q 0 [y]) (hne:p≠q) :
 CallsD Try.prog 74 #[pA p 0,pA q 0] (.panicking ({ v := .iface u pv,recovered:=false } :: older)) w fun e u' w' =>
  e = .returned (.tuple #[])∧u' = .panicking ({ v := .iface u pv,recovered:=true } :: older)∧RW w' p 0 zeroK∧RW w' q 0 [.int .i64 21]∧Rest [p,q] w w':=by
 obtain ⟨W,hW⟩:∃ W,W=w.alloc (.cells #[.slice none 0 0,.slice none 0 0,.slice none 0 0,.slice none 0 0,.int .i64 0,.slice none 0 0,.slice none 0 0,.slice none 0 0] 58):=⟨_,rfl⟩
 have k1:=RW.fresh w [.slice none 0 0,.slice none 0 0,.slice none 0 0,.slice none 0 0,.int .i64 0,.slice none 0 0,.slice none 0 0,.slice none 0 0] 58
 rw [show w.alloc (.cells [.slice none 0 0,.slice none 0 0,.slice none 0 0,.slice none 0 0,.int .i64 0,.slice none 0 0,.slice none 0 0,.slice none 0 0].toArray 58)=W from hW.symm] at k1
 have b1:Below w.heap.size w W:=by rw [hW];exact (Below.refl _ _).alloc (Nat.le_refl _) _
 have HW:=Hid.mk' hW
 have hpW:=hp.still b1
 have hqW:=hq.still b1
 obtain ⟨Z,hZ⟩:∃ Z,Z=zeroK:=⟨_,rfl⟩
 have hi1:(Try.prog.info? 58).map (·.size)=some Z.length:=by rw [hZ];exact infoK
 have hi2:(Try.prog.info? 58).map (·.size)=some Z.toArray.size:=by rw [hZ];exact infoK
 have h1:Z.toArray.all (·.oneCell')=true:=by rw [hZ];simp [zeroK,Value.oneCell']
 have zl:Z.length=8:=by rw [hZ];rfl
 rw [show [.slice none 0 0,.slice none 0 0,.slice none 0 0,.slice none 0 0,.int .i64 0,.slice none 0 0,.slice none 0 0,.slice none 0 0]=Z from hZ.symm] at k1
 rw [←hZ]
 have r1:=k1.range
 have t1:W.there p 0 Z.toArray.size:=by have:=hpW.there;rw [List.size_toArray,zl];rw [hl] at this;exact this
 have X2:Rest [p,q] W (W.setCells p 0 Z):=Rest.of_out (Out.setCells (b:=p) (o:=0) (n:=Z.length) W _ (Nat.le_refl _) (Nat.le_refl _)) (by simp)
 have hp2:RW (W.setCells p 0 Z) p 0 Z:=hpW.stored _ (by rw [hl,zl])
 have hq2:=hqW.far p 0 Z (.inl (fun e=>hne e.symm))
 have c2:=hq2.cell (o:=0) rfl
 have z2:=hq2.live (o:=0) (by simp)
 have XW:Rest [p,q] w W:=Rest.of_below b1
 have hp3:=hp2.rest (Rest.setCell (X:=[q]) (b:=q) (p:=0) (W.setCells p 0 Z) (.int .i64 21) (by simp)) (by simpa using hne)
 have hq3:=hq2.set1 (o:=0) (by simp) (.int .i64 21)
 have X3:Rest [p,q] w ((W.setCells p 0 Z).setCell ⟨q,0,none⟩ (.int .i64 21)):=(XW.trans X2).trans (Rest.setCell _ _ (by simp))
 have HF:=Hid.mk' (And.intro hp3 (And.intro hq3 X3))
 clear hW hpW hqW hZ X2 hp2 hq2 XW hp3 hq3 X3
 refine callsD_of_wpS Try.func74 rfl fun c₀ cs' hu => ?_
 apply wpS_seq
 apply wpS_region
 simp [wpOpsS,go_sem,recoverD,hu,Try.ntmps74,Exit.thenS]
 refine wpS_cond (t:=true) (by simp [Act.eval,Array.replicate]) ?_
 simp only [if_true]
 refine wpS_of_wp ?_
 rw [show #[pA p 0,pA q 0] ++ ((Array.replicate 4 undef).setIfInBounds 1 (Value.iface u pv)).setIfInBounds 2 (Value.bool true)=#[pA p 0,pA q 0,undef,Value.iface u pv,.bool true,undef] from rfl]
 go_upto_region 2 with (fail)
 rw [←HW.out]
 clear hu
 go_wp2_with (first
  | (with_reducible (refine id (?_:wpList _ _ _ _ _ _));refine wpList_load_mid rfl 58 _ rfl w.heap.size 0 rfl Z _ r1 Try.underlying58 rfl hi1 ?_)
  | (with_reducible (refine id (?_:wpList _ _ _ _ _ _));refine wpList_store_mid rfl 58 _ _ rfl p 0 Z.toArray rfl rfl t1 hi2 h1 ?_))
 simp [bodyPostS,results,Try.results74]
 exact HF.out
theorem idleK (p q:Nat) (w:World) :
 CallsD Try.prog 74 #[pA p 0,pA q 0] .returning w fun e u' w'=>e = .returned (.tuple #[])∧u' = .returning∧w'=w:=by
 refine callsD_of_wpS Try.func74 rfl fun c₀ cs hu => ?_
 apply wpS_seq
 apply wpS_region
 simp [wpOpsS,go_sem,recoverD,hu,Try.ntmps74,Exit.thenS]
 refine wpS_cond (t:=false) (by simp [Act.eval,Array.replicate]) ?_
 simp only [Bool.false_eq_true,if_false]
 refine wpS_of_wp (wp_skip ?_)
 cases c₀
 simp_all [bodyPostS,results,Try.results74]
def JK (w W:World):Prop:=∃ cs,cs.length=8∧RW W w.heap.size 0 cs∧RW W (w.heap.size+1) 0 [.int .i64 0]∧Below w.heap.size w W
theorem doorK (w W:World) (tmps:Array Value) (Pst:Ending→World→Prop) (hJ:JK w W) (h4:tmps.getD 4 undef=pA w.heap.size 0) (h5:tmps.getD 5 undef=pA (w.heap.size+1) 0) (hP:∀ w',Below w.heap.size w w'→Pst (.returned (.tuple #[.agg zeroK.toArray,.int .i64 21])) w') :
 bodyPostD Try.prog Try.f53 Pst (.panic noE) { tmps:=tmps,defers:=[{ target := .fn (.func 74) #[pA w.heap.size 0,pA (w.heap.size+1) 0],args:=#[] }] } W:=by
 obtain ⟨cs,hl,r1,r2,hb⟩:=hJ
 refine leaves_cons (f:=74) (args:=#[pA w.heap.size 0,pA (w.heap.size+1) 0]) (by simp) (by simp [go_sem]) ?_
 refine (catchK w.heap.size (w.heap.size+1) cs _ 9 (.string noB) [] W r1 hl r2 (by omega)).mono ?_
 rintro e u' w'' ⟨rfl,rfl,r3,r4,x3⟩
 show Leaves _ _ _ _ [] (settle (.panicking [{ v := .iface 9 (.string noB),recovered:=true }])) w''
 refine ⟨_,results_two Try.results53 tmps w'' w.heap.size zeroK _ (w.heap.size+1) 21 h4 h5 r3.range Try.underlying58 rfl infoK (ldErr w'' _ 21 (r4.cell (o:=0) rfl)),hP w'' (hb.trans (x3.below (fun x hx=>by simp at hx;omega) hb.size))⟩
set_option maxRecDepth 20000 in
set_option maxHeartbeats 4000000 in
theorem getK_any (v:Value) (L:Nat) (B:Nat→Nat) (hL:L<140737488355000) (al bd:Nat→Bool) (cnt:Nat) (h0:0<cnt) (h1:cnt≤100) (rn:Rd) (D:World→List Value→Prop) (w:World) (hv:BytesIn w v L B)
 (hD:∀ W W' cs,D W cs→Rest [w.heap.size,w.heap.size+1] W W'→D W' cs) (hDl:∀ W cs,D W cs→cs.length=8∧cs.toArray.all (·.oneCell')=true)
 (HF:∀ g lo hi W,RW W w.heap.size 0 zeroK→RW W (w.heap.size+1) 0 [.int .i64 0]→w.heap.size+2≤lo→RdC lo hi W g L B ⟨0,0⟩→Below w.heap.size w W→Calls Try.prog 50 #[pA w.heap.size 0] W fun e w'=>∃ X gl kp fs I Mid,e = .returned (.slice (some ⟨gl,0,none⟩) cnt kp)∧fs.length=cnt∧I 0 w'∧Steps X fs gl g al bd I Mid (JK w)∧(∀ W,I cnt W→RdC lo hi W g L B rn∧∃ cs,RW W w.heap.size 0 cs∧D W cs)) :
 Calls Try.prog 53 #[v,clo 50 #[]] w fun e w'=>Below w.heap.size w w'∧GetA (allU (fun k=>!bd k && al k) cnt=true∧endD L rn=0) D zeroK e w':=by
 have hmf:∀ (fn:Fn) (first cap:Array Value) (w:World),(Instr.makeFunc fn first cap).run Try.prog w = .ok (.func fn first cap) w:=fun _ _ _ _=>rfl
 obtain ⟨V,hV⟩:∃ V,V=w.alloc (.cells #[.slice none 0 0,.slice none 0 0,.slice none 0 0,.slice none 0 0,.int .i64 0,.slice none 0 0,.slice none 0 0,.slice none 0 0] 58):=⟨_,rfl⟩
 have k1:=RW.fresh w [.slice none 0 0,.slice none 0 0,.slice none 0 0,.slice none 0 0,.int .i64 0,.slice none 0 0,.slice none 0 0,.slice none 0 0] 58
 rw [show w.alloc (.cells [.slice none 0 0,.slice none 0 0,.slice none 0 0,.slice none 0 0,.int .i64 0,.slice none 0 0,.slice none 0 0,.slice none 0 0].toArray 58)=V from hV.symm] at k1
 have b1:Below w.heap.size w V:=by rw [hV];exact (Below.refl _ _).alloc (Nat.le_refl _) _
 have s1:V.heap.size=w.heap.size+1:=by rw [hV];simp
 obtain ⟨k2,b2,s2⟩:=bx V (.int .i64 0) 28
 obtain ⟨W,hW⟩:∃ W,W=V.alloc (.cells #[.int .i64 0] 28):=⟨_,rfl⟩
 have HW:Hid (W=(w.alloc (.cells #[.slice none 0 0,.slice none 0 0,.slice none 0 0,.slice none 0 0,.int .i64 0,.slice none 0 0,.slice none 0 0,.slice none 0 0] 58)).alloc (.cells #[.int .i64 0] 28)):=Hid.mk' (by rw [hW,hV])
 rw [←hW] at k2 b2 s2
 replace k1:RW W w.heap.size 0 zeroK:=k1.still b2
 replace b1:=below_next b1 b2
 rw [s1] at k2 s2
 have S2:=Hid.mk' s2
 have cN:=cNew_any v L B hL W (hv.keep b1)
 have HF':=Hid.mk' HF
 have HD:=Hid.mk' hD
 have HDl:=Hid.mk' hDl
 have K1:=Hid.mk' k1
 have K2:=Hid.mk' k2
 obtain ⟨Pst,hP⟩:∃ Pst:Ending→World→Prop,Pst=fun e w'=>Below w.heap.size w w'∧GetA (allU (fun k=>!bd k && al k) cnt=true∧endD L rn=0) D zeroK e w':=⟨_,rfl⟩
 have HP:=Hid.mk' hP
 rw [←hP]
 clear hV hW s1 s2 HF hD hDl b2 k1 k2 hP
 go_enter_defers Try.func53,Try.ntmps53
 go_upto_region 2 with (fail)
 rw [←HW.out]
 go_wp2_with (first
  | (go_at_call 68;refine cN.mono ?_;clear cN;rintro e w1 ⟨g,rfl,R1,c1⟩;(have cF:=HF'.out g _ _ w1 (K1.out.still c1) (K2.out.still c1) (by rw [S2.out];exact Nat.le_refl _) R1 (below_next b1 c1)))
  | (go_at_call 50;refine cF.mono ?_;clear cF;rintro e w2 ⟨X,gl,kp,fs,I,Mid,rfl,hlen,i0,st,fin⟩;(have ST:=Hid.mk' st);(have FN:=Hid.mk' fin);(have HL:=Hid.mk' hlen);clear st fin hlen))
 go_loopw [15] (fun i wr=>∃ k:Nat,k≤cnt∧i = .int .i64 k∧I k wr∧allU (fun k=>!bd k && al k) k=true) (fun i _=>cnt - (intOf i).toNat)
 case atStart=>exact ⟨0,Nat.zero_le _,rfl,i0,rfl⟩
 case round =>
  clear i0 b1
  obtain ⟨k,hk,rfl,hI,hal⟩:=hrel
  by_cases hlt:k<cnt
  · have hkl:k<fs.length:=by rw [HL.out];exact hlt
    have hfk:fs[k]? = some fs[k]:=List.getElem?_eq_getElem hkl
    obtain ⟨f,hf⟩:∃ f,f=fs[k]:=⟨_,rfl⟩
    rw [←hf] at hfk
    clear hf
    have fr:=(ST.out.fr k wr hI).at_ k f hfk
    obtain ⟨i0,c0,i1,c1,i2,c2⟩:=f
    have fr':wr.rangeAt gl (k*3) [clo i0 c0,clo i1 c1,clo i2 c2]:=fr
    have hx0:=ST.out.e0 k _ hfk
    have hx2:=ST.out.e2 k _ hfk
    have HG:=Hid.mk' (ST.out.get k _ hfk)
    have HA:=Hid.mk' (ST.out.allow k _ hfk)
    have HX2:=Hid.mk' hx2
    have HX0:=Hid.mk' hx0
    clear fr hfk hx2 hx0
    have k5:=(RW.fresh wr [.nilFunc,.nilFunc,.nilFunc] 102).stored [clo i0 c0,clo i1 c1,clo i2 c2] rfl
    have b5:Below wr.heap.size wr ((wr.alloc (.cells #[.nilFunc,.nilFunc,.nilFunc] 102)).setCells wr.heap.size 0 [clo i0 c0,clo i1 c1,clo i2 c2]):=b3 (Below.refl _ _) (Nat.le_refl _) rfl
    obtain ⟨W5,hW5⟩:∃ W5,W5=(wr.alloc (.cells #[.nilFunc,.nilFunc,.nilFunc] 102)).setCells wr.heap.size 0 [clo i0 c0,clo i1 c1,clo i2 c2]:=⟨_,rfl⟩
    have HW5:=Hid.mk' hW5
    rw [←hW5] at k5 b5
    clear hW5
    go_upto_region 6 with (first
     | (with_reducible (refine id (?_:wpList _ _ _ _ _ _));refine ldF _ rfl rfl fr' ?_ rfl)
     | (with_reducible (refine id (?_:wpList _ _ _ _ _ _));refine stF _ _ rfl rfl rfl rfl th3 ?_ rfl))
    dsimp only [Act.put]
    rw [show (wr.alloc (.cells [.nilFunc,.nilFunc,.nilFunc].toArray 102)).setCells wr.heap.size 0 [clo i0 c0,clo i1 c1,clo i2 c2]=W5 from HW5.out.symm]
    clear fr'
    have q0:=k5.cell (o:=2) rfl
    have I5:=ST.out.still k wr W5 hI b5
    have hX:=ST.out.xs k wr hI
    have cg:=HG.out W5 I5
    have lw:=k5.lt
    have KK:=Hid.mk' k5
    clear hI k5 b5 HW5
    by_cases hbd:bd k=true
    · have hno:¬(allU (fun k=>!bd k && al k) cnt=true∧endD L rn=0):=fun h=>by rw [allU_false (k:=k) (by rw [hbd];rfl) hlt] at h;cases h.1
      simp only [if_pos hbd] at cg
      go_wp2_with (with_reducible (refine id (?_:wpList _ _ _ _ _ _));refine wpList_clo1 rfl cg HX2.out _ _ _ rfl rfl rfl ?_;clear cg;rintro e w6 ⟨rfl,hj⟩;refine .inr ⟨_,rfl,?_⟩)
      exact doorK w w6 _ Pst hj rfl rfl (fun w' hb=>by rw [HP.out];exact ⟨hb,by unfold GetA;rw [if_neg hno]⟩)
    · simp only [if_neg hbd] at cg
      go_upto_region 7 with (with_reducible (refine id (?_:wpList _ _ _ _ _ _));refine wpList_clo1 rfl cg HX2.out _ _ _ rfl rfl rfl ?_;clear cg;rintro e w6 ⟨rfl,hm,x6⟩;refine .inl ⟨_,rfl,?_⟩)
      have k6:=KK.out.rest x6 (fun e=>Nat.lt_irrefl _ (hX _ e))
      have q6:=k6.cell (o:=0) rfl
      have ca:=HA.out w6 hm
      clear q0 k6 KK x6 hm hX
      by_cases ha:al k=true
      · simp only [ha] at ca
        have cm:=must_t
        go_wp2_with (first
         | (with_reducible (refine id (?_:wpList _ _ _ _ _ _));refine wpList_clo rfl ca HX0.out _ _ rfl rfl ?_;clear ca;rintro e w7 ⟨rfl,hI7,hj⟩;refine .inl ⟨_,rfl,?_⟩)
         | (go_at_call 65;refine (cm _).mono ?_;clear cm;rintro e w8 ⟨rfl,hw⟩;obtain rfl:=hw.symm))
        go_roundw
        case rel=>exact ⟨k+1,by omega,by go_num,hI7 trivial,by rw [allU,hal,ha];simp [hbd]⟩
        case measure=>simp [intOf];omega
      · replace ha:al k=false:=by simpa using ha
        have hno:¬(allU (fun k=>!bd k && al k) cnt=true∧endD L rn=0):=fun h=>by rw [allU_false (k:=k) (by rw [ha,Bool.and_false]) hlt] at h;cases h.1
        simp only [ha] at ca
        have cm:=must_f
        go_wp2_with (first
         | (with_reducible (refine id (?_:wpList _ _ _ _ _ _));refine wpList_clo rfl ca HX0.out _ _ rfl rfl ?_;clear ca;rintro e w7 ⟨rfl,-,hj⟩;refine .inl ⟨_,rfl,?_⟩)
         | (go_at_call 65;refine (cm _).mono ?_;clear cm;rintro e w8 ⟨rfl,hw⟩;obtain rfl:=hw.symm))
        exact doorK w w7 _ Pst hj rfl rfl (fun w' hb=>by rw [HP.out];exact ⟨hb,by unfold GetA;rw [if_neg hno]⟩)
  · obtain rfl:k=cnt:=by omega
    obtain ⟨R9,cs,r9,d9⟩:=FN.out wr hI
    have hj:=ST.out.j k wr hI
    have hj':=hj
    obtain ⟨-,-,-,e9,b9⟩:=hj'
    have ce:=cEnd_any _ _ g L B rn wr R9
    by_cases he:endD L rn=0
    · rw [he] at ce
      obtain ⟨hlc,h1c⟩:=HDl.out wr cs d9
      have hi1:(Try.prog.info? 58).map (·.size)=some cs.length:=by rw [hlc];exact infoK
      have hi2:(Try.prog.info? 58).map (·.size)=some cs.toArray.size:=by rw [List.size_toArray,hlc];exact infoK
      have rr:=r9.range
      have tt:wr.there w.heap.size 0 cs.toArray.size:=by rw [List.size_toArray];exact r9.there
      have cm:=must_t
      have X2:Rest [w.heap.size,w.heap.size+1] wr (wr.setCells w.heap.size 0 cs):=Rest.of_out (Out.setCells (b:=w.heap.size) (o:=0) (n:=cs.length) wr _ (Nat.le_refl _) (Nat.le_refl _)) (by simp)
      have r10:=r9.stored cs rfl
      have e10:=e9.far w.heap.size 0 cs (.inl (by omega))
      have c10:=e10.cell (o:=0) rfl
      have z10:=e10.live (o:=0) (by simp)
      have X3:Rest [w.heap.size+1] (wr.setCells w.heap.size 0 cs) ((wr.setCells w.heap.size 0 cs).setCell ⟨w.heap.size+1,0,none⟩ (.int .i64 0)):=Rest.setCell _ _ (by simp)
      have r11:=r10.rest X3 (by simp)
      have e11:=e10.set1 (o:=0) (by simp) (.int .i64 0)
      have d11:=HD.out _ _ cs d9 (X2.trans (X3.mono (fun y hy=>by simp at hy;simp [hy])))
      have b11:=b9.trans ((X2.trans (X3.mono (fun y hy=>by simp at hy;simp [hy]))).below (fun x hx=>by simp at hx;omega) b9.size)
      have Z:=Hid.mk' (And.intro r11 (And.intro e11 (And.intro d11 b11)))
      clear X2 X3 r10 e10 r11 e11 d11 b11 d9 hI
      go_wp2_with (first
       | (go_at_call 69;refine ce.mono ?_;clear ce;rintro e w7 ⟨rfl,hw⟩;obtain rfl:=hw.symm)
       | (go_at_call 65;refine (cm _).mono ?_;clear cm;rintro e w8 ⟨rfl,hw⟩;obtain rfl:=hw.symm)
       | (with_reducible (refine id (?_:wpList _ _ _ _ _ _));refine wpList_load_mid rfl 58 _ rfl w.heap.size 0 rfl cs _ rr Try.underlying58 rfl hi1 ?_)
       | (with_reducible (refine id (?_:wpList _ _ _ _ _ _));refine wpList_store_mid rfl 58 _ _ rfl w.heap.size 0 cs.toArray rfl rfl tt hi2 h1c ?_))
      obtain ⟨r11,e11,d11,b11⟩:=Z.out
      generalize (wr.setCells w.heap.size 0 cs).setCell ⟨w.heap.size+1,0,none⟩ (.int .i64 0)=W9 at *
      refine leaves_cons (f:=74) (args:=#[pA w.heap.size 0,pA (w.heap.size+1) 0]) (by simp) (by simp [go_sem]) ?_
      refine (idleK w.heap.size (w.heap.size+1) _).mono ?_
      rintro e u' w'' ⟨rfl,rfl,hw⟩
      obtain rfl:=hw.symm
      show Leaves _ _ _ _ [] (settle .returning) _
      refine ⟨_,results_two Try.results53 _ W9 w.heap.size cs _ (w.heap.size+1) 0 rfl rfl r11.range Try.underlying58 rfl hi1 (ldErr W9 _ 0 (e11.cell (o:=0) rfl)),?_⟩
      rw [HP.out]
      exact ⟨b11,by unfold GetA;rw [if_pos ⟨hal,he⟩];exact ⟨cs,rfl,d11⟩⟩
    · have hno:¬(allU (fun k=>!bd k && al k) k=true∧endD L rn=0):=fun h=>he h.2
      have hed:(endD L rn == 0)=false:=by simpa using he
      generalize endD L rn=en at *
      have cm:=must_f
      go_wp2_with (first
       | (go_at_call 69;refine ce.mono ?_;clear ce;rintro e w7 ⟨rfl,hw⟩;obtain rfl:=hw.symm)
       | (go_at_call 65;refine (cm _).mono ?_;clear cm;rintro e w8 ⟨rfl,hw⟩;obtain rfl:=hw.symm))
      exact doorK w wr _ Pst hj rfl rfl (fun w' hb=>by rw [HP.out];exact ⟨hb,by unfold GetA;rw [if_neg hno]⟩)
end Go.Proofs.Ytgdcmibdjiaofaa
namespace Go.Proofs.Ytgdcmibdjiaofaa
open Go.RowKit
section
variable (L:Nat) (B:Nat→Nat) (r:Rd)
def kr1:Rd:=(numD L B 2 r).2
def kr2:Rd:=(numD L B 2 (kr1 L B r)).2
def kr3:Rd:=(vecD L B (kr2 L B r)).2
def kr9:Rd:=(rl L B (kr3 L B r) 6).2
def kr10:Rd:=(vecD L B (kr9 L B r)).2
def kz1:Int:=(((numD L B 2 r).1:Nat):Int)
def kz2:Int:=(((numD L B 2 (kr1 L B r)).1:Nat):Int)
def kpk:PkD:=⟨vx L B (kr2 L B r),(rl L B (kr3 L B r) 6).1,vx L B (kr9 L B r)⟩
def kAt:Nat→Rd
 | 0=>r
 | 1=>kr1 L B r
 | 2=>kr2 L B r
 | 3=>(rl L B (kr3 L B r) 0).2
 | 4=>(rl L B (kr3 L B r) 1).2
 | 5=>(rl L B (kr3 L B r) 2).2
 | 6=>(rl L B (kr3 L B r) 3).2
 | 7=>(rl L B (kr3 L B r) 4).2
 | 8=>(rl L B (kr3 L B r) 5).2
 | 9=>(rl L B (kr3 L B r) 6).2
 | _=>kr10 L B r
def kD:Nat→PkD
 | 0=>⟨tx0,lf0,tx0⟩
 | 1=>⟨tx0,lf0,tx0⟩
 | 2=>⟨tx0,lf0,tx0⟩
 | 3=>⟨vx L B (kr2 L B r),(rl L B (kr3 L B r) 0).1,tx0⟩
 | 4=>⟨vx L B (kr2 L B r),(rl L B (kr3 L B r) 1).1,tx0⟩
 | 5=>⟨vx L B (kr2 L B r),(rl L B (kr3 L B r) 2).1,tx0⟩
 | 6=>⟨vx L B (kr2 L B r),(rl L B (kr3 L B r) 3).1,tx0⟩
 | 7=>⟨vx L B (kr2 L B r),(rl L B (kr3 L B r) 4).1,tx0⟩
 | 8=>⟨vx L B (kr2 L B r),(rl L B (kr3 L B r) 5).1,tx0⟩
 | 9=>⟨vx L B (kr2 L B r),(rl L B (kr3 L B r) 6).1,tx0⟩
 | _=>kpk L B r
def kZ1:Nat→Int
 | 0=>1
 | _=>kz1 L B r
def kZ2:Nat→Int
 | 0=>1
 | 1=>1
 | _=>kz2 L B r
def kA:Nat→Bool
 | 0=>decide (1≤kz1 L B r) && decide (kz1 L B r≤1)
 | 1=>decide (1≤kz2 L B r) && decide (kz2 L B r≤1)
 | k=>pkA (kpk L B r) k
end
structure PkAt (N:Nat) (W:World) (cs:List Value) (d:PkD) (v0 u0 u1 u2 u4 u5 v7:Value):Prop where
 len:cs.length=8
 c0:cs[0]? = some v0
 c7:cs[7]? = some v7
 lf:LfAt N W cs 1 d.leaf u0 u1 u2 u4 u5
 o0:Own N W v0 d.init.n d.init.b
 o7:Own N W v7 d.sg.n d.sg.b
theorem PkAt.rest {N:Nat} {X:List Nat} {W W':World} {cs:List Value} {d:PkD} {v0 u0 u1 u2 u4 u5 v7:Value} (h:PkAt N W cs d v0 u0 u1 u2 u4 u5 v7) (hr:Rest X W W') (hX:∀ x,x∈X→x<N):PkAt N W' cs d v0 u0 u1 u2 u4 u5 v7 :=
 ⟨h.len,h.c0,h.c7,h.lf.rest hr hX,own_rest h.o0 hr hX,own_rest h.o7 hr hX⟩
theorem PkAt.eq {N:Nat} {W:World} {cs:List Value} {d:PkD} {v0 u0 u1 u2 u4 u5 v7:Value} (h:PkAt N W cs d v0 u0 u1 u2 u4 u5 v7):cs=[v0,u0,u1,u2,.int .i64 d.leaf.src,u4,u5,v7]:=by
 have hl:=h.len
 match cs,hl with
 | [a,b,c,e,f,i,j,k],_ =>
  have h0:=h.c0;have h7:=h.c7;have g0:=h.lf.c0;have g1:=h.lf.c1;have g2:=h.lf.c2;have g3:=h.lf.c3;have g4:=h.lf.c4;have g5:=h.lf.c5
  simp at h0 h7 g0 g1 g2 g3 g4 g5
  rw [h0,h7,g0,g1,g2,g3,g4,g5]
theorem PkAt.pkin {N:Nat} {W:World} {cs:List Value} {d:PkD} {v0 u0 u1 u2 u4 u5 v7:Value} (h:PkAt N W cs d v0 u0 u1 u2 u4 u5 v7):PkIn W cs d :=
 ⟨v0,[u0,u1,u2,.int .i64 d.leaf.src,u4,u5],v7,h.eq,BytesIn.of_own h.o0,h.lf.lfin,BytesIn.of_own h.o7⟩
def DPk (b:Nat) (d:PkD) (W:World) (cs:List Value):Prop:=∃ N v0 u0 u1 u2 u4 u5 v7,b≤N∧PkAt N W cs d v0 u0 u1 u2 u4 u5 v7
theorem kA_kD (L:Nat) (B:Nat→Nat) (r:Rd):∀ k,2≤k→k<10→pkA (kD L B r (k+1)) k=kA L B r k:=by
 intro k h2 hk
 match k with
 | 0=>omega
 | 1=>omega
 | 2=>rfl
 | 3=>exact lfA_rl L B _ 1 0 (by omega)
 | 4=>exact lfA_rl L B _ 1 1 (by omega)
 | 5=>exact lfA_rl L B _ 1 2 (by omega)
 | 6=>exact lfA_rl L B _ 1 3 (by omega)
 | 7=>exact lfA_rl L B _ 1 4 (by omega)
 | 8=>exact lfA_rl L B _ 1 5 (by omega)
 | 9=>rfl
 | n+10=>omega
set_option maxHeartbeats 2000000 in
theorem pkgHF (L:Nat) (B:Nat→Nat) (lB:∀ j,B j<256) (hL:L<140737488355000) (w:World) (g lo hi:Nat) (W:World) (k1:RW W w.heap.size 0 zeroK) (k2:RW W (w.heap.size+1) 0 [.int .i64 0]) (hlo:w.heap.size+2≤lo) (hR:RdC lo hi W g L B ⟨0,0⟩) (hb:Below w.heap.size w W) :
 Calls Try.prog 50 #[pA w.heap.size 0] W fun e w'=>∃ X gl kp fs I Mid,e = .returned (.slice (some ⟨gl,0,none⟩) 10 kp)∧fs.length=10∧I 0 w'∧Steps X fs gl g (kA L B ⟨0,0⟩) (fun _=>false) I Mid (JK w)∧(∀ W,I 10 W→RdC lo hi W g L B (kr10 L B ⟨0,0⟩)∧∃ cs,RW W w.heap.size 0 cs∧DPk (w.heap.size+2) (kpk L B ⟨0,0⟩) W cs):=by
 refine (kf_any w.heap.size W).mono fun e w1 h => ?_
 obtain ⟨v,fv,fs,fi,f0,f1,f2,f3,f4,f5,fg,rfl,hfl,hF,rp1,rp2,hs1,b1⟩:=h
 obtain ⟨gl,kp,rfl,hgl,-,-,fr⟩:=hfl.read (by simp)
 have hg:lo≤g∧g<hi∧hi≤W.heap.size:=by obtain ⟨_,_,_,_,h1,h2⟩:=hR;exact ⟨h1.1,h1.2,h2⟩
 have hgn:gl≠W.heap.size∧gl≠W.heap.size+1:=by
  have q:=fr.at_ 0 fv rfl 0 _ rfl
  refine ⟨fun e => ?_,fun e => ?_⟩
  · rw [e] at q;have:=q.symm.trans (rp1.cell (o:=0) rfl);simp at this
  · rw [e] at q;have:=q.symm.trans (rp2.cell (o:=0) rfl);simp at this
 obtain ⟨N,hN⟩:∃ N,N=W.heap.size+2:=⟨_,rfl⟩
 obtain ⟨I,hI⟩:∃ I:Nat→World→Prop,I=fun k W'=>k≤10∧∃ cs v0 u0 u1 u2 u4 u5 v7,RW W' w.heap.size 0 cs∧PkAt N W' cs (kD L B ⟨0,0⟩ k) v0 u0 u1 u2 u4 u5 v7∧RW W' W.heap.size 0 [.int .i64 (kZ1 L B ⟨0,0⟩ k)]∧RW W' (W.heap.size+1) 0 [.int .i64 (kZ2 L B ⟨0,0⟩ k)]∧RdC lo hi W' g L B (kAt L B ⟨0,0⟩ k)∧RW W' (w.heap.size+1) 0 [.int .i64 0]∧Rest [w.heap.size,g,W.heap.size,W.heap.size+1] w1 W':=⟨_,rfl⟩
 have hX:∀ x,x∈[w.heap.size,g,W.heap.size,W.heap.size+1]→x<N:=fun x hx=>by simp at hx;omega
 have hwd:∀ {W'},Rest [w.heap.size,g,W.heap.size,W.heap.size+1] w1 W'→PkgFs (W.heap.size+2) w1.heap.size W' w.heap.size W.heap.size (W.heap.size+1) fv fs fi f0 f1 f2 f3 f4 f5 fg:=fun x=>⟨hF.ev.map fun L h=>h.rest x (fun y hy => .inl (by have:=hX y hy;omega)),hF.es.map fun L h=>h.rest x (fun y hy => .inl (by have:=hX y hy;omega)),hF.ei.map fun L h=>h.rest x (fun y hy => .inl (by have:=hX y hy;omega)),hF.el.map fun L h=>h.rest x (fun y hy => .inl (by have:=hX y hy;omega)),hF.eg.map fun L h=>h.rest x (fun y hy => .inl (by have:=hX y hy;omega))⟩
 have hbw:∀ {W'},Rest [w.heap.size,g,W.heap.size,W.heap.size+1] w1 W'→Below w.heap.size w W':=fun h6=>(below_next hb b1).trans (h6.below (fun x hx=>by have:=hb.size;simp at hx;omega) (below_next hb b1).size)
 have hj:∀ k W',I k W'→JK w W':=fun k W' h=>by
  rw [hI] at h
  obtain ⟨hk,cs,v0,u0,u1,u2,u4,u5,v7,h2,h3,z1,z2,h4,h5,h6⟩:=h
  exact ⟨cs,h3.len,h2,h5,hbw h6⟩
 have hst:∀ k W' W'',I k W'→Below W'.heap.size W' W''→I k W'':=fun k W' W'' h hb=>by
  rw [hI] at h ⊢
  obtain ⟨hk,cs,v0,u0,u1,u2,u4,u5,v7,h2,h3,z1,z2,h4,h5,h6⟩:=h
  exact ⟨hk,cs,v0,u0,u1,u2,u4,u5,v7,h2.still hb,h3.rest (Rest.of_below (X:=[]) hb) (fun x hx=>by cases hx),z1.still hb,z2.still hb,h4.still hb,h5.still hb,h6.trans (Rest.of_below hb)⟩
 refine ⟨[w.heap.size,g,W.heap.size,W.heap.size+1],gl,kp,[fv,fs,fi,f0,f1,f2,f3,f4,f5,fg],I,fun k=>I (k+1),rfl,rfl,?_,⟨?_,?_,?_,?_,?_,hst,?_,hj⟩,?_⟩
 · rw [hI]
   exact ⟨by omega,zeroK,_,_,_,_,_,_,_,k1.still b1,⟨rfl,rfl,rfl,⟨rfl,rfl,rfl,rfl,rfl,rfl,Own.nil _ _ _,Own.nil _ _ _,Own.nil _ _ _,Own.nil _ _ _,Own.nil _ _ _⟩,Own.nil _ _ _,Own.nil _ _ _⟩,rp1,rp2,hR.still b1,k2.still b1,Rest.refl _ _⟩
 · obtain ⟨hv,hs,hi',hl,hg'⟩:=hF
   obtain ⟨h0,h1,h2,h3,h4,h5⟩:=hl
   obtain ⟨_,_,_,_,rfl,-⟩:=hv
   obtain ⟨_,_,_,_,rfl,-⟩:=hs
   obtain ⟨_,_,_,rfl,-⟩:=hi'
   obtain ⟨_,_,_,rfl,-⟩:=hg'
   obtain ⟨_,_,_,rfl,-⟩:=h0
   obtain ⟨_,_,_,rfl,-⟩:=h1
   obtain ⟨_,_,_,rfl,-⟩:=h2
   obtain ⟨_,_,_,_,rfl,-⟩:=h3
   obtain ⟨_,_,_,_,_,_,_,_,_,rfl,-⟩:=h4
   obtain ⟨_,_,_,rfl,-⟩:=h5
   intro k f hf
   match k,hf with
   | 0,hf=>cases hf;exact fun W=>enN1 _ W
   | 1,hf=>cases hf;exact fun W=>enN1 _ W
   | 2,hf=>cases hf;exact fun W=>enV1 _ W
   | 3,hf=>cases hf;exact fun W=>enV1 _ W
   | 4,hf=>cases hf;exact fun W=>enV1 _ W
   | 5,hf=>cases hf;exact fun W=>enV1 _ W
   | 6,hf=>cases hf;exact fun W=>enN1 _ W
   | 7,hf=>cases hf;exact fun W=>enH2 _ W
   | 8,hf=>cases hf;exact fun W=>enV1 _ W
   | 9,hf=>cases hf;exact fun W=>enV1 _ W
   | n+10,hf=>simp at hf
 · obtain ⟨hv,hs,hi',hl,hg'⟩:=hF
   have e2:=leafE2 (g:=g) hl
   obtain ⟨_,_,_,_,rfl,-⟩:=hv
   obtain ⟨_,_,_,_,rfl,-⟩:=hs
   obtain ⟨_,_,_,rfl,-⟩:=hi'
   obtain ⟨_,_,_,rfl,-⟩:=hg'
   intro k f hf
   match k,hf with
   | 0,hf=>cases hf;exact fun W=>enN3 _ W
   | 1,hf=>cases hf;exact fun W=>enN3 _ W
   | 2,hf=>cases hf;exact fun W=>enV3 _ W
   | 3,hf=>exact e2 0 f hf
   | 4,hf=>exact e2 1 f hf
   | 5,hf=>exact e2 2 f hf
   | 6,hf=>exact e2 3 f hf
   | 7,hf=>exact e2 4 f hf
   | 8,hf=>exact e2 5 f hf
   | 9,hf=>cases hf;exact fun W=>enV3 _ W
   | n+10,hf=>simp at hf
 · intro k f hf W' hIk
   rw [hI] at hIk
   obtain ⟨hk,cs,v0,u0,u1,u2,u4,u5,v7,h2,h3,z1,z2,h4,h5,h6⟩:=hIk
   have hNW:N≤W'.heap.size:=by have:=h6.size;omega
   have hw:=hwd h6
   have hbs:=hb.size
   have hln:=h3.len
   have y4:∀ x,x∈[w.heap.size,g]→x∈[w.heap.size,g,W.heap.size,W.heap.size+1]:=fun x hx=>by simp at hx ⊢;omega
   have y1:∀ x,x∈[W.heap.size,g]→x∈[w.heap.size,g,W.heap.size,W.heap.size+1]:=fun x hx=>by simp at hx ⊢;omega
   have y2:∀ x,x∈[W.heap.size+1,g]→x∈[w.heap.size,g,W.heap.size,W.heap.size+1]:=fun x hx=>by simp at hx ⊢;omega
   simp only [Bool.false_eq_true,if_false]
   have leafcase:∀ (j:Nat) (hj6:j<6) (hf':[f0,f1,f2,f3,f4,f5][j]? = some f),kD L B ⟨0,0⟩ k=⟨vx L B (kr2 L B ⟨0,0⟩),(rl L B (kr3 L B ⟨0,0⟩) j).1,tx0⟩→kD L B ⟨0,0⟩ (k+1)=⟨vx L B (kr2 L B ⟨0,0⟩),(rl L B (kr3 L B ⟨0,0⟩) (j+1)).1,tx0⟩→kAt L B ⟨0,0⟩ k=(rl L B (kr3 L B ⟨0,0⟩) j).2→kAt L B ⟨0,0⟩ (k+1)=(rl L B (kr3 L B ⟨0,0⟩) (j+1)).2→kZ1 L B ⟨0,0⟩ (k+1)=kZ1 L B ⟨0,0⟩ k→kZ2 L B ⟨0,0⟩ (k+1)=kZ2 L B ⟨0,0⟩ k→k<10 →
    Calls Try.prog f.i2 (#[pA g 0] ++ f.c2) W' fun e w'=>e = .returned (.tuple #[])∧I (k+1) w'∧Rest [w.heap.size,g,W.heap.size,W.heap.size+1] W' w':=by
    intro j hj6 hf' ed ed' ea ea' ez1 ez2 hk10
    rw [ed] at h3
    rw [ea] at h4
    refine (leafGet lB hL j hj6 f hf' hw.el h2 (by omega) h3.lf h4 (.inl (by omega)) (by omega) (by omega) (by omega) (by omega) hNW).mono fun e w' h => ?_
    obtain ⟨a1,cs',a2,a3,a4,⟨t0,t1,t2,t4,t5,a5⟩,a6,a7⟩:=h
    refine ⟨a1,?_,a7.mono y4⟩
    rw [hI]
    have hh:=h3.rest a7 (fun x hx=>hX x (y4 x hx))
    refine ⟨by omega,cs',v0,t0,t1,t2,t4,t5,v7,a4,?_,?_,?_,by rw [ea'];exact a6,h5.rest a7 (by simp;omega),h6.trans (a7.mono y4)⟩
    · rw [ed']
      exact ⟨by omega,(a3 0 (.inl (by omega))).trans hh.c0,(a3 7 (.inr (by omega))).trans hh.c7,a5,hh.o0,hh.o7⟩
    · rw [ez1];exact z1.rest a7 (by simp;omega)
    · rw [ez2];exact z2.rest a7 (by simp;omega)
   match k,hf with
   | 0,hf =>
    cases hf
    obtain ⟨q1,q2,q3,q4,rfl,Bx⟩:=hw.ev
    obtain ⟨a1,-,x1⟩:=Bx (q1,[pA W.heap.size 0]) (by simp)
    obtain ⟨a2,-,x2⟩:=Bx (q2,[.int .i64 2]) (by simp)
    replace a1:W.heap.size+2≤q1:=a1
    replace a2:W.heap.size+2≤q2:=a2
    refine (nGet q1 q2 W.heap.size 0 lo hi g L B lB _ 2 _ W' x1 x2 z1 (by simp) h4 (.inr (by omega)) (by omega) (by omega) (by omega) (by omega)).mono fun e w' ⟨t1,t2,t3,t4⟩ => ?_
    refine ⟨t1,?_,t4.mono y1⟩
    rw [hI]
    exact ⟨by omega,cs,v0,u0,u1,u2,u4,u5,v7,h2.rest t4 (by simp;omega),h3.rest t4 (fun x hx=>hX x (y1 x hx)),t2,z2.rest t4 (by simp;omega),t3,h5.rest t4 (by simp;omega),h6.trans (t4.mono y1)⟩
   | 1,hf =>
    cases hf
    obtain ⟨q1,q2,q3,q4,rfl,Bx⟩:=hw.es
    obtain ⟨a1,-,x1⟩:=Bx (q1,[pA (W.heap.size+1) 0]) (by simp)
    obtain ⟨a2,-,x2⟩:=Bx (q2,[.int .i64 2]) (by simp)
    replace a1:W.heap.size+2≤q1:=a1
    replace a2:W.heap.size+2≤q2:=a2
    refine (nGet q1 q2 (W.heap.size+1) 0 lo hi g L B lB _ 2 _ W' x1 x2 z2 (by simp) h4 (.inr (by omega)) (by omega) (by omega) (by omega) (by omega)).mono fun e w' ⟨t1,t2,t3,t4⟩ => ?_
    refine ⟨t1,?_,t4.mono y2⟩
    rw [hI]
    exact ⟨by omega,cs,v0,u0,u1,u2,u4,u5,v7,h2.rest t4 (by simp;omega),h3.rest t4 (fun x hx=>hX x (y2 x hx)),z1.rest t4 (by simp;omega),t2,t3,h5.rest t4 (by simp;omega),h6.trans (t4.mono y2)⟩
   | 2,hf =>
    cases hf
    obtain ⟨q1,q2,q3,rfl,Bx⟩:=hw.ei
    obtain ⟨a1,-,x1⟩:=Bx (q1,[pA w.heap.size 0]) (by simp)
    replace a1:W.heap.size+2≤q1:=a1
    refine (vGet q1 w.heap.size 0 lo hi g L B lB _ hL _ W' x1 h2 (by omega) h4 (.inl (by omega)) (by omega) (by omega)).mono fun e w' ⟨t1,v,t2,t3,t4,t5⟩ => ?_
    refine ⟨t1,?_,t5.mono y4⟩
    rw [hI]
    have h:=h3.rest t5 (fun x hx=>hX x (y4 x hx))
    have so:∀ j,0<j→(cs.set 0 v)[j]? = cs[j]?:=fun j hj=>List.getElem?_set_ne (by omega)
    exact ⟨by omega,_,v,u0,u1,u2,u4,u5,v7,t2,⟨by rw [List.length_set];exact hln,List.getElem?_set_self (by omega),(so 7 (by omega)).trans h.c7,⟨(so _ (by omega)).trans h.lf.c0,(so _ (by omega)).trans h.lf.c1,(so _ (by omega)).trans h.lf.c2,(so _ (by omega)).trans h.lf.c3,(so _ (by omega)).trans h.lf.c4,(so _ (by omega)).trans h.lf.c5,h.lf.o0,h.lf.o1,h.lf.o2,h.lf.o4,h.lf.o5⟩,own_base t3 hNW,h.o7⟩,z1.rest t5 (by simp;omega),z2.rest t5 (by simp;omega),t4,h5.rest t5 (by simp;omega),h6.trans (t5.mono y4)⟩
   | 3,hf=>exact leafcase 0 (by omega) hf rfl rfl rfl rfl rfl rfl (by omega)
   | 4,hf=>exact leafcase 1 (by omega) hf rfl rfl rfl rfl rfl rfl (by omega)
   | 5,hf=>exact leafcase 2 (by omega) hf rfl rfl rfl rfl rfl rfl (by omega)
   | 6,hf=>exact leafcase 3 (by omega) hf rfl rfl rfl rfl rfl rfl (by omega)
   | 7,hf=>exact leafcase 4 (by omega) hf rfl rfl rfl rfl rfl rfl (by omega)
   | 8,hf=>exact leafcase 5 (by omega) hf rfl rfl rfl rfl rfl rfl (by omega)
   | 9,hf =>
    cases hf
    obtain ⟨q1,q2,q3,rfl,Bx⟩:=hw.eg
    obtain ⟨a1,-,x1⟩:=Bx (q1,[pA w.heap.size 7]) (by simp)
    replace a1:W.heap.size+2≤q1:=a1
    refine (vGet q1 w.heap.size 7 lo hi g L B lB _ hL _ W' x1 h2 (by omega) h4 (.inl (by omega)) (by omega) (by omega)).mono fun e w' ⟨t1,v,t2,t3,t4,t5⟩ => ?_
    refine ⟨t1,?_,t5.mono y4⟩
    rw [hI]
    have h:=h3.rest t5 (fun x hx=>hX x (y4 x hx))
    have so:∀ j,j<7→(cs.set 7 v)[j]? = cs[j]?:=fun j hj=>List.getElem?_set_ne (by omega)
    exact ⟨by omega,_,v0,u0,u1,u2,u4,u5,v,t2,⟨by rw [List.length_set];exact hln,(so 0 (by omega)).trans h.c0,List.getElem?_set_self (by omega),⟨(so _ (by omega)).trans h.lf.c0,(so _ (by omega)).trans h.lf.c1,(so _ (by omega)).trans h.lf.c2,(so _ (by omega)).trans h.lf.c3,(so _ (by omega)).trans h.lf.c4,(so _ (by omega)).trans h.lf.c5,h.lf.o0,h.lf.o1,h.lf.o2,h.lf.o4,h.lf.o5⟩,h.o0,own_base t3 hNW⟩,z1.rest t5 (by simp;omega),z2.rest t5 (by simp;omega),t4,h5.rest t5 (by simp;omega),h6.trans (t5.mono y4)⟩
   | n+10,hf=>simp at hf
 · intro k W' hIk x hx
   rw [hI] at hIk
   obtain ⟨hk,cs,v0,u0,u1,u2,u4,u5,v7,h2,h3,z1,z2,h4,h5,h6⟩:=hIk
   have:=hX x hx
   have:=h6.size
   omega
 · intro k f hf W' hm
   have hk:k<10:=(List.getElem?_eq_some_iff.1 hf).1
   have hm':=hm
   rw [hI] at hm'
   obtain ⟨hk',cs,v0,u0,u1,u2,u4,u5,v7,h2,h3,z1,z2,h4,h5,h6⟩:=hm'
   have fin:∀ {al n b},FieldPut W' f al n b→al=kA L B ⟨0,0⟩ k→Calls Try.prog f.i0 f.c0 W' fun e w'=>e = .returned (.bool (kA L B ⟨0,0⟩ k))∧(kA L B ⟨0,0⟩ k=true→I (k+1) w')∧JK w w':=fun fp he=>by
    rw [he] at fp
    exact (fp.allow W' (Below.refl _ _)).mono fun e w' ⟨a1,a2⟩=>⟨a1,fun _=>hst _ _ _ hm a2,hj _ _ (hst _ _ _ hm a2)⟩
   have hw:=hwd h6
   obtain ⟨y0,l,y7,he,b0,bl,b7⟩:=h3.pkin
   have hll:l.length=6:=by obtain ⟨_,_,_,_,_,rfl,-⟩:=bl;rfl
   rw [he] at h2
   have rl':RW W' w.heap.size 1 l:=((show RW W' w.heap.size 0 ([y0] ++ (l ++ [y7])) from h2).right).left
   have c7:W'.cell? ⟨w.heap.size,7,none⟩=some y7:=h2.cell (by rw [List.getElem?_cons_succ,List.getElem?_append_right (by omega),hll];rfl)
   have LP:=leafP hw.el (by decide) rl' bl
   match k,hf with
   | 0,hf=>cases hf;exact fin (numP (s:=2) hw.ev (z1.cell (o:=0) rfl) z1.lt (by decide) rfl (by decide)) rfl
   | 1,hf=>cases hf;exact fin (numP (s:=2) hw.es (z2.cell (o:=0) rfl) z2.lt (by decide) rfl (by decide)) rfl
   | 2,hf=>cases hf;exact fin (vecP hw.ei (h2.cell (o:=0) rfl) h2.lt b0 (by decide)) rfl
   | 3,hf=>exact fin (LP 0 f hf) (kA_kD L B _ 3 (by omega) (by omega))
   | 4,hf=>exact fin (LP 1 f hf) (kA_kD L B _ 4 (by omega) (by omega))
   | 5,hf=>exact fin (LP 2 f hf) (kA_kD L B _ 5 (by omega) (by omega))
   | 6,hf=>exact fin (LP 3 f hf) (kA_kD L B _ 6 (by omega) (by omega))
   | 7,hf=>exact fin (LP 4 f hf) (kA_kD L B _ 7 (by omega) (by omega))
   | 8,hf=>exact fin (LP 5 f hf) (kA_kD L B _ 8 (by omega) (by omega))
   | 9,hf=>cases hf;exact fin (vecP hw.eg c7 h2.lt b7 (by decide)) rfl
   | n+10,hf=>simp at hf
 · intro k W' hIk
   rw [hI] at hIk
   obtain ⟨hk,cs,v0,u0,u1,u2,u4,u5,v7,h2,h3,z1,z2,h4,h5,h6⟩:=hIk
   exact fr.rest h6 (fun hx=>by have:=hb.size;simp at hx;omega)
 · intro W' hIk
   rw [hI] at hIk
   obtain ⟨hk,cs,v0,u0,u1,u2,u4,u5,v7,h2,h3,z1,z2,h4,h5,h6⟩:=hIk
   exact ⟨h4,cs,h2,N,v0,u0,u1,u2,u4,u5,v7,by have:=hb.size;omega,h3⟩
end Go.Proofs.Ytgdcmibdjiaofaa
namespace Go.Proofs.Ytgdcmibdjiaofaa
open Go.RowKit
theorem results_ct {P:Program} {fn:Func} {p q:Tmp} {ty:TypeId} (h:fn.results=#[.cell p ty,.tmp q]) (tmps:Array Value) (w:World) (g:Nat) (cs:List Value) (d:TypeDesc) (z:Value)
 (hp:tmps.getD p undef = .pointer (some ⟨g,0,none⟩)) (hq:tmps.getD q undef=z) (hc:w.rangeAt g 0 cs)
 (hu:P.underlying ty=some d) (hd:d.isRow=true) (hi:(P.info? ty).map (·.size)=some cs.length) :
 (results fn tmps).run P w = .ok (.tuple #[.agg cs.toArray,z]) w:=by
 have hp':tmps[p]?.getD undef = .pointer (some ⟨g,0,none⟩):=by simpa using hp
 have hq':tmps[q]?.getD undef=z:=by simpa using hq
 simp [results,h,hp',hq',asAddr,run_loadVar_mid w g 0 ty cs d hc hu hd hi]
theorem GetA.row {R:Prop} {D:World→List Value→Prop} {zero:List Value} {e:Ending} {w:World} {K:Nat} (h:GetA R D zero e w) (hD:∀ W cs,D W cs→cs.length=K∧cs.toArray.all (·.oneCell')=true) (hz:zero.length=K∧zero.toArray.all (·.oneCell')=true):∃ (l:List Value) (z:Int),e = .returned (.tuple #[.agg l.toArray,.int .i64 z])∧l.length=K∧l.toArray.all (·.oneCell')=true:=by
 unfold GetA at h
 split at h
 · obtain ⟨cs,h1,h2⟩:=h;exact ⟨cs,0,h1,hD _ _ h2⟩
 · exact ⟨zero,21,h,hz⟩
theorem GetA.map {R:Prop} {D D':World→List Value→Prop} {zero:List Value} {e:Ending} {w w':World} (h:GetA R D zero e w) (hm:∀ cs,D w cs→D' w' cs):GetA R D' zero e w':=by
 unfold GetA at *
 split
 · rename_i hR;rw [if_pos hR] at h;obtain ⟨cs,h1,h2⟩:=h;exact ⟨cs,h1,hm cs h2⟩
 · rename_i hR;rw [if_neg hR] at h;exact h
theorem GetA.cond {R R':Prop} {D:World→List Value→Prop} {zero:List Value} {e:Ending} {w:World} (h:GetA R D zero e w) (hm:R↔R'):GetA R' D zero e w:=by rw [←propext hm];exact h
set_option maxRecDepth 20000 in
set_option maxHeartbeats 2000000 in
theorem cGetLeaf (v:Value) (R:Prop) (D D':World→List Value→Prop) (w:World) (hDl:∀ W cs,D W cs→cs.length=6∧cs.toArray.all (·.oneCell')=true) (hD:∀ W W' cs,D W cs→Rest [w.heap.size] W W'→D' W' cs)
 (cg:∀ V,Below w.heap.size w V→V.heap.size=w.heap.size+1→Calls Try.prog 40 #[v,clo 37 #[]] V fun e w'=>Below V.heap.size V w'∧GetA R D zeroL e w'):Calls Try.prog 13 #[v] w fun e w'=>Below w.heap.size w w'∧GetA R D' zeroL e w':=by
 have hz:zeroL.length=6∧zeroL.toArray.all (·.oneCell')=true:=⟨rfl,by simp [zeroL,Value.oneCell']⟩
 obtain ⟨V,hV⟩:∃ V,V=w.alloc (.cells #[.slice none 0 0,.slice none 0 0,.slice none 0 0,.int .i64 0,.slice none 0 0,.slice none 0 0] 26):=⟨_,rfl⟩
 have k1:=RW.fresh w [.slice none 0 0,.slice none 0 0,.slice none 0 0,.int .i64 0,.slice none 0 0,.slice none 0 0] 26
 rw [show w.alloc (.cells [.slice none 0 0,.slice none 0 0,.slice none 0 0,.int .i64 0,.slice none 0 0,.slice none 0 0].toArray 26)=V from hV.symm] at k1
 have b1:Below w.heap.size w V:=by rw [hV];exact (Below.refl _ _).alloc (Nat.le_refl _) _
 have s1:V.heap.size=w.heap.size+1:=by rw [hV];simp
 replace cg:=cg V b1 s1
 have HV:=Hid.mk' hV
 have HZ:=Hid.mk' hz
 have K1:=Hid.mk' k1
 have HDl:=Hid.mk' hDl
 have HD:=Hid.mk' hD
 clear hV k1 s1 hz hDl hD
 go_enter Try.func13,Try.ntmps13
 go_upto_region 1 with (fail)
 rw [←HV.out]
 go_wp2_with (first
  | (go_at_call 40;refine cg.mono ?_;clear cg;rintro e w2 ⟨c2,hA⟩;(have HA:=Hid.mk' hA);(obtain ⟨l,z,rfl,hl,h1⟩:=hA.row HDl.out HZ.out);clear hA;(have r2:=K1.out.still c2);(have hsz:l.toArray.size=6:=by simp [hl]);(have tt:w2.there w.heap.size 0 l.toArray.size:=by rw [hsz];exact r2.there);(have hi2:(Try.prog.info? 26).map (·.size)=some l.toArray.size:=by rw [hsz];exact infoL);clear r2 hsz)
  | (with_reducible (refine id (?_:wpList _ _ _ _ _ _));refine wpList_store_mid rfl 26 _ _ rfl w.heap.size 0 l.toArray rfl rfl tt hi2 h1 ?_))
 have r2:=K1.out.still c2
 have r3:=r2.stored l (by rw [hl];rfl)
 have x3:Rest [w.heap.size] w2 (w2.setCells w.heap.size 0 l):=Rest.of_out (Out.setCells (b:=w.heap.size) (o:=0) (n:=l.length) w2 _ (Nat.le_refl _) (Nat.le_refl _)) (by simp)
 refine bodyPost_ret (results_ct Try.results13 _ _ w.heap.size l _ _ rfl rfl r3.range Try.underlying26 rfl (by rw [hl];exact infoL)) rfl ?_
 exact ⟨(below_next b1 c2).trans (x3.below (fun x hx=>by simp at hx;omega) (below_next b1 c2).size),HA.out.map fun cs h=>HD.out _ _ cs h x3⟩
set_option maxRecDepth 20000 in
set_option maxHeartbeats 2000000 in
theorem cGetParent (v:Value) (R:Prop) (D D':World→List Value→Prop) (w:World) (hDl:∀ W cs,D W cs→cs.length=3∧cs.toArray.all (·.oneCell')=true) (hD:∀ W W' cs,D W cs→Rest [w.heap.size] W W'→D' W' cs)
 (cg:∀ V,Below w.heap.size w V→V.heap.size=w.heap.size+1→Calls Try.prog 47 #[v,clo 44 #[]] V fun e w'=>Below V.heap.size V w'∧GetA R D zeroP e w'):Calls Try.prog 22 #[v] w fun e w'=>Below w.heap.size w w'∧GetA R D' zeroP e w':=by
 have hz:zeroP.length=3∧zeroP.toArray.all (·.oneCell')=true:=⟨rfl,by simp [zeroP,Value.oneCell']⟩
 obtain ⟨V,hV⟩:∃ V,V=w.alloc (.cells #[.slice none 0 0,.slice none 0 0,.slice none 0 0] 45):=⟨_,rfl⟩
 have k1:=RW.fresh w [.slice none 0 0,.slice none 0 0,.slice none 0 0] 45
 rw [show w.alloc (.cells [.slice none 0 0,.slice none 0 0,.slice none 0 0].toArray 45)=V from hV.symm] at k1
 have b1:Below w.heap.size w V:=by rw [hV];exact (Below.refl _ _).alloc (Nat.le_refl _) _
 have s1:V.heap.size=w.heap.size+1:=by rw [hV];simp
 replace cg:=cg V b1 s1
 have HV:=Hid.mk' hV
 have HZ:=Hid.mk' hz
 have K1:=Hid.mk' k1
 have HDl:=Hid.mk' hDl
 have HD:=Hid.mk' hD
 clear hV k1 s1 hz hDl hD
 go_enter Try.func22,Try.ntmps22
 go_upto_region 1 with (fail)
 rw [←HV.out]
 go_wp2_with (first
  | (go_at_call 47;refine cg.mono ?_;clear cg;rintro e w2 ⟨c2,hA⟩;(have HA:=Hid.mk' hA);(obtain ⟨l,z,rfl,hl,h1⟩:=hA.row HDl.out HZ.out);clear hA;(have r2:=K1.out.still c2);(have hsz:l.toArray.size=3:=by simp [hl]);(have tt:w2.there w.heap.size 0 l.toArray.size:=by rw [hsz];exact r2.there);(have hi2:(Try.prog.info? 45).map (·.size)=some l.toArray.size:=by rw [hsz];exact infoP);clear r2 hsz)
  | (with_reducible (refine id (?_:wpList _ _ _ _ _ _));refine wpList_store_mid rfl 45 _ _ rfl w.heap.size 0 l.toArray rfl rfl tt hi2 h1 ?_))
 have r2:=K1.out.still c2
 have r3:=r2.stored l (by rw [hl];rfl)
 have x3:Rest [w.heap.size] w2 (w2.setCells w.heap.size 0 l):=Rest.of_out (Out.setCells (b:=w.heap.size) (o:=0) (n:=l.length) w2 _ (Nat.le_refl _) (Nat.le_refl _)) (by simp)
 refine bodyPost_ret (results_ct Try.results22 _ _ w.heap.size l _ _ rfl rfl r3.range Try.underlying45 rfl (by rw [hl];exact infoP)) rfl ?_
 exact ⟨(below_next b1 c2).trans (x3.below (fun x hx=>by simp at hx;omega) (below_next b1 c2).size),HA.out.map fun cs h=>HD.out _ _ cs h x3⟩
set_option maxRecDepth 20000 in
set_option maxHeartbeats 2000000 in
theorem cGetPackage (v:Value) (R:Prop) (D D':World→List Value→Prop) (w:World) (hDl:∀ W cs,D W cs→cs.length=8∧cs.toArray.all (·.oneCell')=true) (hD:∀ W W' cs,D W cs→Rest [w.heap.size] W W'→D' W' cs)
 (cg:∀ V,Below w.heap.size w V→V.heap.size=w.heap.size+1→Calls Try.prog 53 #[v,clo 50 #[]] V fun e w'=>Below V.heap.size V w'∧GetA R D zeroK e w'):Calls Try.prog 28 #[v] w fun e w'=>Below w.heap.size w w'∧GetA R D' zeroK e w':=by
 have hz:zeroK.length=8∧zeroK.toArray.all (·.oneCell')=true:=⟨rfl,by simp [zeroK,Value.oneCell']⟩
 obtain ⟨V,hV⟩:∃ V,V=w.alloc (.cells #[.slice none 0 0,.slice none 0 0,.slice none 0 0,.slice none 0 0,.int .i64 0,.slice none 0 0,.slice none 0 0,.slice none 0 0] 58):=⟨_,rfl⟩
 have k1:=RW.fresh w [.slice none 0 0,.slice none 0 0,.slice none 0 0,.slice none 0 0,.int .i64 0,.slice none 0 0,.slice none 0 0,.slice none 0 0] 58
 rw [show w.alloc (.cells [.slice none 0 0,.slice none 0 0,.slice none 0 0,.slice none 0 0,.int .i64 0,.slice none 0 0,.slice none 0 0,.slice none 0 0].toArray 58)=V from hV.symm] at k1
 have b1:Below w.heap.size w V:=by rw [hV];exact (Below.refl _ _).alloc (Nat.le_refl _) _
 have s1:V.heap.size=w.heap.size+1:=by rw [hV];simp
 replace cg:=cg V b1 s1
 have HV:=Hid.mk' hV
 have HZ:=Hid.mk' hz
 have K1:=Hid.mk' k1
 have HDl:=Hid.mk' hDl
 have HD:=Hid.mk' hD
 clear hV k1 s1 hz hDl hD
 go_enter Try.func28,Try.ntmps28
 go_upto_region 1 with (fail)
 rw [←HV.out]
 go_wp2_with (first
  | (go_at_call 53;refine cg.mono ?_;clear cg;rintro e w2 ⟨c2,hA⟩;(have HA:=Hid.mk' hA);(obtain ⟨l,z,rfl,hl,h1⟩:=hA.row HDl.out HZ.out);clear hA;(have r2:=K1.out.still c2);(have hsz:l.toArray.size=8:=by simp [hl]);(have tt:w2.there w.heap.size 0 l.toArray.size:=by rw [hsz];exact r2.there);(have hi2:(Try.prog.info? 58).map (·.size)=some l.toArray.size:=by rw [hsz];exact infoK);clear r2 hsz)
  | (with_reducible (refine id (?_:wpList _ _ _ _ _ _));refine wpList_store_mid rfl 58 _ _ rfl w.heap.size 0 l.toArray rfl rfl tt hi2 h1 ?_))
 have r2:=K1.out.still c2
 have r3:=r2.stored l (by rw [hl];rfl)
 have x3:Rest [w.heap.size] w2 (w2.setCells w.heap.size 0 l):=Rest.of_out (Out.setCells (b:=w.heap.size) (o:=0) (n:=l.length) w2 _ (Nat.le_refl _) (Nat.le_refl _)) (by simp)
 refine bodyPost_ret (results_ct Try.results28 _ _ w.heap.size l _ _ rfl rfl r3.range Try.underlying58 rfl (by rw [hl];exact infoK)) rfl ?_
 exact ⟨(below_next b1 c2).trans (x3.below (fun x hx=>by simp at hx;omega) (below_next b1 c2).size),HA.out.map fun cs h=>HD.out _ _ cs h x3⟩
end Go.Proofs.Ytgdcmibdjiaofaa
namespace Go.Proofs.Ytgdcmibdjiaofaa
open Go.RowKit
theorem all_false (al:Nat→Bool):(fun k=>!(fun _:Nat=>false) k && al k)=al:=by funext k;simp
theorem one_arr {cs:List Value} (h:∀ u∈cs,u.oneCell'=true):cs.toArray.all (·.oneCell')=true:=by simpa using h
def getD13 (L:Nat) (B:Nat→Nat):LfD:=(rl L B ⟨0,0⟩ 6).1
def getE13 (L:Nat) (B:Nat→Nat):Int:=endD L (rl L B ⟨0,0⟩ 6).2
theorem getLeaf_any (v:Value) (L:Nat) (B:Nat→Nat) (lB:∀ j,B j<256) (hL:L<140737488355000) (w:World) (hv:BytesIn w v L B):Calls Try.prog 13 #[v] w fun e w'=>Below w.heap.size w w'∧GetA (lfR (getD13 L B) 3∧getE13 L B=0) (fun W cs=>LfIn W cs (getD13 L B)) zeroL e w':=by
 have hDl:∀ b W cs,DLf b (rl L B ⟨0,0⟩ 6).1 W cs→cs.length=6∧cs.toArray.all (·.oneCell')=true:=fun b W cs h=>by
  obtain ⟨h1,N,v0,v1,v2,v4,v5,_,h2⟩:=h
  refine ⟨h1,one_arr ?_⟩
  rw [h2.eq h1]
  exact h2.one
 refine cGetLeaf v _ (DLf (w.heap.size+3) (rl L B ⟨0,0⟩ 6).1) _ w (hDl _) (fun W W' cs h x => ?_) (fun V hb hs => ?_)
 · obtain ⟨h1,N,v0,v1,v2,v4,v5,hN,h2⟩:=h
   have h3:=h2.rest x (fun y hy=>by simp at hy;omega)
   rw [h3.eq h1]
   exact h3.lfin
 · refine (getL_any v L B hL (lfA (rl L B ⟨0,0⟩ 6).1 3) (fun _=>false) 6 (by decide) (by decide) (rl L B ⟨0,0⟩ 6).2 (DLf (V.heap.size+2) (rl L B ⟨0,0⟩ 6).1) V (hv.keep hb) (fun W W' cs h x => ?_) (hDl _) (fun g lo hi W k1 k2 hlo hR hb'=>leafHF L B lB hL V g lo hi W k1 k2 hlo hR hb')).mono fun e w' ⟨h1,h2⟩=>⟨h1,?_⟩
   · obtain ⟨h1,N,v0,v1,v2,v4,v5,hN,h2⟩:=h
     exact ⟨h1,N,v0,v1,v2,v4,v5,hN,h2.rest x (fun y hy=>by simp at hy;omega)⟩
   · rw [all_false] at h2
     rw [show V.heap.size+2=w.heap.size+3 by omega] at h2
     exact h2.cond (by rw [lf_all];exact Iff.rfl)
def getP13 (L:Nat) (B:Nat→Nat):PrD:=(rp L B ⟨0,0⟩ 3).1
def getQ13 (L:Nat) (B:Nat→Nat):Prop:=(vx L B (rp L B ⟨0,0⟩ 2).2).n%4=0∧endD L (rp L B ⟨0,0⟩ 3).2=0
theorem getParent_any (v:Value) (L:Nat) (B:Nat→Nat) (lB:∀ j,B j<256) (hL:L<140737488355000) (w:World) (hv:BytesIn w v L B):Calls Try.prog 22 #[v] w fun e w'=>Below w.heap.size w w'∧GetA (prR (getP13 L B)∧getQ13 L B) (fun W cs=>PrIn W cs (getP13 L B)) zeroP e w':=by
 have hDl:∀ b W cs,DPr b (rp L B ⟨0,0⟩ 3).1 W cs→cs.length=3∧cs.toArray.all (·.oneCell')=true:=fun b W cs h=>by
  obtain ⟨N,v0,v1,v2,_,h2⟩:=h
  rw [h2.c0]
  refine ⟨rfl,one_arr ?_⟩
  obtain ⟨_,_,e0⟩:=h2.o0.slice
  obtain ⟨_,_,e1⟩:=h2.o1.slice
  obtain ⟨_,_,e2⟩:=h2.o2.slice
  intro u hu
  simp at hu
  rcases hu with rfl | rfl | rfl
  · rw [e0];rfl
  · rw [e1];rfl
  · rw [e2];rfl
 refine cGetParent v _ (DPr (w.heap.size+3) (rp L B ⟨0,0⟩ 3).1) _ w (hDl _) (fun W W' cs h x => ?_) (fun V hb hs => ?_)
 · obtain ⟨N,v0,v1,v2,hN,h2⟩:=h
   exact (h2.rest x (fun y hy=>by simp at hy;omega)).prin
 · refine (getP_any v L B hL (prA (rp L B ⟨0,0⟩ 3).1) (rpB L B ⟨0,0⟩) 3 (by decide) (by decide) (rp L B ⟨0,0⟩ 3).2 (DPr (V.heap.size+2) (rp L B ⟨0,0⟩ 3).1) V (hv.keep hb) (fun W W' cs h x => ?_) (hDl _) (fun g lo hi W k1 k2 hlo hR hb'=>parHF L B lB hL V g lo hi W k1 k2 hlo hR hb')).mono fun e w' ⟨h1,h2⟩=>⟨h1,?_⟩
   · obtain ⟨N,v0,v1,v2,hN,h2⟩:=h
     exact ⟨N,v0,v1,v2,hN,h2.rest x (fun y hy=>by simp at hy;omega)⟩
   · rw [show V.heap.size+2=w.heap.size+3 by omega] at h2
     refine h2.cond ?_
     have hp:=pr_all (rp L B ⟨0,0⟩ 3).1
     unfold getP13 getQ13
     rw [←hp]
     show (((true && (!rpB L B ⟨0,0⟩ 0 && prA _ 0)) && (!rpB L B ⟨0,0⟩ 1 && prA _ 1)) && (!rpB L B ⟨0,0⟩ 2 && prA _ 2))=true∧_↔(((true && prA _ 0) && prA _ 1) && prA _ 2)=true∧_
     simp only [rpB,show decide ((0:Nat)=2)=false from rfl,show decide ((1:Nat)=2)=false from rfl,decide_true,Bool.false_and,Bool.not_false,Bool.true_and,Bool.not_not,Bool.and_eq_true,decide_eq_true_eq]
     constructor
     · rintro ⟨⟨⟨a,b⟩,c,d⟩,e⟩;exact ⟨⟨⟨a,b⟩,d⟩,c,e⟩
     · rintro ⟨⟨⟨a,b⟩,d⟩,c,e⟩;exact ⟨⟨⟨a,b⟩,c,d⟩,e⟩
def getK13 (L:Nat) (B:Nat→Nat):PkD:=kpk L B ⟨0,0⟩
def getS13 (L:Nat) (B:Nat→Nat):Prop:=kz1 L B ⟨0,0⟩=1∧kz2 L B ⟨0,0⟩=1∧endD L (kr10 L B ⟨0,0⟩)=0
theorem getPackage_any (v:Value) (L:Nat) (B:Nat→Nat) (lB:∀ j,B j<256) (hL:L<140737488355000) (w:World) (hv:BytesIn w v L B):Calls Try.prog 28 #[v] w fun e w'=>Below w.heap.size w w'∧GetA (pkR (getK13 L B)∧getS13 L B) (fun W cs=>PkIn W cs (getK13 L B)) zeroK e w':=by
 have hDl:∀ b W cs,DPk b (kpk L B ⟨0,0⟩) W cs→cs.length=8∧cs.toArray.all (·.oneCell')=true:=fun b W cs h=>by
  obtain ⟨N,v0,u0,u1,u2,u4,u5,v7,_,h2⟩:=h
  refine ⟨h2.len,one_arr ?_⟩
  rw [h2.eq]
  obtain ⟨_,_,e0⟩:=h2.o0.slice
  obtain ⟨_,_,e7⟩:=h2.o7.slice
  have ho:=h2.lf.one
  intro u hu
  simp only [List.mem_cons,List.not_mem_nil,or_false] at hu ho
  rcases hu with rfl | hu | hu | hu | hu | hu | hu | rfl
  · rw [e0];rfl
  · exact ho u (by simp [hu])
  · exact ho u (by simp [hu])
  · exact ho u (by simp [hu])
  · exact ho u (by simp [hu])
  · exact ho u (by simp [hu])
  · exact ho u (by simp [hu])
  · rw [e7];rfl
 refine cGetPackage v _ (DPk (w.heap.size+3) (kpk L B ⟨0,0⟩)) _ w (hDl _) (fun W W' cs h x => ?_) (fun V hb hs => ?_)
 · obtain ⟨N,v0,u0,u1,u2,u4,u5,v7,hN,h2⟩:=h
   exact (h2.rest x (fun y hy=>by simp at hy;omega)).pkin
 · refine (getK_any v L B hL (kA L B ⟨0,0⟩) (fun _=>false) 10 (by decide) (by decide) (kr10 L B ⟨0,0⟩) (DPk (V.heap.size+2) (kpk L B ⟨0,0⟩)) V (hv.keep hb) (fun W W' cs h x => ?_) (hDl _) (fun g lo hi W k1 k2 hlo hR hb'=>pkgHF L B lB hL V g lo hi W k1 k2 hlo hR hb')).mono fun e w' ⟨h1,h2⟩=>⟨h1,?_⟩
   · obtain ⟨N,v0,u0,u1,u2,u4,u5,v7,hN,h2⟩:=h
     exact ⟨N,v0,u0,u1,u2,u4,u5,v7,hN,h2.rest x (fun y hy=>by simp at hy;omega)⟩
   · rw [all_false] at h2
     rw [show V.heap.size+2=w.heap.size+3 by omega] at h2
     refine h2.cond ?_
     have hp:=pk_all (kpk L B ⟨0,0⟩)
     unfold getK13 getS13
     rw [←hp]
     show ((((((((((true && (decide (1≤kz1 L B ⟨0,0⟩) && decide (kz1 L B ⟨0,0⟩≤1))) && (decide (1≤kz2 L B ⟨0,0⟩) && decide (kz2 L B ⟨0,0⟩≤1))) && pkA _ 2) && pkA _ 3) && pkA _ 4) && pkA _ 5) && pkA _ 6) && pkA _ 7) && pkA _ 8) && pkA _ 9)=true∧_↔((((((((((true && (decide ((1:Int)≤1) && decide ((1:Int)≤1))) && (decide ((1:Int)≤1) && decide ((1:Int)≤1))) && pkA _ 2) && pkA _ 3) && pkA _ 4) && pkA _ 5) && pkA _ 6) && pkA _ 7) && pkA _ 8) && pkA _ 9)=true∧_
     generalize kz1 L B ⟨0,0⟩=z1
     generalize kz2 L B ⟨0,0⟩=z2
     simp only [Bool.and_eq_true,decide_eq_true_eq,Bool.true_and]
     constructor
     · rintro ⟨⟨⟨⟨⟨⟨⟨⟨⟨⟨a,b⟩,c⟩,d⟩,e⟩,f⟩,g⟩,h⟩,i⟩,j⟩,k⟩
       exact ⟨⟨⟨⟨⟨⟨⟨⟨⟨⟨by omega,by omega⟩,c⟩,d⟩,e⟩,f⟩,g⟩,h⟩,i⟩,j⟩,by omega,by omega,k⟩
     · rintro ⟨⟨⟨⟨⟨⟨⟨⟨⟨⟨a,b⟩,c⟩,d⟩,e⟩,f⟩,g⟩,h⟩,i⟩,j⟩,k1,k2,k⟩
       exact ⟨⟨⟨⟨⟨⟨⟨⟨⟨⟨by omega,by omega⟩,c⟩,d⟩,e⟩,f⟩,g⟩,h⟩,i⟩,j⟩,k⟩
end Go.Proofs.Ytgdcmibdjiaofaa
namespace Go.Proofs.Ytgdcmibdjiaofaa
open Go.RowKit
theorem wpList_load_on {P:Program} {ops:Array Oper} {rest:List Oper} {op:Oper} {a:Act} {w:World} {Q:Exit→Act→World→Prop} (hw:Region.wanted op (yielded ops a.tmps)=true) (ty:TypeId) (x:Operand) (ho:op.op = .load ty x) (b o:Nat) (hx:a.eval x = .pointer (some ⟨b,o,none⟩)) (cs:List Value) (d:TypeDesc) (hc:w.rangeAt b o cs) (hu:P.underlying ty=some d) (hd:d.isRow=true) (hi:(P.info? ty).map (·.size)=some cs.length) (h:wpList P ops Q rest (a.put op.dst (.agg cs.toArray)) w):wpList P ops Q (op :: rest) a w:=by
 unfold wpList
 rw [if_pos hw]
 exact .inl (wp_load_mid ty x ho b o hx cs d hc hu hd hi h)
end Go.Proofs.Ytgdcmibdjiaofaa
namespace Go.Proofs.Ytgdcmibdjiaofaa
open Go.RowKit
theorem RdB.rest {X:List Nat} {lo hi:Nat} {w w':World} {g L:Nat} {B:Nat→Nat} {r:Rd} (h:RdB lo hi w g L B r) (hb:Rest X w w') (hX:∀ x,x∈X→x<lo∨hi≤x):RdB lo hi w' g L B r :=
 h.same ⟨hb.size,fun k h1 h2=>hb.block k (Nat.lt_of_lt_of_le h2 h.size) (fun e=>by have:=hX k e;omega)⟩
theorem RdB.keep {lo hi:Nat} {w w':World} {g L:Nat} {B:Nat→Nat} {r:Rd} (h:RdB lo hi w g L B r) (hb:Below w.heap.size w w'):RdB lo hi w' g L B r:=h.rest (Rest.of_below (X:=[]) hb) (fun _ hx=>by cases hx)
theorem Rest.cut {X:List Nat} {p:Nat} {w W W':World} (h:Rest X w W) (k:Rest (p :: X) W W') (hp:w.heap.size≤p):Rest X w W' :=
 ⟨k.os.trans h.os,k.tape.trans h.tape,k.output.trans h.output,Nat.le_trans h.size k.size,fun i hi hb=>(k.block i (Nat.lt_of_lt_of_le hi h.size) (fun e=>by rcases List.mem_cons.1 e with e | e;omega;exact hb e)).trans (h.block i hi hb)⟩
theorem Own.rest {X:List Nat} {base:Nat} {w w':World} {v:Value} {n:Nat} {b:Nat→Nat} (h:Own base w v n b) (hb:Rest X w w') (hX:∀ x,x∈X→x<base):Own base w' v n b:=own_rest h hb hX
theorem ldLg {ops:Array Oper} {rest:List Oper} {op:Oper} {a:Act} {w:World} {Q:Exit→Act→World→Prop} (x:Operand) (ho:op.op = .load 24 x) {g o:Nat} {A B C D E F:Value} (hx:a.eval x = .pointer (some ⟨g,o,none⟩)) (hc:w.rangeAt g o [A,B,C,D,E,F])
 (h:wpList Try.prog ops Q rest (a.put op.dst (.agg #[A,B,C,D,E,F])) w) (hw:Region.wanted op (yielded ops a.tmps)=true):wpList Try.prog ops Q (op :: rest) a w :=
 wpList_load_on hw 24 x ho g o hx [A,B,C,D,E,F] _ hc Try.underlying24 rfl infoRL h
end Go.Proofs.Ytgdcmibdjiaofaa
namespace Go.Proofs.Ytgdcmibdjiaofaa
open Go.RowKit
theorem ts {P:Program} {md:Region.Mode} {ops:Array Oper} {Q:Exit→Act→World→Prop} {S:World→Prop} {fuel:Nat} {listed:Array Bool} {a:Act} {w:World} (i:Nat) (hS:S w) {oi:Oper} (h:wpAnyH P md ops Q S fuel (listed.setIfInBounds i true) (a.put oi.dst undef) w) (hi:ops.toList[i]? = some oi:=by rfl) (hw:Region.wanted oi (yielded ops a.tmps)=false:=by rfl)
 (hQ:∀ c b w,Q (.panic c) (b.put oi.dst undef) w→Q (.panic c) b w:=by exact fun _ _ _ h=>h) (hs:Region.noSelect ops=true:=by kernel_rfl) (hf:Region.free md ops listed i=true:=by kernel_rfl) (hr:(Region.ready md ops listed).contains i=true:=by kernel_rfl):wpAnyH P md ops Q S (fuel+1) listed a w :=
 tkH i oi undef hS (.inr ⟨hw,rfl⟩) h hQ (at_list hi) hs hf hr
end Go.Proofs.Ytgdcmibdjiaofaa
namespace Go.Proofs.Ytgdcmibdjiaofaa
open Go.RowKit
theorem infoRP:(Try.prog.info? 44).map (·.size)=some 3:=by kernel_rfl
section
variable {ops:Array Oper} {rest:List Oper} {op:Oper} {a:Act} {w:World} {Q:Exit→Act→World→Prop}
theorem ldP (x:Operand) (ho:op.op = .load 44 x) {g o:Nat} {A B C:Value} (hx:a.eval x = .pointer (some ⟨g,o,none⟩)) (hc:w.rangeAt g o [A,B,C])
 (h:wpList Try.prog ops Q rest (a.put op.dst (.agg #[A,B,C])) w) (hgd:op.guard=none):wpList Try.prog ops Q (op :: rest) a w :=
 wpList_load_mid hgd 44 x ho g o hx [A,B,C] _ hc Try.underlying44 rfl infoRP h
theorem ldPg (x:Operand) (ho:op.op = .load 44 x) {g o:Nat} {A B C:Value} (hx:a.eval x = .pointer (some ⟨g,o,none⟩)) (hc:w.rangeAt g o [A,B,C])
 (h:wpList Try.prog ops Q rest (a.put op.dst (.agg #[A,B,C])) w) (hw:Region.wanted op (yielded ops a.tmps)=true):wpList Try.prog ops Q (op :: rest) a w :=
 wpList_load_on hw 44 x ho g o hx [A,B,C] _ hc Try.underlying44 rfl infoRP h
end
def prK (d:PrD):Prop:=(∀ j,d.enc.b j<256)∧∀ j,d.hash.b j<256
end Go.Proofs.Ytgdcmibdjiaofaa
namespace Go.Proofs.Ytgdcmibdjiaofaa
open Go.RowKit
theorem OwnZ.rest {X:List Nat} {base:Nat} {w w':World} {v:Value} {l:List Int} (h:OwnZ base w v l) (hb:Rest X w w') (hX:∀ x,x∈X→x<base):OwnZ base w' v l:=own_rest h hb hX
theorem RdB.cells {lo hi:Nat} {w:World} {g L:Nat} {B:Nat→Nat} {r:Rd} (h:RdB lo hi w g L B r):w.cell? ⟨g,1,none⟩=some (.int .i64 (r.at_:Int))∧w.cell? ⟨g,2,none⟩=some (.int .i64 r.e):=by
 obtain ⟨v,rr,-⟩:=h
 exact ⟨rr.cell (o:=1) rfl,rr.cell (o:=2) rfl⟩
theorem exec_appZ {o:Oper} {a:Act} {w w':World} {v':Value} (s x:Operand) (ho:o.op = .call { callee := .builtin .append,args:=#[s,x],argTypes:=#[42,42] }) (hty:o.type=42) {sv xv:Value} (hs:a.eval s=sv) (hx:a.eval x=xv) (hrun:(Builtin.append_ #[42,42] 42 #[sv,xv]).run Try.prog w = .ok v' w'):(execOp a.eval o).run Try.prog w = .ok (.value v') w':=by
 simp [execOp,ho,hty,resolve,invoke,builtin,hs,hx,hrun,Result.andThen]
structure RB (B:Nat) (X:List Nat) (w w':World):Prop where
 os:w'.os=w.os
 tape:w'.tape=w.tape
 output:w'.output=w.output
 size:w.heap.size≤w'.heap.size
 block:∀ k,k<B→k ∉ X→w'.heap[k]? = w.heap[k]?
theorem RB.refl (B:Nat) (X:List Nat) (w:World):RB B X w w:=⟨rfl,rfl,rfl,Nat.le_refl _,fun _ _ _=>rfl⟩
theorem RB.trans {B:Nat} {X:List Nat} {u v w:World} (h:RB B X u v) (k:RB B X v w):RB B X u w :=
 ⟨k.os.trans h.os,k.tape.trans h.tape,k.output.trans h.output,Nat.le_trans h.size k.size,fun i hi hb=>(k.block i hi hb).trans (h.block i hi hb)⟩
theorem RB.of_below {B C:Nat} {X:List Nat} {w w':World} (h:Below C w w') (hB:B≤C):RB B X w w':=⟨h.os,h.tape,h.output,h.size,fun k hk _=>h.block k (by omega)⟩
theorem RB.of_out {B b o n:Nat} {X:List Nat} {w w':World} (h:Out b o n w w') (hb:b∈X) (hB:B≤w.heap.size):RB B X w w':=⟨h.os,h.tape,h.output,h.size,fun k hk hn=>h.block k (by omega) (fun e=>hn (e ▸ hb))⟩
theorem RB.of_rest {B:Nat} {X:List Nat} {w w':World} (h:Rest X w w') (hB:B≤w.heap.size):RB B X w w':=⟨h.os,h.tape,h.output,h.size,fun k hk hn=>h.block k (by omega) hn⟩
theorem RB.mono {B:Nat} {X Y:List Nat} {w w':World} (h:RB B X w w') (hs:∀ x,x∈X→x∈Y):RB B Y w w':=⟨h.os,h.tape,h.output,h.size,fun k hk hn=>h.block k hk (fun e=>hn (hs k e))⟩
theorem RB.cell {B:Nat} {X:List Nat} {w w':World} (h:RB B X w w') {c q:Nat} (hc:c<B) (hn:c ∉ X):w'.cell? ⟨c,q,none⟩=w.cell? ⟨c,q,none⟩:=World.cell?_of_block (w:=w) (h.block c hc hn)
theorem RB.frozen {B:Nat} {X:List Nat} {w w':World} (h:RB B X w w') {c q:Nat} (hc:c<B) (hn:c ∉ X):w'.frozen? ⟨c,q,none⟩=w.frozen? ⟨c,q,none⟩:=World.frozen?_of_block (w:=w) (h.block c hc hn)
end Go.Proofs.Ytgdcmibdjiaofaa
namespace Go.Proofs.Ytgdcmibdjiaofaa
open Go.RowKit
theorem infoRK:(Try.prog.info? 56).map (·.size)=some 8:=by kernel_rfl
section
variable {ops:Array Oper} {rest:List Oper} {op:Oper} {a:Act} {w:World} {Q:Exit→Act→World→Prop}
theorem ldK (x:Operand) (ho:op.op = .load 56 x) {g o:Nat} {A B C D E F G H:Value} (hx:a.eval x = .pointer (some ⟨g,o,none⟩)) (hc:w.rangeAt g o [A,B,C,D,E,F,G,H])
 (h:wpList Try.prog ops Q rest (a.put op.dst (.agg #[A,B,C,D,E,F,G,H])) w) (hgd:op.guard=none):wpList Try.prog ops Q (op :: rest) a w :=
 wpList_load_mid hgd 56 x ho g o hx [A,B,C,D,E,F,G,H] _ hc Try.underlying56 rfl infoRK h
theorem ldKg (x:Operand) (ho:op.op = .load 56 x) {g o:Nat} {A B C D E F G H:Value} (hx:a.eval x = .pointer (some ⟨g,o,none⟩)) (hc:w.rangeAt g o [A,B,C,D,E,F,G,H])
 (h:wpList Try.prog ops Q rest (a.put op.dst (.agg #[A,B,C,D,E,F,G,H])) w) (hw:Region.wanted op (yielded ops a.tmps)=true):wpList Try.prog ops Q (op :: rest) a w :=
 wpList_load_on hw 56 x ho g o hx [A,B,C,D,E,F,G,H] _ hc Try.underlying56 rfl infoRK h
end
theorem row_mid {w:World} {g:Nat} {A B C D E F G H:Value} (r:RW w g 0 [A,B,C,D,E,F,G,H]):RW w g 1 [B,C,D,E,F,G]:=((show RW w g 0 ([A] ++ ([B,C,D,E,F,G] ++ [H])) from r).right).left
def pkK (d:PkD):Prop:=(∀ j,d.init.b j<256)∧lfK d.leaf∧∀ j,d.sg.b j<256
theorem PkIn.form {w:World} {cs:List Value} {d:PkD} (h:PkIn w cs d):∃ x0 c0 u0 u1 u2 u4 u5 x7 c7,cs=[.slice x0 d.init.n c0,u0,u1,u2,.int .i64 d.leaf.src,u4,u5,.slice x7 d.sg.n c7]∧BytesIn w (.slice x0 d.init.n c0) d.init.n d.init.b∧LfIn w [u0,u1,u2,.int .i64 d.leaf.src,u4,u5] d.leaf∧BytesIn w (.slice x7 d.sg.n c7) d.sg.n d.sg.b:=by
 obtain ⟨v0,l,v7,rfl,h0,hl,h7⟩:=h
 obtain ⟨x0,c0,rfl,-⟩:=h0.src
 obtain ⟨x7,c7,rfl,-⟩:=h7.src
 have hl':=hl
 obtain ⟨u0,u1,u2,u4,u5,rfl,-⟩:=hl
 exact ⟨x0,c0,u0,u1,u2,u4,u5,x7,c7,rfl,h0,hl',h7⟩
set_option maxRecDepth 20000 in
set_option maxHeartbeats 1000000 in
theorem rRK_a (x0 x7:Option Addr) (n0 n7 c0 c7:Nat) (u0 u1 u2 u4 u5:Value) (s:Int) (_h0:¬(n0:Int)=32) (w:World):Calls Try.prog 51 #[.agg #[.slice x0 n0 c0,u0,u1,u2,.int .i64 s,u4,u5,.slice x7 n7 c7]] w fun e w'=>e = .returned (.bool false)∧Below w.heap.size w w':=by
 have k1:=RW.fresh w [.slice x0 n0 c0,u0,u1,u2,.int .i64 s,u4,u5,.slice x7 n7 c7] 56
 have bV:Below w.heap.size w (w.alloc (.cells #[.slice x0 n0 c0,u0,u1,u2,.int .i64 s,u4,u5,.slice x7 n7 c7] 56)):=(Below.refl _ _).alloc (Nat.le_refl _) _
 obtain ⟨W,hW⟩:∃ W,W=w.alloc (.cells #[.slice x0 n0 c0,u0,u1,u2,.int .i64 s,u4,u5,.slice x7 n7 c7] 56):=⟨_,rfl⟩
 rw [show w.alloc (.cells ([.slice x0 n0 c0,u0,u1,u2,.int .i64 s,u4,u5,.slice x7 n7 c7]).toArray 56)=W from hW.symm] at k1
 rw [←hW] at bV
 have HW:=Hid.mk' hW
 have K1:=Hid.mk' k1
 have q0:=k1.cell (o:=0) rfl
 have rr:=(row_mid k1).range
 clear hW k1
 go_enter Try.func51,Try.ntmps51
 go_upto_region 1 with (fail)
 rw [←HW.out]
 clear rr
 go_wp2
 go_ret
 exact ⟨by first | rfl | (show Ending.returned (.bool ((n0:Int) == 32))=_;rw [show ((n0:Int) == 32)=false from by simpa using _h0]),bV⟩
set_option maxRecDepth 20000 in
set_option maxHeartbeats 1000000 in
theorem rRK_b (x0 x7:Option Addr) (n0 n7 c0 c7:Nat) (u0 u1 u2 u4 u5:Value) (s:Int) (_h0:(n0:Int)=32) (w:World) (_cr:∀ W,Below w.heap.size w W→Calls Try.prog 38 #[.agg #[u0,u1,u2,.int .i64 s,u4,u5]] W fun e w'=>e = .returned (.bool false)∧Below W.heap.size W w'):Calls Try.prog 51 #[.agg #[.slice x0 n0 c0,u0,u1,u2,.int .i64 s,u4,u5,.slice x7 n7 c7]] w fun e w'=>e = .returned (.bool false)∧Below w.heap.size w w':=by
 have k1:=RW.fresh w [.slice x0 n0 c0,u0,u1,u2,.int .i64 s,u4,u5,.slice x7 n7 c7] 56
 have bV:Below w.heap.size w (w.alloc (.cells #[.slice x0 n0 c0,u0,u1,u2,.int .i64 s,u4,u5,.slice x7 n7 c7] 56)):=(Below.refl _ _).alloc (Nat.le_refl _) _
 obtain ⟨W,hW⟩:∃ W,W=w.alloc (.cells #[.slice x0 n0 c0,u0,u1,u2,.int .i64 s,u4,u5,.slice x7 n7 c7] 56):=⟨_,rfl⟩
 rw [show w.alloc (.cells ([.slice x0 n0 c0,u0,u1,u2,.int .i64 s,u4,u5,.slice x7 n7 c7]).toArray 56)=W from hW.symm] at k1
 rw [←hW] at bV
 have HW:=Hid.mk' hW
 have K1:=Hid.mk' k1
 have q0:=k1.cell (o:=0) rfl
 have rr:=(row_mid k1).range
 have cr:=_cr W bV
 clear hW k1 _cr
 go_enter Try.func51,Try.ntmps51
 go_upto_region 1 with (fail)
 rw [←HW.out]
 go_wp2_with (first
  | (with_reducible (refine id (?_:wpList _ _ _ _ _ _));refine ldLg _ rfl rfl rr ?_ rfl)
  | (go_at_call 38;refine cr.mono ?_;clear cr;rintro e w2 ⟨rfl,b2⟩;(have q4:=(K1.out.still b2).cell (o:=4) rfl);(have q7:=(K1.out.still b2).cell (o:=7) rfl)))
 go_ret
 exact ⟨rfl,below_next bV b2⟩
set_option maxRecDepth 20000 in
set_option maxHeartbeats 1000000 in
theorem rRK_c (x0 x7:Option Addr) (n0 n7 c0 c7:Nat) (u0 u1 u2 u4 u5:Value) (s:Int) (_h0:(n0:Int)=32) (_h1:¬s=1) (w:World) (_cr:∀ W,Below w.heap.size w W→Calls Try.prog 38 #[.agg #[u0,u1,u2,.int .i64 s,u4,u5]] W fun e w'=>e = .returned (.bool true)∧Below W.heap.size W w'):Calls Try.prog 51 #[.agg #[.slice x0 n0 c0,u0,u1,u2,.int .i64 s,u4,u5,.slice x7 n7 c7]] w fun e w'=>e = .returned (.bool false)∧Below w.heap.size w w':=by
 have k1:=RW.fresh w [.slice x0 n0 c0,u0,u1,u2,.int .i64 s,u4,u5,.slice x7 n7 c7] 56
 have bV:Below w.heap.size w (w.alloc (.cells #[.slice x0 n0 c0,u0,u1,u2,.int .i64 s,u4,u5,.slice x7 n7 c7] 56)):=(Below.refl _ _).alloc (Nat.le_refl _) _
 obtain ⟨W,hW⟩:∃ W,W=w.alloc (.cells #[.slice x0 n0 c0,u0,u1,u2,.int .i64 s,u4,u5,.slice x7 n7 c7] 56):=⟨_,rfl⟩
 rw [show w.alloc (.cells ([.slice x0 n0 c0,u0,u1,u2,.int .i64 s,u4,u5,.slice x7 n7 c7]).toArray 56)=W from hW.symm] at k1
 rw [←hW] at bV
 have HW:=Hid.mk' hW
 have K1:=Hid.mk' k1
 have q0:=k1.cell (o:=0) rfl
 have rr:=(row_mid k1).range
 have cr:=_cr W bV
 clear hW k1 _cr
 go_enter Try.func51,Try.ntmps51
 go_upto_region 1 with (fail)
 rw [←HW.out]
 go_wp2_with (first
  | (with_reducible (refine id (?_:wpList _ _ _ _ _ _));refine ldLg _ rfl rfl rr ?_ rfl)
  | (go_at_call 38;refine cr.mono ?_;clear cr;rintro e w2 ⟨rfl,b2⟩;(have q4:=(K1.out.still b2).cell (o:=4) rfl);(have q7:=(K1.out.still b2).cell (o:=7) rfl)))
 go_ret
 exact ⟨by first | rfl | (show Ending.returned (.bool (s == 1))=_;rw [show (s == 1)=false from by simpa using _h1]),below_next bV b2⟩
set_option maxRecDepth 20000 in
set_option maxHeartbeats 1000000 in
theorem rRK_d (x0 x7:Option Addr) (n0 n7 c0 c7:Nat) (u0 u1 u2 u4 u5:Value) (_h0:(n0:Int)=32) (w:World) (_cr:∀ W,Below w.heap.size w W→Calls Try.prog 38 #[.agg #[u0,u1,u2,.int .i64 1,u4,u5]] W fun e w'=>e = .returned (.bool true)∧Below W.heap.size W w'):Calls Try.prog 51 #[.agg #[.slice x0 n0 c0,u0,u1,u2,.int .i64 1,u4,u5,.slice x7 n7 c7]] w fun e w'=>e = .returned (.bool ((n7:Int) == 64))∧Below w.heap.size w w':=by
 have k1:=RW.fresh w [.slice x0 n0 c0,u0,u1,u2,.int .i64 1,u4,u5,.slice x7 n7 c7] 56
 have bV:Below w.heap.size w (w.alloc (.cells #[.slice x0 n0 c0,u0,u1,u2,.int .i64 1,u4,u5,.slice x7 n7 c7] 56)):=(Below.refl _ _).alloc (Nat.le_refl _) _
 obtain ⟨W,hW⟩:∃ W,W=w.alloc (.cells #[.slice x0 n0 c0,u0,u1,u2,.int .i64 1,u4,u5,.slice x7 n7 c7] 56):=⟨_,rfl⟩
 rw [show w.alloc (.cells ([.slice x0 n0 c0,u0,u1,u2,.int .i64 1,u4,u5,.slice x7 n7 c7]).toArray 56)=W from hW.symm] at k1
 rw [←hW] at bV
 have HW:=Hid.mk' hW
 have K1:=Hid.mk' k1
 have q0:=k1.cell (o:=0) rfl
 have rr:=(row_mid k1).range
 have cr:=_cr W bV
 clear hW k1 _cr
 go_enter Try.func51,Try.ntmps51
 go_upto_region 1 with (fail)
 rw [←HW.out]
 go_wp2_with (first
  | (with_reducible (refine id (?_:wpList _ _ _ _ _ _));refine ldLg _ rfl rfl rr ?_ rfl)
  | (go_at_call 38;refine cr.mono ?_;clear cr;rintro e w2 ⟨rfl,b2⟩;(have q4:=(K1.out.still b2).cell (o:=4) rfl);(have q7:=(K1.out.still b2).cell (o:=7) rfl)))
 go_ret
 exact ⟨rfl,below_next bV b2⟩
theorem rRightPackage_any (cs:List Value) (d:PkD) (w:World) (hd:PkIn w cs d):Calls Try.prog 51 #[.agg cs.toArray] w fun e w'=>e = .returned (.bool (allU (pkA d) 10))∧Below w.heap.size w w':=by
 obtain ⟨x0,c0,u0,u1,u2,u4,u5,x7,c7,rfl,-,hl,-⟩:=hd.form
 have cr:=fun W hb=>rRightLeaf_any _ d.leaf W (hl.keep (w':=W) hb)
 have hF:¬pkR d→allU (pkA d) 10=false:=fun h=>Bool.eq_false_iff.2 (fun e=>h ((pk_all d).1 e))
 have h13:lfR d.leaf 1↔lfR d.leaf 3∧d.leaf.src=1:=by
  unfold lfR
  constructor
  · rintro ⟨a,b,c,e,f,g⟩;exact ⟨⟨a,b,c,by omega,f,g⟩,by omega⟩
  · rintro ⟨⟨a,b,c,e,f,g⟩,h⟩;exact ⟨a,b,c,by omega,f,g⟩
 by_cases g0:(d.init.n:Int)=32
 rotate_left
 · rw [hF (fun h=>by have:=h.1;omega)]
   exact rRK_a x0 x7 _ _ c0 c7 u0 u1 u2 u4 u5 _ g0 w
 by_cases g1:lfR d.leaf 3
 rotate_left
 · rw [hF (fun h=>g1 (h13.1 h.2.1).1)]
   rw [Bool.eq_false_iff.2 (fun e=>g1 ((lf_all d.leaf 3).1 e))] at cr
   exact rRK_b x0 x7 _ _ c0 c7 u0 u1 u2 u4 u5 _ g0 w cr
 rw [(lf_all d.leaf 3).2 g1] at cr
 by_cases g2:d.leaf.src=1
 rotate_left
 · rw [hF (fun h=>g2 (h13.1 h.2.1).2)]
   exact rRK_c x0 x7 _ _ c0 c7 u0 u1 u2 u4 u5 _ g0 g2 w cr
 have e:allU (pkA d) 10=((d.sg.n:Int) == 64):=by
  rw [Bool.eq_iff_iff,pk_all]
  unfold pkR
  rw [h13]
  simp only [beq_iff_eq]
  constructor
  · intro h;have:=h.2.2;omega
  · intro h;exact ⟨by omega,⟨g1,g2⟩,by omega⟩
 rw [e]
 rw [g2] at cr ⊢
 exact rRK_d x0 x7 _ _ c0 c7 u0 u1 u2 u4 u5 g0 w cr
end Go.Proofs.Ytgdcmibdjiaofaa
namespace Go.Proofs.Ytgdcmibdjiaofaa
open Go.RowKit
theorem sumN_congr {pn qn:Nat→Nat}:∀ {k},(∀ i,i<k→pn i=qn i)→sumN pn k=sumN qn k
 | 0,_=>rfl
 | k+1,h=>by show sumN pn k+pn k=sumN qn k+qn k;rw [sumN_congr (k:=k) fun i hi=>h i (by omega),h k (by omega)]
theorem allB_congr {pn qn:Nat→Nat} {pb qb:Nat→Nat→Nat}:∀ {k},(∀ i,i<k→pn i=qn i∧pb i=qb i)→allB pn pb k=allB qn qb k
 | 0,_=>rfl
 | k+1,h=>by show cat (sumN pn k) (allB pn pb k) (pb k)=cat (sumN qn k) (allB qn qb k) (qb k);rw [sumN_congr (k:=k) fun i hi=>(h i (by omega)).1,allB_congr (k:=k) fun i hi=>h i (by omega),(h k (by omega)).2]
theorem sumN_shift (pn:Nat→Nat) (a:Nat):∀ k,sumN pn (a+k)=sumN pn a+sumN (fun i=>pn (a+i)) k
 | 0=>rfl
 | k+1=>by show sumN pn (a+k)+pn (a+k)=sumN pn a+(sumN _ k+pn (a+k));rw [sumN_shift pn a k];omega
theorem cat_assoc (n m:Nat) (a b c:Nat→Nat):cat (n+m) (cat n a b) c=cat n a (cat m b c):=by
 funext j
 by_cases h1:j<n
 · simp [cat,h1,show j<n+m by omega]
 · by_cases h2:j<n+m
   · simp [cat,h1,h2,show j - n<m by omega]
   · simp [cat,h1,h2,show ¬(j - n<m) by omega,Nat.sub_sub]
theorem allB_shift (pn:Nat→Nat) (pb:Nat→Nat→Nat) (a:Nat):∀ k j,j<sumN pn (a+k)→allB pn pb (a+k) j=cat (sumN pn a) (allB pn pb a) (allB (fun i=>pn (a+i)) (fun i=>pb (a+i)) k) j
 | 0,j,hj=>(cat_left hj).symm
 | k+1,j,hj=>by
  have hs:sumN pn (a+(k+1))=sumN pn (a+k)+pn (a+k):=rfl
  show cat (sumN pn (a+k)) (allB pn pb (a+k)) (pb (a+k)) j=cat (sumN pn a) (allB pn pb a) (cat (sumN (fun i=>pn (a+i)) k) (allB (fun i=>pn (a+i)) (fun i=>pb (a+i)) k) (pb (a+k))) j
  rw [←cat_assoc,sumN_shift pn a k]
  by_cases h:j<sumN pn (a+k)
  · rw [sumN_shift] at h
    rw [cat_left h,cat_left h]
    exact allB_shift pn pb a k j (by rw [sumN_shift];exact h)
  · rw [sumN_shift] at h
    unfold cat
    rw [if_neg h,if_neg h]
theorem pk_leaf (d:PkD):∀ i,i<6→(fun i=>pkN d (3+i)) i=lfN d.leaf i∧(fun i=>pkB d (3+i)) i=lfB d.leaf i
 | 0,_=>⟨rfl,rfl⟩
 | 1,_=>⟨rfl,rfl⟩
 | 2,_=>⟨rfl,rfl⟩
 | 3,_=>⟨rfl,rfl⟩
 | 4,_=>⟨rfl,rfl⟩
 | 5,_=>⟨rfl,rfl⟩
 | n+6,h=>by omega
theorem pk_sum9 (d:PkD):sumN (pkN d) 9=sumN (pkN d) 3+lfLen d.leaf:=by
 rw [show (9:Nat)=3+6 from rfl,sumN_shift]
 exact congrArg _ (sumN_congr fun i hi=>(pk_leaf d i hi).1)
theorem pk_all9 (d:PkD):∀ j,j<sumN (pkN d) 3+lfLen d.leaf→cat (sumN (pkN d) 3) (allB (pkN d) (pkB d) 3) (lfByt d.leaf) j=allB (pkN d) (pkB d) 9 j:=by
 intro j hj
 rw [←pk_sum9] at hj
 rw [show (9:Nat)=3+6 from rfl,allB_shift _ _ _ _ _ hj,allB_congr (fun i hi=>pk_leaf d i hi)]
 rfl
def hd4 (j:Nat):Nat:=if j%2=0 then 0 else 1
theorem hd4_own (base:Nat) (w:World) (hb:base≤w.heap.size):Own base (w.alloc (.cells #[.int .u8 0,.int .u8 1,.int .u8 0,.int .u8 1] 5)) (.slice (some ⟨w.heap.size,0,none⟩) 4 4) 4 hd4:=World.ownsRow_lit w #[.int .u8 0,.int .u8 1,.int .u8 0,.int .u8 1] 4 hb (by decide) rfl
theorem hd4_all (d:PkD):∀ j,j<4→hd4 j=allB (pkN d) (pkB d) 2 j
 | 0,_=>by show hd4 0=beN 1 2 0;decide
 | 1,_=>by show hd4 1=beN 1 2 1;decide
 | 2,_=>by show hd4 2=beN 1 2 0;decide
 | 3,_=>by show hd4 3=beN 1 2 1;decide
 | n+4,h=>by omega
theorem pk_s3 (d:PkD) (h:d.init.n=32):sumN (pkN d) 3=37:=by show 0+2+2+vcL d.init.n=37;rw [h];rfl
theorem lf_len (d:LfD) (hR:lfR d 3):lfLen d≤2000:=by
 have h5:=sum5_le d hR
 have q0:=lnS_pos d.sg.n
 have:=hR.2.2.2.2.2
 show sumN (lfN d) 5+vcL d.sg.n≤_
 unfold vcL
 omega
theorem lf13 {d:LfD} (h:lfR d 1):lfR d 3:=⟨h.1,h.2.1,h.2.2.1,by have:=h.2.2.2.1;omega,h.2.2.2.2.1,h.2.2.2.2.2⟩
set_option maxRecDepth 20000 in
set_option maxHeartbeats 1000000 in
theorem rOffer_any (cs:List Value) (d:PkD) (hR:pkR d) (hk:pkK d) (w:World) (hd:PkIn w cs d):Calls Try.prog 63 #[.agg cs.toArray] w fun e w'=>∃ s,e = .returned s∧Own w.heap.size w' s (sumN (pkN d) 9) (allB (pkN d) (pkB d) 9)∧Below w.heap.size w w':=by
 obtain ⟨x0,c0,u0,u1,u2,u4,u5,x7,c7,rfl,h0,hl,-⟩:=hd.form
 clear hd
 obtain ⟨s,hs⟩:∃ s,s=d.leaf.src:=⟨_,rfl⟩
 rw [←hs] at hl ⊢
 clear hs
 have k1:=RW.fresh w [.slice x0 d.init.n c0,u0,u1,u2,.int .i64 s,u4,u5,.slice x7 d.sg.n c7] 56
 have bV:Below w.heap.size w (w.alloc (.cells #[.slice x0 d.init.n c0,u0,u1,u2,.int .i64 s,u4,u5,.slice x7 d.sg.n c7] 56)):=(Below.refl _ _).alloc (Nat.le_refl _) _
 obtain ⟨W,hW⟩:∃ W,W=w.alloc (.cells #[.slice x0 d.init.n c0,u0,u1,u2,.int .i64 s,u4,u5,.slice x7 d.sg.n c7] 56):=⟨_,rfl⟩
 rw [show w.alloc (.cells ([.slice x0 d.init.n c0,u0,u1,u2,.int .i64 s,u4,u5,.slice x7 d.sg.n c7]).toArray 56)=W from hW.symm] at k1
 rw [←hW] at bV
 have HW:=Hid.mk' hW
 have K1:=Hid.mk' k1
 have h32:=hR.1
 have l3:=pk_s3 d h32
 have hlen:=lf_len d.leaf (lf13 hR.2.1)
 have HS9:=Hid.mk' (pk_sum9 d)
 have q0:=((Below.refl W.heap.size W).alloc (Nat.le_refl _) (.cells #[.int .u8 0,.int .u8 1,.int .u8 0,.int .u8 1] 5))
 have o1:=hd4_own W.heap.size W (Nat.le_refl _)
 have s1:(W.alloc (.cells #[.int .u8 0,.int .u8 1,.int .u8 0,.int .u8 1] 5)).heap.size=W.heap.size+1:=by simp
 obtain ⟨X,hX⟩:∃ X,X=W.alloc (.cells #[.int .u8 0,.int .u8 1,.int .u8 0,.int .u8 1] 5):=⟨_,rfl⟩
 rw [←hX] at q0 o1 s1
 have HX:=Hid.mk' hX
 have b1:Below X.heap.size X (X.alloc (.cells #[.slice x0 d.init.n c0] 22)):=(Below.refl _ _).alloc (Nat.le_refl _) _
 have cj:=rJoin1 X.heap.size _ d.init.n d.init.b (by omega) hk.1 _ (RW.fresh X [.slice x0 d.init.n c0] 22) (((h0.keep bV).keep q0).keep b1)
 have HL:=Hid.mk' (hl.keep bV)
 have cb:=fun W' hb=>rLeafBytes_any _ d.leaf (lf13 hR.2.1) hk.2.1 W' (HL.out.keep hb)
 have CB:=Hid.mk' cb
 have hv32:vcL d.init.n=33:=by rw [h32];rfl
 have H9:=Hid.mk' (pk_all9 d)
 have O1:=Hid.mk' (o1.congr (hd4_all d))
 have HV:=Hid.mk' hv32
 have HL3:=Hid.mk' l3
 obtain ⟨n0,hn0⟩:∃ n0,n0=d.init.n:=⟨_,rfl⟩
 rw [←hn0] at HW K1 b1 cj HV ⊢
 have HN0:=Hid.mk' hn0
 have HLN:=Hid.mk' hlen
 clear hW k1 hX cb hl h0 hR h32 o1 l3 hlen hv32 hn0
 go_enter Try.func63,Try.ntmps63
 go_upto_region 1 with (fail)
 rw [←HW.out]
 have q0':=(K1.out.still q0).cell (o:=0) rfl
 rw [HX.out] at q0'
 rw [s1,HX.out] at cj
 go_upto_region 2 with (first
  | (go_at_call 61;refine cj.mono ?_;clear cj;rw [←HX.out];rintro e w5 ⟨s5,rfl,o5,b5⟩;(obtain ⟨x5,c5,e5,hxn5,-,hs5⟩:=(BytesIn.of_own o5).src);subst e5;(have hsrc5:=hs5 w5 (Below.refl _ _));(have b15:=below_next b1 b5);(have ow5:=O1.out.below b15);(have bw5:=below_next q0 b15))
  | (at_builtin;refine wpList_append_bytes rfl (.tmp 4) (.tmp 8) rfl W.heap.size _ 4 _ rfl ow5 x5 _ c5 _ rfl hsrc5 hxn5 (by have:=HV.out;omega) bw5.size ?_;intro v6 w6 own6 grow6;have hb6:=Own.grown bw5 grow6 ow5 (Nat.le_refl _) bw5.size))
 have O6:Own W.heap.size w6 v6 (sumN (pkN d) 3) (allB (pkN d) (pkB d) 3):=by
  rw [HN0.out] at own6
  exact own6
 clear own6 grow6
 have rr:=(row_mid (K1.out.still hb6)).range
 have cb:=CB.out w6 hb6
 generalize sumN (pkN d) 3=m3 at *
 generalize allB (pkN d) (pkB d) 3=X3 at *
 obtain ⟨x6,c6,e6⟩:=O6.slice
 subst e6
 clear q0' CB HX O1 ow5 hsrc5 hs5 o5
 go_wp2_with (first
  | (with_reducible (refine id (?_:wpList _ _ _ _ _ _));refine ldL _ rfl rfl rr ?_ rfl)
  | (go_at_call 39;refine cb.mono ?_;clear cb;rintro e w7 ⟨s7,rfl,o7,b7⟩;(obtain ⟨x7',c7',e7,hxn7,-,hs7⟩:=(BytesIn.of_own o7).src);subst e7;(have hsrc7:=hs7 w7 (Below.refl _ _));(have ow7:=O6.below b7);(have bw7:=below_next hb6 b7))
  | (at_builtin;refine wpList_append_bytes rfl (.tmp 10) (.tmp 13) rfl W.heap.size _ m3 _ rfl ow7 x7' _ c7' _ rfl hsrc7 hxn7 (by have:=HL3.out;have:=HLN.out;omega) bw7.size ?_;intro v8 w8 own8 grow8;have hb8:=Own.grown bw7 grow8 ow7 (Nat.le_refl _) bw7.size))
 go_ret
 rw [HS9.out]
 exact ⟨_,rfl,(own8.congr H9.out).base bV.size,below_next bV hb8⟩
set_option maxRecDepth 20000 in
set_option maxHeartbeats 1000000 in
theorem rPackageText_any (cs:List Value) (d:PkD) (hk:pkK d) (w:World) (hd:PkIn w cs d):Calls Try.prog 34 #[.agg cs.toArray] w fun e w'=>Below w.heap.size w w'∧PutA (pkR d) (sumN (pkN d) 9) (allB (pkN d) (pkB d) 9) e w':=by
 have hd':=hd
 obtain ⟨x0,c0,u0,u1,u2,u4,u5,x7,c7,rfl,-⟩:=hd.form
 obtain ⟨s,hs⟩:∃ s,s=d.leaf.src:=⟨_,rfl⟩
 rw [←hs] at hd' ⊢
 clear hs hd
 have k1:=RW.fresh w [.slice x0 d.init.n c0,u0,u1,u2,.int .i64 s,u4,u5,.slice x7 d.sg.n c7] 56
 have bV:Below w.heap.size w (w.alloc (.cells #[.slice x0 d.init.n c0,u0,u1,u2,.int .i64 s,u4,u5,.slice x7 d.sg.n c7] 56)):=(Below.refl _ _).alloc (Nat.le_refl _) _
 obtain ⟨W,hW⟩:∃ W,W=w.alloc (.cells #[.slice x0 d.init.n c0,u0,u1,u2,.int .i64 s,u4,u5,.slice x7 d.sg.n c7] 56):=⟨_,rfl⟩
 rw [show w.alloc (.cells ([.slice x0 d.init.n c0,u0,u1,u2,.int .i64 s,u4,u5,.slice x7 d.sg.n c7]).toArray 56)=W from hW.symm] at k1
 rw [←hW] at bV
 have HW:=Hid.mk' hW
 have cr:=rRightPackage_any _ d W (hd'.keep bV)
 have cb:=fun hR W' hb=>rOffer_any _ d hR hk W' ((hd'.keep bV).keep hb)
 have rr:=k1.range
 have K1:=Hid.mk' k1
 clear hW hd' k1
 by_cases hR:pkR d
 · rw [(pk_all d).2 hR] at cr
   have HR:=Hid.mk' hR
   replace cb:=Hid.mk' (cb hR)
   clear hR
   go_enter Try.func34,Try.ntmps34
   go_upto_region 1 with (fail)
   rw [←HW.out]
   go_wp2_with (first
    | (with_reducible (refine id (?_:wpList _ _ _ _ _ _));refine ldK _ rfl rfl rr ?_ rfl)
    | (go_at_call 51;refine cr.mono ?_;clear cr;rintro e w2 ⟨rfl,b2⟩;(replace rr:=(K1.out.still b2).range);(have cb2:=cb.out w2 b2))
    | (go_at_call 63;refine cb2.mono ?_;clear cb2;rintro e w3 ⟨s3,rfl,o3,b3⟩))
   go_ret2
   exact ⟨below_next (below_next bV b2) b3,by unfold PutA;rw [if_pos HR.out];exact ⟨_,rfl,BytesIn.of_own o3⟩⟩
 · rw [Bool.eq_false_iff.2 (fun e=>hR ((pk_all d).1 e))] at cr
   have HR:=Hid.mk' hR
   clear cb hR
   go_enter Try.func34,Try.ntmps34
   go_upto_region 1 with (fail)
   rw [←HW.out]
   go_wp2_with (first
    | (with_reducible (refine id (?_:wpList _ _ _ _ _ _));refine ldK _ rfl rfl rr ?_ rfl)
    | (go_at_call 51;refine cr.mono ?_;clear cr;rintro e w2 ⟨rfl,b2⟩))
   go_ret2
   exact ⟨below_next bV b2,by unfold PutA;rw [if_neg HR.out];rfl⟩
end Go.Proofs.Ytgdcmibdjiaofaa
namespace Go.Proofs.Ytgdcmibdjiaofaa
open Go.RowKit
theorem BytesIn.congr {w:World} {v:Value} {n:Nat} {a b:Nat→Nat} (h:BytesIn w v n a) (e:∀ j,j<n→a j=b j):BytesIn w v n b:=by
 rcases h with h | ⟨bb,ob,cap,h1,h2,h3,h4⟩
 · exact .inl h
 · exact .inr ⟨bb,ob,cap,h1,h2,h3,fun j hj=>by rw [h4 j hj,e j hj]⟩
theorem PutA.congr {R:Prop} {n m:Nat} {a b:Nat→Nat} {e:Ending} {w:World} (h:PutA R n a e w) (hn:n=m) (hb:∀ j,j<m→a j=b j):PutA R m b e w:=by
 subst hn
 unfold PutA at *
 split
 · rename_i hR;rw [if_pos hR] at h;obtain ⟨s,h1,h2⟩:=h;exact ⟨s,h1,h2.congr hb⟩
 · rename_i hR;rw [if_neg hR] at h;exact h
def ptN (d:PkD) (i:Nat):Nat:=if i=9 then 0 else pkN d i
def ptB (d:PkD) (i:Nat):Nat→Nat:=if i=9 then fun _=>0 else pkB d i
theorem pt_same (d:PkD):∀ i,i<9→ptN d i=pkN d i∧ptB d i=pkB d i:=fun i hi=>⟨if_neg (by omega),if_neg (by omega)⟩
theorem pt_len (d:PkD):sumN (ptN d) 10=sumN (pkN d) 9:=by
 show sumN (ptN d) 9+0=_
 exact sumN_congr fun i hi=>(pt_same d i hi).1
theorem pt_byt (d:PkD):∀ j,j<sumN (pkN d) 9→allB (ptN d) (ptB d) 10 j=allB (pkN d) (pkB d) 9 j:=fun j hj=>by
 show cat (sumN (ptN d) 9) (allB (ptN d) (ptB d) 9) (ptB d 9) j=_
 rw [cat_left (by rw [sumN_congr fun i hi=>(pt_same d i hi).1];exact hj),allB_congr fun i hi=>pt_same d i hi]
theorem FieldPut.keep {w w':World} {f:Fd} {al:Bool} {n:Nat} {b:Nat→Nat} (h:FieldPut w f al n b) (hb:Below w.heap.size w w'):FieldPut w' f al n b :=
 ⟨h.h0,h.h1,fun W hW=>h.allow W (below_next hb hW),fun ha W hW=>h.put ha W (below_next hb hW)⟩
theorem pt_put {d:PkD} {w w':World} {fv fs fi f0 f1 f2 f3 f4 f5 fg:Fd} (h:∀ i f,[fv,fs,fi,f0,f1,f2,f3,f4,f5,fg][i]? = some f→FieldPut w f (pkA d i) (pkN d i) (pkB d i)) (hb:Below w.heap.size w w'):∀ i f,([fv,fs,fi,f0,f1,f2,f3,f4,f5] ++ [unwD fg])[i]? = some f→FieldPut w' f (pkA d i) (ptN d i) (ptB d i):=by
 intro i f hf
 by_cases h9:i=9
 · subst h9
   cases hf
   exact unwP ((h 9 fg rfl).keep hb)
 · rw [show ptN d i=pkN d i from if_neg h9,show ptB d i=pkB d i from if_neg h9]
   refine (h i f ?_).keep hb
   have hl:=(List.getElem?_eq_some_iff.1 hf).1
   simp at hl
   have h8:i<9:=by omega
   rw [List.getElem?_append_left (by simp;omega)] at hf
   rw [←hf]
   rw [show [fv,fs,fi,f0,f1,f2,f3,f4,f5,fg]=[fv,fs,fi,f0,f1,f2,f3,f4,f5] ++ [fg] from rfl,List.getElem?_append_left (by simp;omega)]
set_option maxRecDepth 20000 in
set_option maxHeartbeats 1000000 in
theorem packageText_any (cs:List Value) (d:PkD) (w:World) (hd:PkIn w cs d):Calls Try.prog 33 #[.agg cs.toArray] w fun e w'=>Below w.heap.size w w'∧PutA (pkR d) (sumN (pkN d) 9) (allB (pkN d) (pkB d) 9) e w':=by
 have hd':=hd
 obtain ⟨x0,c0,u0,u1,u2,u4,u5,x7,c7,rfl,-⟩:=hd.form
 obtain ⟨src,hsrc⟩:∃ src,src=d.leaf.src:=⟨_,rfl⟩
 rw [←hsrc] at hd' ⊢
 have k1:=RW.fresh w [.slice x0 d.init.n c0,u0,u1,u2,.int .i64 src,u4,u5,.slice x7 d.sg.n c7] 58
 have b1:Below w.heap.size w (w.alloc (.cells #[.slice x0 d.init.n c0,u0,u1,u2,.int .i64 src,u4,u5,.slice x7 d.sg.n c7] 58)):=(Below.refl _ _).alloc (Nat.le_refl _) _
 obtain ⟨W,hW⟩:∃ W,W=w.alloc (.cells #[.slice x0 d.init.n c0,u0,u1,u2,.int .i64 src,u4,u5,.slice x7 d.sg.n c7] 58):=⟨_,rfl⟩
 rw [show w.alloc (.cells [.slice x0 d.init.n c0,u0,u1,u2,.int .i64 src,u4,u5,.slice x7 d.sg.n c7].toArray 58)=W from hW.symm] at k1
 rw [←hW] at b1
 have HW:=Hid.mk' hW
 have cl:=kf_any w.heap.size W
 have hdW:=Hid.mk' (hd'.keep b1)
 have K1:=Hid.mk' k1
 clear hW hd' k1 hsrc hd
 go_enter Try.func33,Try.ntmps33
 go_upto_region 1 with (fail)
 rw [←HW.out]
 go_wp2_with (first
  | (go_at_call 50;refine cl.mono ?_;clear cl;rintro e w1 ⟨v,fv,fs,fi,f0,f1,f2,f3,f4,f5,fg,rfl,g1,g2,r1,r2,-,c1⟩;(have cu:=unsigned_any _ v [fv,fs,fi,f0,f1,f2,f3,f4,f5] fg w1 g1 (by simp));(have hP:=Hid.mk' (pkgP g2 r1 r2 (K1.out.still c1) (hdW.out.keep c1))))
  | (go_at_call 56;refine cu.mono ?_;clear cu;rintro e w2 ⟨v2,gb,rfl,g3,-,-,c2⟩;(have cp:=put_any _ v2 _ (pkA d) (ptN d) (ptB d) w2 g3 (by simp) (by simp) (fun i hi ha=>by by_cases h9:i=9;(rw [show ptN d i=0 from if_pos h9];omega);(rw [show ptN d i=pkN d i from if_neg h9];exact pk_small i (by simpa using hi) ha)) (fun i f hf=>pt_put hP.out c2 i f hf)))
  | (go_at_call 36;refine cp.mono ?_;clear cp;rintro e w3 ⟨c3,hA⟩;(replace hA:=Hid.mk' ((putA (pk_all d) hA).congr (pt_len d) (pt_byt d)));obtain ⟨s,z,rfl⟩:=hA.out.form))
 go_ret2
 exact ⟨below_next (below_next (below_next b1 c1) c2) c3,hA.out⟩
end Go.Proofs.Ytgdcmibdjiaofaa
