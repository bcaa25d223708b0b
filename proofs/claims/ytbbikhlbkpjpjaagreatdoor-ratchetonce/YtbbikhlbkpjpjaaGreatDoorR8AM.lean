/- What the proof stands on: R8A, R8U. -/
import Derived.Test.YtbbikhlbkpjpjaaGreatDoorR7Z
import Derived.Test.YtbbikhlbkpjpjaaGreatDoorR8TM
namespace Go.Proofs.YtbbikhlbkpjpjaaGreatDoor
open Go.RowKit Go.Shelf
def OnOk (S:Rs) (i:Nat) (S1:Rs):Prop:=∀ (tb sb rb kb:Nat) (V:World),RsAt V tb sb rb kb S→TabAt V→DbT V →
 Calls Tryz.prog 46 #[pA tb 0,.int .i64 (i:Int)] V fun e w'=>(∃ v,e = .returned v)∧RsAt w' tb sb rb kb S1∧But (fun b=>b=sb∨b=rb) V w'
theorem on_old {S:Rs} {i:Nat} {g:Nat} {X:Nat→Nat} (h:S.rt ((i:Int),true)=some (g,X)):OnOk S i S:=fun tb sb rb kb V hV _ _ =>
 (ropen_old tb sb rb kb S i g X h V hV).mono fun _ _ he=>⟨he.1,hV.still he.2,But.ofB he.2⟩
theorem on_new {S:Rs} {i:Nat} (h:S.rt ((i:Int),true)=none) {K:Nat} {xs:Nat→Nat} {ss:Nat→Nat→Nat} (hok:DnOk S i K xs ss):OnOk S i { S with sd:=opS S.sd xs ss K,rt:=opT S.rt i (ss (K - 1)) 2 }:=fun tb sb rb kb V hV hT hD =>
 ropen_new tb sb rb kb S i h K xs ss hok V hV hT hD
def paK (f:Ms→Option ((Nat→Nat) × (Nat→Nat))) (l:Ln) (a:Nat) (X:Nat→Nat):Nat→(Ms→Option ((Nat→Nat) × (Nat→Nat)))
 | 0=>f
 | k+1=>upQ (paK f l a X k) (l,((a+k:Nat):Int)) (some (keyS (a+k) (rcS a X k),nonS (a+k) (rcS a X k)))
def paD (f:Ms→Option ((Nat→Nat) × (Nat→Nat))) (l:Ln) (o:Int):Nat→(Ms→Option ((Nat→Nat) × (Nat→Nat)))
 | 0=>f
 | k+1=>upQ (paD f l o k) (l,o+(k:Int)) none
def paS (S1:Rs) (l:Ln) (a:Nat) (X:Nat→Nat) (G:Nat):Rs:={ S1 with rt:=upR S1.rt l (some (G+1,rcS a X (G+1 - a))),kp:=paD (paK S1.kp l a X (G - a)) l ((a:Int) - 32) (G+1 - a) }
structure PaJ (w:World) (tb sb rb kb:Nat) (S:Rs) (i:Nat) (t:Bool) (q:Nat) (R:List Value) (W:World):Prop where
 rs:RsAt W tb sb rb kb S
 ln:RW W w.heap.size 0 [.int .i64 (i:Int),.bool t]
 rt:RW W q 0 R
 bt:But (fun b=>b=sb∨b=rb∨b=kb) w W
theorem PaJ.still {w:World} {tb sb rb kb:Nat} {S:Rs} {i:Nat} {t:Bool} {q:Nat} {R:List Value} {W W':World} (h:PaJ w tb sb rb kb S i t q R W) (hb:Below W.heap.size W W'):PaJ w tb sb rb kb S i t q R W' :=
 ⟨h.rs.still hb,h.ln.still hb,h.rt.still hb,h.bt.trans (But.ofB hb)⟩
theorem PaJ.next {w:World} {tb sb rb kb:Nat} {S S':Rs} {i:Nat} {t:Bool} {q:Nat} {R:List Value} {W W':World} {b':Nat} (h:PaJ w tb sb rb kb S i t q R W) (hr:RsAt W' tb sb rb kb S') (hb:But (fun b=>b=b') W W') (hq:b'=sb∨b'=rb∨b'=kb) (h1:w.heap.size≠b') (h2:q≠b'):PaJ w tb sb rb kb S' i t q R W' :=
 ⟨hr,h.ln.but7 hb h1,h.rt.but7 hb h2,h.bt.trans (hb.mono (fun k e=>by subst e;exact hq))⟩
set_option maxRecDepth 100000 in
set_option maxHeartbeats 8000000 in
theorem rpass_any (tb sb rb kb:Nat) (S:Rs) (i:Nat) (t:Bool) (S1:Rs) (ho:OnOk S i S1) (a:Nat) (X:Nat→Nat) (hX:∀ j,X j<256) (hrt:S1.rt ((i:Int),t)=some (a,X)) (G:Nat) (haG:a≤G) (hG:G<4294967296) (w:World) (h:RsAt w tb sb rb kb S) (hT:TabAt w) (hD:DbT w) :
 Calls Tryz.prog 31 #[pA tb 0,.agg #[.int .i64 (i:Int),.bool t],.int .i64 (G:Int)] w fun e w'=>(∃ v,e = .returned v)∧RsAt w' tb sb rb kb (paS S1 ((i:Int),t) a X G)∧But (fun b=>b=sb∨b=rb∨b=kb) w w':=by
 have hlt:tb<w.heap.size∧sb<w.heap.size∧rb<w.heap.size∧kb<w.heap.size:=⟨h.lt,h.ms.lt,h.mr.lt,h.mq.lt⟩
 have hne:=h.ne
 have hm:∀ b,(b=sb∨b=rb∨b=kb)→∀ o,w.cell? ⟨b,o,none⟩=none:=fun b e o=>by
  rcases e with e | e | e <;> rw [e] <;> first | exact h.ms.nocell o | exact h.mr.nocell o | exact h.mq.nocell o
 obtain ⟨W1,hW1⟩:∃ W,W=w.alloc (.cells #[.int .i64 (i:Int),.bool t] 77):=⟨_,rfl⟩
 have b1:Below w.heap.size w W1:=by rw [hW1];exact (Below.refl _ _).alloc (Nat.le_refl _) _
 have k1:RW W1 w.heap.size 0 [.int .i64 (i:Int),.bool t]:=by rw [hW1];exact RW.fresh w _ _
 have h1:=h.still b1
 have cO:=ho tb sb rb kb W1 h1 (hT.still b1) (hD.keep b1)
 have cd:=k1.range 0 _ rfl
 rw [Nat.zero_add] at cd
 have HW1:=Hid.mk' hW1
 clear hW1 ho
 go_enter Tryz.func31,Tryz.ntmps31
 go_upto_region 2 with (first
  | (rw [←HW1.out];clear HW1)
  | (go_at_call 46;refine cO.mono ?_;clear cO;rintro e w2 ⟨⟨vo,rfl⟩,h2,hb2⟩))
 have k2:RW w2 w.heap.size 0 [.int .i64 (i:Int),.bool t]:=k1.but7 hb2 (by omega)
 have bt2:But (fun b=>b=sb∨b=rb∨b=kb) w w2:=(But.ofB b1).trans (hb2.mono (fun k e=>by rcases e with e | e <;> simp [e]))
 have hlk:∀ u,RsAt u tb sb rb kb S1→(Instr.lookup 48 (.map (some rb)) (lnV ((i:Int),t)) false).run Tryz.prog u = .ok (rtV a X) u:=fun u hu=>by
  have e:=hu.look_rt ((i:Int),t) false
  unfold Rs.rt0 at e
  rw [hrt] at e
  exact e
 have sw2:w.heap.size<w2.heap.size:=k2.lt
 have hdr:Below w2.heap.size w2 w2.drew:=(Below.refl _ _).drew
 replace h2:=h2.still hdr
 replace k2:=k2.still hdr
 clear hdr
 refine wp_region_noPanic ?_
 refine wp_region_held_drew (S:=fun u=>Below w2.drew.heap.size w2.drew u) (by kernel_rfl) (Below.refl _ _) (fun hS => ?_)
 have sV:w2.drew.heap.size=w2.heap.size:=rfl
 have bV:Below w2.heap.size w2 w2.drew:=(Below.refl _ _).drew
 generalize w2.drew=V at *
 refine tg 0 hS ?_
 (try simp only [pS])
 refine tg 1 hS ?_
 (try simp only [pS])
 refine tg 2 hS ?_
 (try simp only [pS])
 refine tc 3 hS (fun u hu=>(h2.still hu).c2) ?_
 (try simp only [pS])
 refine tl 4 k2 hS 77 Tryz.underlying77 (infoLn (i:Int) t) ?_
 (try simp only [pS])
 refine tg 5 hS (v:=rtV a X) (hy:=fun u hu=>run_look _ _ u rfl rfl rfl (hlk u (h2.still hu))) ?_
 (try simp only [pS])
 refine wpAnyH_ready (rs:=[6]) (by kernel_rfl) (by simp) ?_
 refine zA 6 (v:=pA V.heap.size 0) (rtL 0 lZ).toArray 79 ((Below.refl _ _).alloc (Nat.le_refl _) _) ?_ AllReadyH.nil
 have rz:=RW.fresh V (rtL 0 lZ) 79
 have nb:Below V.heap.size V (V.alloc (.cells (rtL 0 lZ).toArray 79)):=(Below.refl _ _).alloc (Nat.le_refl _) _
 have sn:(V.alloc (.cells (rtL 0 lZ).toArray 79)).heap.size=V.heap.size+1:=by simp
 generalize V.alloc (.cells (rtL 0 lZ).toArray 79)=X1 at *
 (try simp only [pS])
 refine wpAnyH_ready (rs:=[7]) (by kernel_rfl) (by simp) ?_
 refine zS 7 79 6 17 (rtL a X) rz (by first | rfl | rw [kyL_len,kyL_len] | rw [rtL_len,rtL_len] | rw [ints_len,ints_len]) (infoRtA _ _) (oneRt _ _) (below_setCells (Nat.le_refl _) _ _ _ nb) (fun rx => ?_) AllReadyH.nil
 replace nb:=below_setCells (Nat.le_refl _) (rtL a X) 0 _ nb
 have sx:(X1.setCells V.heap.size 0 (rtL a X)).heap.size=V.heap.size+1:=(setCells_same _ _ _ _).2.2.2.trans sn
 generalize X1.setCells V.heap.size 0 (rtL a X)=X2 at *
 clear rz sn hS
 refine wpAnyH_done (by kernel_rfl) ?_ _
 replace h2:=h2.still nb
 replace k2:=k2.still nb
 refine NoPanic.normal ?_
 have e2:V.heap.size=w2.heap.size:=sV
 have J0:PaJ w tb sb rb kb S1 i t w2.heap.size (rtL a X) X2:=⟨h2,k2,by rw [←e2];exact rx,bt2.trans (But.ofB (below_next bV nb))⟩
 have ca:=J0.rt.range 0 _ rfl
 rw [Nat.zero_add] at ca
 have ew:IntKind.i64.wrap ((a:Int) - 32)=(a:Int) - 32:=by simp only [IntKind.wrap_i64];omega
 rw [e2]
 clear rx hlk e2 sx sV nb bV bt2 h2 k2 cd k1 h1 b1 hrt
 go_wp2
 clear ca ew
 go_loopw [] (fun wr=>∃ k:Nat,a+k≤G∧PaJ w tb sb rb kb { S1 with kp:=paK S1.kp ((i:Int),t) a X k } i t w2.heap.size (rtL (a+k) (rcS a X k)) wr) (fun wr=>(G - celZ wr w2.heap.size).toNat)
 case atStart=>exact ⟨0,haG,J0⟩
 case round =>
  clear J0
  obtain ⟨k,hk,J⟩:=hrel
  have ck:=J.rt.range 0 _ rfl
  rw [Nat.zero_add] at ck
  have m0:=celZ_eq ck
  have sz2:=J.rt.lt
  by_cases hl:a+k<G
  · have hl':((a+k:Nat):Int)<(G:Int):=by omega
    go_upto_region 5 with (fail)
    have hdr:Below wr.heap.size wr wr.drew:=(Below.refl _ _).drew
    replace J:=J.still hdr
    clear hdr
    refine wp_last 10 (S:=fun u=>Below wr.drew.heap.size wr.drew u) (by kernel_rfl) (by kernel_rfl) (by kernel_rfl) (by kernel_rfl) (Below.refl _ _) (fun hS => ?_)
    generalize wr.drew=U6 at *
    refine tg 0 hS ?_
    (try simp only [pS])
    refine tg 1 hS ?_
    (try simp only [pS])
    refine tg 2 hS ?_
    (try simp only [pS])
    refine tc 3 hS (fun u hu=>(J.still hu).rs.c3) ?_
    (try simp only [pS])
    refine tl 4 J.ln hS 77 Tryz.underlying77 (infoLn (i:Int) t) ?_
    (try simp only [pS])
    refine tg 5 hS ?_
    (try simp only [pS])
    refine tc 6 hS (fun u hu=>(by have q:=(J.still hu).rt.range 0 _ rfl;rw [Nat.zero_add] at q;exact q)) ?_
    (try simp only [pS])
    refine tg 7 hS (v:=msV (((i:Int),t),((a+k:Nat):Int))) (hy:=by intro u hu;exact (show (execOp _ _).run Tryz.prog u=_ from by kernel_rfl)) ?_
    (try simp only [pS])
    refine tl 8 J.rt hS 79 Tryz.underlying79 (infoRt (a+k) (rcS a X k)) ?_
    (try simp only [pS])
    refine cn 9 ((by have c:=rtKeys_any (a+k) (by omega) (rcS a X k) (rcS_lt a X hX k) U6 (hT.but J.bt hm);unfold rtV kyV at c;exact c)) ?_
    rintro e u1 ⟨rfl,hb⟩
    refine ⟨_,rfl,hb,?_⟩
    replace J:=J.still hb
    clear hS hb
    have hS:=Below.refl u1.heap.size u1
    (try simp only [pS])
    refine wpAnyH_done (by kernel_rfl) ?_ _
    obtain ⟨U7,hput,hr7,hb7,hs7⟩:=J.rs.put_ky (((i:Int),t),((a+k:Nat):Int)) (keyS (a+k) (rcS a X k)) (nonS (a+k) (rcS a X k))
    unfold kyV at hput
    refine lastRun 10 (w':=U7) ?_ (hrun:=ex_put7 49 (.tmp 28) (.tmp 32) (.tmp 34) rfl rfl rfl rfl hput)
    refine NoPanic.normal ?_
    have J7:PaJ w tb sb rb kb { S1 with kp:=paK S1.kp ((i:Int),t) a X (k+1) } i t w2.heap.size (rtL (a+k) (rcS a X k)) U7:=J.next hr7 hb7 (.inr (.inr rfl)) (by omega) (by omega)
    clear hput hr7 hb7 hs7 J
    simp only [putN]
    have cN:=rtNext_any (a+k) (by omega) (rcS a X k) (rcS_lt a X hX k) U7 (hT.but J7.bt hm)
    have hiR:=infoRt (a+k) (rcS a X k)
    have rdk:=J7.rt.range
    have eN:rcS a X (k+1)=nextS (a+k) (rcS a X k):=rfl
    rw [←eN] at cN
    unfold rtV at cN
    have hiA:=infoRtA (a+k+1) (rcS a X (k+1))
    have hoA:=oneRt (a+k+1) (rcS a X (k+1))
    obtain ⟨RN,hRN⟩:∃ RN,RN=rtL (a+k+1) (rcS a X (k+1)):=⟨_,rfl⟩
    rw [←hRN] at cN hiA hoA
    have HRN:=Hid.mk' hRN
    have HRl:Hid (RN.toArray.size=33):=Hid.mk' (by rw [hRN];exact rt_size _ _)
    obtain ⟨RK,hRK⟩:∃ RK,RK=rtL (a+k) (rcS a X k):=⟨_,rfl⟩
    rw [←hRK] at cN hiR rdk
    have HRk:Hid (RK.length=33):=Hid.mk' (by rw [hRK];exact rtL_len _ _)
    rw [←hRK] at J7
    have HM:=Hid.mk' m0
    clear hRN hRK eN m0 ck
    go_wp2_with (first
     | (refine wpList_load_mid rfl 79 _ rfl w2.heap.size 0 rfl RK _ rdk Tryz.underlying79 rfl hiR ?_;clear rdk)
     | (go_at_call 44;refine cN.mono ?_;clear cN;rintro e w6 ⟨rfl,hb6⟩;replace J7:=J7.still hb6;(have hth6:w6.there w2.heap.size 0 RN.toArray.size:=(by have h:=J7.rt.there;rw [HRk.out] at h;rw [HRl.out];exact h)))
     | (refine wpList_store_mid rfl 79 _ _ rfl w2.heap.size 0 RN.toArray rfl rfl ?_ ?_ ?_ ?_;(with_reducible exact hth6);exact hiA;exact hoA;rw [List.toList_toArray]))
    have rq:=J7.rt.stored RN (by rw [HRN.out,rtL_len,HRk.out])
    have hbc:=but_cells w6 w2.heap.size 0 RN
    rw [HRN.out] at rq hbc ⊢
    have cq:=rq.range 0 _ rfl
    rw [Nat.zero_add] at cq
    rw [putN]
    go_roundw
    case rel =>
     refine ⟨k+1,by omega,J7.rs.at_eq (fun b hb=>hbc.block b ?_ ?_),J7.ln.but7 hbc (by omega),rq,J7.bt.on hbc (fun x hx e=>by omega)⟩
     · rcases hb with rfl | rfl | rfl | rfl <;> first | exact J7.rs.lt | exact J7.rs.ms.lt | exact J7.rs.mr.lt | exact J7.rs.mq.lt
     · rcases hb with rfl | rfl | rfl | rfl <;> omega
    case measure =>
     rw [celZ_eq cq,HM.out]
     omega
  · have hl':¬((a+k:Nat):Int)<(G:Int):=by omega
    have ek:k=G - a:=by omega
    have eG:a+k=G:=by omega
    have hk0:(0:Int)≤((a+k:Nat):Int):=by omega
    go_upto_region 7 with (fail)
    have hdr:Below wr.heap.size wr wr.drew:=(Below.refl _ _).drew
    replace J:=J.still hdr
    clear hdr
    refine wp_last 7 (S:=fun u=>Below wr.drew.heap.size wr.drew u) (by kernel_rfl) (by kernel_rfl) (by kernel_rfl) (by kernel_rfl) (Below.refl _ _) (fun hS => ?_)
    generalize wr.drew=U6 at *
    refine tg 0 hS ?_
    (try simp only [pS])
    refine tg 1 hS ?_
    (try simp only [pS])
    refine tg 2 hS ?_
    (try simp only [pS])
    refine tc 3 hS (fun u hu=>(J.still hu).rs.c2) ?_
    (try simp only [pS])
    refine tl 4 J.ln hS 77 Tryz.underlying77 (infoLn (i:Int) t) ?_
    (try simp only [pS])
    refine tl 5 J.rt hS 79 Tryz.underlying79 (infoRt (a+k) (rcS a X k)) ?_
    (try simp only [pS])
    refine cn 6 ((by have c:=rtNext_any (a+k) (by omega) (rcS a X k) (rcS_lt a X hX k) U6 (hT.but J.bt hm);unfold rtV at c;exact c)) ?_
    rintro e u1 ⟨rfl,hb⟩
    refine ⟨_,rfl,hb,?_⟩
    replace J:=J.still hb
    clear hS hb
    have hS:=Below.refl u1.heap.size u1
    (try simp only [pS])
    refine wpAnyH_done (by kernel_rfl) ?_ _
    obtain ⟨U7,hput,hr7,hb7,hs7⟩:=J.rs.put_rt ((i:Int),t) (a+k+1) (nextS (a+k) (rcS a X k))
    unfold rtV at hput
    refine lastRun 7 (w':=U7) ?_ (hrun:=ex_put7 48 (.tmp 40) (.tmp 41) (.tmp 43) rfl rfl rfl rfl hput)
    refine NoPanic.normal ?_
    have J7:PaJ w tb sb rb kb { S1 with rt:=upR S1.rt ((i:Int),t) (some (a+k+1,nextS (a+k) (rcS a X k))),kp:=paK S1.kp ((i:Int),t) a X k } i t w2.heap.size (rtL (a+k) (rcS a X k)) U7:=J.next hr7 hb7 (.inr (.inl rfl)) (by omega) (by omega)
    clear hput hr7 hb7 hs7 J hb2 m0 ck
    simp only [putN]
    obtain ⟨n,hn⟩:∃ n,n=G+1 - a:=⟨_,rfl⟩
    have eS:paS S1 ((i:Int),t) a X G={ S1 with rt:=upR S1.rt ((i:Int),t) (some (a+k+1,nextS (a+k) (rcS a X k))),kp:=paD (paK S1.kp ((i:Int),t) a X k) ((i:Int),t) ((a:Int) - 32) n }:=by
     unfold paS
     rw [←ek,←hn,show n=k+1 by omega,←eG]
     rfl
    have HS:=Hid.mk' eS
    have ew1:IntKind.i64.wrap ((G:Int)+1)=(G:Int)+1:=by simp only [IntKind.wrap_i64];omega
    have ew2:IntKind.i64.wrap ((G:Int)+1 - 32)=(G:Int)+1 - 32:=by simp only [IntKind.wrap_i64];omega
    clear eS hl hl' ek hk0
    go_wp2
    go_loopw [7] (fun x wr=>∃ (m:Nat) (y:Int),m≤n∧x = .int .i64 y∧y=(a:Int) - 32+(m:Int)∧PaJ w tb sb rb kb { S1 with rt:=upR S1.rt ((i:Int),t) (some (a+k+1,nextS (a+k) (rcS a X k))),kp:=paD (paK S1.kp ((i:Int),t) a X k) ((i:Int),t) ((a:Int) - 32) m } i t w2.heap.size (rtL (a+k) (rcS a X k)) wr) (fun x _=>((G:Int)+1 - 32 - intOf x).toNat)
    case atStart=>exact ⟨0,_,Nat.zero_le _,rfl,by omega,J7⟩
    case round =>
     clear J7
     obtain ⟨m,y,hm',rfl,hy,J⟩:=hrel
     have ew3:IntKind.i64.wrap (y+1)=y+1:=by simp only [IntKind.wrap_i64];omega
     have Hy:=Hid.mk' hy
     clear hy
     by_cases hl:y<(G:Int)+1 - 32
     · go_upto_region 10 with (fail)
       have hdr:Below wr.heap.size wr wr.drew:=(Below.refl _ _).drew
       replace J:=J.still hdr
       clear hdr
       refine wp_region_noPanic ?_
       refine wp_region_held_drew (S:=fun u=>u.cell? ⟨tb,3,none⟩=some (.map (some kb))∧RW u w.heap.size 0 [.int .i64 (i:Int),.bool t]) (by kernel_rfl) ⟨J.rs.c3,J.ln⟩ (fun hS => ?_)
       generalize wr.drew=V6 at *
       refine tg 0 hS ?_
       (try simp only [pS])
       refine tg 1 hS ?_
       (try simp only [pS])
       refine tg 2 hS ?_
       (try simp only [pS])
       refine tc 3 hS (fun u hu=>hu.1) ?_
       (try simp only [pS])
       refine tR 4 hS (fun u hu=>hu.2.range) 77 Tryz.underlying77 (infoLn (i:Int) t) ?_
       (try simp only [pS])
       refine tg 5 hS ?_
       (try simp only [pS])
       refine tg 6 hS (v:=msV (((i:Int),t),y)) (hy:=by intro u hu;exact (show (execOp _ _).run Tryz.prog u=_ from by kernel_rfl)) ?_
       (try simp only [pS])
       obtain ⟨U7,hdel,hr7,hb7,hs7⟩:=J.rs.del_ky (((i:Int),t),y) 0
       rw [Hy.out] at hr7
       have J7:PaJ w tb sb rb kb { S1 with rt:=upR S1.rt ((i:Int),t) (some (a+k+1,nextS (a+k) (rcS a X k))),kp:=paD (paK S1.kp ((i:Int),t) a X k) ((i:Int),t) ((a:Int) - 32) (m+1) } i t w2.heap.size (rtL (a+k) (rcS a X k)) U7:=J.next hr7 hb7 (.inr (.inr rfl)) (by omega) (by omega)
       refine wpAnyH_ready (rs:=[7]) (by kernel_rfl) (by simp) ?_
       refine zRun 7 (w':=U7) (hrun:=ex_del7 #[49,82] (.tmp 54) (.tmp 57) rfl rfl rfl hdel) ⟨J7.rs.c3,J7.ln⟩ ?_ AllReadyH.nil
       refine wpAnyH_done (by kernel_rfl) ?_ _
       refine NoPanic.normal ?_
       clear hdel hr7 hb7 hs7 J hS
       simp only [putN]
       go_wp2
       go_roundw
       case rel=>exact ⟨m+1,_,by have:=Hy.out;omega,rfl,by have:=Hy.out;omega,J7⟩
       case measure=>simp [intOf];omega
     · go_wp2
       refine bodyPost_end (results_none rfl _ _ _) rfl ?_
       have em:m=n:=by have:=Hy.out;omega
       subst em
       rw [HS.out]
       exact ⟨⟨_,rfl⟩,J.rs,J.bt⟩
end Go.Proofs.YtbbikhlbkpjpjaaGreatDoor
namespace Go.Proofs.YtbbikhlbkpjpjaaGreatDoor
open Go.RowKit
def wyS (R:Nat→Nat) (d i:Nat):Nat→(Nat→Nat)
 | 0=>R
 | m+1=>halfS (wyS R d i m) (if i / 2 ^ (d - (m+1))%2=0 then lLef else lRig)
theorem wyS_lt (R:Nat→Nat) (hR:∀ j,R j<256) (d i:Nat):∀ m j,wyS R d i m j<256
 | 0,j=>hR j
 | _+1,_=>exN_lt ..
theorem wyS_same (R:Nat→Nat) (d i j:Nat):∀ m,m≤d→j / 2 ^ (d - m)=i / 2 ^ (d - m)→wyS R d j m=wyS R d i m:=by
 intro m
 induction m with
 | zero=>intro _ _;rfl
 | succ m ih =>
  intro hm e
  have e2:j / 2 ^ (d - m)=i / 2 ^ (d - m):=by
   have h:=more8 e 1
   rwa [show d - (m+1)+1=d - m by omega] at h
  show halfS (wyS R d j m) _=halfS (wyS R d i m) _
  rw [ih (by omega) e2,e]
structure SdOk (n:Nat) (R:Nat→Nat) (op:Nat→Bool) (f:Int→Option (Nat→Nat)):Prop where
 off:∀ j,j<n→op j=true→∀ k,k≤dep7 n→f (anc7 j k:Int)=none
 one:∀ j,j<n→op j=false→∃ h,h≤dep7 n∧f (anc7 j h:Int)=some (wyS R (dep7 n) j (dep7 n - h))∧∀ k,k≤dep7 n→k≠h→f (anc7 j k:Int)=none
theorem hold_at (f:Int→Option (Nat→Nat)) (i h:Nat) (hh:(f (anc7 i h:Int)).isSome=true):∀ (d k:Nat),k≤h→h≤k+d→(∀ m,k≤m→m<h→f (anc7 i m:Int)=Option.none)→hold f (anc7 i k:Int) ((List.range' (k+1) d).map fun m=>(anc7 i m:Int))=(anc7 i h:Int):=by
 intro d
 induction d with
 | zero =>
  intro k h1 h2 _
  obtain rfl:k=h:=by omega
  rfl
 | succ d ih =>
  intro k h1 h2 h3
  rw [List.range'_succ,List.map_cons]
  unfold hold
  by_cases hk:k=h
  · subst hk;rw [if_pos hh]
  · rw [h3 k (Nat.le_refl _) (by omega),if_neg (by simp)]
    exact ih (k+1) (by omega) (by omega) (fun m e1 e2=>h3 m (by omega) e2)
theorem path_anc {n i:Nat} (hn:n∈wids7) (hi:i<n):pathL (i:Int) (n:Int)=(List.range' 1 (dep7 n)).map fun m=>(anc7 i m:Int):=by
 rw [(way_in hn hi).1,List.range_eq_range']
 apply List.ext_getElem
 · simp
 · intro m h1 h2
   simp
   rw [Nat.add_comm]
def dwX (i h:Nat) (k:Nat):Nat:=anc7 i (h - k)
def dwS (R:Nat→Nat) (d i h:Nat) (k:Nat):Nat→Nat:=wyS R d i (d - (h - k))
theorem dn_ok {n:Nat} {R:Nat→Nat} (hR:∀ j,R j<256) {S:Rs} (hn:n∈wids7) (hSn:S.n=n) {i h:Nat} (hi:i<n) (hh:h≤dep7 n) (h1:S.sd (anc7 i h:Int)=some (wyS R (dep7 n) i (dep7 n - h))) (h2:∀ k,k≤dep7 n→k≠h→S.sd (anc7 i k:Int)=none):DnOk S i (h+1) (dwX i h) (dwS R (dep7 n) i h):=by
 obtain ⟨r1,r2,-⟩:=root_in8 hn
 have hi64:i<64:=by omega
 refine ⟨Nat.succ_pos _,by omega,?_,?_,fun k j=>wyS_lt R hR _ _ _ j,?_,?_,?_⟩
 · unfold Rs.hd dwX
   rw [hSn,path_anc hn hi,Nat.sub_zero]
   have e0:=(lev_in8 hi64 (show 0<7 by decide)).2.2
   have e:(2*(i:Int))=(anc7 i 0:Int):=by rw [e0];omega
   rw [e]
   exact hold_at S.sd i h (by rw [h1];rfl) (dep7 n) 0 (Nat.zero_le _) (by omega) (fun m _ hm=>h2 m (by omega) (by omega))
 · exact h1
 · intro k hk
   have e1:h - k=h - (k+1)+1:=by omega
   obtain ⟨q1,q2,q3,q4,q5⟩:=step_in8 hi64 (show h - (k+1)<6 by omega)
   have ek:dep7 n - (h - (k+1))=dep7 n - (h - k)+1:=by omega
   have ed:dep7 n - (dep7 n - (h - k)+1)=h - (k+1):=by omega
   unfold dwX dwS
   rw [ek]
   show twP i (anc7 i (h - k))=_∧twS i (anc7 i (h - k)) _=halfS (wyS R (dep7 n) i (dep7 n - (h - k))) _∧twB i (anc7 i (h - k))=true
   rw [ed,e1]
   unfold twP twS twB
   rw [q1,q2,q3,q4,q5]
   by_cases hb:i / 2 ^ (h - (k+1))%2=0
   · simp [hb]
   · simp [hb]
 · have e:innB (dwX i h (h+1 - 1):Int)=false:=by
    unfold dwX
    rw [show h - (h+1 - 1)=0 by omega,(lev_in8 hi64 (show 0<7 by decide)).2.2]
    unfold innB
    simp
   unfold twB
   rw [e];rfl
 · refine ⟨fun x=>levN x.toNat+1,fun k hk => ?_⟩
   unfold dwX
   have:=(lev_in8 hi64 (show h - k<7 by omega)).2.1
   show levN ((anc7 i (h - k):Int).toNat)+1=_
   rw [Int.toNat_natCast,this]
   omega
theorem sib_tab8:((List.range 64).all fun i=>(List.range 6).all fun m=>levN (sib7 i m) == m)=true:=by decide +kernel
theorem sib_lev8 {i m:Nat} (hi:i<64) (hm:m<6):levN (sib7 i m)=m:=by
 have h:=List.all_eq_true.1 (List.all_eq_true.1 sib_tab8 i (List.mem_range.2 hi)) m (List.mem_range.2 hm)
 exact beq_iff_eq.1 h
theorem opH_way (g:Int→Option (Nat→Nat)) {i c:Nat} (X:Nat→Nat) (hi:i<64) (hc:c<6) (y:Nat):opH g (anc7 i (c+1)) X (hfK (anc7 i (c+1))) (y:Int)=if y=sib7 i c then some (halfS X (if i / 2 ^ c%2=0 then lRig else lLef)) else if y=anc7 i c then some (halfS X (if i / 2 ^ c%2=0 then lLef else lRig)) else if y=anc7 i (c+1) then none else g (y:Int):=by
 obtain ⟨q1,-,-,q4,q5⟩:=step_in8 hi hc
 have hne:sib7 i c≠anc7 i c:=fun e=>flp_ne _ ((anc_eq8 hi hi (show c<7 by omega) (show c<7 by omega)).2.1 e.symm).2.symm
 have e2:hfK (anc7 i (c+1))=2:=by unfold hfK;rw [if_pos q1]
 rw [e2]
 show upS (upS (upS g (anc7 i (c+1):Int) none) (lftN (anc7 i (c+1)):Int) (some (halfS X lLef))) (rgtN (anc7 i (c+1)):Int) (some (halfS X lRig)) (y:Int)=_
 rw [q4,q5]
 unfold upS
 by_cases hb:i / 2 ^ c%2=0
 · simp only [hb,if_true,Int.natCast_inj]
 · simp only [hb,if_false,Int.natCast_inj]
   by_cases h1:y=anc7 i c
   · have h2:¬y=sib7 i c:=fun e=>hne (e.symm.trans h1)
     rw [if_pos h1,if_neg h2,if_pos h1]
   · rw [if_neg h1]
     by_cases h2:y=sib7 i c
     · rw [if_pos h2,if_pos h2]
     · rw [if_neg h2,if_neg h2,if_neg h1]
theorem opH_leaf (g:Int→Option (Nat→Nat)) {i:Nat} (X:Nat→Nat) (hi:i<64) (y:Nat):opH g (anc7 i 0) X (hfK (anc7 i 0)) (y:Int)=if y=anc7 i 0 then none else g (y:Int):=by
 have e:innB (anc7 i 0:Int)=false:=by
  rw [(lev_in8 hi (show 0<7 by decide)).2.2]
  unfold innB
  simp
 have e2:hfK (anc7 i 0)=0:=by unfold hfK;rw [e];rfl
 rw [e2]
 show upS g (anc7 i 0:Int) none (y:Int)=_
 unfold upS
 simp only [Int.natCast_inj]
theorem opS_way (f:Int→Option (Nat→Nat)) (R:Nat→Nat) {d i h:Nat} (hi:i<64) (hh:h≤d) (hd:d<7):∀ s,s≤h+1 →
 (∀ y:Nat,(∀ m,m≤h→y≠anc7 i m)→(∀ m,m<h→y≠sib7 i m)→opS f (dwX i h) (dwS R d i h) s (y:Int)=f (y:Int)) ∧
 (∀ m,m<h→h - m≤s→opS f (dwX i h) (dwS R d i h) s (sib7 i m:Int)=some (halfS (wyS R d i (d - (m+1))) (if i / 2 ^ m%2=0 then lRig else lLef))) ∧
 (∀ m,m≤h→h - m<s→opS f (dwX i h) (dwS R d i h) s (anc7 i m:Int)=none):=by
 have aa:∀ {k m:Nat},k<7→m<7→anc7 i k=anc7 i m→k=m:=fun hk hm e=>((anc_eq8 hi hi hk hm).1.1 e).1
 have asn:∀ {k m:Nat},k<7→m<7→anc7 i k≠sib7 i m:=fun hk hm e=>by
  have h:=(anc_eq8 hi hi hk hm).2.1 e
  rw [h.1] at h
  exact flp_ne _ h.2.symm
 intro s
 induction s with
 | zero =>
  intro _
  exact ⟨fun y _ _=>rfl,fun m h1 h2=>by omega,fun m _ h2=>by omega⟩
 | succ s ih =>
  intro hs
  obtain ⟨a1,a2,a3⟩:=ih (by omega)
  have e1:opS f (dwX i h) (dwS R d i h) (s+1)=opH (opS f (dwX i h) (dwS R d i h) s) (anc7 i (h - s)) (wyS R d i (d - (h - s))) (hfK (anc7 i (h - s))):=rfl
  rw [e1]
  by_cases h0:h - s=0
  · rw [h0]
    refine ⟨fun y h1 h2 => ?_,fun m h1 h2 => ?_,fun m h1 h2 => ?_⟩
    · rw [opH_leaf _ _ hi,if_neg (h1 0 (Nat.zero_le _))]
      exact a1 y h1 h2
    · rw [opH_leaf _ _ hi,if_neg (fun e=>asn (by decide) (by omega) e.symm)]
      exact a2 m h1 (by omega)
    · rw [opH_leaf _ _ hi]
      by_cases e:anc7 i m=anc7 i 0
      · rw [if_pos e]
      · rw [if_neg e]
        have hm:m≠0:=fun e2=>e (by rw [e2])
        exact a3 m h1 (by omega)
  · obtain ⟨c,hc⟩:∃ c,h - s=c+1:=⟨h - s - 1,by omega⟩
    rw [hc]
    refine ⟨fun y h1 h2 => ?_,fun m h1 h2 => ?_,fun m h1 h2 => ?_⟩
    · rw [opH_way _ _ hi (by omega),if_neg (h2 c (by omega)),if_neg (h1 c (by omega)),if_neg (h1 (c+1) (by omega))]
      exact a1 y h1 h2
    · rw [opH_way _ _ hi (by omega)]
      by_cases e:m=c
      · rw [e,if_pos rfl]
      · rw [if_neg (fun e2=>e (by have:=congrArg levN e2;rwa [sib_lev8 hi (by omega),sib_lev8 hi (by omega)] at this)),if_neg (fun e2=>asn (by omega) (by omega) e2.symm),if_neg (fun e2=>asn (by omega) (by omega) e2.symm)]
        exact a2 m h1 (by omega)
    · have hm:c+1≤m:=by omega
      rw [opH_way _ _ hi (by omega),if_neg (asn (by omega) (by omega)),if_neg (fun e=>by have:=aa (by omega) (by omega) e;omega)]
      by_cases e:m=c+1
      · rw [e,if_pos rfl]
      · rw [if_neg (fun e2=>e (aa (by omega) (by omega) e2))]
        exact a3 m h1 (by omega)
theorem SdOk.opened {n:Nat} {R:Nat→Nat} {op:Nat→Bool} {f:Int→Option (Nat→Nat)} (hS:SdOk n R op f) (hn:n∈wids7) {i h:Nat} (hi:i<n) (hoi:op i=false) (hh:h≤dep7 n) (h1:f (anc7 i h:Int)=some (wyS R (dep7 n) i (dep7 n - h))) (h2:∀ k,k≤dep7 n→k≠h→f (anc7 i k:Int)=none) :
 SdOk n R (fun j=>op j || j == i) (opS f (dwX i h) (dwS R (dep7 n) i h) (h+1)):=by
 obtain ⟨r1,r2,-⟩:=root_in8 hn
 have hi64:i<64:=by omega
 obtain ⟨a1,a2,a3⟩:=opS_way f R hi64 hh r1 (h+1) (Nat.le_refl _)
 have hsi:∀ m,m<h→(halfS (wyS R (dep7 n) i (dep7 n - (m+1))) (if i / 2 ^ m%2=0 then lRig else lLef))=halfS (wyS R (dep7 n) i (dep7 n - (m+1))) (if flp8 (i / 2 ^ m)%2=0 then lLef else lRig):=fun m _=>by
  have:(flp8 (i / 2 ^ m)%2=0)=¬(i / 2 ^ m%2=0):=by
   unfold flp8
   apply propext
   split <;> omega
  by_cases hb:i / 2 ^ m%2=0
  · rw [if_pos hb,if_neg (by rw [this];exact fun e=>e hb)]
  · rw [if_neg hb,if_pos (by rw [this];exact hb)]
 -- a place of another way that is none of these
 have off:∀ j,j<n→j≠i→∀ k,k≤dep7 n→(h<k∨j / 2 ^ k≠i / 2 ^ k)→(k<h→j / 2 ^ k≠flp8 (i / 2 ^ k))→opS f (dwX i h) (dwS R (dep7 n) i h) (h+1) (anc7 j k:Int)=f (anc7 j k:Int):=fun j hj _ k hk e1 e2=>by
  refine a1 _ (fun m hm e => ?_) (fun m hm e => ?_)
  · obtain ⟨q1,q2⟩:=(anc_eq8 hi64 (show j<64 by omega) (show k<7 by omega) (show m<7 by omega)).1.1 e
    subst q1
    rcases e1 with e1 | e1
    · omega
    · exact e1 q2
  · obtain ⟨q1,q2⟩:=(anc_eq8 hi64 (show j<64 by omega) (show k<7 by omega) (show m<7 by omega)).2.1 e
    subst q1
    exact e2 hm q2
 have offi:∀ k,k≤dep7 n→h<k→opS f (dwX i h) (dwS R (dep7 n) i h) (h+1) (anc7 i k:Int)=none:=fun k hk hlt=>by
  refine (a1 _ (fun m hm e => ?_) (fun m hm e => ?_)).trans (h2 k hk (by omega))
  · have:=((anc_eq8 hi64 hi64 (show k<7 by omega) (show m<7 by omega)).1.1 e).1
    omega
  · have:=((anc_eq8 hi64 hi64 (show k<7 by omega) (show m<7 by omega)).2.1 e).1
    omega
 refine ⟨fun j hj hop k hk => ?_,fun j hj hop => ?_⟩
 · by_cases hji:j=i
   · subst hji
     by_cases hkh:k≤h
     · exact a3 k hkh (by omega)
     · exact offi k hk (by omega)
   · have hopj:op j=true:=by
      have:(j == i)=false:=by simpa using hji
      simpa [this] using hop
     have hnone:=hS.off j hj hopj
     have hne:j / 2 ^ h≠i / 2 ^ h:=fun e=>by
      have e2:=(anc_eq8 hi64 (show j<64 by omega) (show h<7 by omega) (show h<7 by omega)).1.2 ⟨rfl,e⟩
      have e3:=hnone h hh
      rw [e2,h1] at e3
      cases e3
     have hlow:∀ m,m≤h→j / 2 ^ m≠i / 2 ^ m:=fun m hm e=>hne (by have:=more8 e (h - m);rwa [show m+(h - m)=h by omega] at this)
     rw [off j hj hji k hk (by by_cases hkh:k≤h;exact .inr (hlow k hkh);exact .inl (by omega)) (fun hkh e=>hlow (k+1) (by omega) (by rw [half8,half8,e,flp_half]))]
     exact hnone k hk
 · have hji:j≠i:=fun e=>by subst e;simp at hop
   have hopj:op j=false:=by
    cases h:op j with
    | true=>rw [h] at hop;simp at hop
    | false=>rfl
   obtain ⟨g,hg,g1,g2⟩:=hS.one j hj hopj
   by_cases hsame:j / 2 ^ h=i / 2 ^ h
   · -- below the same place: its sibling is put
     obtain ⟨m,m1,m2,m3,m4⟩:=meet8 hji h hsame
     have e0:=(anc_eq8 hi64 (show j<64 by omega) (show h<7 by omega) (show h<7 by omega)).1.2 ⟨rfl,hsame⟩
     have hgh:g=h:=Classical.byContradiction fun e=>by
      have:=g2 h hh (fun e2=>e e2.symm)
      rw [e0,h1] at this
      cases this
     have em:=(anc_eq8 hi64 (show j<64 by omega) (show m<7 by omega) (show m<7 by omega)).2.2 ⟨rfl,m2⟩
     refine ⟨m,by omega,?_,fun k hk hkm => ?_⟩
     · rw [em,a2 m m1 (by omega),hsi m m1,←m2]
       have e3:dep7 n - m=dep7 n - (m+1)+1:=by omega
       have e4:wyS R (dep7 n) j (dep7 n - (m+1))=wyS R (dep7 n) i (dep7 n - (m+1)):=wyS_same R (dep7 n) i j _ (by omega) (by rw [show dep7 n - (dep7 n - (m+1))=m+1 by omega];exact m4 (m+1) (by omega) (by omega))
       rw [e3]
       show some (halfS _ _)=some (halfS (wyS R (dep7 n) j (dep7 n - (m+1))) (if j / 2 ^ (dep7 n - (dep7 n - (m+1)+1))%2=0 then lLef else lRig))
       rw [e4,show dep7 n - (dep7 n - (m+1)+1)=m by omega]
     · by_cases hk1:k≤h
       · by_cases hk2:m<k
         · rw [(anc_eq8 hi64 (show j<64 by omega) (show k<7 by omega) (show k<7 by omega)).1.2 ⟨rfl,m4 k hk2 hk1⟩]
           exact a3 k hk1 (by omega)
         · have hk3:k<m:=by omega
           rw [off j hj hji k hk (.inr (m3 k (by omega))) (fun _ e=>m3 (k+1) (by omega) (by rw [half8,half8,e,flp_half]))]
           exact g2 k hk (by omega)
       · rw [off j hj hji k hk (.inl (by omega)) (fun h=>by omega)]
         exact g2 k hk (by omega)
   · have hlow:∀ m,m≤h→j / 2 ^ m≠i / 2 ^ m:=fun m hm e=>hsame (by have:=more8 e (h - m);rwa [show m+(h - m)=h by omega] at this)
     have hall:∀ k,k≤dep7 n→opS f (dwX i h) (dwS R (dep7 n) i h) (h+1) (anc7 j k:Int)=f (anc7 j k:Int):=fun k hk =>
      off j hj hji k hk (by by_cases hkh:k≤h;exact .inr (hlow k hkh);exact .inl (by omega)) (fun hkh e=>hlow (k+1) (by omega) (by rw [half8,half8,e,flp_half]))
     exact ⟨g,hg,(hall g hg).trans g1,fun k hk hkg=>(hall k hk).trans (g2 k hk hkg)⟩
end Go.Proofs.YtbbikhlbkpjpjaaGreatDoor
