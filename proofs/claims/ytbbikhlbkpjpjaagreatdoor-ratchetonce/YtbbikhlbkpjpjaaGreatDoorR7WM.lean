/- What the proof stands on: R7W, R7X. -/
import Derived.Test.YtbbikhlbkpjpjaaGreatDoorR7SM
namespace Go.Proofs.YtbbikhlbkpjpjaaGreatDoor
open Go.RowKit Go.Shelf
attribute [local go_sem] Oper.semAt_some
set_option maxRecDepth 100000 in
set_option maxHeartbeats 4000000 in
theorem rstand_some (tb sb rb kb:Nat) (S:Rs) (i:Nat) (t:Bool) (g:Nat) (X:Nat→Nat) (hrt:S.rt ((i:Int),t)=some (g,X)) (w:World) (h:RsAt w tb sb rb kb S) :
 Calls Tryz.prog 43 #[pA tb 0,.agg #[.int .i64 (i:Int),.bool t]] w fun e w'=>e = .returned (rtV g X)∧Below w.heap.size w w':=by
 obtain ⟨W1,hW1⟩:∃ W,W=(w.alloc (.cells #[.int .i64 (i:Int),.bool t] 77)).alloc (.cells #[.int .i64 0,.int .u8 0,.int .u8 0,.int .u8 0,.int .u8 0,.int .u8 0,.int .u8 0,.int .u8 0,.int .u8 0,.int .u8 0,.int .u8 0,.int .u8 0,.int .u8 0,.int .u8 0,.int .u8 0,.int .u8 0,.int .u8 0,.int .u8 0,.int .u8 0,.int .u8 0,.int .u8 0,.int .u8 0,.int .u8 0,.int .u8 0,.int .u8 0,.int .u8 0,.int .u8 0,.int .u8 0,.int .u8 0,.int .u8 0,.int .u8 0,.int .u8 0,.int .u8 0] 79):=⟨_,rfl⟩
 have b1:Below w.heap.size w W1:=by rw [hW1];exact ((Below.refl _ _).alloc (Nat.le_refl _) _).alloc (by simp) _
 have k1:RW W1 w.heap.size 0 [.int .i64 (i:Int),.bool t]:=by rw [hW1];exact (RW.fresh w _ _).still ((Below.refl _ _).alloc (Nat.le_refl _) _)
 have k2:RW W1 (w.heap.size+1) 0 (rtL 0 lZ):=by
  have h:=rt_zero (w.alloc (.cells #[.int .i64 (i:Int),.bool t] 77))
  rw [World.size_alloc] at h
  rw [hW1];exact h
 have s1:W1.heap.size=w.heap.size+2:=by rw [hW1];simp
 have hw:=h
 replace h:=h.still b1
 have HW1:=Hid.mk' hW1
 clear hW1
 obtain ⟨nn,-⟩:∃ nn:Nat,True:=⟨1,trivial⟩
 refine (callsIn_wide (n:=nn)).1 ?_
 refine callsIn_of_wp_marks Tryz.func43 rfl trivial ?_ rfl
 simp only [Tryz.ntmps43,List.size_toArray,List.length_cons,List.length_nil,Nat.reduceAdd,Nat.reduceSub,Array.replicate_succ,Array.replicate_zero,List.push_toArray,List.append_toArray,List.nil_append,List.cons_append]
 gi_upto_region 1 with (fail)
 rw [←HW1.out]
 clear HW1
 have hdr:Below W1.heap.size W1 W1.drew:=(Below.refl _ _).drew
 replace h:=h.still hdr
 replace k1:=k1.still hdr
 replace k2:=k2.still hdr
 replace b1:=below_next b1 hdr
 clear hdr
 refine wpIn_heldW (S:=fun u=>Below W1.drew.heap.size W1.drew u) (by kernel_rfl) (by kernel_rfl) (Below.refl _ _) (fun hS => ?_)
 have sV:W1.drew.heap.size=W1.heap.size:=rfl
 generalize W1.drew=V at *
 refine tg 0 hS ?_
 (try simp only [pS])
 refine tg 1 hS ?_
 (try simp only [pS])
 refine tg 2 hS ?_
 (try simp only [pS])
 refine tc 3 hS (fun u hu=>(h.still hu).c2) ?_
 (try simp only [pS])
 refine tl 4 k1 hS 77 Tryz.underlying77 (infoLn (i:Int) t) ?_
 (try simp only [pS])
 refine tg 5 hS (v := .tuple #[rtV (S.rt0 ((i:Int),t)).1 (S.rt0 ((i:Int),t)).2,.bool (S.rt ((i:Int),t)).isSome]) (hy:=fun u hu=>run_look _ _ u rfl rfl rfl ((h.still hu).look_rt ((i:Int),t) true)) ?_
 (try simp only [pS])
 refine tg 6 hS ?_
 (try simp only [pS])
 refine tg 7 hS ?_
 (try simp only [pS])
 refine tg 8 hS ?_
 (try simp only [pS])
 refine wpAnyH_ready (rs:=[9]) (by kernel_rfl) (by simp) ?_
 refine zA 9 (v:=pA V.heap.size 0) (rtL 0 lZ).toArray 79 ((Below.refl _ _).alloc (Nat.le_refl _) _) ?_ AllReadyH.nil
 have rz:=RW.fresh V (rtL 0 lZ) 79
 have nb:Below V.heap.size V (V.alloc (.cells (rtL 0 lZ).toArray 79)):=(Below.refl _ _).alloc (Nat.le_refl _) _
 have sn:(V.alloc (.cells (rtL 0 lZ).toArray 79)).heap.size=V.heap.size+1:=by simp
 generalize V.alloc (.cells (rtL 0 lZ).toArray 79)=X1 at *
 (try simp only [pS])
 refine wpAnyH_ready (rs:=[10]) (by kernel_rfl) (by simp) ?_
 refine zS 10 79 5 17 (rtL (S.rt0 ((i:Int),t)).1 (S.rt0 ((i:Int),t)).2) rz (by first | rfl | rw [kyL_len,kyL_len] | rw [rtL_len,rtL_len] | rw [ints_len,ints_len]) (infoRtA _ _) (oneRt _ _) (below_setCells (Nat.le_refl _) _ _ _ nb) (fun rx => ?_) AllReadyH.nil
 replace nb:=below_setCells (Nat.le_refl _) (rtL (S.rt0 ((i:Int),t)).1 (S.rt0 ((i:Int),t)).2) 0 _ nb
 have sx:(X1.setCells V.heap.size 0 (rtL (S.rt0 ((i:Int),t)).1 (S.rt0 ((i:Int),t)).2)).heap.size=V.heap.size+1:=(setCells_same _ _ _ _).2.2.2.trans sn
 generalize X1.setCells V.heap.size 0 (rtL (S.rt0 ((i:Int),t)).1 (S.rt0 ((i:Int),t)).2)=X2 at *
 clear rz sn hS
 refine tg 11 nb ?_
 (try simp only [pS])
 refine wpAnyH_done (by kernel_rfl) ?_ _
 replace k1:=k1.still nb
 replace k2:=k2.still nb
 refine OnlyN.normal ?_
 replace b1:=below_next b1 nb
 have e2:V.heap.size=w.heap.size+2:=by rw [sV,s1]
 have s2:X2.heap.size=w.heap.size+3:=by rw [sx,e2]
 rw [e2] at rx ⊢
 clear e2 sx sV s1 nb
 have e0:S.rt0 ((i:Int),t)=(g,X):=by unfold Rs.rt0;rw [hrt];rfl
 rw [e0] at rx
 dsimp only at rx
 have hiR:=infoRt g X
 have hiA:=infoRtA g X
 have hoA:=oneRt g X
 have hth:X2.there (w.heap.size+1) 0 (rtL g X).toArray.size:=by have h:=k2.there;rw [rtL_len] at h;rw [rt_size];exact h
 have rr:=rx.range
 rw [hrt]
 clear e0 hw h k1
 gi_wp2_with (first
  | (refine wpListIn_load_wd rfl 79 _ rfl (w.heap.size+2) 0 rfl (rtL g X) _ rr Tryz.underlying79 rfl hiR ?_;clear rr)
  | (refine wpListIn_store_mid rfl 79 _ _ rfl (w.heap.size+1) 0 (rtL g X).toArray rfl rfl ?_ ?_ ?_ ?_;(with_reducible exact hth);exact hiA;exact hoA;rw [List.toList_toArray]))
 have rq:=k2.stored (rtL g X) (by rw [rtL_len,rtL_len])
 exact ⟨_,results_cell_mid rfl _ _ (w.heap.size+1) 0 (rtL g X) _ rfl rq.range Tryz.underlying79 rfl hiR,rfl,below_setCells (by omega) _ 0 _ b1⟩
structure SnJ (w:World) (tb i:Nat) (t:Bool) (ss:Nat→Nat→Nat) (k:Nat) (W:World):Prop where
 r0:RW W w.heap.size 0 [.int .i64 (i:Int),.bool t]
 r1:RW W (w.heap.size+1) 0 (rtL 0 lZ)
 r3:RW W (w.heap.size+3) 0 (ints .u8 32 (if k=0 then lZ else ss (k - 1)))
 pt:W.cell? ⟨w.heap.size+4,0,none⟩=some (pA tb 0)
 lf:W.cell? ⟨w.heap.size+5,0,none⟩=some (.int .i64 (i:Int))
 bel:Below w.heap.size w W
theorem SnJ.loc {w:World} {tb i:Nat} {t:Bool} {ss:Nat→Nat→Nat} {k:Nat} {W W':World} {B:Nat} {M:Nat→Prop} (h:SnJ w tb i t ss k W) (hL:Loc B M W W') (hB:w.heap.size+6≤B):SnJ w tb i t ss k W':=by
 have hlt:=block_lt_of_cell h.lf
 have hlt':w.heap.size+5<W.heap.size:=hlt
 have hb:Below (w.heap.size+6) W W':=(hL.mono hB).below (by omega)
 exact ⟨h.r0.below hb (by omega),h.r1.below hb (by omega),h.r3.below hb (by omega),(hb.cell (p:=⟨w.heap.size+4,0,none⟩) (by show w.heap.size+4<_;omega)).trans h.pt,(hb.cell (p:=⟨w.heap.size+5,0,none⟩) (by show w.heap.size+5<_;omega)).trans h.lf,h.bel.trans (hb.mono (by omega))⟩
set_option maxRecDepth 100000 in
set_option maxHeartbeats 4000000 in
theorem rstand_none (tb sb rb kb:Nat) (S:Rs) (i:Nat) (t:Bool) (hrt:S.rt ((i:Int),t)=none) (K:Nat) (xs:Nat→Nat) (ss:Nat→Nat→Nat) (hok:DnOk S i K xs ss) (w:World) (h:RsAt w tb sb rb kb S) (hT:TabAt w) (hD:DbT w) :
 Calls Tryz.prog 43 #[pA tb 0,.agg #[.int .i64 (i:Int),.bool t]] w fun e w'=>e = .returned (rtV 0 (fstS (ss (K - 1)) t))∧Below w.heap.size w w':=by
 obtain ⟨W1,hW1⟩:∃ W,W=(w.alloc (.cells #[.int .i64 (i:Int),.bool t] 77)).alloc (.cells #[.int .i64 0,.int .u8 0,.int .u8 0,.int .u8 0,.int .u8 0,.int .u8 0,.int .u8 0,.int .u8 0,.int .u8 0,.int .u8 0,.int .u8 0,.int .u8 0,.int .u8 0,.int .u8 0,.int .u8 0,.int .u8 0,.int .u8 0,.int .u8 0,.int .u8 0,.int .u8 0,.int .u8 0,.int .u8 0,.int .u8 0,.int .u8 0,.int .u8 0,.int .u8 0,.int .u8 0,.int .u8 0,.int .u8 0,.int .u8 0,.int .u8 0,.int .u8 0,.int .u8 0] 79):=⟨_,rfl⟩
 have b1:Below w.heap.size w W1:=by rw [hW1];exact ((Below.refl _ _).alloc (Nat.le_refl _) _).alloc (by simp) _
 have k1:RW W1 w.heap.size 0 [.int .i64 (i:Int),.bool t]:=by rw [hW1];exact (RW.fresh w _ _).still ((Below.refl _ _).alloc (Nat.le_refl _) _)
 have k2:RW W1 (w.heap.size+1) 0 (rtL 0 lZ):=by
  have h:=rt_zero (w.alloc (.cells #[.int .i64 (i:Int),.bool t] 77))
  rw [World.size_alloc] at h
  rw [hW1];exact h
 have s1:W1.heap.size=w.heap.size+2:=by rw [hW1];simp
 have hw:=h
 replace h:=h.still b1
 have HW1:=Hid.mk' hW1
 clear hW1
 obtain ⟨nn,-⟩:∃ nn:Nat,True:=⟨1,trivial⟩
 refine (callsIn_wide (n:=nn)).1 ?_
 refine callsIn_of_wp_marks Tryz.func43 rfl trivial ?_ rfl
 simp only [Tryz.ntmps43,List.size_toArray,List.length_cons,List.length_nil,Nat.reduceAdd,Nat.reduceSub,Array.replicate_succ,Array.replicate_zero,List.push_toArray,List.append_toArray,List.nil_append,List.cons_append]
 gi_upto_region 1 with (fail)
 rw [←HW1.out]
 clear HW1
 have hdr:Below W1.heap.size W1 W1.drew:=(Below.refl _ _).drew
 replace h:=h.still hdr
 replace k1:=k1.still hdr
 replace k2:=k2.still hdr
 replace b1:=below_next b1 hdr
 clear hdr
 refine wpIn_heldW (S:=fun u=>Below W1.drew.heap.size W1.drew u) (by kernel_rfl) (by kernel_rfl) (Below.refl _ _) (fun hS => ?_)
 have sV:W1.drew.heap.size=W1.heap.size:=rfl
 generalize W1.drew=V at *
 refine tg 0 hS ?_
 (try simp only [pS])
 refine tg 1 hS ?_
 (try simp only [pS])
 refine tg 2 hS ?_
 (try simp only [pS])
 refine tc 3 hS (fun u hu=>(h.still hu).c2) ?_
 (try simp only [pS])
 refine tl 4 k1 hS 77 Tryz.underlying77 (infoLn (i:Int) t) ?_
 (try simp only [pS])
 refine tg 5 hS (v := .tuple #[rtV (S.rt0 ((i:Int),t)).1 (S.rt0 ((i:Int),t)).2,.bool (S.rt ((i:Int),t)).isSome]) (hy:=fun u hu=>run_look _ _ u rfl rfl rfl ((h.still hu).look_rt ((i:Int),t) true)) ?_
 (try simp only [pS])
 refine tg 6 hS ?_
 (try simp only [pS])
 refine tg 7 hS ?_
 (try simp only [pS])
 refine tg 8 hS ?_
 (try simp only [pS])
 refine wpAnyH_ready (rs:=[9]) (by kernel_rfl) (by simp) ?_
 refine zA 9 (v:=pA V.heap.size 0) (rtL 0 lZ).toArray 79 ((Below.refl _ _).alloc (Nat.le_refl _) _) ?_ AllReadyH.nil
 have rz:=RW.fresh V (rtL 0 lZ) 79
 have nb:Below V.heap.size V (V.alloc (.cells (rtL 0 lZ).toArray 79)):=(Below.refl _ _).alloc (Nat.le_refl _) _
 have sn:(V.alloc (.cells (rtL 0 lZ).toArray 79)).heap.size=V.heap.size+1:=by simp
 generalize V.alloc (.cells (rtL 0 lZ).toArray 79)=X1 at *
 (try simp only [pS])
 refine wpAnyH_ready (rs:=[10]) (by kernel_rfl) (by simp) ?_
 refine zS 10 79 5 17 (rtL (S.rt0 ((i:Int),t)).1 (S.rt0 ((i:Int),t)).2) rz (by first | rfl | rw [kyL_len,kyL_len] | rw [rtL_len,rtL_len] | rw [ints_len,ints_len]) (infoRtA _ _) (oneRt _ _) (below_setCells (Nat.le_refl _) _ _ _ nb) (fun rx => ?_) AllReadyH.nil
 replace nb:=below_setCells (Nat.le_refl _) (rtL (S.rt0 ((i:Int),t)).1 (S.rt0 ((i:Int),t)).2) 0 _ nb
 have sx:(X1.setCells V.heap.size 0 (rtL (S.rt0 ((i:Int),t)).1 (S.rt0 ((i:Int),t)).2)).heap.size=V.heap.size+1:=(setCells_same _ _ _ _).2.2.2.trans sn
 generalize X1.setCells V.heap.size 0 (rtL (S.rt0 ((i:Int),t)).1 (S.rt0 ((i:Int),t)).2)=X2 at *
 clear rz sn hS
 refine tg 11 nb ?_
 (try simp only [pS])
 refine wpAnyH_done (by kernel_rfl) ?_ _
 replace k1:=k1.still nb
 replace k2:=k2.still nb
 refine OnlyN.normal ?_
 replace b1:=below_next b1 nb
 have e2:V.heap.size=w.heap.size+2:=by rw [sV,s1]
 have s2:X2.heap.size=w.heap.size+3:=by rw [sx,e2]
 rw [e2] at rx ⊢
 clear e2 sx sV s1 nb
 clear rx h
 rw [hrt]
 have cd:=k1.range 0 _ rfl
 rw [Nat.zero_add] at cd
 obtain ⟨X3,hX3⟩:∃ W,W=X2.alloc (.cells #[.int .u8 0,.int .u8 0,.int .u8 0,.int .u8 0,.int .u8 0,.int .u8 0,.int .u8 0,.int .u8 0,.int .u8 0,.int .u8 0,.int .u8 0,.int .u8 0,.int .u8 0,.int .u8 0,.int .u8 0,.int .u8 0,.int .u8 0,.int .u8 0,.int .u8 0,.int .u8 0,.int .u8 0,.int .u8 0,.int .u8 0,.int .u8 0,.int .u8 0,.int .u8 0,.int .u8 0,.int .u8 0,.int .u8 0,.int .u8 0,.int .u8 0,.int .u8 0] 60):=⟨_,rfl⟩
 have b3:Below X2.heap.size X2 X3:=by rw [hX3];exact (Below.refl _ _).alloc (Nat.le_refl _) _
 have k3:RW X3 (w.heap.size+3) 0 (ints .u8 32 lZ):=by
  have e:=sd_zero X2
  rw [s2] at e
  rw [hX3];exact e
 have s3:X3.heap.size=w.heap.size+4:=by rw [hX3];simp;omega
 replace k1:=k1.still b3
 replace k2:=k2.still b3
 replace b1:=below_next b1 b3
 have c0:=k1.range 0 _ rfl
 rw [Nat.zero_add] at c0
 have cD:=down_any tb (i:Int) X3
 obtain ⟨X4,hX4⟩:∃ W,W=(X3.alloc (.cells #[pA tb 0] 24)).alloc (.cells #[.int .i64 (i:Int)] 3):=⟨_,rfl⟩
 rw [←hX4,s3] at cD
 have b4:Below X3.heap.size X3 X4:=by rw [hX4];exact ((Below.refl _ _).alloc (Nat.le_refl _) _).alloc (by simp) _
 have s4:X4.heap.size=w.heap.size+6:=by rw [hX4];simp;omega
 have hJ0:SnJ w tb i t ss 0 X4:=by
  refine ⟨k1.still b4,k2.still b4,k3.still b4,?_,?_,below_next b1 b4⟩
  · have h:=(RW.fresh X3 [pA tb 0] 24).still ((Below.refl _ _).alloc (Nat.le_refl _) (.cells #[.int .i64 (i:Int)] 3))
    rw [s3] at h
    rw [hX4]
    exact h.range 0 _ rfl
  · have h:=RW.fresh (X3.alloc (.cells #[pA tb 0] 24)) [.int .i64 (i:Int)] 3
    rw [World.size_alloc,s3] at h
    rw [hX4]
    exact h.range 0 _ rfl
 have hit:=down_it (w.heap.size+4) (w.heap.size+5) tb S i K xs ss hok
 have HX3:=Hid.mk' hX3
 clear hX3 hX4 b3 b4 k1 k2 k3 s3
 gi_wp2_with (first
  | (rw [←HX3.out];clear HX3)
  | (refine ⟨trivial,(fun h=>by cases h),?_⟩;gi_at_call 49;refine (callsIn_wide.2 cD).mono ?_;clear cD;rintro e w1 ⟨rfl,rfl⟩))
 have hB6:w.heap.size+6≤w1.heap.size:=by omega
 have hXl:=hok.lt
 refine range_it hit rfl (enters_of Tryz.func59 (by kernel_rfl) rfl)
  (fun k M' V'=>SnJ w tb i t ss k V'∧∀ b,¬M' b) (fun _ _ _=>False) (fun _=>False) ?_ ?_ ?_ ?_ ?_ (fun b hb=>hb.elim) ?_ ?_ ?_ ?_
 · rintro k M V V' ⟨h1,h2⟩ hL
   exact ⟨h1.loc hL hB6,h2⟩
 · rintro c M V V' h hL;exact h
 · rintro k M V hk ⟨h1,-⟩
   exact ⟨h1.pt,h1.lf,hT.still h1.bel,hD.keep h1.bel,fun _=>⟨sb,rb,kb,hw.still h1.bel⟩⟩
 · intro k M V _ h;cases h
 · intro k a' h;cases h;rfl
 · intro V hb
   exact ⟨hJ0.loc (M:=fun _=>False) (Loc.of_below hb) hB6,fun _ h=>h⟩
 · intro k M V l a' hk ha hj hl1 hl2 hl3
   cases ha
   have hiY:=infoSdA (ss k)
   have hiX:=infoSd (ss k)
   have hoY:=oneU7 32 (ss k)
   have hth:=sd_there V (ss k)
   have rY:=(sd_zero V).stored (ints .u8 32 (ss k)) (by rw [ints_len,ints_len])
   have bY:=sd_next V (ss k)
   obtain ⟨V1,hV1⟩:∃ W,W=(V.alloc (.cells #[.int .u8 0,.int .u8 0,.int .u8 0,.int .u8 0,.int .u8 0,.int .u8 0,.int .u8 0,.int .u8 0,.int .u8 0,.int .u8 0,.int .u8 0,.int .u8 0,.int .u8 0,.int .u8 0,.int .u8 0,.int .u8 0,.int .u8 0,.int .u8 0,.int .u8 0,.int .u8 0,.int .u8 0,.int .u8 0,.int .u8 0,.int .u8 0,.int .u8 0,.int .u8 0,.int .u8 0,.int .u8 0,.int .u8 0,.int .u8 0,.int .u8 0,.int .u8 0] 60)).setCells V.heap.size 0 (ints .u8 32 (ss k)):=⟨_,rfl⟩
   rw [←hV1] at rY bY
   have HV1:=Hid.mk' hV1
   have hno:=hj.2
   have hVs:=hj.1.bel.size
   have hVq:=block_lt_of_cell hj.1.lf
   replace hVq:w.heap.size+5<V.heap.size:=hVq
   unfold sdV
   clear hV1 hit hJ0 hj cd c0 hrt
   gi_wp2_with (first
    | (refine wpListIn_store_rd rfl 60 _ _ rfl V.heap.size 0 (ints .u8 32 (ss k)).toArray rfl rfl ?_ ?_ ?_ ?_;(with_reducible exact hth);exact hiY;exact hoY;rw [List.toList_toArray,←HV1.out];clear HV1 hth))
   refine ⟨bY,fun V2 hbut hsz hJ2 => ?_⟩
   obtain ⟨j2,j5⟩:=hJ2
   have rY2:=rY.but7 hbut (show V.heap.size≠l by omega)
   have rdY:=rY2.range
   have r3:=j2.r3
   have hth3:V2.there (w.heap.size+3) 0 (ints .u8 32 (ss k)).toArray.size:=by have h:=r3.there;rw [ints_len] at h;rw [ints_size];exact h
   clear hbut bY rY rY2
   gi_wp2_with (first
    | (refine wpListIn_load_rd rfl 60 _ rfl V.heap.size 0 rfl (ints .u8 32 (ss k)) _ rdY Tryz.underlying60 rfl hiX ?_;clear rdY)
    | (refine wpListIn_store_rd rfl 60 _ _ rfl (w.heap.size+3) 0 (ints .u8 32 (ss k)).toArray rfl rfl ?_ ?_ ?_ ?_;(with_reducible exact hth3);exact hiY;exact hoY;rw [List.toList_toArray];clear hth3))
   have hbc:=but_cells V2 (w.heap.size+3) 0 (ints .u8 32 (ss k))
   have hV2q:=block_lt_of_cell j2.lf
   replace hV2q:w.heap.size+5<V2.heap.size:=hV2q
   refine ⟨Fro.of_but hbc (fun b hb => .inl (by omega)),M,fun b hb => .inl hb,⟨j2.r0.far _ _ _ (.inl (by omega)),j2.r1.far _ _ _ (.inl (by omega)),?_,hbc.cell j2.pt (by omega),hbc.cell j2.lf (by omega),j2.bel.trans (hbc.below (by omega) (fun b hb=>by omega))⟩,hno⟩
   rw [if_neg (Nat.succ_ne_zero k),Nat.add_sub_cancel]
   exact r3.stored _ (by rw [ints_len,ints_len])
 · intro D M V hD' hDl hDm hj hdf
   have j:=hj.1
   have r3:=j.r3
   rw [if_neg (by have:=hok.pos;omega)] at r3
   have ct:=j.r0.range 1 _ rfl
   have cF:=sdFirst_any (ss (K - 1)) (hXl (K - 1)) t V (hT.still j.bel)
   have rd3:=r3.range
   have hiX:=infoSd (ss (K - 1))
   have hVs:=j.bel.size
   have HVl:=Hid.mk' hDl
   have HVd:=Hid.mk' hdf
   have hwd:w.heap.size+1<D:=by omega
   have hwe:w.heap.size≤D:=by omega
   rw [Nat.zero_add] at ct
   unfold sdV rtV at cF
   obtain ⟨Y,hY⟩:∃ Y,Y=ss (K - 1):=⟨_,rfl⟩
   rw [←hY] at cF rd3 hiX
   obtain ⟨F,hF⟩:∃ F,F=fstS Y t:=⟨_,rfl⟩
   rw [←hF] at cF
   have hiA:=infoRtA 0 F
   have hiR:=infoRt 0 F
   have hoA:=oneRt 0 F
   have hRs:=rt_size 0 F
   have hRl:=rtL_len 0 F
   obtain ⟨RF,hRF⟩:∃ RF,RF=rtL 0 F:=⟨_,rfl⟩
   rw [←hRF] at cF hiA hiR hoA hRs hRl
   have HR:Hid (Ending.returned (.agg RF.toArray) = .returned (rtV 0 (fstS (ss (K - 1)) t))):=Hid.mk' (by rw [hRF,hF,hY];rfl)
   clear hY hF hRF hit hJ0 hj cd c0 hrt r3 hdf hDl hD' hok
   gi_wp2_with (first
    | (refine wpListIn_load_wd rfl 60 _ rfl (w.heap.size+3) 0 rfl (ints .u8 32 Y) _ rd3 Tryz.underlying60 rfl hiX ?_;clear rd3)
    | (refine ⟨trivial,(fun h=>by cases h),?_⟩;gi_at_call 50;refine (callsIn_wide.2 cF).mono ?_;clear cF;rintro e w5 ⟨rfl,hb5⟩;have r5:=j.r1.still hb5;(have hth5:w5.there (w.heap.size+1) 0 RF.toArray.size:=(by have h:=r5.there;rw [rtL_len] at h;rw [hRs];exact h)))
    | (refine wpListIn_store_mid rfl 79 _ _ rfl (w.heap.size+1) 0 RF.toArray rfl rfl ?_ ?_ ?_ ?_;(with_reducible exact hth5);exact hiA;exact hoA;rw [List.toList_toArray]))
   have rq:=r5.stored RF (by rw [rtL_len,hRl])
   have hbc:=but_cells w5 (w.heap.size+1) 0 RF
   have hb5s:=hb5.size
   have hdf7:=(hbc.block D (by have:=HVl.out;omega) (by omega)).trans ((hb5.block D HVl.out).trans HVd.out)
   have hbD:=but_put (w5.setCells (w.heap.size+1) 0 RF) D (.deferred none)
   refine ⟨by simp,.inl ⟨_,_,rfl,run_takeDeferred hdf7,?_⟩⟩
   exact ⟨_,results_cell_mid rfl _ _ (w.heap.size+1) 0 RF _ rfl (fun q v hv=>hbD.cell (rq.range q v hv) (by omega)) Tryz.underlying79 rfl hiR,HR.out,((j.bel.trans (hb5.mono hVs)).trans (hbc.below (by omega) (fun k hk=>by omega))).trans (hbD.below (by rw [(setCells_same _ _ _ _).2.2.2];omega) (fun k hk=>by omega))⟩
 · intro D c M V hD' hDl hDm hj hdf
   exact hj.elim
end Go.Proofs.YtbbikhlbkpjpjaaGreatDoor
namespace Go.Proofs.YtbbikhlbkpjpjaaGreatDoor
open Go.RowKit Go.Shelf
def rcS (g:Nat) (X:Nat→Nat):Nat→(Nat→Nat)
 | 0=>X
 | k+1=>nextS (g+k) (rcS g X k)
theorem rcS_lt (g:Nat) (X:Nat→Nat) (hX:∀ j,X j<256):∀ k j,rcS g X k j<256
 | 0,j=>hX j
 | _+1,j=>rtE_lt _ _ _ _ j
theorem putN (a:Act) (v:Value):a.put none v=a:=rfl
def StOk (S:Rs) (i:Nat) (t:Bool) (g:Nat) (X:Nat→Nat):Prop:=∀ (tb sb rb kb:Nat) (V:World),RsAt V tb sb rb kb S→TabAt V→DbT V→Calls Tryz.prog 43 #[pA tb 0,.agg #[.int .i64 (i:Int),.bool t]] V fun e w'=>e = .returned (rtV g X)∧Below V.heap.size V w'
def celZ (w:World) (b:Nat):Int:=match w.cell? ⟨b,0,none⟩ with
 | some (.int _ z)=>z
 | _=>0
theorem celZ_eq {w:World} {b:Nat} {z:Int} (h:w.cell? ⟨b,0,none⟩=some (.int .i64 z)):celZ w b=z:=by unfold celZ;rw [h]
set_option maxRecDepth 100000 in
set_option maxHeartbeats 4000000 in
theorem rkeys_some (tb sb rb kb:Nat) (S:Rs) (i:Nat) (t:Bool) (G:Nat) (A B:Nat→Nat) (hkp:S.kp (((i:Int),t),(G:Int))=some (A,B)) (w:World) (h:RsAt w tb sb rb kb S) :
 Calls Tryz.prog 30 #[pA tb 0,.agg #[.int .i64 (i:Int),.bool t],.int .i64 (G:Int)] w fun e w'=>e = .returned (kyV A B)∧Below w.heap.size w w':=by
 obtain ⟨W1,hW1⟩:∃ W,W=(w.alloc (.cells #[.int .i64 (i:Int),.bool t] 77)).alloc (.cells #[.int .u8 0,.int .u8 0,.int .u8 0,.int .u8 0,.int .u8 0,.int .u8 0,.int .u8 0,.int .u8 0,.int .u8 0,.int .u8 0,.int .u8 0,.int .u8 0,.int .u8 0,.int .u8 0,.int .u8 0,.int .u8 0,.int .u8 0,.int .u8 0,.int .u8 0,.int .u8 0,.int .u8 0,.int .u8 0,.int .u8 0,.int .u8 0,.int .u8 0,.int .u8 0,.int .u8 0,.int .u8 0] 86):=⟨_,rfl⟩
 have b1:Below w.heap.size w W1:=by rw [hW1];exact ((Below.refl _ _).alloc (Nat.le_refl _) _).alloc (by simp) _
 have k1:RW W1 w.heap.size 0 [.int .i64 (i:Int),.bool t]:=by rw [hW1];exact (RW.fresh w _ _).still ((Below.refl _ _).alloc (Nat.le_refl _) _)
 have k2:RW W1 (w.heap.size+1) 0 (kyL lZ lZ):=by
  have h:=ky_zero (w.alloc (.cells #[.int .i64 (i:Int),.bool t] 77))
  rw [World.size_alloc] at h
  rw [hW1];exact h
 have s1:W1.heap.size=w.heap.size+2:=by rw [hW1];simp
 have hw:=h
 replace h:=h.still b1
 have HW1:=Hid.mk' hW1
 clear hW1
 go_enter Tryz.func30,Tryz.ntmps30
 go_upto_region 1 with (fail)
 rw [←HW1.out]
 clear HW1
 have hdr:Below W1.heap.size W1 W1.drew:=(Below.refl _ _).drew
 replace h:=h.still hdr
 replace k1:=k1.still hdr
 replace k2:=k2.still hdr
 replace b1:=below_next b1 hdr
 clear hdr
 refine wp_region_noPanic ?_
 refine wp_region_held_drew (S:=fun u=>Below W1.drew.heap.size W1.drew u) (by kernel_rfl) (Below.refl _ _) (fun hS => ?_)
 have sV:W1.drew.heap.size=W1.heap.size:=rfl
 generalize W1.drew=V at *
 refine tg 0 hS ?_
 (try simp only [pS])
 refine tg 1 hS ?_
 (try simp only [pS])
 refine tg 2 hS ?_
 (try simp only [pS])
 refine tc 3 hS (fun u hu=>(h.still hu).c3) ?_
 (try simp only [pS])
 refine tl 4 k1 hS 77 Tryz.underlying77 (infoLn (i:Int) t) ?_
 (try simp only [pS])
 refine tg 5 hS ?_
 (try simp only [pS])
 refine tg 6 hS (v:=msV (((i:Int),t),(G:Int))) (hy:=by intro u hu;exact (show (execOp _ _).run Tryz.prog u=_ from by kernel_rfl)) ?_
 (try simp only [pS])
 refine tg 7 hS (v := .tuple #[kyV (S.kp0 (((i:Int),t),(G:Int))).1 (S.kp0 (((i:Int),t),(G:Int))).2,.bool (S.kp (((i:Int),t),(G:Int))).isSome]) (hy:=fun u hu=>run_look _ _ u rfl rfl rfl ((h.still hu).look_ky (((i:Int),t),(G:Int)))) ?_
 (try simp only [pS])
 refine tg 8 hS ?_
 (try simp only [pS])
 refine tg 9 hS ?_
 (try simp only [pS])
 refine tg 10 hS ?_
 (try simp only [pS])
 refine wpAnyH_ready (rs:=[11]) (by kernel_rfl) (by simp) ?_
 refine zA 11 (v:=pA V.heap.size 0) (kyL lZ lZ).toArray 86 ((Below.refl _ _).alloc (Nat.le_refl _) _) ?_ AllReadyH.nil
 have rz:=RW.fresh V (kyL lZ lZ) 86
 have nb:Below V.heap.size V (V.alloc (.cells (kyL lZ lZ).toArray 86)):=(Below.refl _ _).alloc (Nat.le_refl _) _
 have sn:(V.alloc (.cells (kyL lZ lZ).toArray 86)).heap.size=V.heap.size+1:=by simp
 generalize V.alloc (.cells (kyL lZ lZ).toArray 86)=X1 at *
 (try simp only [pS])
 refine wpAnyH_ready (rs:=[12]) (by kernel_rfl) (by simp) ?_
 refine zS 12 86 7 19 (kyL (S.kp0 (((i:Int),t),(G:Int))).1 (S.kp0 (((i:Int),t),(G:Int))).2) rz (by first | rfl | rw [kyL_len,kyL_len] | rw [rtL_len,rtL_len] | rw [ints_len,ints_len]) (infoKyA _ _) (oneKy _ _) (below_setCells (Nat.le_refl _) _ _ _ nb) (fun rx => ?_) AllReadyH.nil
 replace nb:=below_setCells (Nat.le_refl _) (kyL (S.kp0 (((i:Int),t),(G:Int))).1 (S.kp0 (((i:Int),t),(G:Int))).2) 0 _ nb
 have sx:(X1.setCells V.heap.size 0 (kyL (S.kp0 (((i:Int),t),(G:Int))).1 (S.kp0 (((i:Int),t),(G:Int))).2)).heap.size=V.heap.size+1:=(setCells_same _ _ _ _).2.2.2.trans sn
 generalize X1.setCells V.heap.size 0 (kyL (S.kp0 (((i:Int),t),(G:Int))).1 (S.kp0 (((i:Int),t),(G:Int))).2)=X2 at *
 clear rz sn hS
 refine tg 13 nb ?_
 (try simp only [pS])
 refine wpAnyH_done (by kernel_rfl) ?_ _
 replace h:=h.still nb
 replace k1:=k1.still nb
 replace k2:=k2.still nb
 refine NoPanic.normal ?_
 replace b1:=below_next b1 nb
 have e2:V.heap.size=w.heap.size+2:=by rw [sV,s1]
 have s2:X2.heap.size=w.heap.size+3:=by rw [sx,e2]
 rw [e2] at rx ⊢
 clear e2 sx sV s1 nb
 have e0:S.kp0 (((i:Int),t),(G:Int))=(A,B):=by unfold Rs.kp0;rw [hkp];rfl
 rw [e0] at rx
 dsimp only at rx
 have hiR:=infoKy A B
 have hiA:=infoKyA A B
 have hoA:=oneKy A B
 have hth:X2.there (w.heap.size+1) 0 (kyL A B).toArray.size:=by have h:=k2.there;rw [kyL_len] at h;rw [ky_size];exact h
 have rr:=rx.range
 rw [hkp]
 clear e0 hw h k1
 go_wp2_with (first
  | (refine wpList_load_mid rfl 86 _ rfl (w.heap.size+2) 0 rfl (kyL A B) _ rr Tryz.underlying86 rfl hiR ?_;clear rr)
  | (refine wpList_store_mid rfl 86 _ _ rfl (w.heap.size+1) 0 (kyL A B).toArray rfl rfl ?_ ?_ ?_ ?_;(with_reducible exact hth);exact hiA;exact hoA;rw [List.toList_toArray]))
 have rq:=k2.stored (kyL A B) (by rw [kyL_len,kyL_len])
 exact bodyPost_ret (results_cell_mid rfl _ _ (w.heap.size+1) 0 (kyL A B) _ rfl rq.range Tryz.underlying86 rfl hiR) rfl ⟨rfl,below_setCells (by omega) _ 0 _ b1⟩
set_option maxRecDepth 100000 in
set_option maxHeartbeats 4000000 in
theorem rkeys_none (tb sb rb kb:Nat) (S:Rs) (i:Nat) (t:Bool) (G:Nat) (hG:G<4294967296) (hkp:S.kp (((i:Int),t),(G:Int))=none) (g:Nat) (X:Nat→Nat) (hX:∀ j,X j<256) (hgG:g≤G) (hst:StOk S i t g X) (w:World) (h:RsAt w tb sb rb kb S) (hT:TabAt w) (hD:DbT w) :
 Calls Tryz.prog 30 #[pA tb 0,.agg #[.int .i64 (i:Int),.bool t],.int .i64 (G:Int)] w fun e w'=>e = .returned (kyV (keyS G (rcS g X (G - g))) (nonS G (rcS g X (G - g))))∧Below w.heap.size w w':=by
 obtain ⟨W1,hW1⟩:∃ W,W=(w.alloc (.cells #[.int .i64 (i:Int),.bool t] 77)).alloc (.cells #[.int .u8 0,.int .u8 0,.int .u8 0,.int .u8 0,.int .u8 0,.int .u8 0,.int .u8 0,.int .u8 0,.int .u8 0,.int .u8 0,.int .u8 0,.int .u8 0,.int .u8 0,.int .u8 0,.int .u8 0,.int .u8 0,.int .u8 0,.int .u8 0,.int .u8 0,.int .u8 0,.int .u8 0,.int .u8 0,.int .u8 0,.int .u8 0,.int .u8 0,.int .u8 0,.int .u8 0,.int .u8 0] 86):=⟨_,rfl⟩
 have b1:Below w.heap.size w W1:=by rw [hW1];exact ((Below.refl _ _).alloc (Nat.le_refl _) _).alloc (by simp) _
 have k1:RW W1 w.heap.size 0 [.int .i64 (i:Int),.bool t]:=by rw [hW1];exact (RW.fresh w _ _).still ((Below.refl _ _).alloc (Nat.le_refl _) _)
 have k2:RW W1 (w.heap.size+1) 0 (kyL lZ lZ):=by
  have h:=ky_zero (w.alloc (.cells #[.int .i64 (i:Int),.bool t] 77))
  rw [World.size_alloc] at h
  rw [hW1];exact h
 have s1:W1.heap.size=w.heap.size+2:=by rw [hW1];simp
 have hw:=h
 replace h:=h.still b1
 have HW1:=Hid.mk' hW1
 clear hW1
 go_enter Tryz.func30,Tryz.ntmps30
 go_upto_region 1 with (fail)
 rw [←HW1.out]
 clear HW1
 have hdr:Below W1.heap.size W1 W1.drew:=(Below.refl _ _).drew
 replace h:=h.still hdr
 replace k1:=k1.still hdr
 replace k2:=k2.still hdr
 replace b1:=below_next b1 hdr
 clear hdr
 refine wp_region_noPanic ?_
 refine wp_region_held_drew (S:=fun u=>Below W1.drew.heap.size W1.drew u) (by kernel_rfl) (Below.refl _ _) (fun hS => ?_)
 have sV:W1.drew.heap.size=W1.heap.size:=rfl
 generalize W1.drew=V at *
 refine tg 0 hS ?_
 (try simp only [pS])
 refine tg 1 hS ?_
 (try simp only [pS])
 refine tg 2 hS ?_
 (try simp only [pS])
 refine tc 3 hS (fun u hu=>(h.still hu).c3) ?_
 (try simp only [pS])
 refine tl 4 k1 hS 77 Tryz.underlying77 (infoLn (i:Int) t) ?_
 (try simp only [pS])
 refine tg 5 hS ?_
 (try simp only [pS])
 refine tg 6 hS (v:=msV (((i:Int),t),(G:Int))) (hy:=by intro u hu;exact (show (execOp _ _).run Tryz.prog u=_ from by kernel_rfl)) ?_
 (try simp only [pS])
 refine tg 7 hS (v := .tuple #[kyV (S.kp0 (((i:Int),t),(G:Int))).1 (S.kp0 (((i:Int),t),(G:Int))).2,.bool (S.kp (((i:Int),t),(G:Int))).isSome]) (hy:=fun u hu=>run_look _ _ u rfl rfl rfl ((h.still hu).look_ky (((i:Int),t),(G:Int)))) ?_
 (try simp only [pS])
 refine tg 8 hS ?_
 (try simp only [pS])
 refine tg 9 hS ?_
 (try simp only [pS])
 refine tg 10 hS ?_
 (try simp only [pS])
 refine wpAnyH_ready (rs:=[11]) (by kernel_rfl) (by simp) ?_
 refine zA 11 (v:=pA V.heap.size 0) (kyL lZ lZ).toArray 86 ((Below.refl _ _).alloc (Nat.le_refl _) _) ?_ AllReadyH.nil
 have rz:=RW.fresh V (kyL lZ lZ) 86
 have nb:Below V.heap.size V (V.alloc (.cells (kyL lZ lZ).toArray 86)):=(Below.refl _ _).alloc (Nat.le_refl _) _
 have sn:(V.alloc (.cells (kyL lZ lZ).toArray 86)).heap.size=V.heap.size+1:=by simp
 generalize V.alloc (.cells (kyL lZ lZ).toArray 86)=X1 at *
 (try simp only [pS])
 refine wpAnyH_ready (rs:=[12]) (by kernel_rfl) (by simp) ?_
 refine zS 12 86 7 19 (kyL (S.kp0 (((i:Int),t),(G:Int))).1 (S.kp0 (((i:Int),t),(G:Int))).2) rz (by first | rfl | rw [kyL_len,kyL_len] | rw [rtL_len,rtL_len] | rw [ints_len,ints_len]) (infoKyA _ _) (oneKy _ _) (below_setCells (Nat.le_refl _) _ _ _ nb) (fun rx => ?_) AllReadyH.nil
 replace nb:=below_setCells (Nat.le_refl _) (kyL (S.kp0 (((i:Int),t),(G:Int))).1 (S.kp0 (((i:Int),t),(G:Int))).2) 0 _ nb
 have sx:(X1.setCells V.heap.size 0 (kyL (S.kp0 (((i:Int),t),(G:Int))).1 (S.kp0 (((i:Int),t),(G:Int))).2)).heap.size=V.heap.size+1:=(setCells_same _ _ _ _).2.2.2.trans sn
 generalize X1.setCells V.heap.size 0 (kyL (S.kp0 (((i:Int),t),(G:Int))).1 (S.kp0 (((i:Int),t),(G:Int))).2)=X2 at *
 clear rz sn hS
 refine tg 13 nb ?_
 (try simp only [pS])
 refine wpAnyH_done (by kernel_rfl) ?_ _
 replace h:=h.still nb
 replace k1:=k1.still nb
 replace k2:=k2.still nb
 refine NoPanic.normal ?_
 replace b1:=below_next b1 nb
 have e2:V.heap.size=w.heap.size+2:=by rw [sV,s1]
 have s2:X2.heap.size=w.heap.size+3:=by rw [sx,e2]
 rw [e2] at rx ⊢
 clear e2 sx sV s1 nb
 clear rx hw
 rw [hkp]
 have cS:=hst tb sb rb kb X2 h (hT.still b1) (hD.keep b1)
 have r1:=k1.range
 have hiL:=infoLn (i:Int) t
 have hiX:=infoRtA g X
 have hoX:=oneRt g X
 obtain ⟨RX,hRX⟩:∃ RX,RX=rtL g X:=⟨_,rfl⟩
 unfold rtV at cS
 rw [←hRX] at cS hiX hoX
 have HRs:Hid (RX.toArray.size=33):=Hid.mk' (by rw [hRX];exact rt_size g X)
 have HRX:=Hid.mk' hRX
 clear hkp hst h k1 s2 hRX
 go_wp2_with (first
  | (refine wpList_load_mid rfl 77 _ rfl w.heap.size 0 rfl [.int .i64 (i:Int),.bool t] _ r1 Tryz.underlying77 rfl hiL ?_;clear r1)
  | (go_at_call 43;refine cS.mono ?_;clear cS;rintro e w4 ⟨rfl,hb4⟩;have rz4:=rt_zero w4;(have hth4:(w4.alloc (.cells #[.int .i64 0,.int .u8 0,.int .u8 0,.int .u8 0,.int .u8 0,.int .u8 0,.int .u8 0,.int .u8 0,.int .u8 0,.int .u8 0,.int .u8 0,.int .u8 0,.int .u8 0,.int .u8 0,.int .u8 0,.int .u8 0,.int .u8 0,.int .u8 0,.int .u8 0,.int .u8 0,.int .u8 0,.int .u8 0,.int .u8 0,.int .u8 0,.int .u8 0,.int .u8 0,.int .u8 0,.int .u8 0,.int .u8 0,.int .u8 0,.int .u8 0,.int .u8 0,.int .u8 0] 79)).there w4.heap.size 0 RX.toArray.size:=(by have h:=rz4.there;rw [rtL_len] at h;rw [HRs.out];exact h)))
  | (refine wpList_store_mid rfl 79 _ _ rfl w4.heap.size 0 RX.toArray rfl rfl ?_ ?_ ?_ ?_;(with_reducible exact hth4);exact hiX;exact hoX;rw [List.toList_toArray]))
 have rz:=rz4.stored RX (by rw [HRX.out,rtL_len,rtL_len])
 rw [HRX.out] at rz ⊢
 have bz:=below_setCells (B:=w4.heap.size) (b:=w4.heap.size) (Nat.le_refl _) (rtL g X) 0 _ ((Below.refl _ _).alloc (Nat.le_refl _) (.cells #[.int .i64 0,.int .u8 0,.int .u8 0,.int .u8 0,.int .u8 0,.int .u8 0,.int .u8 0,.int .u8 0,.int .u8 0,.int .u8 0,.int .u8 0,.int .u8 0,.int .u8 0,.int .u8 0,.int .u8 0,.int .u8 0,.int .u8 0,.int .u8 0,.int .u8 0,.int .u8 0,.int .u8 0,.int .u8 0,.int .u8 0,.int .u8 0,.int .u8 0,.int .u8 0,.int .u8 0,.int .u8 0,.int .u8 0,.int .u8 0,.int .u8 0,.int .u8 0,.int .u8 0] 79))
 generalize (w4.alloc (.cells #[.int .i64 0,.int .u8 0,.int .u8 0,.int .u8 0,.int .u8 0,.int .u8 0,.int .u8 0,.int .u8 0,.int .u8 0,.int .u8 0,.int .u8 0,.int .u8 0,.int .u8 0,.int .u8 0,.int .u8 0,.int .u8 0,.int .u8 0,.int .u8 0,.int .u8 0,.int .u8 0,.int .u8 0,.int .u8 0,.int .u8 0,.int .u8 0,.int .u8 0,.int .u8 0,.int .u8 0,.int .u8 0,.int .u8 0,.int .u8 0,.int .u8 0,.int .u8 0,.int .u8 0] 79)).setCells w4.heap.size 0 (rtL g X)=X5 at *
 replace b1:=below_next b1 hb4
 replace k2:=k2.still hb4
 replace hT:=hT.still b1
 have hwl:=b1.size
 have hk2l:=k2.lt
 clear HRX HRs hiX hoX hth4 rz4 hD hb4
 rw [putN]
 go_loopw [] (fun wr=>∃ k:Nat,g+k≤G∧RW wr w4.heap.size 0 (rtL (g+k) (rcS g X k))∧Below w4.heap.size w4 wr) (fun wr=>(G - celZ wr w4.heap.size).toNat)
 case atStart=>exact ⟨0,hgG,rz,bz⟩
 case round =>
  clear rz bz
  obtain ⟨k,hk,rk,hb⟩:=hrel
  have ck:=rk.range 0 _ rfl
  rw [Nat.zero_add] at ck
  have hbl:=Hid.mk' hb
  by_cases hlt:g+k<G
  · have hlt':((g+k:Nat):Int)<(G:Int):=by omega
    have cN:=rtNext_any (g+k) (by omega) (rcS g X k) (rcS_lt g X hX k) wr (hT.still hb)
    have hiR:=infoRt (g+k) (rcS g X k)
    have rdk:=rk.range
    have m0:=celZ_eq ck
    have eN:rcS g X (k+1)=nextS (g+k) (rcS g X k):=rfl
    rw [←eN] at cN
    unfold rtV at cN
    have hiA:=infoRtA (g+k+1) (rcS g X (k+1))
    have hoA:=oneRt (g+k+1) (rcS g X (k+1))
    obtain ⟨RN,hRN⟩:∃ RN,RN=rtL (g+k+1) (rcS g X (k+1)):=⟨_,rfl⟩
    rw [←hRN] at cN hiA hoA
    have HRN:=Hid.mk' hRN
    have HRl:Hid (RN.toArray.size=33):=Hid.mk' (by rw [hRN];exact rt_size _ _)
    obtain ⟨RK,hRK⟩:∃ RK,RK=rtL (g+k) (rcS g X k):=⟨_,rfl⟩
    rw [←hRK] at cN hiR rdk
    have HRk:Hid (RK.length=33):=Hid.mk' (by rw [hRK];exact rtL_len _ _)
    rw [←hRK] at rk
    have HM:=Hid.mk' m0
    clear hRN hRK eN m0
    go_wp2_with (first
     | (refine wpList_load_mid rfl 79 _ rfl w4.heap.size 0 rfl RK _ rdk Tryz.underlying79 rfl hiR ?_;clear rdk)
     | (go_at_call 44;refine cN.mono ?_;clear cN;rintro e w6 ⟨rfl,hb6⟩;have rk6:=rk.still hb6;(have hth6:w6.there w4.heap.size 0 RN.toArray.size:=(by have h:=rk6.there;rw [HRk.out] at h;rw [HRl.out];exact h)))
     | (refine wpList_store_mid rfl 79 _ _ rfl w4.heap.size 0 RN.toArray rfl rfl ?_ ?_ ?_ ?_;(with_reducible exact hth6);exact hiA;exact hoA;rw [List.toList_toArray]))
    have rq:=rk6.stored RN (by rw [HRN.out,rtL_len,HRk.out])
    rw [HRN.out] at rq ⊢
    have cq:=rq.range 0 _ rfl
    rw [Nat.zero_add] at cq
    rw [putN]
    go_roundw
    case rel=>exact ⟨k+1,by omega,rq,below_setCells (Nat.le_refl _) _ 0 _ (hb.trans (hb6.mono hb.size))⟩
    case measure =>
     rw [celZ_eq cq,HM.out]
     omega
  · obtain ⟨n,hn⟩:∃ n,n=G - g:=⟨_,rfl⟩
    have ek:k=n:=by omega
    have eg:g+k=G:=by omega
    rw [eg,ek] at rk
    rw [eg] at ck
    have hlt':¬((G:Nat):Int)<(G:Int):=by omega
    have cK:=rtKeys_any G hG (rcS g X n) (rcS_lt g X hX n) wr (hT.still hb)
    have hiR:=infoRt G (rcS g X n)
    have rdk:=rk.range
    unfold rtV at cK
    obtain ⟨RK,hRK⟩:∃ RK,RK=rtL G (rcS g X n):=⟨_,rfl⟩
    rw [←hRK] at cK hiR rdk
    have hiQ:=infoKy (keyS G (rcS g X n)) (nonS G (rcS g X n))
    have hiA:=infoKyA (keyS G (rcS g X n)) (nonS G (rcS g X n))
    have hoA:=oneKy (keyS G (rcS g X n)) (nonS G (rcS g X n))
    unfold kyV at cK
    obtain ⟨KK,hKK⟩:∃ KK,KK=kyL (keyS G (rcS g X n)) (nonS G (rcS g X n)):=⟨_,rfl⟩
    rw [←hKK] at cK hiA hoA hiQ
    have HKl:Hid (KK.length=28):=Hid.mk' (by rw [hKK];exact kyL_len _ _)
    have HKa:Hid (KK.toArray.size=28):=Hid.mk' (by rw [hKK];exact ky_size _ _)
    have HE:Hid (Ending.returned (.agg KK.toArray) = .returned (kyV (keyS G (rcS g X (G - g))) (nonS G (rcS g X (G - g))))):=Hid.mk' (by rw [hKK,hn];rfl)
    replace k2:=k2.still hb
    clear hRK hKK ek eg hn hk rk hbl
    go_wp2_with (first
     | (refine wpList_load_mid rfl 79 _ rfl w4.heap.size 0 rfl RK _ rdk Tryz.underlying79 rfl hiR ?_;clear rdk)
     | (go_at_call 45;(refine cK.mono ?_;clear cK;rintro e w6 ⟨rfl,hb6⟩;have k6:=k2.still hb6;(have hth6:w6.there (w.heap.size+1) 0 KK.toArray.size:=(by have h:=k6.there;rw [kyL_len] at h;rw [HKa.out];exact h))))
     | (refine wpList_store_mid rfl 86 _ _ rfl (w.heap.size+1) 0 KK.toArray rfl rfl ?_ ?_ ?_ ?_;(with_reducible exact hth6);exact hiA;exact hoA;rw [List.toList_toArray]))
    have rq:=k6.stored KK (by rw [HKl.out,kyL_len])
    exact bodyPost_ret (results_cell_mid rfl _ _ (w.heap.size+1) 0 KK _ rfl rq.range Tryz.underlying86 rfl hiQ) rfl ⟨HE.out,below_setCells (by omega) _ 0 _ ((b1.trans (hb.mono hwl)).trans (hb6.mono (by have:=hb.size;omega)))⟩
end Go.Proofs.YtbbikhlbkpjpjaaGreatDoor
