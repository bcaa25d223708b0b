/- Package ratchet: a leaf is opened. -/
import Derived.Test.YtbbikhlbkpjpjaaGreatDoorR7NM
namespace Go.Proofs.YtbbikhlbkpjpjaaGreatDoor
open Go.RowKit Go.Shelf
attribute [local go_sem] Oper.semAt_some
structure OpJ (w:World) (tb sb rb kb:Nat) (S:Rs) (i:Nat) (ss:Nat→Nat→Nat) (f:Int→Option (Nat→Nat)) (k:Nat) (W:World):Prop where
 rs:RsAt W tb sb rb kb { S with sd:=f }
 bt:But (fun b=>b=sb) w W
 r0:W.cell? ⟨w.heap.size,0,none⟩=some (pA tb 0)
 la:RW W (w.heap.size+2) 0 (ints .u8 32 (if k=0 then lZ else ss (k - 1)))
 pt:W.cell? ⟨w.heap.size+3,0,none⟩=some (pA tb 0)
 lf:W.cell? ⟨w.heap.size+4,0,none⟩=some (.int .i64 (i:Int))
 q:tb<w.heap.size∧sb<w.heap.size∧rb<w.heap.size∧kb<w.heap.size
theorem OpJ.loc {w:World} {tb sb rb kb:Nat} {S:Rs} {i:Nat} {ss:Nat→Nat→Nat} {f:Int→Option (Nat→Nat)} {k:Nat} {W W':World} {B:Nat} {M:Nat→Prop} (h:OpJ w tb sb rb kb S i ss f k W) (hL:Loc B M W W') (hB:w.heap.size+5≤B):OpJ w tb sb rb kb S i ss f k W':=by
 obtain ⟨q1,q2,q3,q4⟩:=h.q
 exact ⟨h.rs.loc hL ⟨by omega,by omega,by omega,by omega⟩,h.bt.loc hL (by omega),hL.cell h.r0 (.inl (by omega)),hL.rw h.la (.inl (by omega)),hL.cell h.pt (.inl (by omega)),hL.cell h.lf (.inl (by omega)),h.q⟩
theorem OpJ.sz {w:World} {tb sb rb kb:Nat} {S:Rs} {i:Nat} {ss:Nat→Nat→Nat} {f:Int→Option (Nat→Nat)} {k:Nat} {W:World} (h:OpJ w tb sb rb kb S i ss f k W):w.heap.size+5≤W.heap.size:=by
 have e:=block_lt_of_cell h.lf
 exact e
theorem OpJ.still {w:World} {tb sb rb kb:Nat} {S:Rs} {i:Nat} {ss:Nat→Nat→Nat} {f:Int→Option (Nat→Nat)} {k:Nat} {W W':World} (h:OpJ w tb sb rb kb S i ss f k W) (hb:Below W.heap.size W W'):OpJ w tb sb rb kb S i ss f k W':=h.loc (M:=fun _=>False) (Loc.of_below hb) h.sz
theorem OpJ.sd {w:World} {tb sb rb kb:Nat} {S:Rs} {i:Nat} {ss:Nat→Nat→Nat} {f g:Int→Option (Nat→Nat)} {k:Nat} {W W':World} (h:OpJ w tb sb rb kb S i ss f k W) (hr:RsAt W' tb sb rb kb { S with sd:=g }) (hb:But (fun b=>b=sb) W W'):OpJ w tb sb rb kb S i ss g k W':=by
 have hq:=h.q.2.1
 exact ⟨hr,h.bt.trans hb,hb.cell h.r0 (by omega),h.la.but7 hb (by omega),hb.cell h.pt (by omega),hb.cell h.lf (by omega),h.q⟩
structure OqJ (w:World) (tb sb rb kb:Nat) (S:Rs) (i:Nat) (f:Int→Option (Nat→Nat)) (Y:Nat→Nat) (D z:Nat) (k:Nat) (W:World):Prop where
 rs:RsAt W tb sb rb kb { S with sd:=f,rt:=opT S.rt i Y k }
 bt:But (fun b=>b=sb∨b=rb) w W
 r0:W.cell? ⟨w.heap.size,0,none⟩=some (pA tb 0)
 la:RW W (w.heap.size+2) 0 (ints .u8 32 Y)
 ar:RW W z 0 [.bool true,.bool false]
 df:W.heap[D]? = some (.deferred (some []))
 q:rb<w.heap.size∧w.heap.size≤D∧w.heap.size≤z
theorem OqJ.still {w:World} {tb sb rb kb:Nat} {S:Rs} {i:Nat} {f:Int→Option (Nat→Nat)} {Y:Nat→Nat} {D z:Nat} {k:Nat} {W W':World} (h:OqJ w tb sb rb kb S i f Y D z k W) (hb:Below W.heap.size W W'):OqJ w tb sb rb kb S i f Y D z k W' :=
 ⟨h.rs.still hb,h.bt.trans (But.ofB hb),(hb.cell (p:=⟨w.heap.size,0,none⟩) (block_lt_of_cell h.r0)).trans h.r0,h.la.still hb,h.ar.still hb,(hb.block D (Array.getElem?_eq_some_iff.1 h.df).1).trans h.df,h.q⟩
theorem OqJ.next {w:World} {tb sb rb kb:Nat} {S:Rs} {i:Nat} {f:Int→Option (Nat→Nat)} {Y:Nat→Nat} {D z:Nat} {k:Nat} {W W':World} (h:OqJ w tb sb rb kb S i f Y D z k W) (hr:RsAt W' tb sb rb kb { S with sd:=f,rt:=opT S.rt i Y (k+1) }) (hb:But (fun b=>b=rb) W W'):OqJ w tb sb rb kb S i f Y D z (k+1) W':=by
 obtain ⟨q1,q2,q3⟩:=h.q
 exact ⟨hr,h.bt.trans (hb.mono (fun _ e => .inr e)),hb.cell h.r0 (by omega),h.la.but7 hb (by omega),h.ar.but7 hb (by omega),(hb.block D (Array.getElem?_eq_some_iff.1 h.df).1 (by omega)).trans h.df,h.q⟩
set_option maxRecDepth 100000 in
set_option maxHeartbeats 4000000 in
theorem ropen_old (tb sb rb kb:Nat) (S:Rs) (i:Nat) (g:Nat) (X:Nat→Nat) (hrt:S.rt ((i:Int),true)=some (g,X)) (w:World) (h:RsAt w tb sb rb kb S) :
 Calls Tryz.prog 46 #[pA tb 0,.int .i64 (i:Int)] w fun e w'=>(∃ v,e = .returned v)∧Below w.heap.size w w':=by
 obtain ⟨W1,hW1⟩:∃ W,W=w.alloc (.cells #[pA tb 0] 24):=⟨_,rfl⟩
 have b1:Below w.heap.size w W1:=by rw [hW1];exact (Below.refl _ _).alloc (Nat.le_refl _) _
 have k1:RW W1 w.heap.size 0 [pA tb 0]:=by rw [hW1];exact RW.fresh w _ _
 have s1:W1.heap.size=w.heap.size+1:=by rw [hW1];simp
 have h1:=h.still b1
 have hlk:=h1.look_rt ((i:Int),true) true
 unfold Rs.rt0 at hlk
 rw [hrt] at hlk
 simp only [Option.getD_some,Option.isSome_some,if_true] at hlk
 have cr:=k1.range 0 _ rfl
 rw [Nat.zero_add] at cr
 have c2:=h1.c2
 have hiA:=infoRtA g X
 have hoA:=oneRt g X
 have rz:=rt_zero W1
 have hth:(W1.alloc (.cells #[.int .i64 0,.int .u8 0,.int .u8 0,.int .u8 0,.int .u8 0,.int .u8 0,.int .u8 0,.int .u8 0,.int .u8 0,.int .u8 0,.int .u8 0,.int .u8 0,.int .u8 0,.int .u8 0,.int .u8 0,.int .u8 0,.int .u8 0,.int .u8 0,.int .u8 0,.int .u8 0,.int .u8 0,.int .u8 0,.int .u8 0,.int .u8 0,.int .u8 0,.int .u8 0,.int .u8 0,.int .u8 0,.int .u8 0,.int .u8 0,.int .u8 0,.int .u8 0,.int .u8 0] 79)).there W1.heap.size 0 (rtL g X).toArray.size:=by have h:=rz.there;rw [rtL_len] at h;rw [rt_size];exact h
 obtain ⟨RX,hRX⟩:∃ RX,RX=rtL g X:=⟨_,rfl⟩
 unfold rtV lnV at hlk
 rw [←hRX] at hlk hiA hoA hth
 rw [s1] at hth
 obtain ⟨W2,hW2⟩:∃ W,W=(W1.alloc (.cells #[.int .i64 0,.int .u8 0,.int .u8 0,.int .u8 0,.int .u8 0,.int .u8 0,.int .u8 0,.int .u8 0,.int .u8 0,.int .u8 0,.int .u8 0,.int .u8 0,.int .u8 0,.int .u8 0,.int .u8 0,.int .u8 0,.int .u8 0,.int .u8 0,.int .u8 0,.int .u8 0,.int .u8 0,.int .u8 0,.int .u8 0,.int .u8 0,.int .u8 0,.int .u8 0,.int .u8 0,.int .u8 0,.int .u8 0,.int .u8 0,.int .u8 0,.int .u8 0,.int .u8 0] 79)).setCells (w.heap.size+1) 0 RX:=⟨_,rfl⟩
 have b2:Below W1.heap.size W1 W2:=by rw [hW2,←s1];exact below_setCells (Nat.le_refl _) _ _ _ ((Below.refl _ _).alloc (Nat.le_refl _) _)
 have s2:W2.heap.size=w.heap.size+2:=by rw [hW2,(setCells_same _ _ _ _).2.2.2];simp;omega
 have HW1:=Hid.mk' hW1
 have HW2:=Hid.mk' hW2
 clear hW1 hW2 hRX hrt
 obtain ⟨nn,-⟩:∃ nn:Nat,True:=⟨1,trivial⟩
 refine (callsIn_wide (n:=nn)).1 ?_
 refine callsIn_of_wp_marks Tryz.func46 rfl trivial ?_ rfl
 simp only [Tryz.ntmps46,List.size_toArray,List.length_cons,List.length_nil,Nat.reduceAdd,Nat.reduceSub,Array.replicate_succ,Array.replicate_zero,List.push_toArray,List.append_toArray,List.nil_append,List.cons_append]
 gi_wp2_with (first
  | (rw [←HW1.out];clear HW1)
  | (refine wpListIn_store_mid rfl 79 _ _ rfl (w.heap.size+1) 0 RX.toArray rfl rfl ?_ ?_ ?_ ?_;(with_reducible exact hth);exact hiA;exact hoA;rw [List.toList_toArray,←HW2.out];clear HW2 hth hiA hoA))
 exact ⟨_,results_none rfl _ _ _,⟨_,rfl⟩,below_next b1 b2⟩
set_option maxRecDepth 100000 in
set_option maxHeartbeats 4000000 in
theorem ropen_new (tb sb rb kb:Nat) (S:Rs) (i:Nat) (hrt:S.rt ((i:Int),true)=none) (K:Nat) (xs:Nat→Nat) (ss:Nat→Nat→Nat) (hok:DnOk S i K xs ss) (w:World) (h:RsAt w tb sb rb kb S) (hT:TabAt w) (hD:DbT w) :
 Calls Tryz.prog 46 #[pA tb 0,.int .i64 (i:Int)] w fun e w'=>(∃ v,e = .returned v)∧RsAt w' tb sb rb kb { S with sd:=opS S.sd xs ss K,rt:=opT S.rt i (ss (K - 1)) 2 }∧But (fun b=>b=sb∨b=rb) w w':=by
 have hq:tb<w.heap.size∧sb<w.heap.size∧rb<w.heap.size∧kb<w.heap.size:=⟨h.lt,h.ms.lt,h.mr.lt,h.mq.lt⟩
 have hmS:∀ b,b=sb→∀ o,w.cell? ⟨b,o,none⟩=none:=fun b e o=>by rw [e];exact h.ms.nocell o
 have hmR:∀ o,w.cell? ⟨rb,o,none⟩=none:=fun o=>h.mr.nocell o
 have hXl:=hok.lt
 obtain ⟨W1,hW1⟩:∃ W,W=w.alloc (.cells #[pA tb 0] 24):=⟨_,rfl⟩
 have b1:Below w.heap.size w W1:=by rw [hW1];exact (Below.refl _ _).alloc (Nat.le_refl _) _
 have k1:RW W1 w.heap.size 0 [pA tb 0]:=by rw [hW1];exact RW.fresh w _ _
 have s1:W1.heap.size=w.heap.size+1:=by rw [hW1];simp
 have h1:=h.still b1
 have hlk:=h1.look_rt ((i:Int),true) true
 unfold Rs.rt0 at hlk
 rw [hrt] at hlk
 simp only [Option.getD_none,Option.isSome_none,if_true] at hlk
 have cr:=k1.range 0 _ rfl
 rw [Nat.zero_add] at cr
 have c2:=h1.c2
 have hiA:=infoRtA 0 lZ
 have hoA:=oneRt 0 lZ
 have rz:=rt_zero W1
 have hth:(W1.alloc (.cells #[.int .i64 0,.int .u8 0,.int .u8 0,.int .u8 0,.int .u8 0,.int .u8 0,.int .u8 0,.int .u8 0,.int .u8 0,.int .u8 0,.int .u8 0,.int .u8 0,.int .u8 0,.int .u8 0,.int .u8 0,.int .u8 0,.int .u8 0,.int .u8 0,.int .u8 0,.int .u8 0,.int .u8 0,.int .u8 0,.int .u8 0,.int .u8 0,.int .u8 0,.int .u8 0,.int .u8 0,.int .u8 0,.int .u8 0,.int .u8 0,.int .u8 0,.int .u8 0,.int .u8 0] 79)).there W1.heap.size 0 (rtL 0 lZ).toArray.size:=by have h:=rz.there;rw [rtL_len] at h;rw [rt_size];exact h
 obtain ⟨RX,hRX⟩:∃ RX,RX=rtL 0 lZ:=⟨_,rfl⟩
 unfold rtV lnV at hlk
 rw [←hRX] at hlk hiA hoA hth
 rw [s1] at hth
 obtain ⟨W2,hW2⟩:∃ W,W=(W1.alloc (.cells #[.int .i64 0,.int .u8 0,.int .u8 0,.int .u8 0,.int .u8 0,.int .u8 0,.int .u8 0,.int .u8 0,.int .u8 0,.int .u8 0,.int .u8 0,.int .u8 0,.int .u8 0,.int .u8 0,.int .u8 0,.int .u8 0,.int .u8 0,.int .u8 0,.int .u8 0,.int .u8 0,.int .u8 0,.int .u8 0,.int .u8 0,.int .u8 0,.int .u8 0,.int .u8 0,.int .u8 0,.int .u8 0,.int .u8 0,.int .u8 0,.int .u8 0,.int .u8 0,.int .u8 0] 79)).setCells (w.heap.size+1) 0 RX:=⟨_,rfl⟩
 have b2:Below W1.heap.size W1 W2:=by rw [hW2,←s1];exact below_setCells (Nat.le_refl _) _ _ _ ((Below.refl _ _).alloc (Nat.le_refl _) _)
 have s2:W2.heap.size=w.heap.size+2:=by rw [hW2,(setCells_same _ _ _ _).2.2.2];simp;omega
 have HW1:=Hid.mk' hW1
 have HW2:=Hid.mk' hW2
 clear hW1 hW2 hRX hrt
 obtain ⟨nn,-⟩:∃ nn:Nat,True:=⟨1,trivial⟩
 refine (callsIn_wide (n:=nn)).1 ?_
 refine callsIn_of_wp_marks Tryz.func46 rfl trivial ?_ rfl
 simp only [Tryz.ntmps46,List.size_toArray,List.length_cons,List.length_nil,Nat.reduceAdd,Nat.reduceSub,Array.replicate_succ,Array.replicate_zero,List.push_toArray,List.append_toArray,List.nil_append,List.cons_append]
 have h2:=h1.still b2
 have k2:=k1.still b2
 have cr2:=k2.range 0 _ rfl
 rw [Nat.zero_add] at cr2
 obtain ⟨X3,hX3⟩:∃ W,W=W2.alloc (.cells #[.int .u8 0,.int .u8 0,.int .u8 0,.int .u8 0,.int .u8 0,.int .u8 0,.int .u8 0,.int .u8 0,.int .u8 0,.int .u8 0,.int .u8 0,.int .u8 0,.int .u8 0,.int .u8 0,.int .u8 0,.int .u8 0,.int .u8 0,.int .u8 0,.int .u8 0,.int .u8 0,.int .u8 0,.int .u8 0,.int .u8 0,.int .u8 0,.int .u8 0,.int .u8 0,.int .u8 0,.int .u8 0,.int .u8 0,.int .u8 0,.int .u8 0,.int .u8 0] 60):=⟨_,rfl⟩
 have b3:Below W2.heap.size W2 X3:=by rw [hX3];exact (Below.refl _ _).alloc (Nat.le_refl _) _
 have k3:RW X3 (w.heap.size+2) 0 (ints .u8 32 lZ):=by
  have e:=sd_zero W2
  rw [s2] at e
  rw [hX3];exact e
 have s3:X3.heap.size=w.heap.size+3:=by rw [hX3];simp;omega
 replace k2:=k2.still b3
 have cr3:=k2.range 0 _ rfl
 rw [Nat.zero_add] at cr3
 have bw3:=below_next (below_next b1 b2) b3
 have cD:=down_any tb (i:Int) X3
 obtain ⟨X4,hX4⟩:∃ W,W=(X3.alloc (.cells #[pA tb 0] 24)).alloc (.cells #[.int .i64 (i:Int)] 3):=⟨_,rfl⟩
 rw [←hX4,s3] at cD
 have b4:Below X3.heap.size X3 X4:=by rw [hX4];exact ((Below.refl _ _).alloc (Nat.le_refl _) _).alloc (by simp) _
 have s4:X4.heap.size=w.heap.size+5:=by rw [hX4];simp;omega
 have hJ0:OpJ w tb sb rb kb S i ss S.sd 0 X4:=by
  refine ⟨(h.still (below_next bw3 b4)),But.ofB (below_next bw3 b4),?_,k3.still b4,?_,?_,hq⟩
  · exact (b4.cell (p:=⟨w.heap.size,0,none⟩) (by show w.heap.size<_;omega)).trans cr3
  · have h:=(RW.fresh X3 [pA tb 0] 24).still ((Below.refl _ _).alloc (Nat.le_refl _) (.cells #[.int .i64 (i:Int)] 3))
    rw [s3] at h
    rw [hX4]
    exact h.range 0 _ rfl
  · have h:=RW.fresh (X3.alloc (.cells #[pA tb 0] 24)) [.int .i64 (i:Int)] 3
    rw [World.size_alloc,s3] at h
    rw [hX4]
    exact h.range 0 _ rfl
 have hit:=down_it (w.heap.size+3) (w.heap.size+4) tb S i K xs ss hok
 have HX3:=Hid.mk' hX3
 clear hX3 hX4 b3 b4 k2 k3 s3 h1 h2 b2
 gi_wp2_with (first
  | (rw [←HW1.out];clear HW1)
  | (refine wpListIn_store_mid rfl 79 _ _ rfl (w.heap.size+1) 0 RX.toArray rfl rfl ?_ ?_ ?_ ?_;(with_reducible exact hth);exact hiA;exact hoA;rw [List.toList_toArray,←HW2.out];clear HW2 hth hiA hoA)
  | (rw [←HX3.out];clear HX3)
  | (refine ⟨trivial,(fun h=>by cases h),?_⟩;gi_at_call 49;refine (callsIn_wide.2 cD).mono ?_;clear cD;rintro e w1 ⟨rfl,rfl⟩))
 have hB5:w.heap.size+5≤w1.heap.size:=by omega
 refine range_itH hit rfl (enters_of Tryz.func59 (by kernel_rfl) rfl)
  (fun k M' V'=>OpJ w tb sb rb kb S i ss (opS S.sd xs ss k) k V'∧∀ b,¬M' b) (fun _ _ _=>False) (fun _=>False) ?_ ?_ ?_ ?_ ?_ (fun b hb=>hb.elim) ?_ ?_ ?_ ?_
 · rintro k M V V' ⟨h1,h2⟩ hL
   exact ⟨h1.loc hL hB5,h2⟩
 · rintro c M V V' h hL;exact h
 · rintro k M V hk ⟨h1,-⟩
   exact ⟨h1.pt,h1.lf,hT.but h1.bt hmS,hD.but h1.bt hmS,fun e=>by subst e;exact ⟨sb,rb,kb,h1.rs⟩⟩
 · intro k M V _ h;cases h
 · intro k a' h;cases h;rfl
 · intro V hb
   exact ⟨hJ0.loc (M:=fun _=>False) (Loc.of_below hb) hB5,fun _ h=>h⟩
 · intro k M V l a' hk ha hj hl1 hl2 hl3
   cases ha
   have hiY:=infoSdA (ss k)
   have hiX:=infoSd (ss k)
   have hoY:=oneU7 32 (ss k)
   have hth:=sd_there V (ss k)
   have rY:=(sd_zero V).stored (ints .u8 32 (ss k)) (by rw [ints_len,ints_len])
   have bY:=sd_next V (ss k)
   obtain ⟨V1,hV1⟩:∃ W,W=(V.alloc (.cells #[.int .u8 0,.int .u8 0,.int .u8 0,.int .u8 0,.int .u8 0,.int .u8 0,.int .u8 0,.int .u8 0,.int .u8 0,.int .u8 0,.int .u8 0,.int .u8 0,.int .u8 0,.int .u8 0,.int .u8 0,.int .u8 0,.int .u8 0,.int .u8 0,.int .u8 0,.int .u8 0,.int .u8 0,.int .u8 0,.int .u8 0,.int .u8 0,.int .u8 0,.int .u8 0,.int .u8 0,.int .u8 0,.int .u8 0,.int .u8 0,.int .u8 0,.int .u8 0] 60)).setCells V.heap.size 0 (ints .u8 32 (ss k)):=⟨_,rfl⟩
   rw [←hV1] at rY bY
   have HV1:=Hid.mk' hV1
   have hno:=hj.2
   have hVs:=hj.1.sz
   unfold sdV
   clear hV1 hit hJ0 hj
   gi_wp2_with (first
    | (refine wpListIn_store_rd rfl 60 _ _ rfl V.heap.size 0 (ints .u8 32 (ss k)).toArray rfl rfl ?_ ?_ ?_ ?_;(with_reducible exact hth);exact hiY;exact hoY;rw [List.toList_toArray,←HV1.out];clear HV1 hth))
   refine ⟨bY,fun V2 hbut hsz hrec hJ2 => ?_⟩
   obtain ⟨j2,j5⟩:=hJ2
   have rY2:=rY.but7 hbut (show V.heap.size≠l by omega)
   clear hbut bY rY
   obtain ⟨ro,hrec⟩:=hrec
   obtain ⟨V3,hdel,hr3,hb3,hs3⟩:=j2.rs.del_sd (xs k:Int) 0
   have j3:=j2.sd hr3 hb3
   have rY3:=rY2.but7 hb3 (by omega)
   have hrec3:=(hb3.block l (Array.getElem?_eq_some_iff.1 hrec).1 (by omega)).trans hrec
   have cH:=halves_any (xs k:Int) (ss k) V3
   obtain ⟨V4,hV4⟩:∃ W,W=(V3.alloc (.cells #[.int .i64 (xs k:Int)] 3)).alloc (.cells (ints .u8 32 (ss k)).toArray 60):=⟨_,rfl⟩
   rw [←hV4] at cH
   have b4:Below V3.heap.size V3 V4:=by rw [hV4];exact ((Below.refl _ _).alloc (Nat.le_refl _) _).alloc (by simp) _
   have s4:V4.heap.size=V3.heap.size+2:=by rw [hV4];simp
   have j4:=j3.still b4
   have rY4:=rY3.still b4
   have hrec4:=(b4.block l (Array.getElem?_eq_some_iff.1 hrec3).1).trans hrec3
   have hp1:V4.cell? ⟨V3.heap.size,0,none⟩=some (.int .i64 (xs k:Int)):=by
    have h:=(RW.fresh V3 [.int .i64 (xs k:Int)] 3).still ((Below.refl _ _).alloc (Nat.le_refl _) (.cells (ints .u8 32 (ss k)).toArray 60))
    rw [hV4]
    exact h.range 0 _ rfl
   have hp2:RW V4 (V3.heap.size+1) 0 (ints .u8 32 (ss k)):=by
    have h:=RW.fresh (V3.alloc (.cells #[.int .i64 (xs k:Int)] 3)) (ints .u8 32 (ss k)) 60
    rw [World.size_alloc] at h
    rw [hV4]
    exact h
   have rd3:=rY3.range
   have cr:=j2.r0
   have c1:=j2.rs.c1
   have hit2:=halves_all V3.heap.size (V3.heap.size+1) (xs k) (ss k) (hXl k)
   unfold sdV at cH
   have HB4:=Hid.mk' b4
   have HS3:=Hid.mk' hs3
   have HSZ:=Hid.mk' hsz
   have HS4:=Hid.mk' s4
   clear hV4 rY2 rY3 b4 hs3 hsz s4
   gi_wp2_with (first
    | (refine wpListIn_run_rd rfl (fun c e=>by cases e) (.tuple #[]) (ex_del7 #[47,3] (.tmp 32) (.tmp 33) rfl rfl rfl hdel) ?_;clear hdel)
    | (refine wpListIn_load_rd rfl 60 _ rfl V.heap.size 0 rfl (ints .u8 32 (ss k)) _ rd3 Tryz.underlying60 rfl hiX ?_;clear rd3)
    | (refine ⟨trivial,rfl,?_⟩;gi_at_call 52;refine (callsIn_wide.2 cH).mono ?_;clear cH;rintro e w3 ⟨rfl,rfl⟩))
   have hB2:w.heap.size+5≤w3.heap.size:=j4.sz
   have hs3:=HS3.out
   have hsz:=HSZ.out
   have s4:=HS4.out
   refine range_in hit2 hrec4 rfl (enters_of Tryz.func63 (by kernel_rfl) rfl)
    (fun m M' U=>OpJ w tb sb rb kb S i ss (opH (opS S.sd xs ss k) (xs k) (ss k) m) k U∧But (fun b=>b=sb) V2 U∧RW U V.heap.size 0 (ints .u8 32 (ss k))∧HasH V3.heap.size (V3.heap.size+1) (xs k:Int) (ss k) U∧∀ b,¬M' b) (fun _ _ _=>False) (fun _=>False) ?_ ?_ ?_ ?_ ?_ (fun b hb=>hb.elim) ?_ ?_ ?_ ?_
   · rintro m M' U U' ⟨g1,g2,g3,g4,g5⟩ hL
     have j':=g1.loc hL hB2
     have:=rY4.lt
     refine ⟨j',g2.loc hL (by omega),hL.rw g3 (.inl (by omega)),⟨hL.cell g4.bx (.inl (by omega)),fun q v hv=>hL.cell (g4.sd q v hv) (.inl (by omega)),hT.but j'.bt hmS,hD.but j'.bt hmS⟩,g5⟩
   · rintro c M' U U' h hL;exact h
   · rintro m M' U hm ⟨-,-,-,g4,-⟩;exact g4
   · intro m M' U _ h;cases h
   · intro m a' h;cases h;rfl
   · intro U hb
     have j':=j4.loc (M:=fun _=>False) (Loc.of_below hb) hB2
     exact ⟨j',(hb3.on (But.ofB (bad:=fun _=>False) (show Below V3.heap.size V3 w3 from HB4.out)) (fun _ _ h=>h.elim)).on (But.ofB (bad:=fun _=>False) hb) (fun _ _ h=>h.elim),rY4.still hb,⟨(hb.cell (p:=⟨V3.heap.size,0,none⟩) (block_lt_of_cell hp1)).trans hp1,(hp2.still hb).range,hT.but j'.bt hmS,hD.but j'.bt hmS⟩,fun _ h=>h⟩
   · intro m M' U l' a' hm ha hj hl1' hl2' hl3'
     cases ha
     have hiY2:=infoSdA (hfS (ss k) m)
     have hoY2:=oneU7 32 (hfS (ss k) m)
     have hth2:=sd_there U (hfS (ss k) m)
     have rU:=(sd_zero U).stored (ints .u8 32 (hfS (ss k) m)) (by rw [ints_len,ints_len])
     have bU:=sd_next U (hfS (ss k) m)
     obtain ⟨U1,hU1⟩:∃ W,W=(U.alloc (.cells #[.int .u8 0,.int .u8 0,.int .u8 0,.int .u8 0,.int .u8 0,.int .u8 0,.int .u8 0,.int .u8 0,.int .u8 0,.int .u8 0,.int .u8 0,.int .u8 0,.int .u8 0,.int .u8 0,.int .u8 0,.int .u8 0,.int .u8 0,.int .u8 0,.int .u8 0,.int .u8 0,.int .u8 0,.int .u8 0,.int .u8 0,.int .u8 0,.int .u8 0,.int .u8 0,.int .u8 0,.int .u8 0,.int .u8 0,.int .u8 0,.int .u8 0,.int .u8 0] 60)).setCells U.heap.size 0 (ints .u8 32 (hfS (ss k) m)):=⟨_,rfl⟩
     rw [←hU1] at rU bU
     have HU1:=Hid.mk' hU1
     unfold sdV
     clear hU1 hj
     gi_wp2_with (first
      | (refine wpListIn_store_rd rfl 60 _ _ rfl U.heap.size 0 (ints .u8 32 (hfS (ss k) m)).toArray rfl rfl ?_ ?_ ?_ ?_;(with_reducible exact hth2);exact hiY2;exact hoY2;rw [List.toList_toArray,←HU1.out];clear HU1 hth2))
     refine ⟨bU,fun U2 hbut2 hsz2 hJU => ?_⟩
     obtain ⟨g1,g2,g3,g4,g5⟩:=hJU
     have rU2:=rU.but7 hbut2 (show U.heap.size≠l' by omega)
     clear hbut2 bU rU
     gi_upto_region 11 with (fail)
     simp only [putN]
     have bdr:Below U2.heap.size U2 U2.drew:=(Below.refl _ _).drew
     have hdr:Below U2.heap.size U2 U2.drew:=(Below.refl _ _).drew
     replace g1:=g1.still hdr
     replace rU2:=rU2.still hdr
     replace g3:=g3.still hdr
     replace g4:=g4.keep hdr
     clear hdr
     refine wpIn_last7 6 (S:=fun u=>Below U2.drew.heap.size U2.drew u) (by kernel_rfl) (by kernel_rfl) (by kernel_rfl) (by kernel_rfl) (by kernel_rfl) (Below.refl _ _) (fun hS => ?_)
     generalize U2.drew=U6 at *
     refine tc 0 hS (fun u hu=>(g1.still hu).r0) ?_
     (try simp only [pS])
     refine tg 1 hS ?_
     (try simp only [pS])
     refine tg 2 hS ?_
     (try simp only [pS])
     refine tc 3 hS (fun u hu=>(g1.still hu).rs.c1) ?_
     (try simp only [pS])
     refine tg 4 hS ?_
     (try simp only [pS])
     refine tl 5 rU2 hS 60 Tryz.underlying60 (infoSd (hfS (ss k) m)) ?_
     (try simp only [pS])
     refine wpAnyH_done (by kernel_rfl) ?_ _
     obtain ⟨U7,hput,hr7,hb7,hs7⟩:=g1.rs.put_sd (hfP (xs k) m:Int) (hfS (ss k) m)
     unfold sdV at hput
     refine lastRun 6 (w':=U7) ?_ (hrun:=ex_put7 47 (.tmp 42) (.tmp 43) (.tmp 44) rfl rfl rfl rfl hput)
     refine OnlyN.normal ?_
     have hg:=(But.ofB (bad:=fun b=>b=sb) bdr).trans hb7
     have j7:=g1.sd hr7 hb7
     have rl4:=rY4.lt
     refine ⟨Fro.of_but hg (fun b hb => .inl (by omega)),M',fun b hb => .inl hb,j7,g2.trans hg,g3.but7 hb7 (by omega),⟨hb7.cell g4.bx (by omega),fun q v hv=>hb7.cell (g4.sd q v hv) (by omega),hT.but j7.bt hmS,hD.but j7.bt hmS⟩,g5⟩
   · rintro M' U ⟨g1,g2,g3,-,g5⟩
     have rdY:=g3.range
     have hthl:U.there (w.heap.size+2) 0 (ints .u8 32 (ss k)).toArray.size:=by have h:=g1.la.there;rw [ints_len] at h;rw [ints_size];exact h
     gi_wp2_with (first
      | (refine wpListIn_load_rd rfl 60 _ rfl V.heap.size 0 rfl (ints .u8 32 (ss k)) _ rdY Tryz.underlying60 rfl hiX ?_;clear rdY)
      | (refine wpListIn_store_rd rfl 60 _ _ rfl (w.heap.size+2) 0 (ints .u8 32 (ss k)).toArray rfl rfl ?_ ?_ ?_ ?_;(with_reducible exact hthl);exact hiY;exact hoY;rw [List.toList_toArray];clear hthl))
     have hbc:=but_cells U (w.heap.size+2) 0 (ints .u8 32 (ss k))
     refine ⟨Fro.of_but (bad:=fun b=>b=sb∨b=w.heap.size+2) ((g2.mono (fun _ e => .inl e)).trans (hbc.mono (fun _ e => .inr e))) (fun b hb => .inl (by rcases hb with hb | hb <;> omega)),M,fun b hb => .inl hb,⟨?_,g1.bt.on hbc (fun x hx e=>by omega),hbc.cell g1.r0 (by omega),?_,hbc.cell g1.pt (by omega),hbc.cell g1.lf (by omega),hq⟩,hno⟩
     · exact g1.rs.at_eq (fun b hb=>hbc.block b (by rcases hb with rfl | rfl | rfl | rfl <;> first | exact g1.rs.lt | exact g1.rs.ms.lt | exact g1.rs.mr.lt | exact g1.rs.mq.lt) (by rcases hb with rfl | rfl | rfl | rfl <;> omega))
     · rw [if_neg (Nat.succ_ne_zero k),Nat.add_sub_cancel]
       exact g1.la.stored _ (by rw [ints_len,ints_len])
   · intro c M' U h;exact h.elim
 · intro D M V hD' hDl hDm hj hdf
   have j:=hj.1
   have la:=j.la
   rw [if_neg (by have:=hok.pos;omega)] at la
   have hVz:=j.sz
   have HVl:=Hid.mk' hDl
   have HVd:=Hid.mk' hdf
   obtain ⟨Y,hY⟩:∃ Y,Y=ss (K - 1):=⟨_,rfl⟩
   have hYl:∀ j,Y j<256:=fun j=>by rw [hY];exact hXl _ _
   rw [←hY] at la
   have HY:=Hid.mk' hY
   clear hY hDl hdf hj hit hJ0 s4
   have hVd:=HVd.out
   have J0:OqJ w tb sb rb kb S i (opS S.sd xs ss K) Y D V.heap.size 0 (V.alloc (.cells #[.bool true,.bool false] 4)):=by
    have b:Below V.heap.size V (V.alloc (.cells #[.bool true,.bool false] 4)):=(Below.refl _ _).alloc (Nat.le_refl _) _
    exact ⟨j.rs.still b,(j.bt.mono (fun _ e => .inl e)).trans (But.ofB b),(b.cell (p:=⟨w.heap.size,0,none⟩) (block_lt_of_cell j.r0)).trans j.r0,la.still b,RW.fresh V [.bool true,.bool false] 4,(b.block D HVl.out).trans HVd.out,hq.2.2.1,by omega,by omega⟩
   clear la j hVd
   clear hlk c2 cr rz cr2 cr3
   gi_wp2
   gi_loopw [48] (fun x wr=>∃ k:Nat,k≤2∧x = .int .i64 (k:Int)∧OqJ w tb sb rb kb S i (opS S.sd xs ss K) Y D V.heap.size k wr) (fun x _=>2 - (intOf x).toNat)
   case atStart=>exact ⟨0,by decide,rfl,J0⟩
   case round =>
    clear J0
    obtain ⟨k,hk,rfl,J⟩:=hrel
    by_cases hlt:k<2
    · have hlt':(k:Int)<2:=by omega
      have hk0:(0:Int)≤(k:Int):=by omega
      have ce:wr.cell? ⟨V.heap.size,k,none⟩=some (.bool (decide (k=0))):=by
       match k,hlt,J with
       | 0,_,J=>exact J.ar.range 0 _ rfl
       | 1,_,J=>exact J.ar.range 1 _ rfl
      gi_upto_region 16 with (fail)
      have hdr:Below wr.heap.size wr wr.drew:=(Below.refl _ _).drew
      replace J:=J.still hdr
      clear hdr
      refine wpIn_lastW 10 (S:=fun u=>Below wr.drew.heap.size wr.drew u) (by kernel_rfl) (by kernel_rfl) (by kernel_rfl) (by kernel_rfl) (by kernel_rfl) (Below.refl _ _) (fun hS => ?_)
      generalize wr.drew=U6 at *
      refine tc 0 hS (fun u hu=>(J.still hu).r0) ?_
      (try simp only [pS])
      refine tg 1 hS ?_
      (try simp only [pS])
      refine tg 2 hS ?_
      (try simp only [pS])
      refine tc 3 hS (fun u hu=>(J.still hu).rs.c2) ?_
      (try simp only [pS])
      refine tg 4 hS ?_
      (try simp only [pS])
      refine tg 5 hS ?_
      (try simp only [pS])
      refine tg 6 hS (v:=lnV ((i:Int),decide (k=0))) (hy:=by intro u hu;exact (show (execOp _ _).run Tryz.prog u=_ from by kernel_rfl)) ?_
      (try simp only [pS])
      refine tl 7 J.la hS 60 Tryz.underlying60 (infoSd Y) ?_
      (try simp only [pS])
      refine tg 8 hS ?_
      (try simp only [pS])
      refine cn 9 ((by have c:=sdFirst_any Y hYl (decide (k=0)) U6 (hT.but J.bt (fun b e o=>by rcases e with e | e;exact hmS b e o;rw [e];exact hmR o));unfold sdV rtV at c;exact c)) ?_
      rintro e u1 ⟨rfl,hb⟩
      refine ⟨_,rfl,hb,?_⟩
      replace J:=J.still hb
      clear hS hb
      have hS:=Below.refl u1.heap.size u1
      (try simp only [pS])
      refine wpAnyH_done (by kernel_rfl) ?_ _
      obtain ⟨U7,hput,hr7,hb7,hs7⟩:=J.rs.put_rt ((i:Int),decide (k=0)) 0 (fstS Y (decide (k=0)))
      unfold rtV at hput
      refine lastRun 10 (w':=U7) ?_ (hrun:=ex_put7 48 (.tmp 55) (.tmp 58) (.tmp 61) rfl rfl rfl rfl hput)
      refine OnlyN.normal ?_
      have J7:=J.next hr7 hb7
      clear hput hr7 hb7 hs7 J
      simp only [putN]
      gi_wp2
      exact ⟨⟨k+1,by omega,by simp,J7⟩,by simp [intOf];omega⟩
    · obtain rfl:k=2:=by omega
      have hlt':¬((2:Nat):Int)<2:=by omega
      gi_wp2
      have hbD:=but_put wr D (.deferred none)
      have q:=J.q
      refine ⟨by simp,.inl ⟨_,_,rfl,run_takeDeferred J.df,?_⟩⟩
      refine ⟨_,results_none rfl _ _ _,⟨_,rfl⟩,?_,J.bt.on hbD (fun x hx e=>by omega)⟩
      rw [←HY.out]
      refine J.rs.at_eq (fun b hb=>hbD.block b ?_ ?_)
      · rcases hb with rfl | rfl | rfl | rfl <;> first | exact J.rs.lt | exact J.rs.ms.lt | exact J.rs.mr.lt | exact J.rs.mq.lt
      · rcases hb with rfl | rfl | rfl | rfl <;> omega
 · intro D c M V hD' hDl hDm hj hdf
   exact hj.elim
end Go.Proofs.YtbbikhlbkpjpjaaGreatDoor
