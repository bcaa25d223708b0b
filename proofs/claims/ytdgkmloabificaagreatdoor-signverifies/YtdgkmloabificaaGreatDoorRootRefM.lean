/- What the proof stands on: RootRef, RootRef2, RootFit, RootQ, RootQA, RRatioA. -/
import Derived.Test.YtdgkmloabificaaGreatDoorBaseM
import Derived.Test.YtdgkmloabificaaGreatDoorLimbsM
import Derived.Test.YtdgkmloabificaaGreatDoorPNumM
import Derived.Test.YtdgkmloabificaaGreatDoorRRatioM
import Derived.WideShapes
namespace Go.Proofs.YtdgkmloabificaaGreatDoor
open Go.RowKit
structure Box (w:World) (g:Nat) (L:Nat→Int):Prop where
 row:IRow w g 16 L
 lt:g<w.heap.size
theorem Box.still {w w':World} {g:Nat} {L:Nat→Int} (h:Box w g L) (hb:Below w.heap.size w w'):Box w' g L:=⟨h.row.below hb h.lt,Nat.lt_of_lt_of_le h.lt hb.size⟩
theorem two_boxes (w:World) (A B:Nat→Int) (t:TypeId):Box ((w.alloc (.cells (intsI 16 A).toArray t)).alloc (.cells (intsI 16 B).toArray t)) w.heap.size A∧Box ((w.alloc (.cells (intsI 16 A).toArray t)).alloc (.cells (intsI 16 B).toArray t)) (w.heap.size+1) B:=by
 have h1:Box (w.alloc (.cells (intsI 16 A).toArray t)) w.heap.size A:=⟨IRow.box w 16 A t,by simp⟩
 have h2:Box ((w.alloc (.cells (intsI 16 A).toArray t)).alloc (.cells (intsI 16 B).toArray t)) (w.alloc (.cells (intsI 16 A).toArray t)).heap.size B:=⟨IRow.box _ 16 B t,by simp⟩
 rw [World.size_alloc] at h2
 exact ⟨h1.still ((Below.refl _ _).alloc (Nat.le_refl _) _),h2⟩
theorem strN_eq {x y:Nat} (hx:x<pF) (hy:y<pF):((strB 32 (byt x)).toList == (strB 32 (byt y)).toList)=decide (x=y):=by
 by_cases h:x=y
 · subst h;rw [decide_eq_true rfl];exact beq_self_eq_true _
 · rw [decide_eq_false h,ByteArray.toList_eq,ByteArray.toList_eq]
   refine beq_false_of_ne (fun e=>h ?_)
   have:=(strB_eq (byt_all x) (byt_all y)).1 (WideShapes.bytes_inj e)
   exact byt_inj (by unfold pF at hx;omega) (by unfold pF at hy;omega) this.2
theorem rep_bytes (A:Nat→Int) (a:Nat) (hA:Rep A a) (w:World):Calls Tryz.prog 69 #[.agg (intsI 16 A).toArray] w fun e w'=>∃ v,e = .returned v∧Own w.heap.size w' v 32 (byt (a%pF))∧Below w.heap.size w w' :=
 rbytes A (hA.dig.mono (by decide)) a hA.val w
set_option maxRecDepth 20000 in
set_option maxHeartbeats 4000000 in
theorem rsame_gen (A B:Nat→Int) (a b:Nat) (cA:∀ W,Calls Tryz.prog 69 #[.agg (intsI 16 A).toArray] W fun e w'=>∃ v,e = .returned v∧Own W.heap.size w' v 32 (byt (a%pF))∧Below W.heap.size W w') (cB:∀ W,Calls Tryz.prog 69 #[.agg (intsI 16 B).toArray] W fun e w'=>∃ v,e = .returned v∧Own W.heap.size w' v 32 (byt (b%pF))∧Below W.heap.size W w') (w:World) :
 Calls Tryz.prog 75 #[refV A,refV B] w fun e w'=>e = .returned (.bool (decide (a%pF=b%pF)))∧Below w.heap.size w w':=by
 have hxl:a%pF<pF:=Nat.mod_lt _ pF_pos
 have hyl:b%pF<pF:=Nat.mod_lt _ pF_pos
 have hse:=strN_eq hxl hyl
 obtain ⟨z,hz⟩:∃ z,z=decide (a%pF=b%pF):=⟨_,rfl⟩
 rw [←hz] at hse ⊢
 obtain ⟨bxA,bxB⟩:=two_boxes w A B 66
 obtain ⟨W,hW⟩:∃ W,W=(w.alloc (.cells (intsI 16 A).toArray 66)).alloc (.cells (intsI 16 B).toArray 66):=⟨_,rfl⟩
 have hw:Below w.heap.size w W:=by rw [hW];exact ((Below.refl _ _).alloc (Nat.le_refl _) _).alloc (by simp) _
 rw [←hW] at bxA bxB
 have HW:=Hid.mk' hW
 generalize a%pF=x at *
 generalize b%pF=y at *
 unfold refV
 clear hW hz hxl hyl
 go_enter Tryz.func75,Tryz.ntmps75
 go_wp2
 rw [←HW.out]
 have hdrew:Below W.heap.size W W.drew:=(Below.refl _ _).drew
 replace bxA:=bxA.still hdrew
 replace bxB:=bxB.still hdrew
 replace hw:=below_next hw hdrew
 clear hdrew
 refine wp_region_noPanic ?_
 refine wp_region_held_drew (S:=fun w'=>Below W.drew.heap.size W.drew w') (by kernel_rfl) (Below.refl _ _) (fun hHeld => ?_)
 clear hHeld
 refine wpAnyH_take (i:=0) (oi:=oN 5 (Op.load 66 (oT 2)) 66 "ref.go:112" #[]) (v := .agg (intsI 16 A).toArray) rfl (by kernel_rfl) (by kernel_rfl) (by kernel_rfl) (fun _ _ _ h=>h) (yieldsIf_load_mid (by rfl) 66 _ rfl w.heap.size 0 rfl (intsI 16 A) _ (fun _ h=>(bxA.still h).row.range) Tryz.underlying66 rfl (infoRL A)) (Below.refl _ _) ?_
 (try simp only [pS])
 refine wpAnyH_take (i:=3) (oi:=oN 8 (Op.load 66 (oT 3)) 66 "ref.go:112" #[]) (v := .agg (intsI 16 B).toArray) rfl (by kernel_rfl) (by kernel_rfl) (by kernel_rfl) (fun _ _ _ h=>h) (yieldsIf_load_mid (by rfl) 66 _ rfl (w.heap.size+1) 0 rfl (intsI 16 B) _ (fun _ h=>(bxB.still h).row.range) Tryz.underlying66 rfl (infoRL B)) (Below.refl _ _) ?_
 (try simp only [pS])
 refine callN 1 (oN 6 (cF1 69 #[oT 5] #[66]) 22 "ref.go:112" #[jD 0]) (cA _) ?_
 (clear cA;rintro e w1 ⟨v1,rfl,own1,hb1⟩;(have t1:=Str.of (BytesIn.of_own own1) (byt_all _));(obtain ⟨x1,n1,k1,rfl⟩:=t1.form))
 refine ⟨_,rfl,hb1,?_⟩
 clear bxA
 replace bxB:=bxB.still hb1
 replace hw:=below_next hw hb1
 clear hb1
 (try simp only [pS])
 refine tkH 2 (oN 7 (Op.convert 22 9 (oT 6)) 9 "ref.go:112" #[jD 1]) ?va2 bR (Or.inl ⟨by rfl,?ha2⟩) ?ra2
 case ha2 =>
  intro w hSw
  have q:=t1.conv w hSw
  go_simp
  try with_reducible rfl
 (try simp only [pS])
 refine callN 4 (oN 9 (cF1 69 #[oT 8] #[66]) 22 "ref.go:112" #[jD 3,jC 1]) (cB _) ?_
 (clear cB;rintro e w2 ⟨v2,rfl,own2,hb2⟩;(have t2:=Str.of (BytesIn.of_own own2) (byt_all _));(obtain ⟨x2,n2,k2,rfl⟩:=t2.form))
 refine ⟨_,rfl,hb2,?_⟩
 clear bxB
 replace t1:=t1.still hb2
 replace hw:=below_next hw hb2
 clear hb2
 (try simp only [pS])
 refine tkH 5 (oN 10 (Op.convert 22 9 (oT 9)) 9 "ref.go:112" #[jD 4]) ?va5 bR (Or.inl ⟨by rfl,?ha5⟩) ?ra5
 case ha5 =>
  intro w hSw
  have q:=t2.conv w hSw
  go_simp
  try with_reducible rfl
 (try simp only [pS])
 refine tkH 6 (oN 11 (Op.binOp BinOp.eql 9 (oT 7) (oT 10) 9) 4 "ref.go:112" #[jD 2,jD 5]) ?va6 bR (Or.inl ⟨by rfl,?ha6⟩) ?ra6
 case ha6 =>
  intro w hSw
  go_simp
  try with_reducible rfl
 (try simp only [pS])
 refine tkH 7 (oN 4 (Op.assign (oT 11)) 4 "ref.go:112" #[jD 6,jC 4,jP 0,jP 1,jP 2,jP 3,jP 4,jP 5,jP 6]) ?va7 bR (Or.inl ⟨by rfl,?ha7⟩) ?ra7
 case ha7 =>
  intro w hSw
  go_simp
  try with_reducible rfl
 (try simp only [pS])
 refine wpAnyH_done (by kernel_rfl) ?_ _
 refine NoPanic.normal ?_
 go_wp2
 go_ret
 exact ⟨rfl,hw⟩
theorem rsame_any (A B:Nat→Int) (a b:Nat) (hA:Rep A a) (hB:Rep B b) (w:World) :
 Calls Tryz.prog 75 #[refV A,refV B] w fun e w'=>e = .returned (.bool (decide (a%pF=b%pF)))∧Below w.heap.size w w' :=
 rsame_gen A B a b (fun W=>rep_bytes A a hA W) (fun W=>rep_bytes B b hB W) w
end Go.Proofs.YtdgkmloabificaaGreatDoor
namespace Go.Proofs.YtdgkmloabificaaGreatDoor
open Go.RowKit
theorem Rep.to {L:Nat→Int} {x y:Nat} (h:Rep L x) (e:x%pF=y%pF):Rep L y:=⟨h.dig,by rw [h.val,e]⟩
theorem smL_dig (x:Int) (h0:0≤x) (h2:x≤9223372036854775807):Dig 65535 (smL x):=by
 have e0:∀ j,0≤smL x j∧smL x j≤65535:=fun j=>by
  unfold smL
  split
  · omega
  · split
    · have:(65536:Int) ^ 3=281474976710656:=by decide
      rw [this];omega
    · decide
 exact ⟨by have:=e0 0;omega,fun j _ _=>e0 j⟩
theorem rep_small (x:Nat) (h:x≤9223372036854775807):Rep (carryL (smL x)) x:=by
 refine ⟨(carry_fine _ ((smL_dig x (by omega) (by omega)).mono (by decide))).1,?_⟩
 rw [valR_carry,smL_val,show ∀ a b P:Int,a - b*2*P=a+P*(-(b*2)) from fun a b P=>by rw [Int.mul_neg,Int.mul_comm P];omega,Int.add_mul_emod_self_left,nat_mod]
theorem rsmall_rep (x:Nat) (h:x≤9223372036854775807) (w:World):Calls Tryz.prog 70 #[.int .i64 x] w fun e w'=>∃ R,e = .returned (.agg (intsI 16 R).toArray)∧Rep R x∧Below w.heap.size w w' :=
 (rsmall_any x (by omega) (by omega) w).mono fun e w' ⟨he,hb⟩=>⟨_,he,rep_small x h,hb⟩
set_option maxRecDepth 20000 in
set_option maxHeartbeats 2000000 in
theorem rminus1_any (w:World):Calls Tryz.prog 128 #[] w fun e w'=>∃ R,e = .returned (.agg (intsI 16 R).toArray)∧Rep R iM∧Below w.heap.size w w':=by
 have hz:=zeroR
 have c2:∀ W,Calls Tryz.prog 70 #[.int .i64 2] W fun e w'=>∃ R,e = .returned (.agg (intsI 16 R).toArray)∧Rep R 2∧Below W.heap.size W w':=fun W=>rsmall_rep 2 (by decide) W
 have cp:∀ W A,Rep A 2→Calls Tryz.prog 108 #[.agg (intsI 16 A).toArray,.int .i64 253,.int .i64 3,.int .i64 3] W fun e w'=>∃ R,e = .returned (.agg (intsI 16 R).toArray)∧Rep R iM∧Below W.heap.size W w':=fun W A hA =>
  (rpow4_any A 2 hA W).mono fun e w' ⟨R,he,hR,hb⟩=>⟨R,he,hR.to (by rw [iM_pow];rfl),hb⟩
 have hbW:Below w.heap.size w (w.alloc (.cells zI 66)):=(Below.refl _ _).alloc (Nat.le_refl _) _
 have hres:IRow (w.alloc (.cells zI 66)) w.heap.size 16 (fun _=>0):=IRow.fresh w zI _ (fun j hj=>zI_at j hj)
 have hsz:w.heap.size<(w.alloc (.cells zI 66)).heap.size:=by simp
 have hi2:=infoRA
 have ho:=oneR
 go_enter Tryz.func128,Tryz.ntmps128
 go_wp2_with (first
  | (go_at_call 70;refine (c2 _).mono ?_;clear c2;rintro e w1 ⟨R1,rfl,hR1,hb1⟩;(have hr1:=hres.below hb1 hsz);(have hs1:=Nat.lt_of_lt_of_le hsz hb1.size);(have hw1:=hbW.trans (hb1.mono hbW.size));replace cp:=cp w1 R1 hR1)
  | (go_at_call 108;refine cp.mono ?_;clear cp;rintro e w2 ⟨R,rfl,hR,hb2⟩;(have hr2:=hr1.below hb2 hs1);(have hth:w2.there w.heap.size 0 (intsI 16 R).toArray.size:=by rw [intsI_size];exact hr2.there);(have hw2:=below_next hw1 hb2))
  | (with_reducible (refine id (?_:wpList _ _ _ _ _ _));refine wpList_store_mid rfl 66 _ _ rfl w.heap.size 0 (intsI 16 R).toArray rfl rfl hth (hi2 R) (ho R) ?_))
 (try simp only [Exit.inBlock,Exit.then])
 refine bodyPost_ret (results_cell_mid Tryz.results128 _ _ w.heap.size 0 (intsI 16 R) _ rfl (World.rangeAt_setCells_same _ _ _ _ (by rw [intsI_len];exact hr2.there)) Tryz.underlying66 rfl (infoRL R)) rfl ⟨R,rfl,hR,?_⟩
 exact below_setCells (Nat.le_refl _) _ _ _ hw2
end Go.Proofs.YtdgkmloabificaaGreatDoor
namespace Go.Proofs.YtdgkmloabificaaGreatDoor
open Go.RowKit
theorem Box.out {w w':World} {g b:Nat} {L:Nat→Int} (h:Box w b L) (ho:Out g 0 16 w w') (hne:b≠g):Box w' b L :=
 ⟨fun j hj=>⟨(ho.cell' h.lt hne).trans (h.row j hj).1,(ho.frozen' h.lt hne).trans (h.row j hj).2⟩,Nat.lt_of_lt_of_le h.lt ho.size⟩
theorem rtimes_rep {A B:Nat→Int} {a b:Nat} (hA:Rep A a) (hB:Rep B b) (w:World):Calls Tryz.prog 71 #[.agg (intsI 16 A).toArray,.agg (intsI 16 B).toArray] w fun e w'=>∃ R,e = .returned (.agg (intsI 16 R).toArray)∧Rep R (a*b)∧Below w.heap.size w w' :=
 (rtimes_any A B hA.bd hB.bd w).mono fun _ _ ⟨he,hb⟩=>⟨_,he,rep_times hA hB,hb⟩
theorem rsame_rep {A B:Nat→Int} {a b:Nat} (hA:Rep A a) (hB:Rep B b) (z:Bool) (hz:decide (a%pF=b%pF)=z) (w:World):Calls Tryz.prog 75 #[.agg (intsI 16 A).toArray,.agg (intsI 16 B).toArray] w fun e w'=>e = .returned (.bool z)∧Below w.heap.size w w':=by
 have h:=rsame_any A B a b hA hB w
 rw [hz] at h
 exact h
set_option maxRecDepth 20000 in
set_option maxHeartbeats 4000000 in
theorem rfit_yes (A B:Nat→Int) (a b:Nat) (hA:Rep A a) (hB:Rep B b) (h:a*a%pF=b%pF) (w:World) :
 Calls Tryz.prog 109 #[.agg (intsI 16 A).toArray,.agg (intsI 16 B).toArray] w fun e w'=>e = .returned (.agg (intsI 16 A).toArray)∧Below w.heap.size w w':=by
 have cT:=fun W=>rtimes_rep hA hA W
 have cS:=fun (R:Nat→Int) (hR:Rep R (a*a)) (W:World)=>rsame_rep hR hB true (decide_eq_true h) W
 have hz:=zeroR
 obtain ⟨bxA,bxB⟩:=two_boxes w A B 66
 obtain ⟨W,hW⟩:∃ W,W=((w.alloc (.cells (intsI 16 A).toArray 66)).alloc (.cells (intsI 16 B).toArray 66)).alloc (.cells zI 66):=⟨_,rfl⟩
 have hw:Below w.heap.size w W:=by rw [hW];exact (((Below.refl _ _).alloc (Nat.le_refl _) _).alloc (by simp) _).alloc (by simp;omega) _
 have bxR:Box W (w.heap.size+1+1) (fun _=>0):=by
  have h:Box W ((w.alloc (.cells (intsI 16 A).toArray 66)).alloc (.cells (intsI 16 B).toArray 66)).heap.size (fun _=>0):=by rw [hW];exact ⟨IRow.fresh _ zI _ (fun j hj=>zI_at j hj),by simp⟩
  rw [World.size_alloc,World.size_alloc] at h
  exact h
 have hstep:Below ((w.alloc (.cells (intsI 16 A).toArray 66)).alloc (.cells (intsI 16 B).toArray 66)).heap.size ((w.alloc (.cells (intsI 16 A).toArray 66)).alloc (.cells (intsI 16 B).toArray 66)) W:=by rw [hW];exact (Below.refl _ _).alloc (Nat.le_refl _) _
 replace bxA:=bxA.still hstep
 replace bxB:=bxB.still hstep
 have HW:=Hid.mk' hW
 clear hW hstep
 clear hA hB h
 go_enter Tryz.func109,Tryz.ntmps109
 go_wp2
 rw [←HW.out]
 have hdrew:Below W.heap.size W W.drew:=(Below.refl _ _).drew
 replace bxA:=bxA.still hdrew
 replace bxB:=bxB.still hdrew
 replace bxR:=bxR.still hdrew
 replace hw:=below_next hw hdrew
 clear hdrew
 refine wp_region_noPanic ?_
 refine wp_region_held_drew (S:=fun w'=>Below W.drew.heap.size W.drew w') (by kernel_rfl) (Below.refl _ _) (fun hHeld => ?_)
 clear hHeld
 refine wpAnyH_take (i:=0) (oi:=oN 5 (Op.load 66 (oT 2)) 66 "ref.go:191" #[]) (v := .agg (intsI 16 A).toArray) rfl (by kernel_rfl) (by kernel_rfl) (by kernel_rfl) (fun _ _ _ h=>h) (yieldsIf_load_mid (by rfl) 66 _ rfl w.heap.size 0 rfl (intsI 16 A) _ (fun _ h=>(bxA.still h).row.range) Tryz.underlying66 rfl (infoRL A)) (Below.refl _ _) ?_
 (try simp only [pS])
 refine wpAnyH_take (i:=1) (oi:=oN 6 (Op.load 66 (oT 2)) 66 "ref.go:191" #[]) (v := .agg (intsI 16 A).toArray) rfl (by kernel_rfl) (by kernel_rfl) (by kernel_rfl) (fun _ _ _ h=>h) (yieldsIf_load_mid (by rfl) 66 _ rfl w.heap.size 0 rfl (intsI 16 A) _ (fun _ h=>(bxA.still h).row.range) Tryz.underlying66 rfl (infoRL A)) (Below.refl _ _) ?_
 (try simp only [pS])
 refine wpAnyH_take (i:=3) (oi:=oN 8 (Op.load 66 (oT 3)) 66 "ref.go:191" #[]) (v := .agg (intsI 16 B).toArray) rfl (by kernel_rfl) (by kernel_rfl) (by kernel_rfl) (fun _ _ _ h=>h) (yieldsIf_load_mid (by rfl) 66 _ rfl (w.heap.size+1) 0 rfl (intsI 16 B) _ (fun _ h=>(bxB.still h).row.range) Tryz.underlying66 rfl (infoRL B)) (Below.refl _ _) ?_
 (try simp only [pS])
 refine callN 2 (oN 7 (cF1 71 #[oT 5,oT 6] #[66,66]) 66 "ref.go:191" #[jD 0,jD 1]) (cT _) ?_
 (clear cT;rintro e w1 ⟨R1,rfl,hR1,hb1⟩;replace cS:=cS R1 hR1)
 refine ⟨_,rfl,hb1,?_⟩
 replace bxA:=bxA.still hb1
 replace bxB:=bxB.still hb1
 replace bxR:=bxR.still hb1
 replace hw:=below_next hw hb1
 clear hb1
 (try simp only [pS])
 refine callN 4 (oN 9 (cF1 75 #[oT 7,oT 8] #[66,66]) 4 "ref.go:191" #[jD 2,jD 3,jC 2]) (cS _) ?_
 (clear cS;rintro e w2 ⟨rfl,hb2⟩)
 refine ⟨_,rfl,hb2,?_⟩
 replace bxA:=bxA.still hb2
 replace bxB:=bxB.still hb2
 replace bxR:=bxR.still hb2
 replace hw:=below_next hw hb2
 clear hb2
 (try simp only [pS])
 refine wpAnyH_done (by kernel_rfl) ?_ _
 refine NoPanic.normal ?_
 have hr:=bxA.row.range
 have hiA:=infoRL A
 have hth:w2.there (w.heap.size+1+1) 0 (intsI 16 A).toArray.size:=by rw [intsI_size];exact bxR.row.there
 have hi2:=infoRA A
 have ho:=oneR A
 go_wp2_with (first
  | (refine wpList_load_mid rfl 66 _ rfl w.heap.size 0 rfl (intsI 16 A) _ hr Tryz.underlying66 rfl hiA ?_)
  | (with_reducible (refine id (?_:wpList _ _ _ _ _ _));refine wpList_store_mid rfl 66 _ _ rfl (w.heap.size+1+1) 0 (intsI 16 A).toArray rfl rfl hth hi2 ho ?_))
 (try simp only [Exit.inBlock,Exit.then])
 refine bodyPost_ret (results_cell_mid Tryz.results109 _ _ (w.heap.size+1+1) 0 (intsI 16 A) _ rfl (World.rangeAt_setCells_same _ _ _ _ (by rw [intsI_len];exact bxR.row.there)) Tryz.underlying66 rfl hiA) rfl ⟨rfl,?_⟩
 exact below_setCells (by omega) _ _ _ hw
set_option maxRecDepth 20000 in
set_option maxHeartbeats 4000000 in
theorem rfit_no (A B:Nat→Int) (a b:Nat) (hA:Rep A a) (hB:Rep B b) (h:¬a*a%pF=b%pF) (w:World) :
 Calls Tryz.prog 109 #[.agg (intsI 16 A).toArray,.agg (intsI 16 B).toArray] w fun e w'=>∃ R,e = .returned (.agg (intsI 16 R).toArray)∧Rep R (a*iM)∧Below w.heap.size w w':=by
 have cT:=fun W=>rtimes_rep hA hA W
 have cS:=fun (R:Nat→Int) (hR:Rep R (a*a)) (W:World)=>rsame_rep hR hB false (decide_eq_false h) W
 have cM:=fun W=>rminus1_any W
 have cI:=fun (R:Nat→Int) (hR:Rep R iM) (W:World)=>rtimes_rep hA hR W
 have hz:=zeroR
 obtain ⟨bxA,bxB⟩:=two_boxes w A B 66
 obtain ⟨W,hW⟩:∃ W,W=((w.alloc (.cells (intsI 16 A).toArray 66)).alloc (.cells (intsI 16 B).toArray 66)).alloc (.cells zI 66):=⟨_,rfl⟩
 have hw:Below w.heap.size w W:=by rw [hW];exact (((Below.refl _ _).alloc (Nat.le_refl _) _).alloc (by simp) _).alloc (by simp;omega) _
 have bxR:Box W (w.heap.size+1+1) (fun _=>0):=by
  have h:Box W ((w.alloc (.cells (intsI 16 A).toArray 66)).alloc (.cells (intsI 16 B).toArray 66)).heap.size (fun _=>0):=by rw [hW];exact ⟨IRow.fresh _ zI _ (fun j hj=>zI_at j hj),by simp⟩
  rw [World.size_alloc,World.size_alloc] at h
  exact h
 have hstep:Below ((w.alloc (.cells (intsI 16 A).toArray 66)).alloc (.cells (intsI 16 B).toArray 66)).heap.size ((w.alloc (.cells (intsI 16 A).toArray 66)).alloc (.cells (intsI 16 B).toArray 66)) W:=by rw [hW];exact (Below.refl _ _).alloc (Nat.le_refl _) _
 replace bxA:=bxA.still hstep
 replace bxB:=bxB.still hstep
 have HW:=Hid.mk' hW
 clear hW hstep
 clear hA hB h
 go_enter Tryz.func109,Tryz.ntmps109
 go_wp2
 rw [←HW.out]
 have hdrew:Below W.heap.size W W.drew:=(Below.refl _ _).drew
 replace bxA:=bxA.still hdrew
 replace bxB:=bxB.still hdrew
 replace bxR:=bxR.still hdrew
 replace hw:=below_next hw hdrew
 clear hdrew
 refine wp_region_noPanic ?_
 refine wp_region_held_drew (S:=fun w'=>Below W.drew.heap.size W.drew w') (by kernel_rfl) (Below.refl _ _) (fun hHeld => ?_)
 clear hHeld
 refine wpAnyH_take (i:=0) (oi:=oN 5 (Op.load 66 (oT 2)) 66 "ref.go:191" #[]) (v := .agg (intsI 16 A).toArray) rfl (by kernel_rfl) (by kernel_rfl) (by kernel_rfl) (fun _ _ _ h=>h) (yieldsIf_load_mid (by rfl) 66 _ rfl w.heap.size 0 rfl (intsI 16 A) _ (fun _ h=>(bxA.still h).row.range) Tryz.underlying66 rfl (infoRL A)) (Below.refl _ _) ?_
 (try simp only [pS])
 refine wpAnyH_take (i:=1) (oi:=oN 6 (Op.load 66 (oT 2)) 66 "ref.go:191" #[]) (v := .agg (intsI 16 A).toArray) rfl (by kernel_rfl) (by kernel_rfl) (by kernel_rfl) (fun _ _ _ h=>h) (yieldsIf_load_mid (by rfl) 66 _ rfl w.heap.size 0 rfl (intsI 16 A) _ (fun _ h=>(bxA.still h).row.range) Tryz.underlying66 rfl (infoRL A)) (Below.refl _ _) ?_
 (try simp only [pS])
 refine wpAnyH_take (i:=3) (oi:=oN 8 (Op.load 66 (oT 3)) 66 "ref.go:191" #[]) (v := .agg (intsI 16 B).toArray) rfl (by kernel_rfl) (by kernel_rfl) (by kernel_rfl) (fun _ _ _ h=>h) (yieldsIf_load_mid (by rfl) 66 _ rfl (w.heap.size+1) 0 rfl (intsI 16 B) _ (fun _ h=>(bxB.still h).row.range) Tryz.underlying66 rfl (infoRL B)) (Below.refl _ _) ?_
 (try simp only [pS])
 refine callN 2 (oN 7 (cF1 71 #[oT 5,oT 6] #[66,66]) 66 "ref.go:191" #[jD 0,jD 1]) (cT _) ?_
 (clear cT;rintro e w1 ⟨R1,rfl,hR1,hb1⟩;replace cS:=cS R1 hR1)
 refine ⟨_,rfl,hb1,?_⟩
 replace bxA:=bxA.still hb1
 replace bxB:=bxB.still hb1
 replace bxR:=bxR.still hb1
 replace hw:=below_next hw hb1
 clear hb1
 (try simp only [pS])
 refine callN 4 (oN 9 (cF1 75 #[oT 7,oT 8] #[66,66]) 4 "ref.go:191" #[jD 2,jD 3,jC 2]) (cS _) ?_
 (clear cS;rintro e w2 ⟨rfl,hb2⟩)
 refine ⟨_,rfl,hb2,?_⟩
 replace bxA:=bxA.still hb2
 replace bxB:=bxB.still hb2
 replace bxR:=bxR.still hb2
 replace hw:=below_next hw hb2
 clear hb2
 (try simp only [pS])
 refine wpAnyH_done (by kernel_rfl) ?_ _
 refine NoPanic.normal ?_
 have hg:=bxR.lt
 clear bxB
 go_wp2
 have hdrew:Below w2.heap.size w2 w2.drew:=(Below.refl _ _).drew
 replace bxA:=bxA.still hdrew
 replace bxR:=bxR.still hdrew
 replace hw:=below_next hw hdrew
 replace hg:=Nat.lt_of_lt_of_le hg hdrew.size
 clear hdrew
 refine wp_region_noPanic ?_
 refine wp_region_held_drew (S:=fun w'=>Out (w.heap.size+1+1) 0 16 w2.drew w') (by kernel_rfl) (Out.refl _ _ _ _) (fun hHeld => ?_)
 clear hHeld
 refine wpAnyH_take (i:=0) (oi:=oN 11 (Op.load 66 (oT 2)) 66 "ref.go:194" #[]) (v := .agg (intsI 16 A).toArray) rfl (by kernel_rfl) (by kernel_rfl) (by kernel_rfl) (fun _ _ _ h=>h) (yieldsIf_load_mid (by rfl) 66 _ rfl w.heap.size 0 rfl (intsI 16 A) _ (fun _ h=>(bxA.out h (by omega)).row.range) Tryz.underlying66 rfl (infoRL A)) (Out.refl _ _ _ _) ?_
 (try simp only [pS])
 refine wpAnyH_ready (rs:=[1]) (by kernel_rfl) (by simp) ?_
 refine AllReadyH.cons (o:=oN 12 (cF1 128 #[] #[]) 66 "ref.go:194" #[]) rfl (fun K hK => ?_) AllReadyH.nil
 go_simp
 (go_at_call 128;refine (cM _).mono ?_;clear cM;rintro e w3 ⟨R3,rfl,hR3,hb3⟩;replace cI:=cI R3 hR3)
 (try go_simp)
 refine hK.out _ _ (Out.of_below hb3 hg) (fun h => ?_)
 clear h hK K
 refine wpAnyH_narrow (S':=fun w'=>Out (w.heap.size+1+1) 0 16 w3 w') (fun _ h=>(Out.of_below hb3 hg).trans h) _ _ _ _ ?_
 replace bxA:=bxA.still hb3
 replace bxR:=bxR.still hb3
 replace hw:=below_next hw hb3
 replace hg:=Nat.lt_of_lt_of_le hg hb3.size
 clear hb3
 (try simp only [pS])
 refine wpAnyH_ready (rs:=[2]) (by kernel_rfl) (by simp) ?_
 refine AllReadyH.cons (o:=oN 13 (cF1 71 #[oT 11,oT 12] #[66,66]) 66 "ref.go:194" #[jD 0,jD 1,jC 1]) rfl (fun K hK => ?_) AllReadyH.nil
 go_simp
 (go_at_call 71;refine (cI _).mono ?_;clear cI;rintro e w4 ⟨R4,rfl,hR4,hb4⟩;(have hth:w4.there (w.heap.size+1+1) 0 (intsI 16 R4).toArray.size:=by rw [intsI_size];exact (bxR.still hb4).row.there))
 (try go_simp)
 refine hK.out _ _ (Out.of_below hb4 hg) (fun h => ?_)
 clear h hK K
 refine wpAnyH_narrow (S':=fun w'=>Out (w.heap.size+1+1) 0 16 w4 w') (fun _ h=>(Out.of_below hb4 hg).trans h) _ _ _ _ ?_
 replace bxA:=bxA.still hb4
 replace bxR:=bxR.still hb4
 replace hw:=below_next hw hb4
 replace hg:=Nat.lt_of_lt_of_le hg hb4.size
 clear hb4
 (try simp only [pS])
 refine wpAnyH_ready (rs:=[3]) (by kernel_rfl) (by simp) ?_
 refine AllReadyH.cons (o:=oS (Op.store 66 (oT 4) (oT 13)) "ref.go:194" #[jD 2,jC 2,jP 0,jP 1,jP 2]) rfl (fun K hK => ?_) AllReadyH.nil
 rw [if_pos (by rfl)]
 refine wp_store_mid 66 _ _ rfl (w.heap.size+1+1) 0 (intsI 16 R4).toArray rfl rfl hth (infoRA R4) (oneR R4) ?_
 refine hK.out _ _ (Out.setCells _ _ (Nat.le_refl _) (by simp [intsI_len])) (fun h => ?_)
 clear h hK K
 refine wpAnyH_done (by kernel_rfl) ?_ _
 refine NoPanic.normal ?_
 go_wp2
 (try simp only [Exit.inBlock,Exit.then])
 refine bodyPost_ret (results_cell_mid Tryz.results109 _ _ (w.heap.size+1+1) 0 (intsI 16 R4) _ rfl (World.rangeAt_setCells_same _ _ _ _ (by rw [intsI_len];exact bxR.row.there)) Tryz.underlying66 rfl (infoRL R4)) rfl ⟨R4,rfl,hR4,?_⟩
 exact below_setCells (by omega) _ _ _ hw
end Go.Proofs.YtdgkmloabificaaGreatDoor
namespace Go.Proofs.YtdgkmloabificaaGreatDoor
open Go.RowKit
structure IM (w:World):Prop where
 range:w.rangeAt 5 0 (c4 iM)
 lt:5<w.heap.size
theorem IM.still {w w':World} (h:IM w) (hb:Below w.heap.size w w'):IM w' :=
 ⟨fun j v hv=>(hb.cell (p:=⟨5,0+j,none⟩) h.lt).trans (h.range j v hv),Nat.lt_of_lt_of_le h.lt hb.size⟩
theorem built1 (n:Nat):Tryz.prog.built 51 [(0,.agg (c4 n).toArray)]=some (c4 n).toArray:=by kernel_rfl
theorem built0:Tryz.prog.built 51 []=some (c4 0).toArray:=by rw [c4_zero];kernel_rfl
theorem infoLimbs:(Tryz.prog.info? 49).map (·.size)=some 4:=by kernel_rfl
theorem wpList_build1 {P:Program} {ops:Array Oper} {rest:List Oper} {o:Oper} {a:Act} {w:World} {Q:Exit→Act→World→Prop} (hg:o.guard=none) (t:TypeId) (i:Nat) (x:Operand) (ho:o.op = .build t #[(i,x)]) (u:Value) (hx:a.eval x=u) (cells:Array Value)
 (hf:P.built t [(i,u)]=some cells) (h:wpList P ops Q rest (a.put o.dst (.agg cells)) w):wpList P ops Q (o :: rest) a w :=
 wpList_build hg t _ ho (by simp only [List.map_toArray,List.map_cons,List.map_nil,hx,hf];rfl) (by simp only [List.map_toArray,List.map_cons,List.map_nil,hx,hf];exact h)
theorem wpList_build0 {P:Program} {ops:Array Oper} {rest:List Oper} {o:Oper} {a:Act} {w:World} {Q:Exit→Act→World→Prop} (hg:o.guard=none) (t:TypeId) (ho:o.op = .build t #[]) (cells:Array Value)
 (hf:P.built t []=some cells) (h:wpList P ops Q rest (a.put o.dst (.agg cells)) w):wpList P ops Q (o :: rest) a w :=
 wpList_build hg t _ ho (by simp only [List.map_toArray,List.map_nil,hf];rfl) (by simp only [List.map_toArray,List.map_nil,hf];exact h)
theorem yields_build0 {P:Program} {ops:Array Oper} {S:World→Prop} {o:Oper} {a:Act} (hw:Region.wanted o (yielded ops a.tmps)=true) (t:TypeId) (ho:o.op = .build t #[]) (cells:Array Value)
 (hf:P.built t []=some cells):YieldsIf P ops S o (.agg cells) a:=by
 refine .inl ⟨hw,fun w _ => ?_⟩
 unfold execOp
 simp only [ho,List.map_toArray,List.map_nil]
 rw [Sem.run_bind,run_build w t _ cells hf]
 rfl
theorem evn_odd {x:Nat} (h:(x%2 == 1)=true):evn x=(0+pF - x)%pF:=by unfold evn;rw [if_pos (by simpa using h)]
theorem evn_even {x:Nat} (h:(x%2 == 1)=false):evn x=x:=by unfold evn;rw [if_neg (by simpa using h)]
abbrev qp1x5:Oper:=oN 6 (Op.alloc 51) 0 "number.go:87" #[]
abbrev qp1x2:Oper:=oN 12 (cF1 53 #[oT 10,oT 11] #[51,51]) 51 "number.go:87" #[jD 0,jD 1]
abbrev qp1x4:Oper:=oN 14 (cF1 53 #[oT 12,oT 13] #[51,51]) 51 "number.go:87" #[jD 2,jD 3,jC 2]
abbrev qp1x6:Oper:=oS (Op.store 51 (oT 6) (oT 14)) "number.go:87" #[jD 5,jD 4,jC 4,jP 0,jP 1,jP 2,jP 3,jP 4,jP 5]
abbrev qp2x7:Oper:=oN 7 (Op.alloc 51) 0 "number.go:88" #[]
abbrev qp2x2:Oper:=oN 17 (cF1 53 #[oT 15,oT 16] #[51,51]) 51 "number.go:88" #[jD 0,jD 1]
abbrev qp2x4:Oper:=oN 19 (cF1 53 #[oT 17,oT 18] #[51,51]) 51 "number.go:88" #[jD 2,jD 3,jC 2]
abbrev qp2x6:Oper:=oN 21 (cF1 53 #[oT 19,oT 20] #[51,51]) 51 "number.go:88" #[jD 4,jD 5,jC 4]
abbrev qp2x8:Oper:=oS (Op.store 51 (oT 7) (oT 21)) "number.go:88" #[jD 7,jD 6,jC 6,jP 0,jP 1,jP 2,jP 3,jP 4,jP 5,jP 6,jP 7]
abbrev qp3x9:Oper:=oN 8 (Op.alloc 51) 0 "number.go:90" #[]
abbrev qp3x1:Oper:=oN 23 (cF1 90 #[oT 22] #[51]) 51 "number.go:90" #[jD 0]
abbrev qp3x4:Oper:=oN 26 (cF1 91 #[oT 23,Operand.const (Value.int IntKind.i64 2),oT 25] #[51,3,83]) 51 "number.go:90" #[jD 1,jD 3,jC 1]
abbrev qp3x6:Oper:=oN 28 (cF1 53 #[oT 26,oT 27] #[51,51]) 51 "number.go:90" #[jD 4,jD 5,jC 4]
abbrev qp3x8:Oper:=oN 30 (cF1 53 #[oT 28,oT 29] #[51,51]) 51 "number.go:90" #[jD 6,jD 7,jC 6]
abbrev qp3x10:Oper:=oS (Op.store 51 (oT 8) (oT 30)) "number.go:90" #[jD 9,jD 8,jC 8,jP 0,jP 1,jP 2,jP 3,jP 4,jP 5,jP 6,jP 7,jP 8,jP 9]
abbrev qp4x5:Oper:=oN 9 (Op.alloc 51) 0 "number.go:91" #[]
abbrev qp4x2:Oper:=oN 33 (cF1 53 #[oT 31,oT 32] #[51,51]) 51 "number.go:91" #[jD 0,jD 1]
abbrev qp4x4:Oper:=oN 35 (cF1 53 #[oT 33,oT 34] #[51,51]) 51 "number.go:91" #[jD 2,jD 3,jC 2]
abbrev qp4x6:Oper:=oS (Op.store 51 (oT 9) (oT 35)) "number.go:91" #[jD 5,jD 4,jC 4,jP 0,jP 1,jP 2,jP 3,jP 4,jP 5]
set_option maxRecDepth 20000 in
set_option maxHeartbeats 16000000 in
theorem rootq_raw (u v v2 v3 a1 a2 bs o t t2 x0 xx sq nu xi:Nat) (hu:u<pF) (hsq:sq<pF) (hnu:nu<pF) (hx0:x0<pF) (hxi:xi<pF)
 (k1:∀ W,Calls Tryz.prog 53 #[numV v,numV v] W fun e w'=>e = .returned (numV v2)∧Below W.heap.size W w')
 (k2:∀ W,Calls Tryz.prog 53 #[numV v2,numV v] W fun e w'=>e = .returned (numV v3)∧Below W.heap.size W w')
 (k3:∀ W,Calls Tryz.prog 53 #[numV u,numV v3] W fun e w'=>e = .returned (numV a1)∧Below W.heap.size W w')
 (k4:∀ W,Calls Tryz.prog 53 #[numV a1,numV v3] W fun e w'=>e = .returned (numV a2)∧Below W.heap.size W w')
 (k5:∀ W,Calls Tryz.prog 53 #[numV a2,numV v] W fun e w'=>e = .returned (numV bs)∧Below W.heap.size W w')
 (k6:∀ W,Calls Tryz.prog 90 #[numV bs] W fun e w'=>e = .returned (numV o)∧Below W.heap.size W w')
 (k7:∀ W,Calls Tryz.prog 91 #[numV o,.int .i64 2,.func (.func 53) #[numV bs] #[]] W fun e w'=>e = .returned (numV t)∧Below W.heap.size W w')
 (k8:∀ W,Calls Tryz.prog 53 #[numV t,numV u] W fun e w'=>e = .returned (numV t2)∧Below W.heap.size W w')
 (k9:∀ W,Calls Tryz.prog 53 #[numV t2,numV v3] W fun e w'=>e = .returned (numV x0)∧Below W.heap.size W w')
 (k10:∀ W,Calls Tryz.prog 53 #[numV x0,numV x0] W fun e w'=>e = .returned (numV xx)∧Below W.heap.size W w')
 (k11:∀ W,Calls Tryz.prog 53 #[numV xx,numV v] W fun e w'=>e = .returned (numV sq)∧Below W.heap.size W w')
 (k12:∀ W,Calls Tryz.prog 63 #[numV 0,numV u] W fun e w'=>e = .returned (numV nu)∧Below W.heap.size W w')
 (k13:∀ W,Calls Tryz.prog 53 #[numV x0,numV iM] W fun e w'=>e = .returned (numV xi)∧Below W.heap.size W w')
 (k14:∀ W,∀ z,z<pF→Calls Tryz.prog 137 #[numV z] W fun e w'=>e = .returned (.bool (z%2 == 1))∧Below W.heap.size W w')
 (k15:∀ W,∀ z,z<pF→Calls Tryz.prog 63 #[numV 0,numV z] W fun e w'=>e = .returned (numV ((0+pF - z)%pF))∧Below W.heap.size W w')
 (w:World) (im:IM w) :
 Calls Tryz.prog 126 #[numV u,numV v] w fun e w'=>e = .returned (.tuple #[numV (if sq=u then evn x0 else if sq=nu then evn xi else 0),.bool (if sq=u then true else decide (sq=nu))])∧Below w.heap.size w w':=by
 obtain ⟨V1,g2,e1,hg2,b1,hU⟩:∃ V g,w.alloc (.cells (c4 u).toArray 51)=V∧w.heap.size=g∧Below w.heap.size w V∧RW V g 0 (c4 u):=⟨_,_,rfl,rfl,(Below.refl _ _).alloc (Nat.le_refl _) _,RW.fresh w _ _⟩
 obtain ⟨V2,g3,e2,hg3,b2,hV⟩:∃ V g,V1.alloc (.cells (c4 v).toArray 51)=V∧V1.heap.size=g∧Below V1.heap.size V1 V∧RW V g 0 (c4 v):=⟨_,_,rfl,rfl,(Below.refl _ _).alloc (Nat.le_refl _) _,RW.fresh V1 _ _⟩
 obtain ⟨W,g4,e3,hg4,b3,h4⟩:=fresh4 V2
 have t1:V1.heap.size=w.heap.size+1:=by rw [←e1];simp
 have t2':V2.heap.size=V1.heap.size+1:=by rw [←e2];simp
 have HW:Hid (W=((w.alloc (.cells (c4 u).toArray 51)).alloc (.cells (c4 v).toArray 51)).alloc (.cells #[.int .u64 0,.int .u64 0,.int .u64 0,.int .u64 0] 51)):=Hid.mk' (by rw [←e3,←e2,←e1])
 have q2:Hid (w.heap.size=g2):=Hid.mk' hg2
 have q3:Hid (w.heap.size+1=g3):=Hid.mk' (by omega)
 have q4:Hid (w.heap.size+1+1=g4):=Hid.mk' (by omega)
 replace hU:=(hU.still b2).still b3
 replace hV:=hV.still b3
 have hbW:Below w.heap.size w W:=(b1.trans (b2.mono (by omega))).trans (b3.mono (by omega))
 replace im:=im.still hbW
 have w4:w.heap.size≤g4:=by omega
 have n24:g2≠g4:=by omega
 clear e1 e2 e3 hg2 hg3 hg4 b1 b2 b3 t1 t2' V1 V2
 obtain ⟨r,hr⟩:∃ r,r=(if sq=u then evn x0 else if sq=nu then evn xi else 0):=⟨_,rfl⟩
 obtain ⟨ok,hok⟩:∃ ok,ok=(if sq=u then true else decide (sq=nu)):=⟨_,rfl⟩
 rw [←hr,←hok]
 have Hr0:=Hid.mk' hr
 have Hk0:=Hid.mk' hok
 clear hr hok
 rw [show numV u = .agg (c4 u).toArray from rfl,show numV v = .agg (c4 v).toArray from rfl]
 go_enter Tryz.func126,Tryz.ntmps126
 go_upto_region 1 with (fail)
 rw [←HW.out,q4.out,q3.out,q2.out]
 clear HW q2 q3 q4
 go_cut [6] from 10 (fun s6 wc=>∃ g106,s6 = .pointer (some ⟨g106,0,none⟩)∧Below W.heap.size W wc∧W.heap.size≤g106∧RW wc g106 0 (c4 v3))
 case first =>
  clear im k3 k4 k5 k6 k7 k8 k9 k10 k11 k12 k13 k14 k15
  have hdrew:Below W.heap.size W W.drew:=(Below.refl _ _).drew
  replace hU:=hU.still hdrew
  replace hV:=hV.still hdrew
  replace h4:=h4.still hdrew
  refine wp_region_noPanic ?_
  refine wp_region_held_drew (S:=fun w'=>Below W.drew.heap.size W.drew w') (by kernel_rfl) (Below.refl _ _) (fun hS => ?_)
  generalize W.drew=Vp1_ at *
  refine tkH 0 (oN 10 (Op.load 51 (oT 3)) 51 "number.go:87" #[]) (numV v) hS (ldN hV 3) ?_
  (try simp only [pS])
  refine tkH 1 (oN 11 (Op.load 51 (oT 3)) 51 "number.go:87" #[]) (numV v) hS (ldN hV 3) ?_
  (try simp only [pS])
  refine tkH 3 (oN 13 (Op.load 51 (oT 3)) 51 "number.go:87" #[]) (numV v) hS (ldN hV 3) ?_
  (try simp only [pS])
  refine wpAnyH_ready (rs:=[2,5]) (by kernel_rfl) (by simp) ?_
  refine AllReadyH.cons (o:=qp1x2) rfl (fun K hK => ?_) (AllReadyH.cons (o:=qp1x5) rfl (fun K hK => ?_) (AllReadyH.nil))
  · unfold qp1x2
    go_simp
    (go_at_call 53;refine (k1 _).mono ?_;rintro e wp1_1 ⟨rfl,hbp1_1⟩)
    (try go_simp)
    have hSp1_1:=below_next hS hbp1_1
    refine hK.out _ _ hSp1_1 (fun h => ?_)
    clear h hK K hbp1_1
    (try simp only [pS])
    refine wpAnyH_ready (rs:=[4,5]) (by kernel_rfl) (by simp) ?_
    refine AllReadyH.cons (o:=qp1x4) rfl (fun K hK => ?_) (AllReadyH.cons (o:=qp1x5) rfl (fun K hK => ?_) (AllReadyH.nil))
    · unfold qp1x4
      go_simp
      (go_at_call 53;refine (k2 _).mono ?_;rintro e wp1_2 ⟨rfl,hbp1_2⟩)
      (try go_simp)
      have hSp1_2:=below_next hSp1_1 hbp1_2
      refine hK.out _ _ hSp1_2 (fun h => ?_)
      clear h hK K hbp1_2
      (try simp only [pS])
      refine wpAnyH_ready (rs:=[5]) (by kernel_rfl) (by simp) ?_
      refine AllReadyH.cons (o:=qp1x5) rfl (fun K hK => ?_) (AllReadyH.nil)
      unfold qp1x5
      go_simp
      obtain ⟨wp1_3,gp1_3,hwp1_3,hgp1_3,hbp1_3,rp1_3⟩:=fresh4 wp1_2
      rw [hwp1_3,hgp1_3]
      have hSp1_3:=below_next hSp1_2 hbp1_3
      have Gp1_3:Vp1_.heap.size≤gp1_3:=by have:=hSp1_2.size;omega
      refine hK.out _ _ hSp1_3 (fun h => ?_)
      clear h hK K hbp1_3 hwp1_3 hgp1_3
      (try simp only [pS])
      refine wpAnyH_ready (rs:=[6]) (by kernel_rfl) (by simp) ?_
      refine AllReadyH.cons (o:=qp1x6) rfl (fun K hK => ?_) (AllReadyH.nil)
      unfold qp1x6
      rw [if_pos (by rfl)]
      refine num_store _ _ rfl gp1_3 0 v3 rfl rfl rp1_3 hSp1_3 Gp1_3 (fun wp1_4 r0 hSp1_4 far => ?_)
      refine hK.out _ _ hSp1_4 (fun h => ?_)
      clear h hK K far rp1_3
      have rp1_3:=r0
      clear r0
      (try dsimp only [Act.put])
      refine wpAnyH_done (by kernel_rfl) ?_ _
      refine NoPanic.normal ?_
      go_wp2
      go_meet
      case rel=>exact ⟨gp1_3,rfl,below_next hdrew hSp1_4,Nat.le_trans hdrew.size Gp1_3,rp1_3⟩
    · unfold qp1x5
      go_simp
      obtain ⟨wp1_5,gp1_5,hwp1_5,hgp1_5,hbp1_5,rp1_5⟩:=fresh4 wp1_1
      rw [hwp1_5,hgp1_5]
      have hSp1_5:=below_next hSp1_1 hbp1_5
      have Gp1_5:Vp1_.heap.size≤gp1_5:=by have:=hSp1_1.size;omega
      refine hK.out _ _ hSp1_5 (fun h => ?_)
      clear h hK K hbp1_5 hwp1_5 hgp1_5
      (try simp only [pS])
      refine callH 4 (oN 14 (cF1 53 #[oT 12,oT 13] #[51,51]) 51 "number.go:87" #[jD 2,jD 3,jC 2]) (k2 _) ?_
      (rintro e wp1_6 ⟨rfl,hbp1_6⟩)
      have hSp1_6:=below_next hSp1_5 hbp1_6
      replace rp1_5:=rp1_5.still hbp1_6
      refine ⟨_,rfl,hSp1_6,?_⟩
      clear hbp1_6
      (try simp only [pS])
      refine wpAnyH_ready (rs:=[6]) (by kernel_rfl) (by simp) ?_
      refine AllReadyH.cons (o:=qp1x6) rfl (fun K hK => ?_) (AllReadyH.nil)
      unfold qp1x6
      rw [if_pos (by rfl)]
      refine num_store _ _ rfl gp1_5 0 v3 rfl rfl rp1_5 hSp1_6 Gp1_5 (fun wp1_7 r0 hSp1_7 far => ?_)
      refine hK.out _ _ hSp1_7 (fun h => ?_)
      clear h hK K far rp1_5
      have rp1_5:=r0
      clear r0
      (try dsimp only [Act.put])
      refine wpAnyH_done (by kernel_rfl) ?_ _
      refine NoPanic.normal ?_
      go_wp2
      go_meet
      case rel=>exact ⟨gp1_5,rfl,below_next hdrew hSp1_7,Nat.le_trans hdrew.size Gp1_5,rp1_5⟩
  · unfold qp1x5
    go_simp
    obtain ⟨wp1_8,gp1_8,hwp1_8,hgp1_8,hbp1_8,rp1_8⟩:=fresh4 Vp1_
    rw [hwp1_8,hgp1_8]
    have hSp1_8:=below_next hS hbp1_8
    have Gp1_8:Vp1_.heap.size≤gp1_8:=by have:=hS.size;omega
    refine hK.out _ _ hSp1_8 (fun h => ?_)
    clear h hK K hbp1_8 hwp1_8 hgp1_8
    (try simp only [pS])
    refine callH 2 (oN 12 (cF1 53 #[oT 10,oT 11] #[51,51]) 51 "number.go:87" #[jD 0,jD 1]) (k1 _) ?_
    (rintro e wp1_9 ⟨rfl,hbp1_9⟩)
    have hSp1_9:=below_next hSp1_8 hbp1_9
    replace rp1_8:=rp1_8.still hbp1_9
    refine ⟨_,rfl,hSp1_9,?_⟩
    clear hbp1_9
    (try simp only [pS])
    refine callH 4 (oN 14 (cF1 53 #[oT 12,oT 13] #[51,51]) 51 "number.go:87" #[jD 2,jD 3,jC 2]) (k2 _) ?_
    (rintro e wp1_10 ⟨rfl,hbp1_10⟩)
    have hSp1_10:=below_next hSp1_9 hbp1_10
    replace rp1_8:=rp1_8.still hbp1_10
    refine ⟨_,rfl,hSp1_10,?_⟩
    clear hbp1_10
    (try simp only [pS])
    refine wpAnyH_ready (rs:=[6]) (by kernel_rfl) (by simp) ?_
    refine AllReadyH.cons (o:=qp1x6) rfl (fun K hK => ?_) (AllReadyH.nil)
    unfold qp1x6
    rw [if_pos (by rfl)]
    refine num_store _ _ rfl gp1_8 0 v3 rfl rfl rp1_8 hSp1_10 Gp1_8 (fun wp1_11 r0 hSp1_11 far => ?_)
    refine hK.out _ _ hSp1_11 (fun h => ?_)
    clear h hK K far rp1_8
    have rp1_8:=r0
    clear r0
    (try dsimp only [Act.put])
    refine wpAnyH_done (by kernel_rfl) ?_ _
    refine NoPanic.normal ?_
    go_wp2
    go_meet
    case rel=>exact ⟨gp1_8,rfl,below_next hdrew hSp1_11,Nat.le_trans hdrew.size Gp1_8,rp1_8⟩
 case rest =>
 obtain ⟨g106,rfl,hb106,G106,h106⟩:=hcut
 have lt4:=h4.lt
 replace hU:=hU.still hb106
 replace hV:=hV.still hb106
 replace h4:=h4.still hb106
 replace im:=im.still hb106
 obtain ⟨U1,hU1⟩:∃ W,W=wc:=⟨_,rfl⟩
 rw [←hU1]
 rw [←hU1] at hU hV h4 h106 im hb106
 replace hbW:Below w.heap.size w U1:=below_next hbW hb106
 have n4_106:g106≠g4:=by omega
 clear hU1 hb106 G106 lt4
 go_upto_region 2 with (fail)
 go_cut [7] from 10 (fun s7 wc=>∃ g107,s7 = .pointer (some ⟨g107,0,none⟩)∧Below U1.heap.size U1 wc∧U1.heap.size≤g107∧RW wc g107 0 (c4 bs))
 case first =>
  clear im k1 k2 k6 k7 k8 k9 k10 k11 k12 k13 k14 k15
  have hdrew:Below U1.heap.size U1 U1.drew:=(Below.refl _ _).drew
  replace hU:=hU.still hdrew
  replace hV:=hV.still hdrew
  replace h4:=h4.still hdrew
  replace h106:=h106.still hdrew
  refine wp_region_noPanic ?_
  refine wp_region_held_drew (S:=fun w'=>Below U1.drew.heap.size U1.drew w') (by kernel_rfl) (Below.refl _ _) (fun hS => ?_)
  generalize U1.drew=Vp2_ at *
  refine tkH 0 (oN 15 (Op.load 51 (oT 2)) 51 "number.go:88" #[]) (numV u) hS (ldN hU 2) ?_
  (try simp only [pS])
  refine tkH 1 (oN 16 (Op.load 51 (oT 6)) 51 "number.go:88" #[]) (numV v3) hS (ldN h106 6) ?_
  (try simp only [pS])
  refine tkH 3 (oN 18 (Op.load 51 (oT 6)) 51 "number.go:88" #[]) (numV v3) hS (ldN h106 6) ?_
  (try simp only [pS])
  refine tkH 5 (oN 20 (Op.load 51 (oT 3)) 51 "number.go:88" #[]) (numV v) hS (ldN hV 3) ?_
  (try simp only [pS])
  refine wpAnyH_ready (rs:=[2,7]) (by kernel_rfl) (by simp) ?_
  refine AllReadyH.cons (o:=qp2x2) rfl (fun K hK => ?_) (AllReadyH.cons (o:=qp2x7) rfl (fun K hK => ?_) (AllReadyH.nil))
  · unfold qp2x2
    go_simp
    (go_at_call 53;refine (k3 _).mono ?_;rintro e wp2_1 ⟨rfl,hbp2_1⟩)
    (try go_simp)
    have hSp2_1:=below_next hS hbp2_1
    refine hK.out _ _ hSp2_1 (fun h => ?_)
    clear h hK K hbp2_1
    (try simp only [pS])
    refine wpAnyH_ready (rs:=[4,7]) (by kernel_rfl) (by simp) ?_
    refine AllReadyH.cons (o:=qp2x4) rfl (fun K hK => ?_) (AllReadyH.cons (o:=qp2x7) rfl (fun K hK => ?_) (AllReadyH.nil))
    · unfold qp2x4
      go_simp
      (go_at_call 53;refine (k4 _).mono ?_;rintro e wp2_2 ⟨rfl,hbp2_2⟩)
      (try go_simp)
      have hSp2_2:=below_next hSp2_1 hbp2_2
      refine hK.out _ _ hSp2_2 (fun h => ?_)
      clear h hK K hbp2_2
      (try simp only [pS])
      refine wpAnyH_ready (rs:=[6,7]) (by kernel_rfl) (by simp) ?_
      refine AllReadyH.cons (o:=qp2x6) rfl (fun K hK => ?_) (AllReadyH.cons (o:=qp2x7) rfl (fun K hK => ?_) (AllReadyH.nil))
      · unfold qp2x6
        go_simp
        (go_at_call 53;refine (k5 _).mono ?_;rintro e wp2_3 ⟨rfl,hbp2_3⟩)
        (try go_simp)
        have hSp2_3:=below_next hSp2_2 hbp2_3
        refine hK.out _ _ hSp2_3 (fun h => ?_)
        clear h hK K hbp2_3
        (try simp only [pS])
        refine wpAnyH_ready (rs:=[7]) (by kernel_rfl) (by simp) ?_
        refine AllReadyH.cons (o:=qp2x7) rfl (fun K hK => ?_) (AllReadyH.nil)
        unfold qp2x7
        go_simp
        obtain ⟨wp2_4,gp2_4,hwp2_4,hgp2_4,hbp2_4,rp2_4⟩:=fresh4 wp2_3
        rw [hwp2_4,hgp2_4]
        have hSp2_4:=below_next hSp2_3 hbp2_4
        have Gp2_4:Vp2_.heap.size≤gp2_4:=by have:=hSp2_3.size;omega
        refine hK.out _ _ hSp2_4 (fun h => ?_)
        clear h hK K hbp2_4 hwp2_4 hgp2_4
        (try simp only [pS])
        refine wpAnyH_ready (rs:=[8]) (by kernel_rfl) (by simp) ?_
        refine AllReadyH.cons (o:=qp2x8) rfl (fun K hK => ?_) (AllReadyH.nil)
        unfold qp2x8
        rw [if_pos (by rfl)]
        refine num_store _ _ rfl gp2_4 0 bs rfl rfl rp2_4 hSp2_4 Gp2_4 (fun wp2_5 r0 hSp2_5 far => ?_)
        refine hK.out _ _ hSp2_5 (fun h => ?_)
        clear h hK K far rp2_4
        have rp2_4:=r0
        clear r0
        (try dsimp only [Act.put])
        refine wpAnyH_done (by kernel_rfl) ?_ _
        refine NoPanic.normal ?_
        go_wp2
        go_meet
        case rel=>exact ⟨gp2_4,rfl,below_next hdrew hSp2_5,Nat.le_trans hdrew.size Gp2_4,rp2_4⟩
      · unfold qp2x7
        go_simp
        obtain ⟨wp2_6,gp2_6,hwp2_6,hgp2_6,hbp2_6,rp2_6⟩:=fresh4 wp2_2
        rw [hwp2_6,hgp2_6]
        have hSp2_6:=below_next hSp2_2 hbp2_6
        have Gp2_6:Vp2_.heap.size≤gp2_6:=by have:=hSp2_2.size;omega
        refine hK.out _ _ hSp2_6 (fun h => ?_)
        clear h hK K hbp2_6 hwp2_6 hgp2_6
        (try simp only [pS])
        refine callH 6 (oN 21 (cF1 53 #[oT 19,oT 20] #[51,51]) 51 "number.go:88" #[jD 4,jD 5,jC 4]) (k5 _) ?_
        (rintro e wp2_7 ⟨rfl,hbp2_7⟩)
        have hSp2_7:=below_next hSp2_6 hbp2_7
        replace rp2_6:=rp2_6.still hbp2_7
        refine ⟨_,rfl,hSp2_7,?_⟩
        clear hbp2_7
        (try simp only [pS])
        refine wpAnyH_ready (rs:=[8]) (by kernel_rfl) (by simp) ?_
        refine AllReadyH.cons (o:=qp2x8) rfl (fun K hK => ?_) (AllReadyH.nil)
        unfold qp2x8
        rw [if_pos (by rfl)]
        refine num_store _ _ rfl gp2_6 0 bs rfl rfl rp2_6 hSp2_7 Gp2_6 (fun wp2_8 r0 hSp2_8 far => ?_)
        refine hK.out _ _ hSp2_8 (fun h => ?_)
        clear h hK K far rp2_6
        have rp2_6:=r0
        clear r0
        (try dsimp only [Act.put])
        refine wpAnyH_done (by kernel_rfl) ?_ _
        refine NoPanic.normal ?_
        go_wp2
        go_meet
        case rel=>exact ⟨gp2_6,rfl,below_next hdrew hSp2_8,Nat.le_trans hdrew.size Gp2_6,rp2_6⟩
    · unfold qp2x7
      go_simp
      obtain ⟨wp2_9,gp2_9,hwp2_9,hgp2_9,hbp2_9,rp2_9⟩:=fresh4 wp2_1
      rw [hwp2_9,hgp2_9]
      have hSp2_9:=below_next hSp2_1 hbp2_9
      have Gp2_9:Vp2_.heap.size≤gp2_9:=by have:=hSp2_1.size;omega
      refine hK.out _ _ hSp2_9 (fun h => ?_)
      clear h hK K hbp2_9 hwp2_9 hgp2_9
      (try simp only [pS])
      refine callH 4 (oN 19 (cF1 53 #[oT 17,oT 18] #[51,51]) 51 "number.go:88" #[jD 2,jD 3,jC 2]) (k4 _) ?_
      (rintro e wp2_10 ⟨rfl,hbp2_10⟩)
      have hSp2_10:=below_next hSp2_9 hbp2_10
      replace rp2_9:=rp2_9.still hbp2_10
      refine ⟨_,rfl,hSp2_10,?_⟩
      clear hbp2_10
      (try simp only [pS])
      refine callH 6 (oN 21 (cF1 53 #[oT 19,oT 20] #[51,51]) 51 "number.go:88" #[jD 4,jD 5,jC 4]) (k5 _) ?_
      (rintro e wp2_11 ⟨rfl,hbp2_11⟩)
      have hSp2_11:=below_next hSp2_10 hbp2_11
      replace rp2_9:=rp2_9.still hbp2_11
      refine ⟨_,rfl,hSp2_11,?_⟩
      clear hbp2_11
      (try simp only [pS])
      refine wpAnyH_ready (rs:=[8]) (by kernel_rfl) (by simp) ?_
      refine AllReadyH.cons (o:=qp2x8) rfl (fun K hK => ?_) (AllReadyH.nil)
      unfold qp2x8
      rw [if_pos (by rfl)]
      refine num_store _ _ rfl gp2_9 0 bs rfl rfl rp2_9 hSp2_11 Gp2_9 (fun wp2_12 r0 hSp2_12 far => ?_)
      refine hK.out _ _ hSp2_12 (fun h => ?_)
      clear h hK K far rp2_9
      have rp2_9:=r0
      clear r0
      (try dsimp only [Act.put])
      refine wpAnyH_done (by kernel_rfl) ?_ _
      refine NoPanic.normal ?_
      go_wp2
      go_meet
      case rel=>exact ⟨gp2_9,rfl,below_next hdrew hSp2_12,Nat.le_trans hdrew.size Gp2_9,rp2_9⟩
  · unfold qp2x7
    go_simp
    obtain ⟨wp2_13,gp2_13,hwp2_13,hgp2_13,hbp2_13,rp2_13⟩:=fresh4 Vp2_
    rw [hwp2_13,hgp2_13]
    have hSp2_13:=below_next hS hbp2_13
    have Gp2_13:Vp2_.heap.size≤gp2_13:=by have:=hS.size;omega
    refine hK.out _ _ hSp2_13 (fun h => ?_)
    clear h hK K hbp2_13 hwp2_13 hgp2_13
    (try simp only [pS])
    refine callH 2 (oN 17 (cF1 53 #[oT 15,oT 16] #[51,51]) 51 "number.go:88" #[jD 0,jD 1]) (k3 _) ?_
    (rintro e wp2_14 ⟨rfl,hbp2_14⟩)
    have hSp2_14:=below_next hSp2_13 hbp2_14
    replace rp2_13:=rp2_13.still hbp2_14
    refine ⟨_,rfl,hSp2_14,?_⟩
    clear hbp2_14
    (try simp only [pS])
    refine callH 4 (oN 19 (cF1 53 #[oT 17,oT 18] #[51,51]) 51 "number.go:88" #[jD 2,jD 3,jC 2]) (k4 _) ?_
    (rintro e wp2_15 ⟨rfl,hbp2_15⟩)
    have hSp2_15:=below_next hSp2_14 hbp2_15
    replace rp2_13:=rp2_13.still hbp2_15
    refine ⟨_,rfl,hSp2_15,?_⟩
    clear hbp2_15
    (try simp only [pS])
    refine callH 6 (oN 21 (cF1 53 #[oT 19,oT 20] #[51,51]) 51 "number.go:88" #[jD 4,jD 5,jC 4]) (k5 _) ?_
    (rintro e wp2_16 ⟨rfl,hbp2_16⟩)
    have hSp2_16:=below_next hSp2_15 hbp2_16
    replace rp2_13:=rp2_13.still hbp2_16
    refine ⟨_,rfl,hSp2_16,?_⟩
    clear hbp2_16
    (try simp only [pS])
    refine wpAnyH_ready (rs:=[8]) (by kernel_rfl) (by simp) ?_
    refine AllReadyH.cons (o:=qp2x8) rfl (fun K hK => ?_) (AllReadyH.nil)
    unfold qp2x8
    rw [if_pos (by rfl)]
    refine num_store _ _ rfl gp2_13 0 bs rfl rfl rp2_13 hSp2_16 Gp2_13 (fun wp2_17 r0 hSp2_17 far => ?_)
    refine hK.out _ _ hSp2_17 (fun h => ?_)
    clear h hK K far rp2_13
    have rp2_13:=r0
    clear r0
    (try dsimp only [Act.put])
    refine wpAnyH_done (by kernel_rfl) ?_ _
    refine NoPanic.normal ?_
    go_wp2
    go_meet
    case rel=>exact ⟨gp2_13,rfl,below_next hdrew hSp2_17,Nat.le_trans hdrew.size Gp2_13,rp2_13⟩
 case rest =>
 obtain ⟨g107,rfl,hb107,G107,h107⟩:=hcut
 have lt4:=h4.lt
 replace hU:=hU.still hb107
 replace hV:=hV.still hb107
 replace h4:=h4.still hb107
 replace h106:=h106.still hb107
 replace im:=im.still hb107
 obtain ⟨U2,hU2⟩:∃ W,W=wc:=⟨_,rfl⟩
 rw [←hU2]
 rw [←hU2] at hU hV h4 h106 h107 im hb107
 replace hbW:Below w.heap.size w U2:=below_next hbW hb107
 have n4_107:g107≠g4:=by omega
 clear hU2 hb107 G107 lt4
 go_upto_region 3 with (fail)
 go_cut [8] from 10 (fun s8 wc=>∃ g108,s8 = .pointer (some ⟨g108,0,none⟩)∧Below U2.heap.size U2 wc∧U2.heap.size≤g108∧RW wc g108 0 (c4 x0))
 case first =>
  clear im k1 k2 k3 k4 k5 k10 k11 k12 k13 k14 k15
  have hdrew:Below U2.heap.size U2 U2.drew:=(Below.refl _ _).drew
  replace hU:=hU.still hdrew
  replace hV:=hV.still hdrew
  replace h4:=h4.still hdrew
  replace h106:=h106.still hdrew
  replace h107:=h107.still hdrew
  refine wp_region_noPanic ?_
  refine wp_region_held_drew (S:=fun w'=>Below U2.drew.heap.size U2.drew w') (by kernel_rfl) (Below.refl _ _) (fun hS => ?_)
  generalize U2.drew=Vp3_ at *
  refine tkH 0 (oN 22 (Op.load 51 (oT 7)) 51 "number.go:90" #[]) (numV bs) hS (ldN h107 7) ?_
  (try simp only [pS])
  refine tkH 2 (oN 24 (Op.load 51 (oT 7)) 51 "number.go:90" #[]) (numV bs) hS (ldN h107 7) ?_
  (try simp only [pS])
  refine tkH 3 (oN 25 (Op.makeFunc (Fn.func 53) #[oT 24] #[]) 83 "number.go:90" #[jD 2]) ?vp3_1 hS (Or.inl ⟨by rfl,?hp3_1⟩) ?rp3_1
  case hp3_1 =>
   intro w hSw
   go_simp
   try with_reducible rfl
  (try simp only [pS])
  refine tkH 5 (oN 27 (Op.load 51 (oT 2)) 51 "number.go:90" #[]) (numV u) hS (ldN hU 2) ?_
  (try simp only [pS])
  refine tkH 7 (oN 29 (Op.load 51 (oT 6)) 51 "number.go:90" #[]) (numV v3) hS (ldN h106 6) ?_
  (try simp only [pS])
  refine wpAnyH_ready (rs:=[1,9]) (by kernel_rfl) (by simp) ?_
  refine AllReadyH.cons (o:=qp3x1) rfl (fun K hK => ?_) (AllReadyH.cons (o:=qp3x9) rfl (fun K hK => ?_) (AllReadyH.nil))
  · unfold qp3x1
    go_simp
    (go_at_call 90;refine (k6 _).mono ?_;rintro e wp3_2 ⟨rfl,hbp3_2⟩)
    (try go_simp)
    have hSp3_2:=below_next hS hbp3_2
    refine hK.out _ _ hSp3_2 (fun h => ?_)
    clear h hK K hbp3_2
    (try simp only [pS])
    refine wpAnyH_ready (rs:=[4,9]) (by kernel_rfl) (by simp) ?_
    refine AllReadyH.cons (o:=qp3x4) rfl (fun K hK => ?_) (AllReadyH.cons (o:=qp3x9) rfl (fun K hK => ?_) (AllReadyH.nil))
    · unfold qp3x4
      go_simp
      (go_at_call 91;refine (k7 _).mono ?_;rintro e wp3_3 ⟨rfl,hbp3_3⟩)
      (try go_simp)
      have hSp3_3:=below_next hSp3_2 hbp3_3
      refine hK.out _ _ hSp3_3 (fun h => ?_)
      clear h hK K hbp3_3
      (try simp only [pS])
      refine wpAnyH_ready (rs:=[6,9]) (by kernel_rfl) (by simp) ?_
      refine AllReadyH.cons (o:=qp3x6) rfl (fun K hK => ?_) (AllReadyH.cons (o:=qp3x9) rfl (fun K hK => ?_) (AllReadyH.nil))
      · unfold qp3x6
        go_simp
        (go_at_call 53;refine (k8 _).mono ?_;rintro e wp3_4 ⟨rfl,hbp3_4⟩)
        (try go_simp)
        have hSp3_4:=below_next hSp3_3 hbp3_4
        refine hK.out _ _ hSp3_4 (fun h => ?_)
        clear h hK K hbp3_4
        (try simp only [pS])
        refine wpAnyH_ready (rs:=[8,9]) (by kernel_rfl) (by simp) ?_
        refine AllReadyH.cons (o:=qp3x8) rfl (fun K hK => ?_) (AllReadyH.cons (o:=qp3x9) rfl (fun K hK => ?_) (AllReadyH.nil))
        · unfold qp3x8
          go_simp
          (go_at_call 53;refine (k9 _).mono ?_;rintro e wp3_5 ⟨rfl,hbp3_5⟩)
          (try go_simp)
          have hSp3_5:=below_next hSp3_4 hbp3_5
          refine hK.out _ _ hSp3_5 (fun h => ?_)
          clear h hK K hbp3_5
          (try simp only [pS])
          refine wpAnyH_ready (rs:=[9]) (by kernel_rfl) (by simp) ?_
          refine AllReadyH.cons (o:=qp3x9) rfl (fun K hK => ?_) (AllReadyH.nil)
          unfold qp3x9
          go_simp
          obtain ⟨wp3_6,gp3_6,hwp3_6,hgp3_6,hbp3_6,rp3_6⟩:=fresh4 wp3_5
          rw [hwp3_6,hgp3_6]
          have hSp3_6:=below_next hSp3_5 hbp3_6
          have Gp3_6:Vp3_.heap.size≤gp3_6:=by have:=hSp3_5.size;omega
          refine hK.out _ _ hSp3_6 (fun h => ?_)
          clear h hK K hbp3_6 hwp3_6 hgp3_6
          (try simp only [pS])
          refine wpAnyH_ready (rs:=[10]) (by kernel_rfl) (by simp) ?_
          refine AllReadyH.cons (o:=qp3x10) rfl (fun K hK => ?_) (AllReadyH.nil)
          unfold qp3x10
          rw [if_pos (by rfl)]
          refine num_store _ _ rfl gp3_6 0 x0 rfl rfl rp3_6 hSp3_6 Gp3_6 (fun wp3_7 r0 hSp3_7 far => ?_)
          refine hK.out _ _ hSp3_7 (fun h => ?_)
          clear h hK K far rp3_6
          have rp3_6:=r0
          clear r0
          (try dsimp only [Act.put])
          refine wpAnyH_done (by kernel_rfl) ?_ _
          refine NoPanic.normal ?_
          go_wp2
          go_meet
          case rel=>exact ⟨gp3_6,rfl,below_next hdrew hSp3_7,Nat.le_trans hdrew.size Gp3_6,rp3_6⟩
        · unfold qp3x9
          go_simp
          obtain ⟨wp3_8,gp3_8,hwp3_8,hgp3_8,hbp3_8,rp3_8⟩:=fresh4 wp3_4
          rw [hwp3_8,hgp3_8]
          have hSp3_8:=below_next hSp3_4 hbp3_8
          have Gp3_8:Vp3_.heap.size≤gp3_8:=by have:=hSp3_4.size;omega
          refine hK.out _ _ hSp3_8 (fun h => ?_)
          clear h hK K hbp3_8 hwp3_8 hgp3_8
          (try simp only [pS])
          refine callH 8 (oN 30 (cF1 53 #[oT 28,oT 29] #[51,51]) 51 "number.go:90" #[jD 6,jD 7,jC 6]) (k9 _) ?_
          (rintro e wp3_9 ⟨rfl,hbp3_9⟩)
          have hSp3_9:=below_next hSp3_8 hbp3_9
          replace rp3_8:=rp3_8.still hbp3_9
          refine ⟨_,rfl,hSp3_9,?_⟩
          clear hbp3_9
          (try simp only [pS])
          refine wpAnyH_ready (rs:=[10]) (by kernel_rfl) (by simp) ?_
          refine AllReadyH.cons (o:=qp3x10) rfl (fun K hK => ?_) (AllReadyH.nil)
          unfold qp3x10
          rw [if_pos (by rfl)]
          refine num_store _ _ rfl gp3_8 0 x0 rfl rfl rp3_8 hSp3_9 Gp3_8 (fun wp3_10 r0 hSp3_10 far => ?_)
          refine hK.out _ _ hSp3_10 (fun h => ?_)
          clear h hK K far rp3_8
          have rp3_8:=r0
          clear r0
          (try dsimp only [Act.put])
          refine wpAnyH_done (by kernel_rfl) ?_ _
          refine NoPanic.normal ?_
          go_wp2
          go_meet
          case rel=>exact ⟨gp3_8,rfl,below_next hdrew hSp3_10,Nat.le_trans hdrew.size Gp3_8,rp3_8⟩
      · unfold qp3x9
        go_simp
        obtain ⟨wp3_11,gp3_11,hwp3_11,hgp3_11,hbp3_11,rp3_11⟩:=fresh4 wp3_3
        rw [hwp3_11,hgp3_11]
        have hSp3_11:=below_next hSp3_3 hbp3_11
        have Gp3_11:Vp3_.heap.size≤gp3_11:=by have:=hSp3_3.size;omega
        refine hK.out _ _ hSp3_11 (fun h => ?_)
        clear h hK K hbp3_11 hwp3_11 hgp3_11
        (try simp only [pS])
        refine callH 6 (oN 28 (cF1 53 #[oT 26,oT 27] #[51,51]) 51 "number.go:90" #[jD 4,jD 5,jC 4]) (k8 _) ?_
        (rintro e wp3_12 ⟨rfl,hbp3_12⟩)
        have hSp3_12:=below_next hSp3_11 hbp3_12
        replace rp3_11:=rp3_11.still hbp3_12
        refine ⟨_,rfl,hSp3_12,?_⟩
        clear hbp3_12
        (try simp only [pS])
        refine callH 8 (oN 30 (cF1 53 #[oT 28,oT 29] #[51,51]) 51 "number.go:90" #[jD 6,jD 7,jC 6]) (k9 _) ?_
        (rintro e wp3_13 ⟨rfl,hbp3_13⟩)
        have hSp3_13:=below_next hSp3_12 hbp3_13
        replace rp3_11:=rp3_11.still hbp3_13
        refine ⟨_,rfl,hSp3_13,?_⟩
        clear hbp3_13
        (try simp only [pS])
        refine wpAnyH_ready (rs:=[10]) (by kernel_rfl) (by simp) ?_
        refine AllReadyH.cons (o:=qp3x10) rfl (fun K hK => ?_) (AllReadyH.nil)
        unfold qp3x10
        rw [if_pos (by rfl)]
        refine num_store _ _ rfl gp3_11 0 x0 rfl rfl rp3_11 hSp3_13 Gp3_11 (fun wp3_14 r0 hSp3_14 far => ?_)
        refine hK.out _ _ hSp3_14 (fun h => ?_)
        clear h hK K far rp3_11
        have rp3_11:=r0
        clear r0
        (try dsimp only [Act.put])
        refine wpAnyH_done (by kernel_rfl) ?_ _
        refine NoPanic.normal ?_
        go_wp2
        go_meet
        case rel=>exact ⟨gp3_11,rfl,below_next hdrew hSp3_14,Nat.le_trans hdrew.size Gp3_11,rp3_11⟩
    · unfold qp3x9
      go_simp
      obtain ⟨wp3_15,gp3_15,hwp3_15,hgp3_15,hbp3_15,rp3_15⟩:=fresh4 wp3_2
      rw [hwp3_15,hgp3_15]
      have hSp3_15:=below_next hSp3_2 hbp3_15
      have Gp3_15:Vp3_.heap.size≤gp3_15:=by have:=hSp3_2.size;omega
      refine hK.out _ _ hSp3_15 (fun h => ?_)
      clear h hK K hbp3_15 hwp3_15 hgp3_15
      (try simp only [pS])
      refine callH 4 (oN 26 (cF1 91 #[oT 23,Operand.const (Value.int IntKind.i64 2),oT 25] #[51,3,83]) 51 "number.go:90" #[jD 1,jD 3,jC 1]) (k7 _) ?_
      (rintro e wp3_16 ⟨rfl,hbp3_16⟩)
      have hSp3_16:=below_next hSp3_15 hbp3_16
      replace rp3_15:=rp3_15.still hbp3_16
      refine ⟨_,rfl,hSp3_16,?_⟩
      clear hbp3_16
      (try simp only [pS])
      refine callH 6 (oN 28 (cF1 53 #[oT 26,oT 27] #[51,51]) 51 "number.go:90" #[jD 4,jD 5,jC 4]) (k8 _) ?_
      (rintro e wp3_17 ⟨rfl,hbp3_17⟩)
      have hSp3_17:=below_next hSp3_16 hbp3_17
      replace rp3_15:=rp3_15.still hbp3_17
      refine ⟨_,rfl,hSp3_17,?_⟩
      clear hbp3_17
      (try simp only [pS])
      refine callH 8 (oN 30 (cF1 53 #[oT 28,oT 29] #[51,51]) 51 "number.go:90" #[jD 6,jD 7,jC 6]) (k9 _) ?_
      (rintro e wp3_18 ⟨rfl,hbp3_18⟩)
      have hSp3_18:=below_next hSp3_17 hbp3_18
      replace rp3_15:=rp3_15.still hbp3_18
      refine ⟨_,rfl,hSp3_18,?_⟩
      clear hbp3_18
      (try simp only [pS])
      refine wpAnyH_ready (rs:=[10]) (by kernel_rfl) (by simp) ?_
      refine AllReadyH.cons (o:=qp3x10) rfl (fun K hK => ?_) (AllReadyH.nil)
      unfold qp3x10
      rw [if_pos (by rfl)]
      refine num_store _ _ rfl gp3_15 0 x0 rfl rfl rp3_15 hSp3_18 Gp3_15 (fun wp3_19 r0 hSp3_19 far => ?_)
      refine hK.out _ _ hSp3_19 (fun h => ?_)
      clear h hK K far rp3_15
      have rp3_15:=r0
      clear r0
      (try dsimp only [Act.put])
      refine wpAnyH_done (by kernel_rfl) ?_ _
      refine NoPanic.normal ?_
      go_wp2
      go_meet
      case rel=>exact ⟨gp3_15,rfl,below_next hdrew hSp3_19,Nat.le_trans hdrew.size Gp3_15,rp3_15⟩
  · unfold qp3x9
    go_simp
    obtain ⟨wp3_20,gp3_20,hwp3_20,hgp3_20,hbp3_20,rp3_20⟩:=fresh4 Vp3_
    rw [hwp3_20,hgp3_20]
    have hSp3_20:=below_next hS hbp3_20
    have Gp3_20:Vp3_.heap.size≤gp3_20:=by have:=hS.size;omega
    refine hK.out _ _ hSp3_20 (fun h => ?_)
    clear h hK K hbp3_20 hwp3_20 hgp3_20
    (try simp only [pS])
    refine callH 1 (oN 23 (cF1 90 #[oT 22] #[51]) 51 "number.go:90" #[jD 0]) (k6 _) ?_
    (rintro e wp3_21 ⟨rfl,hbp3_21⟩)
    have hSp3_21:=below_next hSp3_20 hbp3_21
    replace rp3_20:=rp3_20.still hbp3_21
    refine ⟨_,rfl,hSp3_21,?_⟩
    clear hbp3_21
    (try simp only [pS])
    refine callH 4 (oN 26 (cF1 91 #[oT 23,Operand.const (Value.int IntKind.i64 2),oT 25] #[51,3,83]) 51 "number.go:90" #[jD 1,jD 3,jC 1]) (k7 _) ?_
    (rintro e wp3_22 ⟨rfl,hbp3_22⟩)
    have hSp3_22:=below_next hSp3_21 hbp3_22
    replace rp3_20:=rp3_20.still hbp3_22
    refine ⟨_,rfl,hSp3_22,?_⟩
    clear hbp3_22
    (try simp only [pS])
    refine callH 6 (oN 28 (cF1 53 #[oT 26,oT 27] #[51,51]) 51 "number.go:90" #[jD 4,jD 5,jC 4]) (k8 _) ?_
    (rintro e wp3_23 ⟨rfl,hbp3_23⟩)
    have hSp3_23:=below_next hSp3_22 hbp3_23
    replace rp3_20:=rp3_20.still hbp3_23
    refine ⟨_,rfl,hSp3_23,?_⟩
    clear hbp3_23
    (try simp only [pS])
    refine callH 8 (oN 30 (cF1 53 #[oT 28,oT 29] #[51,51]) 51 "number.go:90" #[jD 6,jD 7,jC 6]) (k9 _) ?_
    (rintro e wp3_24 ⟨rfl,hbp3_24⟩)
    have hSp3_24:=below_next hSp3_23 hbp3_24
    replace rp3_20:=rp3_20.still hbp3_24
    refine ⟨_,rfl,hSp3_24,?_⟩
    clear hbp3_24
    (try simp only [pS])
    refine wpAnyH_ready (rs:=[10]) (by kernel_rfl) (by simp) ?_
    refine AllReadyH.cons (o:=qp3x10) rfl (fun K hK => ?_) (AllReadyH.nil)
    unfold qp3x10
    rw [if_pos (by rfl)]
    refine num_store _ _ rfl gp3_20 0 x0 rfl rfl rp3_20 hSp3_24 Gp3_20 (fun wp3_25 r0 hSp3_25 far => ?_)
    refine hK.out _ _ hSp3_25 (fun h => ?_)
    clear h hK K far rp3_20
    have rp3_20:=r0
    clear r0
    (try dsimp only [Act.put])
    refine wpAnyH_done (by kernel_rfl) ?_ _
    refine NoPanic.normal ?_
    go_wp2
    go_meet
    case rel=>exact ⟨gp3_20,rfl,below_next hdrew hSp3_25,Nat.le_trans hdrew.size Gp3_20,rp3_20⟩
 case rest =>
 obtain ⟨g108,rfl,hb108,G108,h108⟩:=hcut
 have lt4:=h4.lt
 replace hU:=hU.still hb108
 replace hV:=hV.still hb108
 replace h4:=h4.still hb108
 replace h106:=h106.still hb108
 replace h107:=h107.still hb108
 replace im:=im.still hb108
 obtain ⟨U3,hU3⟩:∃ W,W=wc:=⟨_,rfl⟩
 rw [←hU3]
 rw [←hU3] at hU hV h4 h106 h107 h108 im hb108
 replace hbW:Below w.heap.size w U3:=below_next hbW hb108
 have n4_108:g108≠g4:=by omega
 have w108:w.heap.size≤g108:=Nat.le_trans (Nat.le_trans w4 (Nat.le_of_lt lt4)) G108
 clear hU3 hb108 G108 lt4
 go_upto_region 4 with (fail)
 go_cut [9] from 10 (fun s9 wc=>∃ g109,s9 = .pointer (some ⟨g109,0,none⟩)∧Below U3.heap.size U3 wc∧U3.heap.size≤g109∧RW wc g109 0 (c4 sq))
 case first =>
  clear im k1 k2 k3 k4 k5 k6 k7 k8 k9 k12 k13 k14 k15
  have hdrew:Below U3.heap.size U3 U3.drew:=(Below.refl _ _).drew
  replace hU:=hU.still hdrew
  replace hV:=hV.still hdrew
  replace h4:=h4.still hdrew
  replace h106:=h106.still hdrew
  replace h107:=h107.still hdrew
  replace h108:=h108.still hdrew
  refine wp_region_noPanic ?_
  refine wp_region_held_drew (S:=fun w'=>Below U3.drew.heap.size U3.drew w') (by kernel_rfl) (Below.refl _ _) (fun hS => ?_)
  generalize U3.drew=Vp4_ at *
  refine tkH 0 (oN 31 (Op.load 51 (oT 8)) 51 "number.go:91" #[]) (numV x0) hS (ldN h108 8) ?_
  (try simp only [pS])
  refine tkH 1 (oN 32 (Op.load 51 (oT 8)) 51 "number.go:91" #[]) (numV x0) hS (ldN h108 8) ?_
  (try simp only [pS])
  refine tkH 3 (oN 34 (Op.load 51 (oT 3)) 51 "number.go:91" #[]) (numV v) hS (ldN hV 3) ?_
  (try simp only [pS])
  refine wpAnyH_ready (rs:=[2,5]) (by kernel_rfl) (by simp) ?_
  refine AllReadyH.cons (o:=qp4x2) rfl (fun K hK => ?_) (AllReadyH.cons (o:=qp4x5) rfl (fun K hK => ?_) (AllReadyH.nil))
  · unfold qp4x2
    go_simp
    (go_at_call 53;refine (k10 _).mono ?_;rintro e wp4_1 ⟨rfl,hbp4_1⟩)
    (try go_simp)
    have hSp4_1:=below_next hS hbp4_1
    refine hK.out _ _ hSp4_1 (fun h => ?_)
    clear h hK K hbp4_1
    (try simp only [pS])
    refine wpAnyH_ready (rs:=[4,5]) (by kernel_rfl) (by simp) ?_
    refine AllReadyH.cons (o:=qp4x4) rfl (fun K hK => ?_) (AllReadyH.cons (o:=qp4x5) rfl (fun K hK => ?_) (AllReadyH.nil))
    · unfold qp4x4
      go_simp
      (go_at_call 53;refine (k11 _).mono ?_;rintro e wp4_2 ⟨rfl,hbp4_2⟩)
      (try go_simp)
      have hSp4_2:=below_next hSp4_1 hbp4_2
      refine hK.out _ _ hSp4_2 (fun h => ?_)
      clear h hK K hbp4_2
      (try simp only [pS])
      refine wpAnyH_ready (rs:=[5]) (by kernel_rfl) (by simp) ?_
      refine AllReadyH.cons (o:=qp4x5) rfl (fun K hK => ?_) (AllReadyH.nil)
      unfold qp4x5
      go_simp
      obtain ⟨wp4_3,gp4_3,hwp4_3,hgp4_3,hbp4_3,rp4_3⟩:=fresh4 wp4_2
      rw [hwp4_3,hgp4_3]
      have hSp4_3:=below_next hSp4_2 hbp4_3
      have Gp4_3:Vp4_.heap.size≤gp4_3:=by have:=hSp4_2.size;omega
      refine hK.out _ _ hSp4_3 (fun h => ?_)
      clear h hK K hbp4_3 hwp4_3 hgp4_3
      (try simp only [pS])
      refine wpAnyH_ready (rs:=[6]) (by kernel_rfl) (by simp) ?_
      refine AllReadyH.cons (o:=qp4x6) rfl (fun K hK => ?_) (AllReadyH.nil)
      unfold qp4x6
      rw [if_pos (by rfl)]
      refine num_store _ _ rfl gp4_3 0 sq rfl rfl rp4_3 hSp4_3 Gp4_3 (fun wp4_4 r0 hSp4_4 far => ?_)
      refine hK.out _ _ hSp4_4 (fun h => ?_)
      clear h hK K far rp4_3
      have rp4_3:=r0
      clear r0
      (try dsimp only [Act.put])
      refine wpAnyH_done (by kernel_rfl) ?_ _
      refine NoPanic.normal ?_
      go_wp2
      go_meet
      case rel=>exact ⟨gp4_3,rfl,below_next hdrew hSp4_4,Nat.le_trans hdrew.size Gp4_3,rp4_3⟩
    · unfold qp4x5
      go_simp
      obtain ⟨wp4_5,gp4_5,hwp4_5,hgp4_5,hbp4_5,rp4_5⟩:=fresh4 wp4_1
      rw [hwp4_5,hgp4_5]
      have hSp4_5:=below_next hSp4_1 hbp4_5
      have Gp4_5:Vp4_.heap.size≤gp4_5:=by have:=hSp4_1.size;omega
      refine hK.out _ _ hSp4_5 (fun h => ?_)
      clear h hK K hbp4_5 hwp4_5 hgp4_5
      (try simp only [pS])
      refine callH 4 (oN 35 (cF1 53 #[oT 33,oT 34] #[51,51]) 51 "number.go:91" #[jD 2,jD 3,jC 2]) (k11 _) ?_
      (rintro e wp4_6 ⟨rfl,hbp4_6⟩)
      have hSp4_6:=below_next hSp4_5 hbp4_6
      replace rp4_5:=rp4_5.still hbp4_6
      refine ⟨_,rfl,hSp4_6,?_⟩
      clear hbp4_6
      (try simp only [pS])
      refine wpAnyH_ready (rs:=[6]) (by kernel_rfl) (by simp) ?_
      refine AllReadyH.cons (o:=qp4x6) rfl (fun K hK => ?_) (AllReadyH.nil)
      unfold qp4x6
      rw [if_pos (by rfl)]
      refine num_store _ _ rfl gp4_5 0 sq rfl rfl rp4_5 hSp4_6 Gp4_5 (fun wp4_7 r0 hSp4_7 far => ?_)
      refine hK.out _ _ hSp4_7 (fun h => ?_)
      clear h hK K far rp4_5
      have rp4_5:=r0
      clear r0
      (try dsimp only [Act.put])
      refine wpAnyH_done (by kernel_rfl) ?_ _
      refine NoPanic.normal ?_
      go_wp2
      go_meet
      case rel=>exact ⟨gp4_5,rfl,below_next hdrew hSp4_7,Nat.le_trans hdrew.size Gp4_5,rp4_5⟩
  · unfold qp4x5
    go_simp
    obtain ⟨wp4_8,gp4_8,hwp4_8,hgp4_8,hbp4_8,rp4_8⟩:=fresh4 Vp4_
    rw [hwp4_8,hgp4_8]
    have hSp4_8:=below_next hS hbp4_8
    have Gp4_8:Vp4_.heap.size≤gp4_8:=by have:=hS.size;omega
    refine hK.out _ _ hSp4_8 (fun h => ?_)
    clear h hK K hbp4_8 hwp4_8 hgp4_8
    (try simp only [pS])
    refine callH 2 (oN 33 (cF1 53 #[oT 31,oT 32] #[51,51]) 51 "number.go:91" #[jD 0,jD 1]) (k10 _) ?_
    (rintro e wp4_9 ⟨rfl,hbp4_9⟩)
    have hSp4_9:=below_next hSp4_8 hbp4_9
    replace rp4_8:=rp4_8.still hbp4_9
    refine ⟨_,rfl,hSp4_9,?_⟩
    clear hbp4_9
    (try simp only [pS])
    refine callH 4 (oN 35 (cF1 53 #[oT 33,oT 34] #[51,51]) 51 "number.go:91" #[jD 2,jD 3,jC 2]) (k11 _) ?_
    (rintro e wp4_10 ⟨rfl,hbp4_10⟩)
    have hSp4_10:=below_next hSp4_9 hbp4_10
    replace rp4_8:=rp4_8.still hbp4_10
    refine ⟨_,rfl,hSp4_10,?_⟩
    clear hbp4_10
    (try simp only [pS])
    refine wpAnyH_ready (rs:=[6]) (by kernel_rfl) (by simp) ?_
    refine AllReadyH.cons (o:=qp4x6) rfl (fun K hK => ?_) (AllReadyH.nil)
    unfold qp4x6
    rw [if_pos (by rfl)]
    refine num_store _ _ rfl gp4_8 0 sq rfl rfl rp4_8 hSp4_10 Gp4_8 (fun wp4_11 r0 hSp4_11 far => ?_)
    refine hK.out _ _ hSp4_11 (fun h => ?_)
    clear h hK K far rp4_8
    have rp4_8:=r0
    clear r0
    (try dsimp only [Act.put])
    refine wpAnyH_done (by kernel_rfl) ?_ _
    refine NoPanic.normal ?_
    go_wp2
    go_meet
    case rel=>exact ⟨gp4_8,rfl,below_next hdrew hSp4_11,Nat.le_trans hdrew.size Gp4_8,rp4_8⟩
 case rest =>
 obtain ⟨g109,rfl,hb109,G109,h109⟩:=hcut
 have lt4:=h4.lt
 replace hU:=hU.still hb109
 replace hV:=hV.still hb109
 replace h4:=h4.still hb109
 replace h106:=h106.still hb109
 replace h107:=h107.still hb109
 replace h108:=h108.still hb109
 replace im:=im.still hb109
 obtain ⟨U4,hU4⟩:∃ W,W=wc:=⟨_,rfl⟩
 rw [←hU4]
 rw [←hU4] at hU hV h4 h106 h107 h108 h109 im hb109
 replace hbW:Below w.heap.size w U4:=below_next hbW hb109
 have n4_109:g109≠g4:=by omega
 clear hU4 hb109 G109 lt4
 go_upto_region 5 with (fail)
 clear k1 k2 k3 k4 k5 k6 k7 k8 k9 k10 k11 hV h106 h107
 have sqr:=h109.range
 have ur:=hU.range
 by_cases h1:sq=u
 · have Hr:Hid (r=evn x0):=Hid.mk' (by rw [Hr0.out,if_pos h1])
   have Hk:Hid (ok=true):=Hid.mk' (by rw [Hk0.out,if_pos h1])
   clear Hr0 Hk0
   have d1:decide (sq=u)=true:=decide_eq_true h1
   clear h1 k12 k13
   go_upto_region 9 with (first
    | (refine wpList_load_mid rfl 51 _ rfl g109 0 rfl (c4 sq) _ sqr Tryz.underlying51 rfl info4 ?_)
    | (refine wpList_load_mid rfl 51 _ rfl g2 0 rfl (c4 u) _ ur Tryz.underlying51 rfl info4 ?_)
    | (refine wpList_neq rfl _ _ _ rfl sq u hsq hu rfl rfl true d1 ?_))
   clear sqr ur h109 hU
   have ko:∀ W,Calls Tryz.prog 137 #[.agg (c4 x0).toArray] W fun e w'=>e = .returned (.bool (x0%2 == 1))∧Below W.heap.size W w':=fun W=>k14 W x0 hx0
   have km:∀ W,Calls Tryz.prog 63 #[.agg (c4 0).toArray,.agg (c4 x0).toArray] W fun e w'=>e = .returned (.agg (c4 ((0+pF - x0)%pF)).toArray)∧Below W.heap.size W w':=fun W=>k15 W x0 hx0
   clear k14 k15
   cases hpar:(x0%2 == 1) with
   | false =>
    rw [hpar] at ko
    have Hr2:Hid (r=x0):=Hid.mk' (by rw [Hr.out,evn_even hpar])
    clear km hpar Hr
    go_wp2_with (first
     | (refine wpList_load_mid rfl 51 _ rfl g108 0 rfl (c4 x0) _ h108.range Tryz.underlying51 rfl info4 ?_)
     | (go_at_call 137;refine (ko _).mono ?_;clear ko;rintro e w9 ⟨rfl,hb9⟩;(replace h108:=h108.still hb9);(replace h4:=h4.still hb9);(replace hbW:=below_next hbW hb9);clear hb9;(have t4:w9.there g4 0 (c4 x0).toArray.size:=h4.there))
     | (with_reducible (refine id (?_:wpList _ _ _ _ _ _));refine wpList_store_mid rfl 51 _ _ rfl g4 0 (c4 x0).toArray rfl rfl t4 (info4a x0) (one4 x0) ?_))
    (try simp only [Exit.inBlock,Exit.then])
    exact bodyPost_ret (results_cell_tmp Tryz.results126 _ _ g4 0 (c4 x0) _ rfl (h4.stored (c4 x0) rfl).range Tryz.underlying51 rfl info4) rfl ⟨by rw [Hr2.out,Hk.out];rfl,below_setCells w4 _ _ _ hbW⟩
   | true =>
    rw [hpar] at ko
    obtain ⟨y,hy⟩:∃ y,(0+pF - x0)%pF=y:=⟨_,rfl⟩
    rw [hy] at km
    have Hr2:Hid (r=y):=Hid.mk' (by rw [Hr.out,evn_odd hpar,hy])
    clear hpar hy Hr
    go_wp2_with (first
     | (refine wpList_load_mid rfl 51 _ rfl g108 0 rfl (c4 x0) _ h108.range Tryz.underlying51 rfl info4 ?_)
     | (refine wpList_load_mid rfl 51 _ rfl g108 0 rfl (c4 y) _ h108.range Tryz.underlying51 rfl info4 ?_)
     | (refine wpList_build0 rfl 51 rfl (c4 0).toArray built0 ?_)
     | (go_at_call 137;refine (ko _).mono ?_;clear ko;rintro e w9 ⟨rfl,hb9⟩;(replace h108:=h108.still hb9);(replace h4:=h4.still hb9);(replace hbW:=below_next hbW hb9);clear hb9)
     | (go_at_call 63;refine (km _).mono ?_;clear km;rintro e w10 ⟨rfl,hb10⟩;(replace h108:=h108.still hb10);(replace h4:=h4.still hb10);(replace hbW:=below_next hbW hb10);clear hb10;(have t8:w10.there g108 0 (c4 y).toArray.size:=h108.there);(obtain ⟨V8,hV8⟩:∃ V,V=w10.setCells g108 0 (c4 y):=⟨_,rfl⟩);(replace h108:=h108.stored (c4 y) rfl);(replace h4:=h4.far g108 0 (c4 y) (.inl n4_108.symm));(replace hbW:=below_setCells w108 (c4 y) 0 _ hbW);rw [←hV8] at h108 h4 hbW;(have H8:=Hid.mk' hV8);clear hV8;(have t4:V8.there g4 0 (c4 y).toArray.size:=h4.there))
     | (with_reducible (refine id (?_:wpList _ _ _ _ _ _));refine wpList_store_mid rfl 51 _ _ rfl g108 0 (c4 y).toArray rfl rfl t8 (info4a y) (one4 y) ?_;rw [List.toList_toArray,←H8.out];clear t8)
     | (with_reducible (refine id (?_:wpList _ _ _ _ _ _));refine wpList_store_mid rfl 51 _ _ rfl g4 0 (c4 y).toArray rfl rfl t4 (info4a y) (one4 y) ?_))
    (try simp only [Exit.inBlock,Exit.then])
    exact bodyPost_ret (results_cell_tmp Tryz.results126 _ _ g4 0 (c4 y) _ rfl (h4.stored (c4 y) rfl).range Tryz.underlying51 rfl info4) rfl ⟨by rw [Hr2.out,Hk.out];rfl,below_setCells w4 _ _ _ hbW⟩
 · have Hr1:Hid (r=if sq=nu then evn xi else 0):=Hid.mk' (by rw [Hr0.out,if_neg h1])
   have Hk1:Hid (ok=decide (sq=nu)):=Hid.mk' (by rw [Hk0.out,if_neg h1])
   clear Hr0 Hk0
   have d1:decide (sq=u)=false:=decide_eq_false h1
   clear h1
   go_upto_region 6 with (first
    | (refine wpList_load_mid rfl 51 _ rfl g109 0 rfl (c4 sq) _ sqr Tryz.underlying51 rfl info4 ?_)
    | (refine wpList_load_mid rfl 51 _ rfl g2 0 rfl (c4 u) _ ur Tryz.underlying51 rfl info4 ?_)
    | (refine wpList_neq rfl _ _ _ rfl sq u hsq hu rfl rfl false d1 ?_))
   clear sqr ur d1
   obtain ⟨z,hz⟩:∃ z,decide (sq=nu)=z:=⟨_,rfl⟩
   have Hk:Hid (ok=z):=Hid.mk' (by rw [Hk1.out,hz])
   clear Hk1
   (try simp only [Act.put,List.setIfInBounds_toArray,List.set_cons_zero,List.set_cons_succ,Bool.not_false])
   go_cut [43] from 10 (fun s43 wc=>s43 = .bool (!z)∧Below U4.heap.size U4 wc)
   case first =>
    clear k13 k14 k15 im
    have hdrew:Below U4.heap.size U4 U4.drew:=(Below.refl _ _).drew
    replace hU:=hU.still hdrew
    replace h109:=h109.still hdrew
    refine wp_region_noPanic ?_
    refine wp_region_held_drew (S:=fun w'=>Below U4.drew.heap.size U4.drew w') (by kernel_rfl) (Below.refl _ _) (fun hS => ?_)
    generalize U4.drew=Vp6_ at *
    refine tkH 0 (oN 39 (Op.load 51 (oT 9)) 51 "number.go:93" #[]) (numV sq) hS (ldN h109 9) ?_
    (try simp only [pS])
    refine tkH 1 (oN 40 (Op.build 51 #[]) 51 "number.go:93" #[]) (numV 0) hS (yields_build0 (by rfl) 51 rfl _ built0) ?_
    (try simp only [pS])
    refine tkH 2 (oN 41 (Op.load 51 (oT 2)) 51 "number.go:93" #[]) (numV u) hS (ldN hU 2) ?_
    (try simp only [pS])
    refine callH 3 (oN 42 (cF1 63 #[oT 40,oT 41] #[51,51]) 51 "number.go:93" #[jD 1,jD 2]) (k12 _) ?_
    (rintro e wp6_1 ⟨rfl,hbp6_1⟩)
    have hSp6_1:=below_next hS hbp6_1
    refine ⟨_,rfl,hSp6_1,?_⟩
    clear hbp6_1
    (try simp only [pS])
    refine tkH 4 (oN 43 (Op.binOp BinOp.neq 51 (oT 39) (oT 42) 51) 4 "number.go:93" #[jD 0,jD 3]) (.bool (!z)) hSp6_1 (yields_neq (by rfl) _ _ _ rfl sq nu hsq hnu rfl rfl z hz) ?_
    (try simp only [pS])
    refine wpAnyH_done (by kernel_rfl) ?_ _
    refine NoPanic.normal ?_
    go_wp2
    go_meet
    case rel=>exact ⟨rfl,below_next hdrew hSp6_1⟩
   case rest =>
   obtain ⟨rfl,hb6⟩:=hcut
   replace h108:=h108.still hb6
   replace h4:=h4.still hb6
   replace im:=im.still hb6
   replace hbW:=below_next hbW hb6
   clear hb6 h109 hU k12
   cases z with
   | false =>
    have Hr:Hid (r=0):=Hid.mk' (by rw [Hr1.out,if_neg (of_decide_eq_false hz)])
    clear Hr1
    have t4:wc.there g4 0 (c4 0).toArray.size:=h4.there
    clear hz k13 k14 k15
    go_wp2_with (first
     | (refine wpList_build0 rfl 51 rfl (c4 0).toArray built0 ?_)
     | (with_reducible (refine id (?_:wpList _ _ _ _ _ _));refine wpList_store_mid rfl 51 _ _ rfl g4 0 (c4 0).toArray rfl rfl t4 (info4a 0) (one4 0) ?_))
    (try simp only [Exit.inBlock,Exit.then])
    exact bodyPost_ret (results_cell_tmp Tryz.results126 _ _ g4 0 (c4 0) _ rfl (h4.stored (c4 0) rfl).range Tryz.underlying51 rfl info4) rfl ⟨by rw [Hr.out,Hk.out];rfl,below_setCells w4 _ _ _ hbW⟩
   | true =>
    have Hr:Hid (r=evn xi):=Hid.mk' (by rw [Hr1.out,if_pos (of_decide_eq_true hz)])
    clear hz Hr1
    have imr:=im.range
    replace k13:∀ W,Calls Tryz.prog 53 #[.agg (c4 x0).toArray,.agg (c4 iM).toArray] W fun e w'=>e = .returned (.agg (c4 xi).toArray)∧Below W.heap.size W w':=k13
    go_upto_region 9 with (first
     | (refine wpList_load_mid rfl 51 _ rfl g108 0 rfl (c4 x0) _ h108.range Tryz.underlying51 rfl info4 ?_)
     | (refine wpList_load_mid rfl 49 _ rfl 5 0 rfl (c4 iM) _ imr Tryz.underlying49 rfl infoLimbs ?_)
     | (refine wpList_build1 rfl 51 0 _ rfl (.agg (c4 iM).toArray) rfl (c4 iM).toArray (built1 iM) ?_)
     | (go_at_call 53;refine (k13 _).mono ?_;clear k13 imr;rintro e w8 ⟨rfl,hb8⟩;(replace h108:=h108.still hb8);(replace h4:=h4.still hb8);(replace hbW:=below_next hbW hb8);clear hb8 im;(have t8:w8.there g108 0 (c4 xi).toArray.size:=h108.there);(obtain ⟨V7,hV7⟩:∃ V,V=w8.setCells g108 0 (c4 xi):=⟨_,rfl⟩);(replace h108:=h108.stored (c4 xi) rfl);(replace h4:=h4.far g108 0 (c4 xi) (.inl n4_108.symm));(replace hbW:=below_setCells w108 (c4 xi) 0 _ hbW);rw [←hV7] at h108 h4 hbW;(have H7:=Hid.mk' hV7);clear hV7)
     | (with_reducible (refine id (?_:wpList _ _ _ _ _ _));refine wpList_store_mid rfl 51 _ _ rfl g108 0 (c4 xi).toArray rfl rfl t8 (info4a xi) (one4 xi) ?_;rw [List.toList_toArray,←H7.out];clear t8))
    have ko:∀ W,Calls Tryz.prog 137 #[.agg (c4 xi).toArray] W fun e w'=>e = .returned (.bool (xi%2 == 1))∧Below W.heap.size W w':=fun W=>k14 W xi hxi
    have km:∀ W,Calls Tryz.prog 63 #[.agg (c4 0).toArray,.agg (c4 xi).toArray] W fun e w'=>e = .returned (.agg (c4 ((0+pF - xi)%pF)).toArray)∧Below W.heap.size W w':=fun W=>k15 W xi hxi
    clear k14 k15
    cases hpar:(xi%2 == 1) with
    | false =>
     rw [hpar] at ko
     have Hr2:Hid (r=xi):=Hid.mk' (by rw [Hr.out,evn_even hpar])
     clear km hpar Hr
     go_wp2_with (first
      | (refine wpList_load_mid rfl 51 _ rfl g108 0 rfl (c4 xi) _ h108.range Tryz.underlying51 rfl info4 ?_)
      | (go_at_call 137;refine (ko _).mono ?_;clear ko;rintro e w9 ⟨rfl,hb9⟩;(replace h108:=h108.still hb9);(replace h4:=h4.still hb9);(replace hbW:=below_next hbW hb9);clear hb9;(have t4:w9.there g4 0 (c4 xi).toArray.size:=h4.there))
      | (with_reducible (refine id (?_:wpList _ _ _ _ _ _));refine wpList_store_mid rfl 51 _ _ rfl g4 0 (c4 xi).toArray rfl rfl t4 (info4a xi) (one4 xi) ?_))
     (try simp only [Exit.inBlock,Exit.then])
     exact bodyPost_ret (results_cell_tmp Tryz.results126 _ _ g4 0 (c4 xi) _ rfl (h4.stored (c4 xi) rfl).range Tryz.underlying51 rfl info4) rfl ⟨by rw [Hr2.out,Hk.out];rfl,below_setCells w4 _ _ _ hbW⟩
    | true =>
     rw [hpar] at ko
     obtain ⟨y,hy⟩:∃ y,(0+pF - xi)%pF=y:=⟨_,rfl⟩
     rw [hy] at km
     have Hr2:Hid (r=y):=Hid.mk' (by rw [Hr.out,evn_odd hpar,hy])
     clear hpar hy Hr
     go_wp2_with (first
      | (refine wpList_load_mid rfl 51 _ rfl g108 0 rfl (c4 xi) _ h108.range Tryz.underlying51 rfl info4 ?_)
      | (refine wpList_load_mid rfl 51 _ rfl g108 0 rfl (c4 y) _ h108.range Tryz.underlying51 rfl info4 ?_)
      | (refine wpList_build0 rfl 51 rfl (c4 0).toArray built0 ?_)
      | (go_at_call 137;refine (ko _).mono ?_;clear ko;rintro e w9 ⟨rfl,hb9⟩;(replace h108:=h108.still hb9);(replace h4:=h4.still hb9);(replace hbW:=below_next hbW hb9);clear hb9)
      | (go_at_call 63;refine (km _).mono ?_;clear km;rintro e w10 ⟨rfl,hb10⟩;(replace h108:=h108.still hb10);(replace h4:=h4.still hb10);(replace hbW:=below_next hbW hb10);clear hb10;(have t8:w10.there g108 0 (c4 y).toArray.size:=h108.there);(obtain ⟨V8,hV8⟩:∃ V,V=w10.setCells g108 0 (c4 y):=⟨_,rfl⟩);(replace h108:=h108.stored (c4 y) rfl);(replace h4:=h4.far g108 0 (c4 y) (.inl n4_108.symm));(replace hbW:=below_setCells w108 (c4 y) 0 _ hbW);rw [←hV8] at h108 h4 hbW;(have H8:=Hid.mk' hV8);clear hV8;(have t4:V8.there g4 0 (c4 y).toArray.size:=h4.there))
      | (with_reducible (refine id (?_:wpList _ _ _ _ _ _));refine wpList_store_mid rfl 51 _ _ rfl g108 0 (c4 y).toArray rfl rfl t8 (info4a y) (one4 y) ?_;rw [List.toList_toArray,←H8.out];clear t8)
      | (with_reducible (refine id (?_:wpList _ _ _ _ _ _));refine wpList_store_mid rfl 51 _ _ rfl g4 0 (c4 y).toArray rfl rfl t4 (info4a y) (one4 y) ?_))
     (try simp only [Exit.inBlock,Exit.then])
     exact bodyPost_ret (results_cell_tmp Tryz.results126 _ _ g4 0 (c4 y) _ rfl (h4.stored (c4 y) rfl).range Tryz.underlying51 rfl info4) rfl ⟨by rw [Hr2.out,Hk.out];rfl,below_setCells w4 _ _ _ hbW⟩
end Go.Proofs.YtdgkmloabificaaGreatDoor
namespace Go.Proofs.YtdgkmloabificaaGreatDoor
open Go.RowKit
theorem lw0_mod (n:Nat):lw n 0%2=n%2:=by unfold lw;simp only [Nat.pow_zero,Nat.div_one];omega
theorem ofInt_w64 (a:Nat) (ha:a<18446744073709551616):(BitVec.ofInt 64 (a:Int)).toNat=a:=by
 rw [BitVec.toNat_ofInt]
 omega
theorem u64_and1 (a:Nat) (ha:a<18446744073709551616):bits .and .u64 (a:Int) 1=((a%2:Nat):Int):=by
 have hx:a &&& 1≤a:=Nat.and_le_left
 show IntKind.u64.wrap ((BitVec.ofInt 64 (a:Int) &&& BitVec.ofInt 64 ((1:Nat):Int)).toNat:Int)=_
 rw [BitVec.toNat_and,ofInt_w64 a ha,ofInt_w64 1 (by decide),IntKind.wrap_u64,←Nat.and_one_is_mod]
 omega
set_option maxRecDepth 20000 in
theorem odd_any (n:Nat) (w:World):Calls Tryz.prog 137 #[numV n] w fun e w'=>e = .returned (.bool (n%2 == 1))∧Below w.heap.size w w':=by
 have e1:=u64_and1 (lw n 0) (lw_lt n 0)
 rw [lw0_mod] at e1
 obtain ⟨z,hz⟩:∃ z,z=(n%2 == 1):=⟨_,rfl⟩
 rw [←hz]
 unfold numV
 go_enter Tryz.func137,Tryz.ntmps137
 go_wp2
 go_ret
 refine ⟨?_,(Below.refl _ _).alloc (Nat.le_refl _) _⟩
 simp [hz]
 rcases Nat.mod_two_eq_zero_or_one n with h | h
 · have h2:(n:Int)%2=0:=by omega
   rw [h,h2];rfl
 · have h2:(n:Int)%2=1:=by omega
   rw [h,h2];rfl
def kP:Nat:=7237005577332262213973186563042994240829374041602535252466099000494570602493
theorem kP_eq:8*kP+5=pF:=by decide
theorem rootq_any (u v:Nat) (hu:u<pF) (hv:v<pF) (w:World) (im:IM w) :
 Calls Tryz.prog 126 #[numV u,numV v] w fun e w'=>e = .returned (.tuple #[numV ((rootP kP u v).getD 0),.bool (rootP kP u v).isSome])∧Below w.heap.size w w':=by
 have hbs:∀ b:Nat,b<pF→b ^ 1%pF=b:=fun b h=>by rw [Nat.pow_one,Nat.mod_eq_of_lt h]
 have hl:∀ a:Nat,a%pF<pF:=fun a=>Nat.mod_lt _ pF_pos
 obtain ⟨E,hE⟩:∃ E:Nat,1809251394333065553493296640760748560207343510400633813116524750123642650623=E:=⟨_,rfl⟩
 obtain ⟨kk,hkk⟩:∃ kk,kP=kk:=⟨_,rfl⟩
 have hsum:1+E*2 ^ 2=kk:=by rw [←hE,←hkk];decide
 obtain ⟨v2,hv2⟩:∃ x,x=v*v%pF:=⟨_,rfl⟩
 obtain ⟨v3,hv3⟩:∃ x,x=v2*v%pF:=⟨_,rfl⟩
 obtain ⟨a1,ha1⟩:∃ x,x=u*v3%pF:=⟨_,rfl⟩
 obtain ⟨a2,ha2⟩:∃ x,x=a1*v3%pF:=⟨_,rfl⟩
 obtain ⟨b,hb⟩:∃ x,x=a2*v%pF:=⟨_,rfl⟩
 obtain ⟨o,ho⟩:∃ x,x=b ^ E%pF:=⟨_,rfl⟩
 obtain ⟨t,ht⟩:∃ x,x=b ^ kk%pF:=⟨_,rfl⟩
 obtain ⟨t2,ht2⟩:∃ x,x=t*u%pF:=⟨_,rfl⟩
 obtain ⟨x0,hx0⟩:∃ x,x=t2*v3%pF:=⟨_,rfl⟩
 obtain ⟨xx,hxx⟩:∃ x,x=x0*x0%pF:=⟨_,rfl⟩
 obtain ⟨sq,hsq⟩:∃ x,x=xx*v%pF:=⟨_,rfl⟩
 obtain ⟨nu,hnu⟩:∃ x,x=(0+pF - u)%pF:=⟨_,rfl⟩
 obtain ⟨xi,hxi⟩:∃ x,x=x0*iM%pF:=⟨_,rfl⟩
 have lv2:v2<pF:=by rw [hv2];exact hl _
 have lv3:v3<pF:=by rw [hv3];exact hl _
 have la1:a1<pF:=by rw [ha1];exact hl _
 have la2:a2<pF:=by rw [ha2];exact hl _
 have lb:b<pF:=by rw [hb];exact hl _
 have lt:t<pF:=by rw [ht];exact hl _
 have lt2:t2<pF:=by rw [ht2];exact hl _
 have lx0:x0<pF:=by rw [hx0];exact hl _
 have lxx:xx<pF:=by rw [hxx];exact hl _
 have lsq:sq<pF:=by rw [hsq];exact hl _
 have lnu:nu<pF:=by rw [hnu];exact hl _
 have lxi:xi<pF:=by rw [hxi];exact hl _
 have hX:rootX kk u v=x0:=by
  unfold rootX
  rw [←hv2,←hv3,←ha1,←ha2,←hb,←ht,←ht2,←hx0]
 have h:=rootq_raw u v v2 v3 a1 a2 b o t t2 x0 xx sq nu xi hu lsq lnu lx0 lxi
  (fun W=>by rw [hv2];exact times_any v v hv hv W) (fun W=>by rw [hv3];exact times_any v2 v lv2 hv W) (fun W=>by rw [ha1];exact times_any u v3 hu lv3 W) (fun W=>by rw [ha2];exact times_any a1 v3 la1 lv3 W) (fun W=>by rw [hb];exact times_any a2 v la2 hv W)
  (fun W=>by
    have h:=ones250_any b W
    rw [hbs _ lb,hE,←ho] at h
    exact h)
  (fun W=>by
    have h:=then_pow b E 1 2 kk hsum (by decide) W
    rw [hbs _ lb,←ho,←ht] at h
    exact h)
  (fun W=>by rw [ht2];exact times_any t u lt hu W) (fun W=>by rw [hx0];exact times_any t2 v3 lt2 lv3 W) (fun W=>by rw [hxx];exact times_any x0 x0 lx0 lx0 W) (fun W=>by rw [hsq];exact times_any xx v lxx hv W)
  (fun W=>by rw [hnu];exact minus_any 0 u (by decide) hu W) (fun W=>by rw [hxi];exact times_any x0 iM lx0 (by decide) W) (fun W z _=>odd_any z W) (fun W z hz=>minus_any 0 z (by decide) hz W) w im
 have hP:rootP kk u v=if sq=u then some (evn x0) else if sq=nu then some (evn xi) else none:=by
  unfold rootP
  rw [hX,←hxx,←hsq,←hnu,←hxi]
 rw [hkk,hP]
 refine h.mono fun e w' ⟨he,hb⟩=>⟨he.trans ?_,hb⟩
 by_cases h1:sq=u
 · simp only [if_pos h1];rfl
 · simp only [if_neg h1]
   by_cases h2:sq=nu
   · simp only [if_pos h2,decide_eq_true h2];rfl
   · simp only [if_neg h2,decide_eq_false h2];rfl
end Go.Proofs.YtdgkmloabificaaGreatDoor
namespace Go.Proofs.YtdgkmloabificaaGreatDoor
open Go.RowKit
theorem inv_cast (a e:Nat) (h:pF - 2=e):a ^ e%pF=finv a%pF:=by unfold finv;rw [h,Nat.mod_mod]
theorem rootY_cast (k u v e:Nat) (h:k+1=e):quoR u v ^ e%pF=rootY k u v%pF:=by unfold rootY;rw [h,Nat.mod_mod]
theorem quoR_lt (u v:Nat):quoR u v<pF:=Nat.mod_lt _ pF_pos
theorem rootY_lt (k u v:Nat):rootY k u v<pF:=Nat.mod_lt _ pF_pos
theorem rootZ_lt (k u v:Nat):rootZ k u v<pF:=by
 unfold rootZ
 split
 · exact rootY_lt k u v
 · exact Nat.mod_lt _ pF_pos
theorem ratio_opt (A B C:Prop) [Decidable A] [Decidable B] [Decidable C] (x:Nat):(decide A && !(decide B && !decide C))=(if A∧¬(B∧¬C) then some x else none:Option Nat).isSome∧(if (decide A && !(decide B && !decide C))=true then x else 0)=(if A∧¬(B∧¬C) then some x else none:Option Nat).getD 0:=by
 by_cases hA:A <;> by_cases hB:B <;> by_cases hC:C <;> simp [hA,hB,hC]
theorem Rep.far' {L:Nat→Int} {x:Nat} (h:Rep L x):∀ j,j<16→-1073741824≤L j∧L j≤1073741824:=fun j hj=>by have:=h.bd j hj;omega
theorem rsame_wide {A B:Nat→Int} {a b:Nat} (hA:Rw A a) (hB:Rw B b) (z:Bool) (hz:decide (a%pF=b%pF)=z) (w:World):Calls Tryz.prog 75 #[.agg (intsI 16 A).toArray,.agg (intsI 16 B).toArray] w fun e w'=>e = .returned (.bool z)∧Below w.heap.size w w':=by
 have h:=rsame_gen A B a b (fun W=>rbytes A (hA.dig.mono (by decide)) a hA.val W) (fun W=>rbytes B (hB.dig.mono (by decide)) b hB.val W) w
 rw [hz] at h
 exact h
theorem rratio_wide (U V:Nat→Int) (u v:Nat) (hU:Rw U u) (hV:Rw V v) (hu:u<pF) (hv:v<pF) (w:World) :
 Calls Tryz.prog 72 #[rV U,rV V] w fun e w'=>∃ R,e = .returned (.tuple #[rV R,.bool (rootR kP u v).isSome])∧Rw R ((rootR kP u v).getD 0)∧Below w.heap.size w w':=by
 obtain ⟨kk,hkk⟩:∃ kk,kP=kk:=⟨_,rfl⟩
 obtain ⟨E1,hE1⟩:∃ E:Nat,57896044618658097711785492504343953926634992332820282019728792003956564819947=E:=⟨_,rfl⟩
 obtain ⟨E2,hE2⟩:∃ E:Nat,7237005577332262213973186563042994240829374041602535252466099000494570602494=E:=⟨_,rfl⟩
 have e1:pF - 2=E1:=by rw [←hE1];decide
 have e2:kk+1=E2:=by rw [←hE2,←hkk];decide
 have cI:∀ W,Calls Tryz.prog 77 #[refV V] W fun e w'=>∃ R,e = .returned (refV R)∧Rep R (v ^ E1)∧Below W.heap.size W w':=fun W=>by rw [←hE1];exact rinverse_gen V v hV.bd (fun M m h=>(rw_times h.wide hV).cast (by unfold fmul;rw [Nat.mod_mod])) W
 have cP:∀ (Q:Nat→Int) (q:Nat),Rep Q q→∀ W,Calls Tryz.prog 108 #[refV Q,.int .i64 252,.int .i64 14,.int .i64 4] W fun e w'=>∃ R,e = .returned (refV R)∧Rep R (q ^ E2)∧Below W.heap.size W w':=fun Q q hQ W=>by rw [←hE2];exact rpow8_any Q q hQ W
 clear hE1 hE2
 have hq:quoR u v=fmul u (finv v):=rfl
 have hql:=quoR_lt u v
 have hyl:=rootY_lt kk u v
 have hzl:=rootZ_lt kk u v
 have hzd:rootZ kk u v=if rootY kk u v*rootY kk u v%pF=quoR u v then rootY kk u v else rootY kk u v*iM%pF:=rfl
 have hRd:rootR kk u v=if rootZ kk u v*rootZ kk u v%pF=quoR u v∧¬(v=0∧u≠0) then some (evn (rootZ kk u v)) else none:=rfl
 have hyc:=rootY_cast kk u v E2 e2
 rw [hkk,hRd]
 clear hRd
 generalize rootZ kk u v=z at *
 generalize rootY kk u v=y at *
 generalize hqq:quoR u v=q at *
 have h:=rratio_raw U V (finv v) q y z (fmul z z) z (fsub 0 z) (decide (fmul z z=q)) (decide (v=0)) (decide (u=0))
  (fun W=>(cI W).mono fun e w' ⟨R,he,hR,hb⟩=>⟨R,he,hR.cast (inv_cast v E1 e1),hb⟩)
  (fun R hR W=>(rtimes_any U R hU.bd hR.bd W).mono fun e w' ⟨he,hb⟩=>⟨_,he,by rw [hq];exact rw_times hU hR.wide,hb⟩)
  (fun Q hQ W=>(cP Q q hQ W).mono fun e w' ⟨R,he,hR,hb⟩=>⟨R,he,hR.cast hyc,hb⟩)
  (fun Y Q hY hQ W=>by
    by_cases h:y*y%pF=q
    · rw [if_pos h] at hzd
      rw [hzd]
      exact (rfit_yes Y Q y q hY hQ (by rw [h,Nat.mod_eq_of_lt hql]) W).mono fun e w' ⟨he,hb⟩=>⟨Y,he,hY,hb⟩
    · rw [if_neg h] at hzd
      rw [hzd]
      exact (rfit_no Y Q y q hY hQ (by rw [Nat.mod_eq_of_lt hql];exact h) W).mono fun e w' ⟨R,he,hR,hb⟩=>⟨R,he,hR.cast (by rw [Nat.mod_mod]),hb⟩)
  (fun Z hZ W=>(rtimes_any Z Z hZ.bd hZ.bd W).mono fun e w' ⟨he,hb⟩=>⟨_,he,rw_times hZ.wide hZ.wide,hb⟩)
  (fun R Q hR hQ W=>rsame_rep hR hQ _ (by rw [Nat.mod_eq_of_lt (fmul_lt z z),Nat.mod_eq_of_lt hql]) W)
  (fun W=>rsmall_rep 0 (by decide) W)
  (fun O hO W=>rsame_wide hV hO.wide _ (by rw [Nat.mod_eq_of_lt hv];rfl) W)
  (fun O hO W=>rsame_wide hU hO.wide _ (by rw [Nat.mod_eq_of_lt hu];rfl) W)
  (fun Z hZ W=>(rep_bytes Z z hZ W).mono fun e w' ⟨s,he,hs,hb⟩=>⟨s,he,by rw [Nat.mod_eq_of_lt hzl] at hs;exact BytesIn.of_own hs,hb⟩)
  (fun O Z hO hZ W=>(rminus_any O Z hO.far' hZ.far' W).mono fun e w' ⟨he,hb⟩=>⟨_,he,rep_minus hO hZ hzl,hb⟩) w
 have hf:fmul z z=z*z%pF:=rfl
 have hev:(if z%2=1 then fsub 0 z else z)=evn z:=rfl
 rw [hf,hev] at h
 clear cI cP hzd hyc hf hev
 generalize z*z%pF=m at *
 generalize evn z=ev at *
 have ho:=ratio_opt (m=q) (v=0) (u=0) ev
 refine h.mono fun e w' ⟨R,he,hR,hb⟩=>⟨R,?_,?_,hb⟩
 · rw [he,ho.1]
 · rw [ho.2] at hR
   exact hR
end Go.Proofs.YtdgkmloabificaaGreatDoor
