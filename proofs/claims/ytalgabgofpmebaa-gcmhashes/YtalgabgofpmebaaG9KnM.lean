/- What the proof stands on: G9Kn, G9Ans, G9LP, Kit. -/
import Derived.Test.YtalgabgofpmebaaA8RksM
import Derived.Test.YtalgabgofpmebaaBaseM
import Derived.Test.YtalgabgofpmebaaG9EM
import Derived.ChangeOld
import Derived.ChangeSlices
import Derived.Deep.DeepHandedRow
import Derived.Lib.LaidTab
import Derived.OpenShut
import Derived.ProofKit
import Derived.SizedLaws
import Derived.WalkKit
namespace Go.Proofs.Ytalgabgofpmebaa
open Go.RowKit
abbrev z0:Nat→Nat:=fun _=>0
theorem hz0:∀ j,z0 j<256:=fun _=>(by decide:0<256)
theorem au0:((List.range 16).all fun j=>((0:Nat) ^^^ padN 16 (auN 0 z0 0 z0) (16*0+j)) == 0)=true:=by kernel_rfl
theorem zrow {W:World} {g n:Nat} (r:RW W g 0 (zb n).toList):BytesIn W (.slice (some ⟨g,0,none⟩) n n) n z0 := .inr ⟨g,0,n,rfl,r.lt,Nat.le_refl _,fun j hj=>by
 exact r.range j _ (by rw [Array.getElem?_toList];exact zb_at n j hj)⟩
theorem BytesIn.none0 (w:World) (X:Nat→Nat):BytesIn w (.slice none 0 0) 0 X := .inl ⟨none,rfl,rfl⟩
theorem tag0:tgN z0 z0 0 z0 0 z0 0=88∧tgN z0 z0 0 z0 0 z0 1=226∧tgN z0 z0 0 z0 0 z0 2=252∧tgN z0 z0 0 z0 0 z0 3=206:=by
 have e:∀ j,tgN z0 z0 0 z0 0 z0 j=ctB z0 z0 1 j:=fun j=>by
  have h0:hsN (h0N z0) (pad 0+pad 0+16) (auN 0 z0 0 z0) j=0:=by
   show tmN (fun j=>(0:Nat) ^^^ padN 16 (auN 0 z0 0 z0) (16*0+j)) (h0N z0) j=0
   have ez:toV (fun j=>(0:Nat) ^^^ padN 16 (auN 0 z0 0 z0) (16*0+j))=vZ:=by
    rw [←toV_zero]
    exact toV_S fun j hj=>by
     have h:=all_below au0 j hj
     simp only [beq_iff_eq] at h
     exact h
   unfold tmN
   rw [ez]
   show byV (gT (toV (h0N z0)) 128 vZ) j=0
   rw [gT_zero]
   apply Nat.eq_of_testBit_eq
   intro t
   unfold byV
   rw [byB_bit]
   simp
  unfold tgN
  rw [h0,Nat.xor_zero]
 rw [e,e,e,e]
 exact c1_first
theorem knows_seal (v u:Value) (w:World) (hv:BytesIn w v 16 z0) (hu:BytesIn w u 12 z0):Calls Try.prog 18 #[v,u,.slice none 0 0,.slice none 0 0] w fun e w'=>∃ s,e = .returned (.tuple #[s,.int .i64 0])∧Own w.heap.size w' s 16 (slN z0 z0 0 z0 0 z0)∧Below w.heap.size w w' :=
 seal_good v u _ _ 0 0 z0 z0 z0 z0 (by decide) (by decide) hz0 hz0 hz0 hz0 w hv hu (BytesIn.none0 _ _) (BytesIn.none0 _ _)
theorem knows_open (v u t:Value) (w:World) (hv:BytesIn w v 16 z0) (hu:BytesIn w u 12 z0) (ht:BytesIn w t 16 z0):Calls Try.prog 20 #[v,u,.slice none 0 0,t] w fun e w'=>e = .returned (.tuple #[.slice none 0 0,.int .i64 32])∧Below w.heap.size w w' :=
 (open_long v u _ t 0 0 z0 z0 z0 z0 (by decide) (by decide) hz0 hz0 hz0 hz0 w hv hu (BytesIn.none0 _ _) ht).mono fun _ _ ⟨_,h,hb⟩=>⟨h fun hs=>by
  have:=hs 0 (by decide)
  rw [tag0.1] at this
  exact absurd this (by decide),hb⟩
set_option maxRecDepth 20000 in
set_option maxHeartbeats 4000000 in
theorem knows9 (w:World):Calls Try.prog 15 #[] w fun e w'=>e = .returned (.bool true)∧Below w.heap.size w w':=by
 have hnum:=num9_any
 have hstr:∀ W g c X,RowAt .u8 W g 0 16 X→(∀ j,X j<256)→X 0=88→X 1=226→X 2=252→X 3=206→(convert 22 9 (.slice (some ⟨g,0,none⟩) 4 c)).run Try.prog W = .ok (.string { data:=#[88,226,252,206] }) W:=fun W g c X r hX e0 e1 e2 e3=>by
  rw [conv_bytes W g 0 4 c X hX (fun j hj=>(r j (by omega)).1)]
  congr 2
  unfold strB
  simp [List.range_succ,e0,e1,e2,e3]
 go_enter Try.func15,Try.ntmps15
 go_upto_region 1 with (fail)
 go_cut [1,2] from 5 (fun s1 s2 wc=>s2 = .int .i64 0∧Own w.heap.size wc s1 16 (slN z0 z0 0 z0 0 z0)∧Below w.heap.size w wc)
 case first =>
  refine wp_region_noPanic ?_
  refine wp_region_held_drew (S:=fun u=>Below w.drew.heap.size w.drew u) (by kernel_rfl) (Below.refl _ _) (fun hS => ?_)
  have bd:Below w.heap.size w w.drew:=(Below.refl _ _).drew
  generalize w.drew=V at *
  refine wpAnyH_ready (rs:=[0,1]) (by kernel_rfl) (by simp) (gR (fun g => .slice (some ⟨g,0,none⟩) 16 16) (zb 16).toList 5 (fun u hu=>below_next hS hu) ?_ (gR (fun g => .slice (some ⟨g,0,none⟩) 12 12) (zb 12).toList 5 (fun u hu=>below_next hS hu) ?_ AllReadyH.nil))
  · intro U0 g0 hg0 hu0 r0
    have b0:=below_next hS hu0
    (try simp only [pS])
    refine wpAnyH_ready (rs:=[1]) (by kernel_rfl) (by simp) (gR (fun g => .slice (some ⟨g,0,none⟩) 12 12) (zb 12).toList 5 (fun u hu=>below_next b0 hu) ?_ AllReadyH.nil)
    · intro U1 g1 hg1 hu1 r1
      replace r0:=r0.still hu1
      have b1:=below_next b0 hu1
      (try simp only [pS])
      refine cl 2 (knows_seal _ _ U1 (zrow r0) (zrow r1)) ?_
      rintro e U2 ⟨s,rfl,own,hb⟩
      refine ⟨_,rfl,below_next b1 hb,?_⟩
      (try simp only [pS])
      have b2:=below_next b1 hb
      refine tg 3 b2 ?_
      (try simp only [pS])
      refine tg 4 b2 ?_
      (try simp only [pS])
      refine tg 5 b2 ?_
      (try simp only [pS])
      refine tg 6 b2 ?_
      (try simp only [pS])
      refine tg 7 b2 ?_
      (try simp only [pS])
      refine wpAnyH_done (by kernel_rfl) ?_ _
      refine NoPanic.normal ?_
      go_wp2
      go_meet
      case rel=>exact ⟨rfl,own_down own (below_next bd b1).size,below_next bd b2⟩
  · intro U0 g1 hg0 hu0 r1
    have b0:=below_next hS hu0
    (try simp only [pS])
    refine wpAnyH_ready (rs:=[0]) (by kernel_rfl) (by simp) (gR (fun g => .slice (some ⟨g,0,none⟩) 16 16) (zb 16).toList 5 (fun u hu=>below_next b0 hu) ?_ AllReadyH.nil)
    · intro U1 g0 hg1 hu1 r0
      replace r1:=r1.still hu1
      have b1:=below_next b0 hu1
      (try simp only [pS])
      refine cl 2 (knows_seal _ _ U1 (zrow r0) (zrow r1)) ?_
      rintro e U2 ⟨s,rfl,own,hb⟩
      refine ⟨_,rfl,below_next b1 hb,?_⟩
      (try simp only [pS])
      have b2:=below_next b1 hb
      refine tg 3 b2 ?_
      (try simp only [pS])
      refine tg 4 b2 ?_
      (try simp only [pS])
      refine tg 5 b2 ?_
      (try simp only [pS])
      refine tg 6 b2 ?_
      (try simp only [pS])
      refine tg 7 b2 ?_
      (try simp only [pS])
      refine wpAnyH_done (by kernel_rfl) ?_ _
      refine NoPanic.normal ?_
      go_wp2
      go_meet
      case rel=>exact ⟨rfl,own_down own (below_next bd b1).size,below_next bd b2⟩
 case rest =>
  obtain ⟨rfl,own,bw⟩:=hcut
  obtain ⟨gb,cb,rfl,-,-,hcb,rB⟩:=own.form.resolve_left (fun h=>by omega)
  obtain ⟨W1,hW1⟩:∃ W,W=wc:=⟨_,rfl⟩
  subst hW1
  have hcb':(16:Int)≤(cb:Int):=by omega
  have hcb4:(4:Int)≤(cb:Int):=by omega
  clear own
  go_upto_region 2 with (fail)
  go_cut [3,4] from 5 (fun s3 s4 wc=>s4 = .int .i64 32∧RowAt .u8 wc gb 0 16 (slN z0 z0 0 z0 0 z0)∧Below w.heap.size w wc)
  case first =>
   refine wp_region_noPanic ?_
   refine wp_region_held_drew (S:=fun u=>Below W1.drew.heap.size W1.drew u) (by kernel_rfl) (Below.refl _ _) (fun hS => ?_)
   have bd:Below W1.heap.size W1 W1.drew:=(Below.refl _ _).drew
   generalize W1.drew=V at *
   refine wpAnyH_ready (rs:=[0,1,2]) (by kernel_rfl) (by simp) (gR (fun g => .slice (some ⟨g,0,none⟩) 16 16) (zb 16).toList 5 (fun u hu=>below_next hS hu) ?_ (gR (fun g => .slice (some ⟨g,0,none⟩) 12 12) (zb 12).toList 5 (fun u hu=>below_next hS hu) ?_ (gR (fun g => .slice (some ⟨g,0,none⟩) 16 16) (zb 16).toList 5 (fun u hu=>below_next hS hu) ?_ AllReadyH.nil)))
   · intro U0 g0 hg0 hu0 r0
     have b0:=below_next hS hu0
     (try simp only [pS])
     refine wpAnyH_ready (rs:=[1,2]) (by kernel_rfl) (by simp) (gR (fun g => .slice (some ⟨g,0,none⟩) 12 12) (zb 12).toList 5 (fun u hu=>below_next b0 hu) ?_ (gR (fun g => .slice (some ⟨g,0,none⟩) 16 16) (zb 16).toList 5 (fun u hu=>below_next b0 hu) ?_ AllReadyH.nil))
     · intro U1 g1 hg1 hu1 r1
       replace r0:=r0.still hu1
       have b1:=below_next b0 hu1
       (try simp only [pS])
       refine wpAnyH_ready (rs:=[2]) (by kernel_rfl) (by simp) (gR (fun g => .slice (some ⟨g,0,none⟩) 16 16) (zb 16).toList 5 (fun u hu=>below_next b1 hu) ?_ AllReadyH.nil)
       · intro U2 g2 hg2 hu2 r2
         replace r0:=r0.still hu2
         replace r1:=r1.still hu2
         have b2:=below_next b1 hu2
         (try simp only [pS])
         refine cl 3 (knows_open _ _ _ U2 (zrow r0) (zrow r1) (zrow r2)) ?_
         rintro e U9 ⟨rfl,hb⟩
         refine ⟨_,rfl,below_next b2 hb,?_⟩
         (try simp only [pS])
         have b9:=below_next b2 hb
         refine tg 4 b9 ?_
         (try simp only [pS])
         refine tg 5 b9 ?_
         (try simp only [pS])
         refine tg 6 b9 ?_
         (try simp only [pS])
         refine tg 7 b9 ?_
         (try simp only [pS])
         refine tg 8 b9 ?_
         (try simp only [pS])
         refine wpAnyH_done (by kernel_rfl) ?_ _
         refine NoPanic.normal ?_
         go_wp2
         go_meet
         case rel=>exact ⟨rfl,rB.still (below_next bd b9),below_next bw (below_next bd b9)⟩
     · intro U1 g2 hg1 hu1 r2
       replace r0:=r0.still hu1
       have b1:=below_next b0 hu1
       (try simp only [pS])
       refine wpAnyH_ready (rs:=[1]) (by kernel_rfl) (by simp) (gR (fun g => .slice (some ⟨g,0,none⟩) 12 12) (zb 12).toList 5 (fun u hu=>below_next b1 hu) ?_ AllReadyH.nil)
       · intro U2 g1 hg2 hu2 r1
         replace r0:=r0.still hu2
         replace r2:=r2.still hu2
         have b2:=below_next b1 hu2
         (try simp only [pS])
         refine cl 3 (knows_open _ _ _ U2 (zrow r0) (zrow r1) (zrow r2)) ?_
         rintro e U9 ⟨rfl,hb⟩
         refine ⟨_,rfl,below_next b2 hb,?_⟩
         (try simp only [pS])
         have b9:=below_next b2 hb
         refine tg 4 b9 ?_
         (try simp only [pS])
         refine tg 5 b9 ?_
         (try simp only [pS])
         refine tg 6 b9 ?_
         (try simp only [pS])
         refine tg 7 b9 ?_
         (try simp only [pS])
         refine tg 8 b9 ?_
         (try simp only [pS])
         refine wpAnyH_done (by kernel_rfl) ?_ _
         refine NoPanic.normal ?_
         go_wp2
         go_meet
         case rel=>exact ⟨rfl,rB.still (below_next bd b9),below_next bw (below_next bd b9)⟩
   · intro U0 g1 hg0 hu0 r1
     have b0:=below_next hS hu0
     (try simp only [pS])
     refine wpAnyH_ready (rs:=[0,2]) (by kernel_rfl) (by simp) (gR (fun g => .slice (some ⟨g,0,none⟩) 16 16) (zb 16).toList 5 (fun u hu=>below_next b0 hu) ?_ (gR (fun g => .slice (some ⟨g,0,none⟩) 16 16) (zb 16).toList 5 (fun u hu=>below_next b0 hu) ?_ AllReadyH.nil))
     · intro U1 g0 hg1 hu1 r0
       replace r1:=r1.still hu1
       have b1:=below_next b0 hu1
       (try simp only [pS])
       refine wpAnyH_ready (rs:=[2]) (by kernel_rfl) (by simp) (gR (fun g => .slice (some ⟨g,0,none⟩) 16 16) (zb 16).toList 5 (fun u hu=>below_next b1 hu) ?_ AllReadyH.nil)
       · intro U2 g2 hg2 hu2 r2
         replace r1:=r1.still hu2
         replace r0:=r0.still hu2
         have b2:=below_next b1 hu2
         (try simp only [pS])
         refine cl 3 (knows_open _ _ _ U2 (zrow r0) (zrow r1) (zrow r2)) ?_
         rintro e U9 ⟨rfl,hb⟩
         refine ⟨_,rfl,below_next b2 hb,?_⟩
         (try simp only [pS])
         have b9:=below_next b2 hb
         refine tg 4 b9 ?_
         (try simp only [pS])
         refine tg 5 b9 ?_
         (try simp only [pS])
         refine tg 6 b9 ?_
         (try simp only [pS])
         refine tg 7 b9 ?_
         (try simp only [pS])
         refine tg 8 b9 ?_
         (try simp only [pS])
         refine wpAnyH_done (by kernel_rfl) ?_ _
         refine NoPanic.normal ?_
         go_wp2
         go_meet
         case rel=>exact ⟨rfl,rB.still (below_next bd b9),below_next bw (below_next bd b9)⟩
     · intro U1 g2 hg1 hu1 r2
       replace r1:=r1.still hu1
       have b1:=below_next b0 hu1
       (try simp only [pS])
       refine wpAnyH_ready (rs:=[0]) (by kernel_rfl) (by simp) (gR (fun g => .slice (some ⟨g,0,none⟩) 16 16) (zb 16).toList 5 (fun u hu=>below_next b1 hu) ?_ AllReadyH.nil)
       · intro U2 g0 hg2 hu2 r0
         replace r1:=r1.still hu2
         replace r2:=r2.still hu2
         have b2:=below_next b1 hu2
         (try simp only [pS])
         refine cl 3 (knows_open _ _ _ U2 (zrow r0) (zrow r1) (zrow r2)) ?_
         rintro e U9 ⟨rfl,hb⟩
         refine ⟨_,rfl,below_next b2 hb,?_⟩
         (try simp only [pS])
         have b9:=below_next b2 hb
         refine tg 4 b9 ?_
         (try simp only [pS])
         refine tg 5 b9 ?_
         (try simp only [pS])
         refine tg 6 b9 ?_
         (try simp only [pS])
         refine tg 7 b9 ?_
         (try simp only [pS])
         refine tg 8 b9 ?_
         (try simp only [pS])
         refine wpAnyH_done (by kernel_rfl) ?_ _
         refine NoPanic.normal ?_
         go_wp2
         go_meet
         case rel=>exact ⟨rfl,rB.still (below_next bd b9),below_next bw (below_next bd b9)⟩
   · intro U0 g2 hg0 hu0 r2
     have b0:=below_next hS hu0
     (try simp only [pS])
     refine wpAnyH_ready (rs:=[0,1]) (by kernel_rfl) (by simp) (gR (fun g => .slice (some ⟨g,0,none⟩) 16 16) (zb 16).toList 5 (fun u hu=>below_next b0 hu) ?_ (gR (fun g => .slice (some ⟨g,0,none⟩) 12 12) (zb 12).toList 5 (fun u hu=>below_next b0 hu) ?_ AllReadyH.nil))
     · intro U1 g0 hg1 hu1 r0
       replace r2:=r2.still hu1
       have b1:=below_next b0 hu1
       (try simp only [pS])
       refine wpAnyH_ready (rs:=[1]) (by kernel_rfl) (by simp) (gR (fun g => .slice (some ⟨g,0,none⟩) 12 12) (zb 12).toList 5 (fun u hu=>below_next b1 hu) ?_ AllReadyH.nil)
       · intro U2 g1 hg2 hu2 r1
         replace r2:=r2.still hu2
         replace r0:=r0.still hu2
         have b2:=below_next b1 hu2
         (try simp only [pS])
         refine cl 3 (knows_open _ _ _ U2 (zrow r0) (zrow r1) (zrow r2)) ?_
         rintro e U9 ⟨rfl,hb⟩
         refine ⟨_,rfl,below_next b2 hb,?_⟩
         (try simp only [pS])
         have b9:=below_next b2 hb
         refine tg 4 b9 ?_
         (try simp only [pS])
         refine tg 5 b9 ?_
         (try simp only [pS])
         refine tg 6 b9 ?_
         (try simp only [pS])
         refine tg 7 b9 ?_
         (try simp only [pS])
         refine tg 8 b9 ?_
         (try simp only [pS])
         refine wpAnyH_done (by kernel_rfl) ?_ _
         refine NoPanic.normal ?_
         go_wp2
         go_meet
         case rel=>exact ⟨rfl,rB.still (below_next bd b9),below_next bw (below_next bd b9)⟩
     · intro U1 g1 hg1 hu1 r1
       replace r2:=r2.still hu1
       have b1:=below_next b0 hu1
       (try simp only [pS])
       refine wpAnyH_ready (rs:=[0]) (by kernel_rfl) (by simp) (gR (fun g => .slice (some ⟨g,0,none⟩) 16 16) (zb 16).toList 5 (fun u hu=>below_next b1 hu) ?_ AllReadyH.nil)
       · intro U2 g0 hg2 hu2 r0
         replace r2:=r2.still hu2
         replace r1:=r1.still hu2
         have b2:=below_next b1 hu2
         (try simp only [pS])
         refine cl 3 (knows_open _ _ _ U2 (zrow r0) (zrow r1) (zrow r2)) ?_
         rintro e U9 ⟨rfl,hb⟩
         refine ⟨_,rfl,below_next b2 hb,?_⟩
         (try simp only [pS])
         have b9:=below_next b2 hb
         refine tg 4 b9 ?_
         (try simp only [pS])
         refine tg 5 b9 ?_
         (try simp only [pS])
         refine tg 6 b9 ?_
         (try simp only [pS])
         refine tg 7 b9 ?_
         (try simp only [pS])
         refine tg 8 b9 ?_
         (try simp only [pS])
         refine wpAnyH_done (by kernel_rfl) ?_ _
         refine NoPanic.normal ?_
         go_wp2
         go_meet
         case rel=>exact ⟨rfl,rB.still (below_next bd b9),below_next bw (below_next bd b9)⟩
  case rest =>
   obtain ⟨rfl,rC,bw2⟩:=hcut
   have hX:∀ j,slN z0 z0 0 z0 0 z0 j%256<256:=fun j=>Nat.mod_lt _ (by decide)
   have hB:∀ j,j<16→slN z0 z0 0 z0 0 z0 j<256:=fun j hj=>by
    show cat 0 (trN z0 z0 z0) (tgN z0 z0 0 z0 0 (trN z0 z0 z0)) j<256
    unfold cat
    rw [if_neg (by omega)]
    exact tgN_B hz0 hz0 0 0 _ (by omega)
   have e4:∀ j,slN z0 z0 0 z0 0 z0 j=tgN z0 z0 0 (z0) 0 (trN z0 z0 z0) j:=fun j=>by
    show cat 0 (trN z0 z0 z0) (tgN z0 z0 0 z0 0 (trN z0 z0 z0)) j=_
    unfold cat
    rw [if_neg (by omega),Nat.sub_zero]
   have e5:tgN z0 z0 0 z0 0 (trN z0 z0 z0)=tgN z0 z0 0 z0 0 z0:=by
    have ea:auN 0 z0 0 (trN z0 z0 z0)=auN 0 z0 0 z0:=by
     funext j
     unfold auN cat padN pad
     rfl
    unfold tgN
    rw [ea]
   have hs4:=fun c=>hstr wc gb c (fun j=>slN z0 z0 0 z0 0 z0 j%256) (rC.congr (fun j hj=>(Nat.mod_eq_of_lt (hB j hj)).symm)) hX (by rw [e4,e5,tag0.1]) (by rw [e4,e5,tag0.2.1]) (by rw [e4,e5,tag0.2.2.1]) (by rw [e4,e5,tag0.2.2.2])
   clear hstr e4 e5 hB hX rB rC
   go_wp2_with (first
    | rw [hs4]
    | (go_at_call 13;refine (hnum _ _).mono ?_;rintro e wn ⟨rfl,hwn⟩;subst hwn))
   go_ret
   exact ⟨rfl,bw2⟩
end Go.Proofs.Ytalgabgofpmebaa
namespace Go.Proofs.Ytalgabgofpmebaa
open Go.RowKit
abbrev AnsC (f:FuncId) (args:Array Value) (w:World) (N:Nat) (Z:Nat→Nat) (E:Int):Prop :=
 Calls Try.prog f args w fun e w'=>∃ s,e = .returned (.tuple #[s,.int .i64 E])∧BytesIn w' s N Z∧Below w.heap.size w w'
theorem RowF.bytes {base:Nat} {w:World} {s:Value} {X:Nat→Nat} (h:RowF base w s 16 X):BytesIn w s 16 X:=by
 obtain ⟨g,cap,rfl,-,hc,hr⟩:=h
 exact .inr ⟨g,0,cap,rfl,block_lt_of_cell (hr 0 (by decide)).1,hc,fun j hj=>(hr j hj).1⟩
theorem ans_nil {f:FuncId} {args:Array Value} {w:World} {E:Int} (c:Calls Try.prog f args w fun e w'=>e = .returned (.tuple #[.slice none 0 0,.int .i64 E])∧Below w.heap.size w w'):AnsC f args w 0 z0 E :=
 c.mono fun _ _ ⟨he,hb⟩=>⟨_,he,.inl ⟨none,rfl,rfl⟩,hb⟩
theorem same_below {f:FuncId} {args:Array Value} {w:World} {v:Ending} (c:Calls Try.prog f args w fun e w'=>e=v∧w'=w):Calls Try.prog f args w fun e w'=>e=v∧Below w.heap.size w w' :=
 c.mono fun _ _ ⟨he,hw⟩=>⟨he,by rw [hw];exact Below.refl _ _⟩
theorem times_both (n m:Nat) (a b:Nat→Nat) (ha:∀ j,a j<256) (hb:∀ j,b j<256):∃ N Z E,(∀ j,Z j<256)∧(∀ v u w,BytesIn w v n a→BytesIn w u m b→AnsC 11 #[v,u] w N Z E)∧(∀ v u w,BytesIn w v n a→BytesIn w u m b→AnsC 12 #[v,u] w N Z E):=by
 by_cases h:n=16∧m=16
 · obtain ⟨rfl,rfl⟩:=h
   exact ⟨16,tmN a b,0,tmN_lt a b,fun v u w hv hu=>(times_good v u a b ha hb w hv hu).mono fun _ _ ⟨s,he,hr,hw⟩=>⟨s,he,hr.bytes,hw⟩,fun v u w hv hu=>(rTimes_good v u a b (fun j _=>ha j) (fun j _=>hb j) w hv hu).mono fun _ _ ⟨s,he,hr,hw⟩=>⟨s,he,hr.bytes,hw⟩⟩
 · exact ⟨0,z0,1,hz0,fun v u w hv hu=>ans_nil (same_below (times_bad v u n m a b w hv hu h)),fun v u w hv hu=>ans_nil (same_below (rTimes_bad v u n m a b w hv hu h))⟩
theorem hash_both (n m:Nat) (a b:Nat→Nat) (ha:∀ j,a j<256) (hb:∀ j,b j<256) (hm:m<140737488355300):∃ N Z E,(∀ j,Z j<256)∧(∀ v u w,BytesIn w v n a→BytesIn w u m b→AnsC 16 #[v,u] w N Z E)∧(∀ v u w,BytesIn w v n a→BytesIn w u m b→AnsC 17 #[v,u] w N Z E):=by
 by_cases h:n=16
 · subst h
   exact ⟨16,hsN a m b,0,hsN_lt a m b,fun v u w hv hu=>(hash_good v u m a b ha hb (by omega) w hv hu).mono fun _ _ ⟨s,he,hr,hw⟩=>⟨s,he,hr.bytes,hw⟩,fun v u w hv hu=>(rHash_good v u m a b (fun j _=>ha j) hb hm w hv hu).mono fun _ _ ⟨s,he,hr,hw⟩=>⟨s,he,hr.bytes,hw⟩⟩
 · exact ⟨0,z0,1,hz0,fun v u w hv hu=>ans_nil (same_below (hash_bad v u n m a b w hv hu h)),fun v u w hv hu=>ans_nil (same_below (rHash_bad v u n m a b w hv hu h))⟩
end Go.Proofs.Ytalgabgofpmebaa
namespace Go.Proofs.Ytalgabgofpmebaa
open Go.RowKit
theorem lentG {w:World} {g n cap:Nat} {bs:Nat→Nat} (h:RowAt .u8 w g 0 (n+2) (cat n bs room)) (hc:n+2≤cap):BytesIn w (.slice (some ⟨g,0,none⟩) n cap) n bs :=
 .inr ⟨g,0,cap,rfl,block_lt_of_cell (h 0 (by omega)).1,by omega,fun j hj=>by have:=(h j (by omega)).1;rwa [cat_left hj] at this⟩
set_option maxRecDepth 20000 in
set_option maxHeartbeats 8000000 in
theorem gcmProducts_any (v u:Value) (n m:Nat) (ks bs:Nat→Nat) (hks:∀ j,ks j<256) (hbs:∀ j,bs j<256) (w:World) (hv:BytesIn w v n ks) (hu:BytesIn w u m bs) (hn:n<140737488355000) (hm:m<140737488355000) :
 Calls Try.prog 3 #[v,u] w fun e w'=>e = .returned (.bool true)∧Below w.heap.size w w':=by
 obtain ⟨N,Z,E,hZ,c3,c4⟩:=times_both n m ks bs hks hbs
 have c1:=lent_any v n ks w hv hn
 have c2:=fun W hb=>lent_any u m bs W (hu.keep hb) hm
 have cs1:=fun g cap W hc hr hb=>stays_any g cap n v ks hks W hn hc hr (hv.keep hb)
 have cs2:=fun g cap W hc hr hb=>stays_any g cap m u bs hbs W hm hc hr (hu.keep hb)
 have c4':=fun W hb=>c4 v u W (hv.keep hb) (hu.keep hb)
 have ck:=knows9
 obtain ⟨S,hS⟩:∃ S,S=strB N Z:=⟨_,rfl⟩
 have cv:=fun (W W':World) (s:Value) (h:BytesIn W s N Z) (hb:Below W.heap.size W W')=>h.conv hZ W' hb
 rw [←hS] at cv
 obtain ⟨xk,ckk,rfl,-,-,-⟩:=hv.src
 obtain ⟨xb,cb,rfl,-,-,-⟩:=hu.src
 clear hv hu hks hbs hZ hS c4
 go_enter Try.func3,Try.ntmps3
 go_wp2_with (first
  | (go_at_call 10;refine c1.mono ?_;clear c1;rintro e w1 ⟨g1,k1,rfl,hk1,-,r1,b⟩;(have c2':=c2 w1 b);clear c2)
  | (go_at_call 10;refine c2'.mono ?_;clear c2';rintro e w2 ⟨g2,k2,rfl,hk2,-,r2,b2⟩;(replace r1:=r1.still b2);(replace b:=below_next b b2);(have c3':=c3 _ _ w2 (lentG r1 hk1) (lentG r2 hk2));clear c3 b2)
  | (go_at_call 11;refine c3'.mono ?_;clear c3';rintro e w3 ⟨s3,rfl,i3,b3⟩;(obtain ⟨x3,l3,hs3,-,-,-⟩:=i3.src);subst hs3;(replace r1:=r1.still b3);(replace r2:=r2.still b3);(replace b:=below_next b b3);(have c4'':=c4' w3 b);clear c4' b3)
  | (go_at_call 12;refine c4''.mono ?_;clear c4'';rintro e w4 ⟨s4,rfl,i4,b4⟩;(obtain ⟨x4,l4,hs4,-,-,-⟩:=i4.src);subst hs4;(replace r1:=r1.still b4);(replace r2:=r2.still b4);(replace b:=below_next b b4);(have q3:=cv w3 w4 _ i3 b4);(have q4:=cv w4 w4 _ i4 (Below.refl _ _));(have cs1':=cs1 g1 k1 w4 hk1 r1 b);clear cv cs1 i3 i4 b4)
  | rw [q3]
  | rw [q4]
  | (go_at_call 13;refine (num9_any _ _).mono ?_;rintro e wn ⟨rfl,hwn⟩;subst hwn)
  | (go_at_call 14;refine cs1'.mono ?_;clear cs1';rintro e w5 ⟨rfl,b5⟩;(replace r2:=r2.still b5);(replace b:=below_next b b5);(have cs2':=cs2 g2 k2 w5 hk2 r2 b);clear cs2 b5)
  | (go_at_call 14;refine cs2'.mono ?_;clear cs2';rintro e w6 ⟨rfl,b6⟩;(replace b:=below_next b b6);clear b6)
  | (go_at_call 15;refine (ck _).mono ?_;clear ck;rintro e w7 ⟨rfl,b7⟩))
 go_ret
 exact ⟨rfl,below_next b b7⟩
set_option maxRecDepth 20000 in
set_option maxHeartbeats 8000000 in
theorem gcmHashes_any (v u:Value) (n m:Nat) (ks bs:Nat→Nat) (hks:∀ j,ks j<256) (hbs:∀ j,bs j<256) (w:World) (hv:BytesIn w v n ks) (hu:BytesIn w u m bs) (hn:n<140737488355000) (hm:m<140737488355000) :
 Calls Try.prog 4 #[v,u] w fun e w'=>e = .returned (.bool true)∧Below w.heap.size w w':=by
 obtain ⟨N,Z,E,hZ,c3,c4⟩:=hash_both n m ks bs hks hbs (by omega)
 have c1:=lent_any v n ks w hv hn
 have c2:=fun W hb=>lent_any u m bs W (hu.keep hb) hm
 have cs1:=fun g cap W hc hr hb=>stays_any g cap n v ks hks W hn hc hr (hv.keep hb)
 have cs2:=fun g cap W hc hr hb=>stays_any g cap m u bs hbs W hm hc hr (hu.keep hb)
 have c4':=fun W hb=>c4 v u W (hv.keep hb) (hu.keep hb)
 have ck:=knows9
 obtain ⟨S,hS⟩:∃ S,S=strB N Z:=⟨_,rfl⟩
 have cv:=fun (W W':World) (s:Value) (h:BytesIn W s N Z) (hb:Below W.heap.size W W')=>h.conv hZ W' hb
 rw [←hS] at cv
 obtain ⟨xk,ckk,rfl,-,-,-⟩:=hv.src
 obtain ⟨xb,cb,rfl,-,-,-⟩:=hu.src
 clear hv hu hks hbs hZ hS c4
 go_enter Try.func4,Try.ntmps4
 go_wp2_with (first
  | (go_at_call 10;refine c1.mono ?_;clear c1;rintro e w1 ⟨g1,k1,rfl,hk1,-,r1,b⟩;(have c2':=c2 w1 b);clear c2)
  | (go_at_call 10;refine c2'.mono ?_;clear c2';rintro e w2 ⟨g2,k2,rfl,hk2,-,r2,b2⟩;(replace r1:=r1.still b2);(replace b:=below_next b b2);(have c3':=c3 _ _ w2 (lentG r1 hk1) (lentG r2 hk2));clear c3 b2)
  | (go_at_call 16;refine c3'.mono ?_;clear c3';rintro e w3 ⟨s3,rfl,i3,b3⟩;(obtain ⟨x3,l3,hs3,-,-,-⟩:=i3.src);subst hs3;(replace r1:=r1.still b3);(replace r2:=r2.still b3);(replace b:=below_next b b3);(have c4'':=c4' w3 b);clear c4' b3)
  | (go_at_call 17;refine c4''.mono ?_;clear c4'';rintro e w4 ⟨s4,rfl,i4,b4⟩;(obtain ⟨x4,l4,hs4,-,-,-⟩:=i4.src);subst hs4;(replace r1:=r1.still b4);(replace r2:=r2.still b4);(replace b:=below_next b b4);(have q3:=cv w3 w4 _ i3 b4);(have q4:=cv w4 w4 _ i4 (Below.refl _ _));(have cs1':=cs1 g1 k1 w4 hk1 r1 b);clear cv cs1 i3 i4 b4)
  | rw [q3]
  | rw [q4]
  | (go_at_call 13;refine (num9_any _ _).mono ?_;rintro e wn ⟨rfl,hwn⟩;subst hwn)
  | (go_at_call 14;refine cs1'.mono ?_;clear cs1';rintro e w5 ⟨rfl,b5⟩;(replace r2:=r2.still b5);(replace b:=below_next b b5);(have cs2':=cs2 g2 k2 w5 hk2 r2 b);clear cs2 b5)
  | (go_at_call 14;refine cs2'.mono ?_;clear cs2';rintro e w6 ⟨rfl,b6⟩;(replace b:=below_next b b6);clear b6)
  | (go_at_call 15;refine (ck _).mono ?_;clear ck;rintro e w7 ⟨rfl,b7⟩))
 go_ret
 exact ⟨rfl,below_next b b7⟩
end Go.Proofs.Ytalgabgofpmebaa
namespace Go.Proofs.Ytalgabgofpmebaa
open Go.ChangeShapes Go.WideShapes Go.ChangeAt Go.RowKit
theorem ownKnobs:ownKnob Try.prog.godebug=none:=by kernel_rfl
theorem laidOut:laidOutB Try.prog=true:=by kernel_rfl
theorem cellsOfByte:Try.prog.cellsOf 5=1:=by kernel_rfl
theorem bytesOfByte:Try.prog.bytesOf 5=1:=by kernel_rfl
set_option maxRecDepth 20000 in
theorem open_bytes {H:Type} {enc:TypeId × Value→H} {W:World} {base:Nat} {v:Value} {d:DataW H} {ps:List MemPlace} (hval:Value.okWide Try.prog W .any base 22 v) (h:DataW.Trod enc Try.prog W 0 (fun _=>true) true 22 v d ps) :
 ∃ n bs,BytesIn W v n bs∧(∀ j,bs j<256)∧(n=0∨∃ elems spare,d = .slice elems spare∧elems.length=n):=by
 obtain ⟨a0,len,cap,rfl⟩:=okWide_slice Try.underlying22 hval
 obtain ⟨fuel,hf⟩:=h
 have hc:Cell.ok Try.prog W .any base 22 (.slice a0 len cap):=by
  unfold Value.okWide Cell.okWide at hval
  simp only [Try.underlying22] at hval
  exact hval
 rcases open_ints Try.underlying22 Try.underlying5 cellsOfByte hf with ⟨hcs,hx⟩ | ⟨a,len',cap',zs,hcs,_,hl,hm,hz,hx,hcell,hwz⟩
 · simp [Value.cells] at hcs
   obtain ⟨rfl,rfl,rfl⟩:=hcs
   exact ⟨0,fun _=>0,.inl ⟨none,rfl,rfl⟩,fun _=>Nat.zero_lt_succ _,.inl rfl⟩
 · simp [Value.cells] at hcs
   obtain ⟨rfl,rfl,rfl⟩:=hcs
   simp only [Prod.mk.injEq] at hx
   obtain ⟨rfl,rfl⟩:=hx
   simp only [if_true] at hz
   unfold Cell.ok at hc
   simp only [Try.underlying22] at hc
   obtain ⟨_,_,_,hs,row,cells,hsh,_⟩:=hc
   obtain ⟨b,off,spot⟩:=a
   subst hs
   have hbl:b<W.heap.size:=by
    rcases Nat.lt_or_ge b W.heap.size with h | h
    · exact h
    · unfold World.shape? at hsh
      rw [Array.getElem?_eq_none h] at hsh
      cases hsh
   have hn:∀ j,0≤zs.getD j 0∧zs.getD j 0<256:=fun j=>by
    rw [List.getD_eq_getElem?_getD]
    cases h:zs[j]? with
    | none=>simp
    | some x =>
     have:=hwz x (List.mem_of_getElem? h)
     have h0:(0:Int)≤x∧x≤255:=by simpa [Lit.wf,IntKind.min,IntKind.max,IntKind.signed,IntKind.bits] using this
     show 0≤x∧x<256
     omega
   refine ⟨len,fun j=>(zs.getD j 0).toNat,.inr ⟨b,off,cap,rfl,hbl,hl,fun j hj => ?_⟩,fun j => ?_,.inr ⟨_,_,rfl,?_⟩⟩
   · have h:=hcell j (by omega)
     rw [Addr.add_mid] at h
     rw [h,Int.toNat_of_nonneg (hn j).1]
   · have:=hn j
     show (zs.getD j 0).toNat<256
     omega
   · simp [lits];omega
theorem bytes_reach {H:Type} {ts:List TypeId} {ds:List (DataW H)} (hR:(DataW.weightsEach Try.prog ts ds).all (·≤reachBytes)=true) {j n:Nat} {d:DataW H} (ht:ts[j]? = some 22) (hd:ds[j]? = some d) (h:n=0∨∃ elems spare,d = .slice elems spare∧elems.length=n):n<140737488355000:=by
 rcases h with h | ⟨elems,spare,rfl,rfl⟩
 · omega
 · have:=sized_slice hR ht hd Try.underlying22
   rw [bytesOfByte] at this
   unfold reachBytes at this
   omega
end Go.Proofs.Ytalgabgofpmebaa
