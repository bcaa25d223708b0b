/- What the proof stands on: R7S, R7U, R7V, T4H. -/
import Derived.Test.YtbbikhlbkpjpjaaGreatDoorI2CaM
import Derived.Test.YtbbikhlbkpjpjaaGreatDoorR7T
import Derived.Test.YtbbikhlbkpjpjaaGreatDoorT4AM
import Derived.Test.YtbbikhlbkpjpjaaGreatDoorT4RM
import Derived.Test.YtbbikhlbkpjpjaaGreatDoorZE
namespace Go.Proofs.YtbbikhlbkpjpjaaGreatDoor
open Go.RowKit
structure Rs where
 n:Nat
 sd:Int→Option (Nat→Nat)
 rt:Ln→Option (Nat × (Nat→Nat))
 kp:Ms→Option ((Nat→Nat) × (Nat→Nat))
structure RsAt (w:World) (tb sb rb kb:Nat) (S:Rs):Prop where
 c0:w.cell? ⟨tb,0,none⟩=some (.int .i64 (S.n:Int))
 c1:w.cell? ⟨tb,1,none⟩=some (.map (some sb))
 c2:w.cell? ⟨tb,2,none⟩=some (.map (some rb))
 c3:w.cell? ⟨tb,3,none⟩=some (.map (some kb))
 ms:MpAt w sb (fun x=>(S.sd x).map sdV)
 mr:MkAt lnV w rb (fun l=>(S.rt l).map fun p=>rtV p.1 p.2)
 mq:MkAt msV w kb (fun m=>(S.kp m).map fun p=>kyV p.1 p.2)
 ne:sb≠rb∧sb≠kb∧rb≠kb
theorem RsAt.lt {w:World} {tb sb rb kb:Nat} {S:Rs} (h:RsAt w tb sb rb kb S):tb<w.heap.size:=block_lt_of_cell h.c0
theorem RsAt.at_eq {w w':World} {tb sb rb kb:Nat} {S:Rs} (h:RsAt w tb sb rb kb S) (e:∀ b,b=tb∨b=sb∨b=rb∨b=kb→w'.heap[b]? = w.heap[b]?):RsAt w' tb sb rb kb S :=
 ⟨(World.cell?_of_block (w:=w) (e tb (.inl rfl))).trans h.c0,(World.cell?_of_block (w:=w) (e tb (.inl rfl))).trans h.c1,(World.cell?_of_block (w:=w) (e tb (.inl rfl))).trans h.c2,(World.cell?_of_block (w:=w) (e tb (.inl rfl))).trans h.c3,h.ms.same (e sb (.inr (.inl rfl))),h.mr.one (e rb (.inr (.inr (.inl rfl)))),h.mq.one (e kb (.inr (.inr (.inr rfl)))),h.ne⟩
theorem RsAt.still {w w':World} {tb sb rb kb:Nat} {S:Rs} (h:RsAt w tb sb rb kb S) (hb:Below w.heap.size w w'):RsAt w' tb sb rb kb S :=
 h.at_eq (fun b hb'=>hb.block b (by rcases hb' with rfl | rfl | rfl | rfl <;> first | exact h.lt | exact h.ms.lt | exact h.mr.lt | exact h.mq.lt))
theorem rmade_nil (w:World):Calls Tryz.prog 26 #[.pointer none] w fun e w'=>e = .returned (.bool false)∧w'=w:=by
 go_enter Tryz.func26,Tryz.ntmps26
 go_wp2
 go_ret
 exact ⟨rfl,rfl⟩
theorem rmade_any (tb:Nat) (n:Int) (w:World) (hc:w.cell? ⟨tb,0,none⟩=some (.int .i64 n)):Calls Tryz.prog 26 #[pA tb 0] w fun e w'=>e = .returned (.bool (decide (0<n)))∧w'=w:=by
 go_enter Tryz.func26,Tryz.ntmps26
 go_wp2
 go_ret
 exact ⟨by simp,rfl⟩
theorem rhas_nil (i:Int) (w:World):Calls Tryz.prog 33 #[.pointer none,.int .i64 i] w fun e w'=>e = .returned (.bool false)∧w'=w:=by
 have c:=rmade_nil w
 go_enter Tryz.func33,Tryz.ntmps33
 go_wp2_with (go_at_call 26;refine c.mono ?_;clear c;rintro e w1 ⟨rfl,rfl⟩)
 go_ret
 exact ⟨rfl,rfl⟩
theorem rhas_zero (tb:Nat) (i:Int) (w:World) (hc:w.cell? ⟨tb,0,none⟩=some (.int .i64 0)):Calls Tryz.prog 33 #[pA tb 0,.int .i64 i] w fun e w'=>e = .returned (.bool false)∧w'=w:=by
 have c:=rmade_any tb 0 w hc
 go_enter Tryz.func33,Tryz.ntmps33
 go_wp2_with (go_at_call 26;refine c.mono ?_;clear c;rintro e w1 ⟨rfl,rfl⟩)
 go_ret
 exact ⟨rfl,rfl⟩
theorem rhas_any (tb:Nat) (n i:Int) (hn:0<n) (w:World) (hc:w.cell? ⟨tb,0,none⟩=some (.int .i64 n)):Calls Tryz.prog 33 #[pA tb 0,.int .i64 i] w fun e w'=>e = .returned (.bool (decide (0≤i) && decide (i<n)))∧w'=w:=by
 have c:=rmade_any tb n w hc
 rw [decide_eq_true hn] at c
 go_enter Tryz.func33,Tryz.ntmps33
 by_cases h2:0≤i
 · go_wp2_with (go_at_call 26;refine c.mono ?_;clear c;rintro e w1 ⟨rfl,rfl⟩)
   go_ret
   exact ⟨by simp;omega,rfl⟩
 · go_wp2_with (go_at_call 26;refine c.mono ?_;clear c;rintro e w1 ⟨rfl,rfl⟩)
   go_ret
   exact ⟨by simp;omega,rfl⟩
theorem und_sd:Tryz.prog.underlying 47=some (.map 3 60):=by kernel_rfl
theorem und_rt:Tryz.prog.underlying 48=some (.map 77 79):=by kernel_rfl
theorem und_ky:Tryz.prog.underlying 49=some (.map 82 86):=by kernel_rfl
theorem und_i7:Tryz.prog.underlying 3=some (.int .i64):=by kernel_rfl
theorem zero_sd (w:World):(zeroValue 60).run Tryz.prog w = .ok (sdV lZ) w:=by kernel_rfl
theorem zero_rt (w:World):(zeroValue 79).run Tryz.prog w = .ok (rtV 0 lZ) w:=by kernel_rfl
theorem zero_ky (w:World):(zeroValue 86).run Tryz.prog w = .ok (kyV lZ lZ) w:=by kernel_rfl
def Rs.sd0 (S:Rs) (x:Int):Nat→Nat:=(S.sd x).getD lZ
def Rs.rt0 (S:Rs) (l:Ln):Nat × (Nat→Nat):=(S.rt l).getD (0,lZ)
def Rs.kp0 (S:Rs) (m:Ms):(Nat→Nat) × (Nat→Nat):=(S.kp m).getD (lZ,lZ)
theorem RsAt.look_sd {w:World} {tb sb rb kb:Nat} {S:Rs} (h:RsAt w tb sb rb kb S) (x:Int):(Instr.lookup 47 (.map (some sb)) (.int .i64 x) true).run Tryz.prog w = .ok (.tuple #[sdV (S.sd0 x),.bool (S.sd x).isSome]) w:=by
 rw [mp_look h.ms und_sd und_i7 zero_sd x true]
 unfold Rs.sd0
 cases S.sd x <;> rfl
theorem RsAt.look_rt {w:World} {tb sb rb kb:Nat} {S:Rs} (h:RsAt w tb sb rb kb S) (l:Ln) (c:Bool):(Instr.lookup 48 (.map (some rb)) (lnV l) c).run Tryz.prog w = .ok (if c then .tuple #[rtV (S.rt0 l).1 (S.rt0 l).2,.bool (S.rt l).isSome] else rtV (S.rt0 l).1 (S.rt0 l).2) w:=by
 rw [mk_look h.mr und_rt ln_law zero_rt l c]
 unfold Rs.rt0
 cases S.rt l <;> rfl
theorem RsAt.look_ky {w:World} {tb sb rb kb:Nat} {S:Rs} (h:RsAt w tb sb rb kb S) (m:Ms):(Instr.lookup 49 (.map (some kb)) (msV m) true).run Tryz.prog w = .ok (.tuple #[kyV (S.kp0 m).1 (S.kp0 m).2,.bool (S.kp m).isSome]) w:=by
 rw [mk_look h.mq und_ky ms_law zero_ky m true]
 unfold Rs.kp0
 cases S.kp m <;> rfl
theorem run_look {P:Program} (ev:Operand→Value) (oi:Oper) (u:World) {mt:TypeId} {x y:Operand} {c:Bool} {m k v:Value} (ho:oi.op = .lookup mt x y c) (hx:ev x=m) (hy:ev y=k) (h:(Instr.lookup mt m k c).run P u = .ok v u):(execOp ev oi).run P u = .ok (.value v) u:=by
 unfold execOp
 simp only [ho,hx,hy]
 simp [Result.andThen,h]
theorem infoLn (i:Int) (t:Bool):(Tryz.prog.info? 77).map (·.size)=some [Value.int .i64 i,.bool t].length:=by kernel_rfl
def Rs.su (S:Rs) (l:Ln):Nat:=(S.rt0 l).1
section
variable {P:Program} {md:Region.Mode} {ops:Array Oper} {Q:Exit→Act→World→Prop} {S:World→Prop} {fuel:Nat} {listed:Array Bool} {a:Act} {w:World}
theorem zA (i:Nat) {rs:List Nat} {oi:Oper} {v:Value} (cs:Array Value) (t:TypeId) (hk:S (w.alloc (.cells cs t))) (h:wpAnyH P md ops Q S fuel (listed.setIfInBounds i true) (a.put oi.dst v) (w.alloc (.cells cs t))) (hs:AllReadyH P md ops Q S fuel listed a w rs)
 (hi:ops.toList[i]? = some oi:=by rfl) (hrun:(execOp a.eval oi).run P w = .ok (.value v) (w.alloc (.cells cs t)):=by kernel_rfl) (hw:Region.wanted oi (yielded ops a.tmps)=true:=by rfl):AllReadyH P md ops Q S fuel listed a w (i :: rs):=by
 refine AllReadyH.cons (at_list hi) (fun K hK => ?_) hs
 rw [if_pos hw]
 unfold Oper.wp
 rw [hrun,Oper.upon_value]
 exact hK.out _ _ hk (fun _=>h)
end
set_option maxRecDepth 20000 in
set_option maxHeartbeats 4000000 in
theorem rsure_any (tb sb rb kb:Nat) (S:Rs) (i:Int) (t:Bool) (w:World) (h:RsAt w tb sb rb kb S):Calls Tryz.prog 34 #[pA tb 0,.agg #[.int .i64 i,.bool t]] w fun e w'=>e = .returned (.int .i64 (S.su (i,t):Int))∧Below w.heap.size w w':=by
 obtain ⟨W1,hW1⟩:∃ W,W=w.alloc (.cells #[.int .i64 i,.bool t] 77):=⟨_,rfl⟩
 have b1:Below w.heap.size w W1:=by rw [hW1];exact (Below.refl _ _).alloc (Nat.le_refl _) _
 have k1:RW W1 w.heap.size 0 [.int .i64 i,.bool t]:=by rw [hW1];exact RW.fresh w _ _
 replace h:=h.still b1
 have HW1:=Hid.mk' hW1
 clear hW1
 go_enter Tryz.func34,Tryz.ntmps34
 go_upto_region 1 with (fail)
 rw [←HW1.out]
 clear HW1
 have hdr:Below W1.heap.size W1 W1.drew:=(Below.refl _ _).drew
 replace h:=h.still hdr
 replace k1:=k1.still hdr
 replace b1:=below_next b1 hdr
 clear hdr
 refine wp_region_noPanic ?_
 refine wp_region_held_drew (S:=fun u=>Below W1.drew.heap.size W1.drew u) (by kernel_rfl) (Below.refl _ _) (fun hS => ?_)
 generalize W1.drew=V at *
 refine tg 0 hS ?_
 (try simp only [pS])
 refine tg 1 hS ?_
 (try simp only [pS])
 refine tg 2 hS ?_
 (try simp only [pS])
 refine tc 3 hS (fun u hu=>(h.still hu).c2) ?_
 (try simp only [pS])
 refine tl 4 k1 hS 77 Tryz.underlying77 (infoLn i t) ?_
 (try simp only [pS])
 refine tg 5 hS (v:=rtV (S.rt0 (i,t)).1 (S.rt0 (i,t)).2) (hy:=fun u hu=>run_look _ _ u rfl rfl rfl ((h.still hu).look_rt (i,t) false)) ?_
 (try simp only [pS])
 refine tg 6 hS (v := .int .i64 ((S.rt0 (i,t)).1:Int)) (hy:=by intro u hu;exact (show (execOp _ _).run Tryz.prog u=_ from by kernel_rfl)) ?_
 (try simp only [pS])
 refine tg 7 hS ?_
 (try simp only [pS])
 refine wpAnyH_done (by kernel_rfl) ?_ _
 refine NoPanic.normal ?_
 go_wp2
 go_ret
 exact ⟨rfl,b1⟩
set_option maxRecDepth 20000 in
set_option maxHeartbeats 4000000 in
theorem rkeeps_any (tb sb rb kb:Nat) (S:Rs) (i:Int) (t:Bool) (g:Int) (w:World) (h:RsAt w tb sb rb kb S):Calls Tryz.prog 35 #[pA tb 0,.agg #[.int .i64 i,.bool t],.int .i64 g] w fun e w'=>e = .returned (.bool (S.kp ((i,t),g)).isSome)∧Below w.heap.size w w':=by
 obtain ⟨W1,hW1⟩:∃ W,W=w.alloc (.cells #[.int .i64 i,.bool t] 77):=⟨_,rfl⟩
 have b1:Below w.heap.size w W1:=by rw [hW1];exact (Below.refl _ _).alloc (Nat.le_refl _) _
 have k1:RW W1 w.heap.size 0 [.int .i64 i,.bool t]:=by rw [hW1];exact RW.fresh w _ _
 have s1:W1.heap.size=w.heap.size+1:=by rw [hW1];simp
 replace h:=h.still b1
 have HW1:=Hid.mk' hW1
 clear hW1
 go_enter Tryz.func35,Tryz.ntmps35
 go_upto_region 1 with (fail)
 rw [←HW1.out]
 clear HW1
 have hdr:Below W1.heap.size W1 W1.drew:=(Below.refl _ _).drew
 replace h:=h.still hdr
 replace k1:=k1.still hdr
 replace b1:=below_next b1 hdr
 clear hdr
 refine wp_region_noPanic ?_
 refine wp_region_held_drew (S:=fun u=>Below W1.drew.heap.size W1.drew u) (by kernel_rfl) (Below.refl _ _) (fun hS => ?_)
 generalize W1.drew=V at *
 refine tg 0 hS ?_
 (try simp only [pS])
 refine tg 1 hS ?_
 (try simp only [pS])
 refine tg 2 hS ?_
 (try simp only [pS])
 refine tc 3 hS (fun u hu=>(h.still hu).c3) ?_
 (try simp only [pS])
 refine tl 4 k1 hS 77 Tryz.underlying77 (infoLn i t) ?_
 (try simp only [pS])
 refine tg 5 hS ?_
 (try simp only [pS])
 refine tg 6 hS (v:=msV ((i,t),g)) (hy:=by intro u hu;exact (show (execOp _ _).run Tryz.prog u=_ from by kernel_rfl)) ?_
 (try simp only [pS])
 refine tg 7 hS (v := .tuple #[kyV (S.kp0 ((i,t),g)).1 (S.kp0 ((i,t),g)).2,.bool (S.kp ((i,t),g)).isSome]) (hy:=fun u hu=>run_look _ _ u rfl rfl rfl ((h.still hu).look_ky ((i,t),g))) ?_
 (try simp only [pS])
 refine tg 8 hS ?_
 (try simp only [pS])
 refine tg 9 hS ?_
 (try simp only [pS])
 refine tg 10 hS ?_
 (try simp only [pS])
 refine wpAnyH_ready (rs:=[11]) (by kernel_rfl) (by simp) ?_
 refine zA 11 (v:=pA V.heap.size 0) (kyL lZ lZ).toArray 86 ((Below.refl _ _).alloc (Nat.le_refl _) _) ?_ AllReadyH.nil
 have rz:=RW.fresh V (kyL lZ lZ) 86
 have nb:Below V.heap.size V (V.alloc (.cells (kyL lZ lZ).toArray 86)):=(Below.refl _ _).alloc (Nat.le_refl _) _
 have sn:(V.alloc (.cells (kyL lZ lZ).toArray 86)).heap.size=V.heap.size+1:=by simp
 generalize V.alloc (.cells (kyL lZ lZ).toArray 86)=X1 at *
 (try simp only [pS])
 refine wpAnyH_ready (rs:=[12]) (by kernel_rfl) (by simp) ?_
 refine zS 12 86 7 18 (kyL (S.kp0 ((i,t),g)).1 (S.kp0 ((i,t),g)).2) rz (by first | rfl | rw [kyL_len,kyL_len] | rw [rtL_len,rtL_len] | rw [ints_len,ints_len]) (infoKyA _ _) (oneKy _ _) (below_setCells (Nat.le_refl _) _ _ _ nb) (fun rx => ?_) AllReadyH.nil
 replace nb:=below_setCells (Nat.le_refl _) (kyL (S.kp0 ((i,t),g)).1 (S.kp0 ((i,t),g)).2) 0 _ nb
 have sx:(X1.setCells V.heap.size 0 (kyL (S.kp0 ((i,t),g)).1 (S.kp0 ((i,t),g)).2)).heap.size=V.heap.size+1:=(setCells_same _ _ _ _).2.2.2.trans sn
 generalize X1.setCells V.heap.size 0 (kyL (S.kp0 ((i,t),g)).1 (S.kp0 ((i,t),g)).2)=X2 at *
 clear rz sn hS
 refine tg 13 nb ?_
 (try simp only [pS])
 refine wpAnyH_done (by kernel_rfl) ?_ _
 refine NoPanic.normal ?_
 replace b1:=below_next b1 nb
 go_wp2
 go_ret
 exact ⟨rfl,b1⟩
set_option maxRecDepth 20000 in
set_option maxHeartbeats 4000000 in
theorem rrefusal_no (rv:Value) (i:Int) (t:Bool) (g:Int) (w:World) (c:∀ V,Below w.heap.size w V→Calls Tryz.prog 33 #[rv,.int .i64 i] V fun e w'=>e = .returned (.bool false)∧w'=V):Calls Tryz.prog 32 #[rv,.agg #[.int .i64 i,.bool t],.int .i64 g] w fun e w'=>e = .returned (.int .i64 1)∧Below w.heap.size w w':=by
 obtain ⟨W1,hW1⟩:∃ W,W=w.alloc (.cells #[.int .i64 i,.bool t] 77):=⟨_,rfl⟩
 have b1:Below w.heap.size w W1:=by rw [hW1];exact (Below.refl _ _).alloc (Nat.le_refl _) _
 have k1:RW W1 w.heap.size 0 [.int .i64 i,.bool t]:=by rw [hW1];exact RW.fresh w _ _
 have q1:=k1.range 0 _ rfl
 rw [Nat.zero_add] at q1
 have c1:=c W1 b1
 have HW1:=Hid.mk' hW1
 clear hW1 c k1
 go_enter Tryz.func32,Tryz.ntmps32
 go_upto_region 1 with (fail)
 rw [←HW1.out]
 clear HW1
 go_wp2_with (go_at_call 33;refine c1.mono ?_;clear c1;rintro e w1 ⟨rfl,hw1⟩;obtain rfl:=hw1.symm)
 go_ret
 exact ⟨rfl,b1⟩
def Rs.rf (S:Rs) (l:Ln) (g:Int):Int:=if ¬(0≤l.1∧l.1<(S.n:Int)) then 1 else if g<0∨4294967296≤g then 11 else if g<(S.su l:Int)∧(S.kp (l,g)).isSome=false then 50 else if (S.su l:Int)+32<g then 51 else 0
set_option maxRecDepth 20000 in
set_option maxHeartbeats 4000000 in
theorem rrefusal_any (tb sb rb kb:Nat) (S:Rs) (hn:0<S.n) (i:Int) (t:Bool) (g:Int) (hsu:S.su (i,t)≤4294967296) (w:World) (h:RsAt w tb sb rb kb S):Calls Tryz.prog 32 #[pA tb 0,.agg #[.int .i64 i,.bool t],.int .i64 g] w fun e w'=>e = .returned (.int .i64 (S.rf (i,t) g))∧Below w.heap.size w w':=by
 unfold Rs.rf
 by_cases hl:¬(0≤i∧i<(S.n:Int))
 · rw [if_pos hl]
   exact rrefusal_no (pA tb 0) i t g w (fun V hV=>by
    have c:=rhas_any tb S.n i (by omega) V (h.still hV).c0
    have e:(decide (0≤i) && decide (i<(S.n:Int)))=false:=by simp;omega
    rwa [e] at c)
 rw [if_neg hl]
 obtain ⟨W1,hW1⟩:∃ W,W=w.alloc (.cells #[.int .i64 i,.bool t] 77):=⟨_,rfl⟩
 have b1:Below w.heap.size w W1:=by rw [hW1];exact (Below.refl _ _).alloc (Nat.le_refl _) _
 have k1:RW W1 w.heap.size 0 [.int .i64 i,.bool t]:=by rw [hW1];exact RW.fresh w _ _
 have q1:=k1.range 0 _ rfl
 rw [Nat.zero_add] at q1
 replace h:=h.still b1
 have c1:=rhas_any tb S.n i (by omega) W1 h.c0
 have e:(decide (0≤i) && decide (i<(S.n:Int)))=true:=by simp;omega
 rw [e] at c1
 have cS:=fun V (hV:Below W1.heap.size W1 V)=>rsure_any tb sb rb kb S i t V (h.still hV)
 have cK:=fun V (hV:Below W1.heap.size W1 V)=>rkeeps_any tb sb rb kb S i t g V (h.still hV)
 have b0:=Below.refl W1.heap.size W1
 have HW1:=Hid.mk' hW1
 obtain ⟨su,hs⟩:∃ su:Int,su=(S.su (i,t):Int):=⟨_,rfl⟩
 have hs2:0≤su∧su≤4294967296:=by omega
 have ew:IntKind.i64.wrap (su+32)=su+32:=by simp only [IntKind.wrap_i64];omega
 rw [←hs] at cS ⊢
 generalize (S.kp ((i,t),g)).isSome=kk at cK ⊢
 have hiL:=infoLn i t
 clear hW1 h e hs hl hsu hn
 obtain ⟨E,hE⟩:∃ E,E=(if g<0∨4294967296≤g then (11:Int) else if g<su∧kk=false then 50 else if su+32<g then 51 else 0):=⟨_,rfl⟩
 rw [←hE]
 have HE:=Hid.mk' hE
 clear hE
 go_enter Tryz.func32,Tryz.ntmps32
 go_upto_region 1 with (fail)
 rw [←HW1.out]
 clear HW1
 by_cases h1:g<0
 · go_wp2_with (first | (go_at_call 33;refine c1.mono ?_;clear c1;rintro e w1 ⟨rfl,hw1⟩;obtain rfl:=hw1.symm) | (go_at_call 34;refine (cS _ b0).mono ?_;rintro e wn ⟨rfl,hbn⟩;replace b0:=below_next b0 hbn;clear hbn) | (go_at_call 35;refine (cK _ b0).mono ?_;rintro e wn ⟨rfl,hbn⟩;replace b0:=below_next b0 hbn;clear hbn) | (refine wpList_load_mid rfl 77 _ rfl w.heap.size 0 rfl [.int .i64 i,.bool t] _ (k1.still b0).range Tryz.underlying77 rfl hiL ?_) | (refine wpList_load_on rfl 77 _ rfl w.heap.size 0 rfl [.int .i64 i,.bool t] _ (k1.still b0).range Tryz.underlying77 rfl hiL ?_))
   go_ret
   exact ⟨by rw [HE.out,if_pos (.inl h1)];rfl,below_next b1 b0⟩
 · by_cases h2:4294967296≤g
   · go_wp2_with (first | (go_at_call 33;refine c1.mono ?_;clear c1;rintro e w1 ⟨rfl,hw1⟩;obtain rfl:=hw1.symm) | (go_at_call 34;refine (cS _ b0).mono ?_;rintro e wn ⟨rfl,hbn⟩;replace b0:=below_next b0 hbn;clear hbn) | (go_at_call 35;refine (cK _ b0).mono ?_;rintro e wn ⟨rfl,hbn⟩;replace b0:=below_next b0 hbn;clear hbn) | (refine wpList_load_mid rfl 77 _ rfl w.heap.size 0 rfl [.int .i64 i,.bool t] _ (k1.still b0).range Tryz.underlying77 rfl hiL ?_) | (refine wpList_load_on rfl 77 _ rfl w.heap.size 0 rfl [.int .i64 i,.bool t] _ (k1.still b0).range Tryz.underlying77 rfl hiL ?_))
     go_ret
     exact ⟨by rw [HE.out,if_pos (.inr h2)];rfl,below_next b1 b0⟩
   · have hn12:¬(g<0∨4294967296≤g):=by omega
     have Hn:=Hid.mk' hn12
     clear hn12
     by_cases h3:g<su
     · cases kk with
       | false =>
        go_wp2_with (first | (go_at_call 33;refine c1.mono ?_;clear c1;rintro e w1 ⟨rfl,hw1⟩;obtain rfl:=hw1.symm) | (go_at_call 34;refine (cS _ b0).mono ?_;rintro e wn ⟨rfl,hbn⟩;replace b0:=below_next b0 hbn;clear hbn) | (go_at_call 35;refine (cK _ b0).mono ?_;rintro e wn ⟨rfl,hbn⟩;replace b0:=below_next b0 hbn;clear hbn) | (refine wpList_load_mid rfl 77 _ rfl w.heap.size 0 rfl [.int .i64 i,.bool t] _ (k1.still b0).range Tryz.underlying77 rfl hiL ?_) | (refine wpList_load_on rfl 77 _ rfl w.heap.size 0 rfl [.int .i64 i,.bool t] _ (k1.still b0).range Tryz.underlying77 rfl hiL ?_))
        go_ret
        exact ⟨by rw [HE.out,if_neg Hn.out,if_pos ⟨h3,by simp⟩];rfl,below_next b1 b0⟩
       | true =>
        have h4:¬su+32<g:=by omega
        go_wp2_with (first | (go_at_call 33;refine c1.mono ?_;clear c1;rintro e w1 ⟨rfl,hw1⟩;obtain rfl:=hw1.symm) | (go_at_call 34;refine (cS _ b0).mono ?_;rintro e wn ⟨rfl,hbn⟩;replace b0:=below_next b0 hbn;clear hbn) | (go_at_call 35;refine (cK _ b0).mono ?_;rintro e wn ⟨rfl,hbn⟩;replace b0:=below_next b0 hbn;clear hbn) | (refine wpList_load_mid rfl 77 _ rfl w.heap.size 0 rfl [.int .i64 i,.bool t] _ (k1.still b0).range Tryz.underlying77 rfl hiL ?_) | (refine wpList_load_on rfl 77 _ rfl w.heap.size 0 rfl [.int .i64 i,.bool t] _ (k1.still b0).range Tryz.underlying77 rfl hiL ?_))
        go_ret
        exact ⟨by rw [HE.out,if_neg Hn.out,if_neg (fun e=>by cases e.2),if_neg (show ¬su+32<g by omega)];rfl,below_next b1 b0⟩
     · by_cases h4:su+32<g
       · go_wp2_with (first | (go_at_call 33;refine c1.mono ?_;clear c1;rintro e w1 ⟨rfl,hw1⟩;obtain rfl:=hw1.symm) | (go_at_call 34;refine (cS _ b0).mono ?_;rintro e wn ⟨rfl,hbn⟩;replace b0:=below_next b0 hbn;clear hbn) | (go_at_call 35;refine (cK _ b0).mono ?_;rintro e wn ⟨rfl,hbn⟩;replace b0:=below_next b0 hbn;clear hbn) | (refine wpList_load_mid rfl 77 _ rfl w.heap.size 0 rfl [.int .i64 i,.bool t] _ (k1.still b0).range Tryz.underlying77 rfl hiL ?_) | (refine wpList_load_on rfl 77 _ rfl w.heap.size 0 rfl [.int .i64 i,.bool t] _ (k1.still b0).range Tryz.underlying77 rfl hiL ?_))
         go_ret
         exact ⟨by rw [HE.out,if_neg Hn.out,if_neg (fun e=>(show ¬g<su by omega) e.1),if_pos h4];rfl,below_next b1 b0⟩
       · go_wp2_with (first | (go_at_call 33;refine c1.mono ?_;clear c1;rintro e w1 ⟨rfl,hw1⟩;obtain rfl:=hw1.symm) | (go_at_call 34;refine (cS _ b0).mono ?_;rintro e wn ⟨rfl,hbn⟩;replace b0:=below_next b0 hbn;clear hbn) | (go_at_call 35;refine (cK _ b0).mono ?_;rintro e wn ⟨rfl,hbn⟩;replace b0:=below_next b0 hbn;clear hbn) | (refine wpList_load_mid rfl 77 _ rfl w.heap.size 0 rfl [.int .i64 i,.bool t] _ (k1.still b0).range Tryz.underlying77 rfl hiL ?_) | (refine wpList_load_on rfl 77 _ rfl w.heap.size 0 rfl [.int .i64 i,.bool t] _ (k1.still b0).range Tryz.underlying77 rfl hiL ?_))
         go_ret
         exact ⟨by rw [HE.out,if_neg Hn.out,if_neg (fun e=>(show ¬g<su by omega) e.1),if_neg (show ¬su+32<g by omega)];rfl,below_next b1 b0⟩
end Go.Proofs.YtbbikhlbkpjpjaaGreatDoor
namespace Go.Proofs.YtbbikhlbkpjpjaaGreatDoor
open Go.RowKit
theorem sd_there (w:World) (Y:Nat→Nat):(w.alloc (.cells #[.int .u8 0,.int .u8 0,.int .u8 0,.int .u8 0,.int .u8 0,.int .u8 0,.int .u8 0,.int .u8 0,.int .u8 0,.int .u8 0,.int .u8 0,.int .u8 0,.int .u8 0,.int .u8 0,.int .u8 0,.int .u8 0,.int .u8 0,.int .u8 0,.int .u8 0,.int .u8 0,.int .u8 0,.int .u8 0,.int .u8 0,.int .u8 0,.int .u8 0,.int .u8 0,.int .u8 0,.int .u8 0,.int .u8 0,.int .u8 0,.int .u8 0,.int .u8 0] 60)).there w.heap.size 0 (ints .u8 32 Y).toArray.size:=by
 have h:=(sd_zero w).there
 rw [ints_len] at h
 rw [ints_size];exact h
theorem sd_next (w:World) (Y:Nat→Nat):Below w.heap.size w ((w.alloc (.cells #[.int .u8 0,.int .u8 0,.int .u8 0,.int .u8 0,.int .u8 0,.int .u8 0,.int .u8 0,.int .u8 0,.int .u8 0,.int .u8 0,.int .u8 0,.int .u8 0,.int .u8 0,.int .u8 0,.int .u8 0,.int .u8 0,.int .u8 0,.int .u8 0,.int .u8 0,.int .u8 0,.int .u8 0,.int .u8 0,.int .u8 0,.int .u8 0,.int .u8 0,.int .u8 0,.int .u8 0,.int .u8 0,.int .u8 0,.int .u8 0,.int .u8 0,.int .u8 0] 60)).setCells w.heap.size 0 (ints .u8 32 Y)):=below_setCells (Nat.le_refl _) _ _ _ ((Below.refl _ _).alloc (Nat.le_refl _) _)
def hold (f:Int→Option (Nat→Nat)):Int→List Int→Int
 | x,[]=>x
 | x,a :: r=>if (f x).isSome=true then x else hold f a r
def Rs.hd (S:Rs) (i:Int):Int:=hold S.sd (2*i) (pathL i S.n)
set_option maxRecDepth 100000 in
set_option maxHeartbeats 4000000 in
theorem rholder_any (tb sb rb kb:Nat) (S:Rs) (i:Int) (hi:0≤i∧i<4294967296) (w:World) (h:RsAt w tb sb rb kb S) (hD:DbT w):Calls Tryz.prog 60 #[pA tb 0,.int .i64 i] w fun e w'=>e = .returned (.int .i64 (S.hd i))∧Below w.heap.size w w':=by
 have ew:IntKind.i64.wrap (2*i)=2*i:=by simp only [IntKind.wrap_i64];omega
 have cP:=iPath_any i S.n w hD
 have c0:=h.c0
 have hl:(pathL i S.n).length≤7:=by
  have hu:∀ (l:Int) (f x:Nat),(upF l f x).length≤f:=by
   intro l f
   induction f with
   | zero=>intro x;exact Nat.le_refl _
   | succ f ih =>
    intro x
    unfold upF
    split
    · rename_i p _;have:=ih p;simp;omega
    · simp
  unfold pathL
  split
  · exact hu _ _ _
  · simp
 unfold Rs.hd
 obtain ⟨xs,hxs⟩:∃ xs,xs=pathL i S.n:=⟨_,rfl⟩
 rw [←hxs] at cP hl ⊢
 obtain ⟨H,hH⟩:∃ H,H=hold S.sd (2*i) xs:=⟨_,rfl⟩
 rw [←hH]
 have HH:=Hid.mk' hH
 clear hxs hH hi
 go_enter Tryz.func60,Tryz.ntmps60
 go_wp2_with (first
  | (go_at_call 71;refine cP.mono ?_;clear cP;rintro e w1 ⟨v,rfl,hz,hb1⟩;(obtain ⟨xa,ca,rfl,hc⟩:=hz)))
 replace h:=h.still hb1
 clear ew c0 hD
 go_loopw [5,19] (fun x j wr=>∃ k:Nat,k≤xs.length∧j = .int .i64 (k:Int)∧(∃ y:Int,x = .int .i64 y∧H=hold S.sd y (xs.drop k))∧Below w1.heap.size w1 wr) (fun _ j _=>xs.length - (intOf j).toNat)
 case atStart=>exact ⟨0,Nat.zero_le _,rfl,⟨_,rfl,by rw [HH.out];rfl⟩,Below.refl _ _⟩
 case round =>
  obtain ⟨k,hk,rfl,⟨y,rfl,hy⟩,hb⟩:=hrel
  replace h:=h.still hb
  by_cases hlt:k<xs.length
  · obtain ⟨a,ha⟩:∃ a,xs[k]? = some a:=⟨_,List.getElem?_eq_getElem hlt⟩
    obtain ⟨g,o,rfl,hgl,hgc⟩:=hc k a ha
    replace hgc:=(hb.cell (p:=⟨g,o+k,none⟩) hgl).trans hgc
    have hlt':(k:Int)<(xs.length:Int):=by omega
    have hk0:(0:Int)≤(k:Int):=by omega
    have hlk:=h.look_sd y
    have c1:=h.c1
    have ed:xs.drop k=a :: xs.drop (k+1):=by
     rw [List.drop_eq_getElem_cons hlt]
     have:=(List.getElem?_eq_some_iff.1 ha).2
     rw [this]
    rw [ed] at hy
    unfold hold at hy
    have hth:=sd_there wr (S.sd0 y)
    have hnx:=sd_next wr (S.sd0 y)
    have hiY:=infoSdA (S.sd0 y)
    have hoY:=oneU7 32 (S.sd0 y)
    unfold sdV at hlk
    have Hy:=Hid.mk' hy
    clear hc HH hy ed h hgl
    generalize S.sd0 y=Y at *
    cases hs:(S.sd y).isSome with
    | true =>
     rw [hs] at hlk
     have Hs:=Hid.mk' hs
     clear hs
     go_wp2_with (first
      | (refine wpList_store_mid rfl 60 _ _ rfl wr.heap.size 0 (ints .u8 32 Y).toArray rfl rfl ?_ ?_ ?_ ?_;(with_reducible exact hth);exact hiY;exact hoY;rw [List.toList_toArray]))
     go_ret
     refine ⟨?_,below_next hb1 (below_next hb hnx)⟩
     have e:=Hy.out
     rw [if_pos Hs.out] at e
     rw [e];rfl
    | false =>
     rw [hs] at hlk
     have Hs:=Hid.mk' hs
     clear hs
     go_wp2_with (first
      | (refine wpList_store_mid rfl 60 _ _ rfl wr.heap.size 0 (ints .u8 32 Y).toArray rfl rfl ?_ ?_ ?_ ?_;(with_reducible exact hth);exact hiY;exact hoY;rw [List.toList_toArray]))
     go_roundw
     case rel =>
      have e:=Hy.out
      rw [if_neg (by rw [Hs.out];exact Bool.false_ne_true)] at e
      exact ⟨k+1,by omega,by go_num,⟨a,rfl,e⟩,below_next hb hnx⟩
     case measure=>simp [intOf];omega
  · have hke:k=xs.length:=by omega
    have hlt':¬(k:Int)<(xs.length:Int):=by omega
    have hy':H=y:=by
     rw [hy,hke,List.drop_length];rfl
    have Hy:=Hid.mk' hy'
    clear hy hy' HH hke hc
    go_wp2
    go_ret
    refine ⟨?_,below_next hb1 hb⟩
    rw [Hy.out];rfl
end Go.Proofs.YtbbikhlbkpjpjaaGreatDoor
namespace Go.Proofs.YtbbikhlbkpjpjaaGreatDoor
open Go.RowKit Go.Shelf
attribute [local go_sem] Oper.semAt_some
theorem wpListIn_load_wd {P:Program} {n:Nat} {ops:Array Oper} {rest:List Oper} {op:Oper} {a:Act} {w:World} {Q:Exit→Act→World→Prop} (hw:Region.wanted op (yielded ops a.tmps)=true) (ty:TypeId) (x:Operand) (ho:op.op = .load ty x)
 (b o:Nat) (hx:a.eval x = .pointer (some ⟨b,o,none⟩)) (cs:List Value) (d:TypeDesc) (hc:w.rangeAt b o cs)
 (hu:P.underlying ty=some d) (hd:d.isRow=true) (hi:(P.info? ty).map (·.size)=some cs.length)
 (h:wpListIn Fence.wide n P ops Q rest (a.put op.dst (.agg cs.toArray)) w):wpListIn Fence.wide n P ops Q (op :: rest) a w :=
 wpListIn_step fun K hK=>by
  simp only [hw,if_true]
  refine ⟨fun _ _=>trivial,?_⟩
  have hsem:(op.semAt Fence.wide.round a.eval)=execOp a.eval op:=rfl
  rw [hsem]
  unfold execOp
  simp only [ho,hx,Instr.loadAt,Instr.sureAddr,Sem.run_bind,Sem.run_pure,Result.andThen_ok,run_loadVar_mid w b o ty cs d hc hu hd hi]
  exact hK _ _ h
structure DnOk (S:Rs) (i:Nat) (K:Nat) (xs:Nat→Nat) (ss:Nat→Nat→Nat):Prop where
 pos:0<K
 i31:i<4294967296
 at0:S.hd (i:Int)=(xs 0:Int)
 sd0:S.sd (xs 0:Int)=some (ss 0)
 lt:∀ k j,ss k j<256
 step:∀ k,k+1<K→twP i (xs k)=(xs (k+1):Int)∧twS i (xs k) (ss k)=ss (k+1)∧twB i (xs k)=true
 last:twB i (xs (K - 1))=false
 mu:∃ m:Int→Nat,∀ k,k<K→m (xs k:Int)=K - k
theorem down_any (tb:Nat) (i:Int) (w:World):Calls Tryz.prog 49 #[pA tb 0,.int .i64 i] w fun e w'=>e = .returned (.func (.func 59) #[] #[pA w.heap.size 0,pA (w.heap.size+1) 0])∧w'=(w.alloc (.cells #[pA tb 0] 24)).alloc (.cells #[.int .i64 i] 3):=by
 go_enter Tryz.func49,Tryz.ntmps49
 go_wp2
 go_ret
 exact ⟨rfl,rfl⟩
def dnM (f:Int→Nat) (x m:Value):Nat:=match m with | .bool true=>f (intOf x) | _=>0
structure HasD (p q tb:Nat) (S:Rs) (i:Nat) (k:Nat) (W:World):Prop where
 pt:W.cell? ⟨p,0,none⟩=some (pA tb 0)
 lf:W.cell? ⟨q,0,none⟩=some (.int .i64 (i:Int))
 tab:TabAt W
 db:DbT W
 rs:k=0→∃ sb rb kb,RsAt W tb sb rb kb S
theorem HasD.keep {p q tb:Nat} {S:Rs} {i k:Nat} {W W':World} (h:HasD p q tb S i k W) (hb:Below W.heap.size W W'):HasD p q tb S i k W' :=
 ⟨(hb.cell (p:=⟨p,0,none⟩) (block_lt_of_cell h.pt)).trans h.pt,(hb.cell (p:=⟨q,0,none⟩) (block_lt_of_cell h.lf)).trans h.lf,h.tab.still hb,h.db.keep hb,fun e=>let ⟨sb,rb,kb,hr⟩:=h.rs e;⟨sb,rb,kb,hr.still hb⟩⟩
set_option maxRecDepth 100000 in
set_option maxHeartbeats 4000000 in
theorem down_it (p q tb:Nat) (S:Rs) (i K:Nat) (xs:Nat→Nat) (ss:Nat→Nat→Nat) (hok:DnOk S i K xs ss) :
 Iter Tryz.prog 59 #[pA p 0,pA q 0] K (fun k=>some #[.int .i64 (xs k:Int),sdV (ss k)]) (HasD p q tb S i):=by
 intro l B Inv Brk hI hBr hH _ hY M W hBW hM h0
 obtain ⟨mu,hmu⟩:=hok.mu
 have hh:=hH 0 M W (Nat.zero_le _) h0
 obtain ⟨sb,rb,kb,hrs⟩:=hh.rs rfl
 have c1:=hh.pt
 have c2:=hh.lf
 have cw:=rholder_any tb sb rb kb S (i:Int) ⟨by omega,by have:=hok.i31;omega⟩ W hrs hh.db
 rw [hok.at0] at cw
 have hlk:∀ V,Below W.heap.size W V→(Instr.lookup 47 (.map (some sb)) (.int .i64 (xs 0:Int)) true).run Tryz.prog V = .ok (.tuple #[sdV (ss 0),.bool true]) V:=fun V hV=>by
  have e:=(hrs.still hV).look_sd (xs 0:Int)
  unfold Rs.sd0 at e
  rw [hok.sd0] at e
  exact e
 have c3:∀ V,Below W.heap.size W V→V.cell? ⟨tb,1,none⟩=some (.map (some sb)):=fun V hV=>(hrs.still hV).c1
 have c1':∀ V,Below W.heap.size W V→V.cell? ⟨p,0,none⟩=some (pA tb 0):=fun V hV=>(hh.keep hV).pt
 obtain ⟨nn,-⟩:∃ nn:Nat,True:=⟨1,trivial⟩
 clear hh hrs
 refine (callsIn_wide (n:=nn)).1 ?_
 refine callsIn_of_wp Tryz.func59 rfl trivial ?_ rfl
 simp only [Tryz.ntmps59,List.size_toArray,List.length_cons,List.length_nil,Nat.reduceAdd,Nat.reduceSub,Array.replicate_succ,Array.replicate_zero,List.push_toArray,List.append_toArray,List.nil_append,List.cons_append]
 gi_upto_region 1 with (refine ⟨trivial,(fun h=>by cases h),?_⟩;gi_at_call 60;refine (callsIn_wide.2 cw).mono ?_;clear cw;rintro e w1 ⟨rfl,hb1⟩)
 have hlk1:=hlk w1 hb1
 have c3':=c3 w1 hb1
 have c1'':=c1' w1 hb1
 have hth:=sd_there w1 (ss 0)
 have hnx:=sd_next w1 (ss 0)
 have hiY:=infoSdA (ss 0)
 have hoY:=oneU7 32 (ss 0)
 have rz:=(sd_zero w1).stored (ints .u8 32 (ss 0)) (by rw [ints_len,ints_len])
 obtain ⟨W1,hW1⟩:∃ V,V=(w1.alloc (.cells #[.int .u8 0,.int .u8 0,.int .u8 0,.int .u8 0,.int .u8 0,.int .u8 0,.int .u8 0,.int .u8 0,.int .u8 0,.int .u8 0,.int .u8 0,.int .u8 0,.int .u8 0,.int .u8 0,.int .u8 0,.int .u8 0,.int .u8 0,.int .u8 0,.int .u8 0,.int .u8 0,.int .u8 0,.int .u8 0,.int .u8 0,.int .u8 0,.int .u8 0,.int .u8 0,.int .u8 0,.int .u8 0,.int .u8 0,.int .u8 0,.int .u8 0,.int .u8 0] 60)).setCells w1.heap.size 0 (ints .u8 32 (ss 0)):=⟨_,rfl⟩
 rw [←hW1] at hnx rz
 have HW1:=Hid.mk' hW1
 have hlt1:=hnx.size
 have hs1:W1.heap.size=w1.heap.size+1:=by
  rw [HW1.out,(setCells_same _ _ _ _).2.2.2];simp
 have hI1:=hI 0 M W W1 h0 (Loc.of_below (below_next hb1 hnx))
 have hm1:¬M w1.heap.size:=fun e=>by have:=hM _ e;have:=hb1.size;omega
 have hBW1:B≤w1.heap.size:=Nat.le_trans hBW hb1.size
 have hWs:=hb1.size
 unfold sdV at hlk1
 clear hlk c3 c1' hW1 c1 c2 h0 hM
 gi_wp2_with (first
  | (refine wpListIn_store_mid rfl 60 _ _ rfl w1.heap.size 0 (ints .u8 32 (ss 0)).toArray rfl rfl ?_ ?_ ?_ ?_;(with_reducible exact hth);exact hiY;exact hoY;rw [List.toList_toArray,←HW1.out];clear HW1 hth hlk1 c3' c1'' hiY hoY))
 gi_loopw [4,6] (fun x m wr=>∃ k:Nat,k≤K∧∃ (y:Int) (Y:Nat→Nat),x = .int .i64 y∧m = .bool (decide (k<K))∧(k<K→y=(xs k:Int)∧Y=ss k)∧w1.heap.size<wr.heap.size∧∃ M,Inv k M wr∧¬M w1.heap.size∧RW wr w1.heap.size 0 (ints .u8 32 Y)) (fun x m _=>dnM mu x m)
 case atStart=>exact ⟨0,Nat.zero_le _,_,ss 0,rfl,by rw [decide_eq_true hok.pos],fun _=>⟨rfl,rfl⟩,by omega,M,hI1,hm1,rz⟩
 case round =>
  clear hI1 hm1 rz hnx hs1 hlt1
  obtain ⟨k,hk,y,Y,rfl,rfl,hxy,hsz,M,hI0,hm,hr⟩:=hrel
  by_cases hlt:k<K
  · obtain ⟨rfl,rfl⟩:=hxy hlt
    have hdt:decide (k<K)=true:=decide_eq_true hlt
    obtain ⟨fn,tmps,assign,body,hy,hR⟩:=hY k M wr _ hlt rfl hI0 (by omega)
    have rdr:=hr.range
    have hiY:=infoSd (ss k)
    unfold sdV at hy
    have HI0:=Hid.mk' hI0
    rw [hdt]
    clear hY hxy hI0
    gi_wp2_with (first
     | (refine wpListIn_load_wd rfl 60 _ rfl w1.heap.size 0 rfl (ints .u8 32 (ss k)) _ rdr Tryz.underlying60 rfl hiY ?_;clear rdr))
    refine ⟨(fun h=>by cases h),(roundIn_deep hR).mono ?_⟩
    rintro e w4 ⟨hF,M2,hM2,⟨rfl,i4⟩ | ⟨rfl,hB4⟩⟩
    · clear hy hR
      have hh4:=hH (k+1) M2 w4 (by omega) i4
      have hr4:=hF.rw hr (by omega) hm
      have hm4:¬M2 w1.heap.size:=fun e=>by rcases hM2 _ e with h | h;exact hm h;omega
      have cT:=toward_all i (xs k) (ss k) (hok.lt k) w4 hh4.tab hh4.db
      have rd4:=hr4.range
      have cL:=hh4.lf
      have hs4:=hF.size
      have hrel:∃ (T:Bool) (P:Int) (Z:Nat→Nat),twP i (xs k)=P∧twS i (xs k) (ss k)=Z∧twB i (xs k)=T∧(.bool T=Value.bool (decide (k+1<K)))∧(k+1<K→P=(xs (k+1):Int)∧Z=ss (k+1))∧dnM mu (.int .i64 P) (.bool T)<dnM mu (.int .i64 (xs k:Int)) (.bool true):=by
       have m0:dnM mu (.int .i64 (xs k:Int)) (.bool true)=K - k:=hmu k hlt
       by_cases h1:k+1<K
       · obtain ⟨e1,e2,e3⟩:=hok.step k h1
         have m1:dnM mu (.int .i64 (xs (k+1):Int)) (.bool true)=K - (k+1):=hmu (k+1) h1
         exact ⟨true,_,_,e1,e2,e3,by rw [decide_eq_true h1],fun _=>⟨rfl,rfl⟩,by rw [m0,m1];omega⟩
       · have e3:twB i (xs k)=false:=by have:=hok.last;rwa [show K - 1=k by omega] at this
         exact ⟨false,_,_,rfl,rfl,e3,by rw [decide_eq_false h1],fun h=>absurd h h1,by rw [m0];show 0<K - k;omega⟩
      obtain ⟨T,P,Z,e1,e2,e3,hT,hPZ,hmes⟩:=hrel
      rw [e1,e2,e3] at cT
      have hiZ:=infoSdA Z
      have hoZ:=oneU7 32 Z
      have HT:=Hid.mk' hT
      have Hmes:=Hid.mk' hmes
      have HI0:=Hid.mk' i4
      unfold sdV at cT
      clear e1 e2 e3 hT hmes hh4 i4 hF hM2 hr hm hdt
      gi_wp2_with (first
       | (refine wpListIn_load_wd rfl 60 _ rfl w1.heap.size 0 rfl (ints .u8 32 (ss k)) _ rd4 Tryz.underlying60 rfl hiY ?_;clear rd4)
       | (refine ⟨trivial,(fun h=>by cases h),?_⟩;gi_at_call 61;refine (callsIn_wide.2 cT).mono ?_;clear cT;rintro e w5 ⟨rfl,hb5⟩;have hr5:=hr4.still hb5;(have hth5:w5.there w1.heap.size 0 (ints .u8 32 Z).toArray.size:=(by have h:=hr5.there;rw [ints_len] at h;rw [ints_size];exact h)))
       | (refine wpListIn_store_mid rfl 60 _ _ rfl w1.heap.size 0 (ints .u8 32 Z).toArray rfl rfl ?_ ?_ ?_ ?_;(with_reducible exact hth5);exact hiZ;exact hoZ;rw [List.toList_toArray]))
      have hIz:=hI (k+1) M2 w4 w5 HI0.out (Loc.of_below hb5)
      have hbc:=but_cells w5 w1.heap.size 0 (ints .u8 32 Z)
      have hsz5:=hb5.size
      go_roundw
      case rel =>
       refine ⟨k+1,by omega,P,Z,rfl,HT.out,hPZ,by rw [(setCells_same _ _ _ _).2.2.2];omega,M2,hI (k+1) M2 w5 _ hIz ⟨hbc.os,hbc.tape,hbc.output,hbc.size,fun b hb h=>hbc.block b hb (fun e => ?_)⟩,hm4,hr5.stored _ (by rw [ints_len,ints_len])⟩
       subst e
       rcases h with h | h
       · omega
       · exact hm4 h
      case measure=>exact Hmes.out
    · clear hy hR
      have hs4:=hF.size
      gi_wp2
      refine bodyPost_end (results_none rfl _ _ _) rfl ?_
      exact ⟨⟨_,rfl⟩,by omega,M2,.inr hB4⟩
  · obtain rfl:k=K:=by omega
    have hdt:decide (k<k)=false:=decide_eq_false hlt
    rw [hdt]
    clear hY hH hxy
    gi_wp2_with (refine wpListIn_skip rfl rfl ?_)
    refine bodyPost_end (results_none rfl _ _ _) rfl ?_
    exact ⟨⟨_,rfl⟩,by omega,M,.inl hI0⟩
end Go.Proofs.YtbbikhlbkpjpjaaGreatDoor
namespace Go.Proofs.YtbbikhlbkpjpjaaGreatDoor
open Go.RowKit Go.Shelf
section
variable {P:Program} {md:Region.Mode} {ops:Array Oper} {Q:Exit→Act→World→Prop} {S:World→Prop} {fuel:Nat} {listed:Array Bool} {a:Act} {w:World}
theorem upon_wide {n:Nat} {o:Oper} {K:Act→World→Prop}:∀ {r:Result Next},o.upon P a K Q r→o.uponIn Fence.wide n P a K Q r
 | .ok (.value _) _,h=>h
 | .ok .skip _,h=>h
 | .ok (.defer _) _,h=>h
 | .ok (.enter _ _) _,h=>⟨(fun hd=>by cases hd),callsIn_wide.2 h⟩
 | .ok (.row _ _) _,h=>⟨(fun hd=>by cases hd),fun c cs _=>let ⟨v,w',r,s⟩:=h c cs;⟨v,w',r,stepsIn_wide.2 s⟩⟩
 | .ok (.round ..) _,h=>(h:False).elim
 | .halt (.panic _) _,h=>h
theorem any_wide {n:Nat} (hd:noDefer ops=true) (hQ:¬LetsOut Q):∀ (fuel:Nat) (listed:Array Bool) (a:Act) (w:World),wpAny P md ops Q fuel listed a w→wpAnyIn Fence.wide n P md ops Q fuel listed a w
 | 0,_,_,_,h=>h
 | fuel+1,listed,a,w,h=>⟨h.1,fun i hi=>by
  have hi':=h.2 i hi
  unfold wpOp at hi'
  unfold wpOpIn
  split
  · rename_i heq
    rw [heq] at hi'
    exact any_wide hd hQ fuel _ a w hi'
  · rename_i o heq
    rw [heq] at hi'
    dsimp only at hi'
    split
    · rename_i hw
      rw [if_pos hw] at hi'
      have h1:=hi'.resolve_right fun h=>hQ h.2
      refine ⟨fun _ _=>trivial,?_⟩
      have hnd:∀ c,o.op ≠ .defer c:=fun c e=>by
       have hm:o∈ops.toList:=by
        rw [←Array.getElem?_toList] at heq
        exact List.mem_of_getElem? heq
       have:=List.all_eq_true.1 hd o hm
       rw [e] at this
       cases this
      rw [Oper.semAt_plain Fence.wide _ o hnd]
      exact upon_wide (Oper.wp_mono (fun a w h=>any_wide hd hQ fuel _ a w h) h1)
    · rename_i hw
      rw [if_neg hw] at hi'
      exact ⟨fun _ _=>trivial,any_wide hd hQ fuel _ _ w hi'⟩⟩
theorem wpIn_heldW {n id:Nat} (hm:P.follows .mixedOrders=true) (hd:noDefer ops=true) (hS:S w.drew) (h:S w.drew→wpAnyH P .any ops (OnlyN Q) S ops.size (Array.replicate ops.size false) a w.drew):(Code.region id ops true).wpIn Fence.wide n P Q a w :=
 wpIn_mono (wpIn_region_any hm (any_wide hd OnlyN.stays _ _ _ _ (wpAny_of_held _ _ _ _ (h hS)))) OnlyN.imp
end
end Go.Proofs.YtbbikhlbkpjpjaaGreatDoor
