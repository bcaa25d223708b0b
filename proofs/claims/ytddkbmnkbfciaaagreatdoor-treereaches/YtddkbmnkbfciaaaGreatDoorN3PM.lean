/- What the proof stands on: N3P, N3Q, I2Own, N3L, N3K, N3M. -/
import Derived.Test.YtddkbmnkbfciaaaGreatDoorBaseM
import Derived.Test.YtddkbmnkbfciaaaGreatDoorEqNM
import Derived.Test.YtddkbmnkbfciaaaGreatDoorN3FM
import Derived.Test.YtddkbmnkbfciaaaGreatDoorZAb2M
import Derived.Maps.AppendAt
namespace Go.Proofs.YtddkbmnkbfciaaaGreatDoor
open Go.RowKit
structure FieldPut (w:World) (f:Fd) (al:Bool) (n:Nat) (b:Nat→Nat):Prop where
 h0:∀ W,(callFunc f.i0 f.c0).run Tryz.prog W = .ok (.enter f.i0 f.c0) W
 h1:∀ W,(callFunc f.i1 f.c1).run Tryz.prog W = .ok (.enter f.i1 f.c1) W
 allow:∀ W,Below w.heap.size w W→Calls Tryz.prog f.i0 f.c0 W fun e w'=>e = .returned (.bool al)∧Below W.heap.size W w'
 put:al=true→∀ W,Below w.heap.size w W→Calls Tryz.prog f.i1 f.c1 W fun e w'=>∃ s,e = .returned s∧BytesIn w' s n b∧Below W.heap.size W w'
theorem wpList_clo {P:Program} {w:World} {ops:Array Oper} {rest:List Oper} {o:Oper} {a:Act} {Q:Exit→Act→World→Prop} (hgd:o.guard=none) {f:FuncId} {c:Array Value} {R:Ending→World→Prop} (hc:Calls P f c w R) (hf:∀ W,(callFunc f c).run P W = .ok (.enter f c) W)
 (x:Operand) (ts:Array TypeId) (ho:o.op = .call { callee := .value x,args:=#[],argTypes:=ts }) (hx:a.eval x = .func (.func f) #[] c)
 (h:∀ e w',R e w'→(∃ r,e = .returned r∧wpList P ops Q rest (a.put o.dst r) w')∨∃ ch,e = .panicked ch∧Q (.panic ch) a w'):wpList P ops Q (o :: rest) a w:=by
 refine wpList_plain hgd fun K hK => ?_
 have hrun:(execOp a.eval o).run P w = .ok (.enter f c) w:=by
  simp [execOp,ho,resolve,Deferred.ofValue,hx,invoke,hf]
 unfold Oper.wp
 rw [hrun,Oper.upon_enter]
 refine hc.mono fun e w' hR => ?_
 rcases h e w' hR with ⟨r,rfl,hk⟩ | ⟨ch,rfl,hq⟩
 · exact hK _ _ hk
 · exact hq
theorem sumN_bound {pn:Nat→Nat} {al:Nat→Bool} {n:Nat} (h:∀ i,i<n→al i=true→pn i≤70000):∀ {k:Nat},allU al k=true→k≤n→sumN pn k≤70000*k
 | 0,_,_=>by simp [sumN]
 | k+1,ha,hk=>by
  rw [allU,Bool.and_eq_true] at ha
  have:=sumN_bound h ha.1 (by omega)
  have:=h k (by omega) ha.2
  show sumN pn k+pn k≤_
  omega
theorem allU_false {al:Nat→Bool} {k:Nat} (h:al k=false):∀ {n},k<n→allU al n=false
 | 0,hk=>by omega
 | n+1,hk=>by
  rw [allU]
  by_cases e:k=n
  · subst e;rw [h,Bool.and_false]
  · rw [allU_false h (by omega),Bool.false_and]
theorem catch_p (p q:Nat) (x y:Value) (u:TypeId) (pv:Value) (older:List PanicEntry) (w:World) (hp:RW w p 0 [x]) (hq:RW w q 0 [y]) (hne:p≠q) :
 CallsD Tryz.prog 246 #[pA p 0,pA q 0] (.panicking ({ v := .iface u pv,recovered:=false } :: older)) w fun e u' w' =>
  e = .returned (.tuple #[])∧u' = .panicking ({ v := .iface u pv,recovered:=true } :: older)∧w'=(w.setCell ⟨p,0,none⟩ (.slice none 0 0)).setCell ⟨q,0,none⟩ (.int .i64 1):=by
 have c1:=hp.cell (o:=0) rfl
 have z1:=hp.live (o:=0) (by simp)
 have hq':=hq.far p 0 [.slice none 0 0] (.inl (fun e=>hne e.symm))
 have c2:(w.setCell ⟨p,0,none⟩ (.slice none 0 0)).cell? ⟨q,0,none⟩=some y:=hq'.cell (o:=0) rfl
 have z2:(w.setCell ⟨p,0,none⟩ (.slice none 0 0)).frozen? ⟨q,0,none⟩=false:=hq'.live (o:=0) (by simp)
 refine callsD_of_wpS Tryz.func246 rfl fun c₀ cs hu => ?_
 apply wpS_seq
 apply wpS_region
 simp [wpOpsS,go_sem,recoverD,hu,Tryz.ntmps246,Exit.thenS]
 refine wpS_cond (t:=true) (by simp [Act.eval,Array.replicate]) ?_
 simp only [if_true]
 apply wpS_region
 simp [wpOpsS,go_sem,c1,z1,c2,z2,bodyPostS,results,Tryz.results246]
theorem catch_i (p q:Nat) (w:World) :
 CallsD Tryz.prog 246 #[pA p 0,pA q 0] .returning w fun e u' w'=>e = .returned (.tuple #[])∧u' = .returning∧w'=w:=by
 refine callsD_of_wpS Tryz.func246 rfl fun c₀ cs hu => ?_
 apply wpS_seq
 apply wpS_region
 simp [wpOpsS,go_sem,recoverD,hu,Tryz.ntmps246,Exit.thenS]
 refine wpS_cond (t:=false) (by simp [Act.eval,Array.replicate]) ?_
 simp only [Bool.false_eq_true,if_false]
 refine wpS_of_wp (wp_skip ?_)
 cases c₀
 simp_all [bodyPostS,results,Tryz.results246]
theorem flat_at (fs:List Fd) (k:Nat) (f:Fd) (h:fs[k]? = some f) (j:Nat) (hj:j<3):(fs.flatMap Fd.cells)[k*3+j]? = f.cells[j]?:=by
 induction fs generalizing k with
 | nil=>simp at h
 | cons g fs ih =>
  rw [List.flatMap_cons]
  cases k with
  | zero =>
   simp at h;subst h
   rw [List.getElem?_append_left (by show _<3;omega),Nat.zero_mul,Nat.zero_add]
  | succ k =>
   rw [List.getElem?_append_right (by show 3≤_;omega),show (k+1)*3+j - (g.cells).length=k*3+j by show (k+1)*3+j - 3=_;omega]
   exact ih k (by simpa using h)
structure FR (w:World) (g:Nat) (fs:List Fd):Prop where
 lt:g<w.heap.size
 at_:∀ k f,fs[k]? = some f→w.rangeAt g (k*3) f.cells
theorem FR.still {w w':World} {g:Nat} {fs:List Fd} (h:FR w g fs) (hb:Below w.heap.size w w'):FR w' g fs:=⟨Nat.lt_of_lt_of_le h.lt hb.size,fun k f hk j v hv=>(hb.cell (p:=⟨g,k*3+j,none⟩) h.lt).trans (h.at_ k f hk j v hv)⟩
theorem FL.read {base:Nat} {w:World} {v:Value} {fs:List Fd} (h:FL base w v fs) (hn:0<fs.length):∃ g cap,v = .slice (some ⟨g,0,none⟩) fs.length cap∧base≤g∧fs.length≤cap∧cap≤maxLen∧FR w g fs:=by
 have h':=h
 rcases h.2 with ⟨_,e⟩ | ⟨g,cap,cur,rfl,hb,hg,hc,hm,-,-⟩
 · omega
 · refine ⟨g,cap,rfl,hb,hc,hm,(h'.lt g rfl).2,fun k f hk j u hu => ?_⟩
   have hk':=(List.getElem?_eq_some_iff.1 hk).1
   have hj:j<3:=(List.getElem?_eq_some_iff.1 hu).1
   rw [World.ownsRow.cellAt h' (k*3+j) (by omega),flat_at fs k f hk j hj]
   exact hu
set_option maxRecDepth 20000 in
set_option maxHeartbeats 4000000 in
theorem put_any (base:Nat) (v:Value) (fs:List Fd) (al:Nat→Bool) (pn:Nat→Nat) (pb:Nat→Nat→Nat) (w:World) (hv:FL base w v fs) (h0:0<fs.length) (h1:fs.length≤100) (hpn:∀ i,i<fs.length→al i=true→pn i≤70000) (hF:∀ i f,fs[i]? = some f→FieldPut w f (al i) (pn i) (pb i)) :
 Calls Tryz.prog 213 #[v] w fun e w'=>Below w.heap.size w w'∧if allU al fs.length=true then ∃ s,e = .returned (.tuple #[s,.int .i64 0])∧BytesIn w' s (sumN pn fs.length) (allB pn pb fs.length) else e = .returned (.tuple #[.slice none 0 0,.int .i64 1]):=by
 have hmf:∀ (fn:Fn) (first cap:Array Value) (w:World),(Instr.makeFunc fn first cap).run Tryz.prog w = .ok (.func fn first cap) w:=fun _ _ _ _=>rfl
 obtain ⟨g,cap,rfl,hg,hc,hm,hr⟩:=hv.read h0
 clear hv
 obtain ⟨n,hn⟩:∃ n,n=fs.length:=⟨_,rfl⟩
 have Hn:=Hid.mk' hn
 rw [←hn] at h0 h1 hpn ⊢
 clear hn
 obtain ⟨r1,b1,s1⟩:=bx w (.slice none 0 0) 29
 obtain ⟨r2,b2,s2⟩:=bx (w.alloc (.cells #[.slice none 0 0] 29)) (.int .i64 0) 41
 obtain ⟨W,hW⟩:∃ W,W=(w.alloc (.cells #[.slice none 0 0] 29)).alloc (.cells #[.int .i64 0] 41):=⟨_,rfl⟩
 have HW:=Hid.mk' hW
 rw [←hW] at r2 b2 s2
 replace r1:=r1.still b2
 replace b1:=below_next b1 b2
 rw [s1] at r2 s2
 have S2:=Hid.mk' s2
 clear hW s1 s2 b2
 go_enter_defers Tryz.func213,Tryz.ntmps213
 go_upto_region 2 with (fail)
 rw [←HW.out]
 go_wp2
 go_loopw [9] (fun i wr=>∃ k:Nat,k≤n∧i = .int .i64 k∧allU al k=true∧∃ vo,RW wr w.heap.size 0 [vo]∧Own W.heap.size wr vo (sumN pn k) (allB pn pb k)∧RW wr (w.heap.size+1) 0 [.int .i64 0]∧Below w.heap.size w wr∧W.heap.size≤wr.heap.size) (fun i _=>n - (intOf i).toNat)
 case atStart=>exact ⟨0,Nat.zero_le _,rfl,rfl,_,r1,Own.nil _ _ _,r2,b1,Nat.le_refl _⟩
 case round =>
  clear r1 r2 b1
  obtain ⟨k,hk,rfl,hal,vo,r1,ow,r2,b1,sw⟩:=hrel
  by_cases hlt:k<n
  · have hkl:k<fs.length:=by rw [←Hn.out];exact hlt
    have hfk:fs[k]? = some fs[k]:=List.getElem?_eq_getElem hkl
    obtain ⟨f,hf⟩:∃ f,f=fs[k]:=⟨_,rfl⟩
    rw [←hf] at hfk
    clear hf
    have fp:=hF k f hfk
    have fr:=(hr.still b1).at_ k f hfk
    obtain ⟨i0,c0,i1,c1,i2,c2⟩:=f
    have fr':wr.rangeAt g (k*3) [clo i0 c0,clo i1 c1,clo i2 c2]:=fr
    have HF:=Hid.mk' fp
    clear fr fp hF hfk
    have k5:=(RW.fresh wr [.nilFunc,.nilFunc,.nilFunc] 243).stored [clo i0 c0,clo i1 c1,clo i2 c2] rfl
    have b5:Below wr.heap.size wr ((wr.alloc (.cells #[.nilFunc,.nilFunc,.nilFunc] 243)).setCells wr.heap.size 0 [clo i0 c0,clo i1 c1,clo i2 c2]):=b3 (Below.refl _ _) (Nat.le_refl _) rfl
    obtain ⟨W5,hW5⟩:∃ W5,W5=(wr.alloc (.cells #[.nilFunc,.nilFunc,.nilFunc] 243)).setCells wr.heap.size 0 [clo i0 c0,clo i1 c1,clo i2 c2]:=⟨_,rfl⟩
    have HW5:=Hid.mk' hW5
    rw [←hW5] at k5 b5
    clear hW5
    go_upto_region 5 with (first
     | (with_reducible (refine id (?_:wpList _ _ _ _ _ _));refine ldF _ rfl rfl fr' ?_ rfl)
     | (with_reducible (refine id (?_:wpList _ _ _ _ _ _));refine stF _ _ rfl rfl rfl rfl th3 ?_ rfl))
    dsimp only [Act.put]
    rw [show (wr.alloc (.cells [.nilFunc,.nilFunc,.nilFunc].toArray 243)).setCells wr.heap.size 0 [clo i0 c0,clo i1 c1,clo i2 c2]=W5 from HW5.out.symm]
    clear fr'
    have q0:=k5.cell (o:=0) rfl
    have q1:=k5.cell (o:=1) rfl
    have r1':=r1.still b5
    have r2':=r2.still b5
    have ow':=Hid.mk' (ow.below b5)
    have b1':=below_next b1 b5
    clear r1 r2 ow
    have ca:=HF.out.allow W5 b1'
    have cf:=HF.out.h0
    by_cases ha:al k=true
    · rw [ha] at ca
      have cm:=must_t
      go_upto_region 6 with (first
       | (with_reducible (refine id (?_:wpList _ _ _ _ _ _));refine wpList_clo rfl ca cf _ _ rfl rfl ?_;clear ca;rintro e w6 ⟨rfl,b6⟩;refine .inl ⟨_,rfl,?_⟩)
       | (go_at_call 238;refine (cm _).mono ?_;clear cm;rintro e w7 ⟨rfl,hw⟩;obtain rfl:=hw.symm))
      have r1:=r1'.still b6
      have r2:=r2'.still b6
      have ow:=Hid.mk' (ow'.out.below b6)
      have k6:=k5.still b6
      have b7:=below_next b1' b6
      have s6:W.heap.size≤w6.heap.size:=Nat.le_trans sw (Nat.le_trans b5.size b6.size)
      clear r1' r2' ow' k5 b5 q0 q1 b1' hw b6 cf HW5
      have bd:Below w6.heap.size w6 w6.drew:=(Below.refl _ _).drew
      replace r1:=r1.drew
      replace r2:=r2.drew
      replace k6:=k6.drew
      replace ow:=Hid.mk' (ow.out.below bd)
      replace b7:=below_next b7 bd
      replace s6:W.heap.size≤w6.drew.heap.size:=s6
      have l1:w.heap.size<W.heap.size:=by have:=S2.out;omega
      refine wp_last 5 (S:=fun u=>Below W.heap.size w6.drew u) (by kernel_rfl) (by kernel_rfl) (by kernel_rfl) (by kernel_rfl) (Below.refl _ _) (fun hS => ?_)
      generalize w6.drew=V at *
      have cp:=HF.out.put ha V b7
      have cf:=HF.out.h1
      refine tc 0 hS (fun u hu=>(hu.cell (p:=⟨w.heap.size,0,none⟩) l1).trans (r1.cell (o:=0) rfl)) ?_
      (try simp only [pS])
      refine tg 1 hS (v:=pA wr.heap.size 1) ?_ (hy:=by intro u _;kernel_rfl)
      (try simp only [pS])
      refine onlyV 2 (v:=clo i1 c1) ?_ hS ?_
      · have q1:=k6.cell (o:=1) rfl
        go_simp
      (try simp only [pS])
      refine cl 3 cp (fun e w8 hr => ?_) (hrun:=by simp [execOp,resolve,Deferred.ofValue,Act.eval,invoke,cf])
      obtain ⟨s,rfl,hs,b8⟩:=hr
      refine ⟨_,rfl,b8.mono s6,?_⟩
      (try simp only [pS])
      obtain ⟨xo,cx,rfl,hxn,hcx,hsrc⟩:=hs.src
      have hp1:=hpn k hlt ha
      have hsn:sumN pn k≤70000*k:=sumN_bound hpn hal (by omega)
      obtain ⟨v9,w9,hrun9,ow9,b9⟩:=run_append_bytes w8 W.heap.size vo _ _ (ow.out.below b8) xo (pn k) cx (pb k) (hsrc w8 (Below.refl _ _)) hxn (by omega) (Nat.le_trans s6 b8.size)
      refine onlyV 4 (v:=v9) ?_ ((b8.mono s6).trans b9) ?_
      · exact exec_append (.tmp 17) (.tmp 20) rfl rfl rfl rfl hrun9
      (try simp only [pS])
      refine wpAnyH_done (by kernel_rfl) ?_ _
      have r9:=(r1.still b8).below b9 l1
      have r10:=(r2.still b8).below b9 (by have:=S2.out;omega)
      have q9:=r9.cell (o:=0) rfl
      have z9:=r9.live (o:=0) (by simp)
      obtain ⟨x9,y9,rfl⟩:=ow9.slice
      refine lastRun 5 ?_
      refine NoPanic.normal ?_
      go_wp2
      go_roundw
      case rel =>
       have X:Rest [w.heap.size] w9 (w9.setCell ⟨w.heap.size,0,none⟩ (.slice x9 (sumN pn k+pn k) y9)):=Rest.setCell w9 _ (by simp)
       refine ⟨k+1,by omega,by go_num,by rw [allU,hal,ha];rfl,_,r9.set1 (o:=0) (by simp) _,own_rest ow9 X (fun x hx => ?_),r10.rest X (by simp),?_,Nat.le_trans (Nat.le_trans s6 b8.size) (Nat.le_trans b9.size X.size)⟩
       · rw [List.mem_singleton] at hx;omega
       · exact (((b7.trans (b8.mono b7.size))).trans (b9.mono (by omega))).setCell (Nat.le_refl _) _
      case measure=>simp [intOf];omega
    · replace ha:al k=false:=by simpa using ha
      rw [ha] at ca
      have cm:=must_f
      have hall:allU al n=false:=allU_false ha hlt
      go_wp2_with (first
       | (with_reducible (refine id (?_:wpList _ _ _ _ _ _));refine wpList_clo rfl ca cf _ _ rfl rfl ?_;clear ca;rintro e w6 ⟨rfl,b6⟩;refine .inl ⟨_,rfl,?_⟩)
       | (go_at_call 238;refine (cm _).mono ?_;clear cm;rintro e w7 ⟨rfl,hw⟩;obtain rfl:=hw.symm))
      all_goals
       have r1:=r1'.still b6
       have r2:=r2'.still b6
       have b7:=below_next b1' b6
       refine leaves_cons (f:=246) (args:=#[pA w.heap.size 0,pA (w.heap.size+1) 0]) (by simp) (by simp [go_sem]) ?_
       refine (catch_p w.heap.size (w.heap.size+1) _ _ 9 (.string noB) [] _ r1 r2 (by omega)).mono ?_
       rintro e u' w'' ⟨rfl,rfl,rfl⟩
       have r3:=(r1.set1 (o:=0) (by simp) (.slice none 0 0)).far (w.heap.size+1) 0 [.int .i64 1] (.inl (by omega))
       have r4:=(r2.far w.heap.size 0 [.slice none 0 0] (.inl (by omega))).stored [.int .i64 1] rfl
       have q3:((w6.setCell ⟨w.heap.size,0,none⟩ (.slice none 0 0)).setCell ⟨w.heap.size+1,0,none⟩ (.int .i64 1)).cell? ⟨w.heap.size,0,none⟩=some (.slice none 0 0):=r3.cell (o:=0) rfl
       have q4:((w6.setCell ⟨w.heap.size,0,none⟩ (.slice none 0 0)).setCell ⟨w.heap.size+1,0,none⟩ (.int .i64 1)).cell? ⟨w.heap.size+1,0,none⟩=some (.int .i64 1):=r4.cell (o:=0) rfl
       have b8:Below w.heap.size w ((w6.setCell ⟨w.heap.size,0,none⟩ (.slice none 0 0)).setCell ⟨w.heap.size+1,0,none⟩ (.int .i64 1)):=(b7.setCell (Nat.le_refl _) _).setCell (Nat.le_succ _) _
       clear r3 r4
       generalize (w6.setCell ⟨w.heap.size,0,none⟩ (.slice none 0 0)).setCell ⟨w.heap.size+1,0,none⟩ (.int .i64 1)=W9 at *
       simp [Leaves,settle,results,Tryz.results213,go_sem,q3,q4,b8]
  · obtain rfl:k=n:=by omega
    have q1:=r1.cell (o:=0) rfl
    have z1:=r1.live (o:=0) (by simp)
    obtain ⟨xo,cx,rfl⟩:=ow.slice
    have r3:=(r1.set1 (o:=0) (by simp) (.slice xo (sumN pn k) cx))
    have X:Rest [w.heap.size] wr (wr.setCell ⟨w.heap.size,0,none⟩ (.slice xo (sumN pn k) cx)):=Rest.setCell wr _ (by simp)
    have ow2:=own_rest ow X (fun x hx=>by rw [List.mem_singleton] at hx;have:=S2.out;omega)
    have r4:=r2.rest X (by simp)
    have b2:Below w.heap.size w (wr.setCell ⟨w.heap.size,0,none⟩ (.slice xo (sumN pn k) cx)):=b1.setCell (Nat.le_refl _) _
    have q4:=r4.cell (o:=0) rfl
    have z4:=r4.live (o:=0) (by simp)
    go_wp2
    have X2:Rest [w.heap.size+1] (wr.setCell ⟨w.heap.size,0,none⟩ (.slice xo (sumN pn k) cx)) ((wr.setCell ⟨w.heap.size,0,none⟩ (.slice xo (sumN pn k) cx)).setCell ⟨w.heap.size+1,0,none⟩ (.int .i64 0)):=Rest.setCell _ _ (by simp)
    have ow3:=own_rest ow2 X2 (fun x hx=>by rw [List.mem_singleton] at hx;have:=S2.out;omega)
    have q5:=(r3.rest X2 (by simp)).cell (o:=0) rfl
    have q6:=(r4.set1 (o:=0) (by simp) (.int .i64 0)).cell (o:=0) rfl
    have b3:=b2.setCell (p:=⟨w.heap.size+1,0,none⟩) (Nat.le_succ _) (.int .i64 0)
    have hbi:=BytesIn.of_own ow3
    clear X X2 ow ow2 ow3 r1 r2 r3 r4 b1 b2 q1 z1 q4 z4
    generalize (wr.setCell ⟨w.heap.size,0,none⟩ (.slice xo (sumN pn k) cx)).setCell ⟨w.heap.size+1,0,none⟩ (.int .i64 0)=W9 at *
    refine leaves_cons (f:=246) (args:=#[pA w.heap.size 0,pA (w.heap.size+1) 0]) (by simp) (by simp [go_sem]) ?_
    refine (catch_i w.heap.size (w.heap.size+1) _).mono ?_
    rintro e u' w'' ⟨rfl,rfl,rfl⟩
    simp [Leaves,settle,results,Tryz.results213,go_sem,q5,q6,b3]
    exact hbi
end Go.Proofs.YtddkbmnkbfciaaaGreatDoor
namespace Go.Proofs.YtddkbmnkbfciaaaGreatDoor
open Go.RowKit
theorem Bxs.nth {lo hi:Nat} {w:World} {L:List (Nat × List Value)} (h:Bxs lo hi w L) (i:Nat) {q:Nat} {cs:List Value} {W:World} (hb:Below w.heap.size w W) (hm:L[i]? = some (q,cs):=by rfl):RW W q 0 cs:=(h _ (List.mem_of_getElem? hm)).2.2.still hb
theorem vecP {lo hi:Nat} {w:World} {f:Fd} {p o:Nat} {l m:Int} (h:VecD lo hi w f p o l m) {v:Value} {n:Nat} {b:Nat→Nat} (hc:w.cell? ⟨p,o,none⟩=some v) (hp:p<w.heap.size) (hv:BytesIn w v n b) (hm:m≤65536):FieldPut w f (decide (l≤(n:Int)) && decide ((n:Int)≤m)) (vcL n) (vcB n b):=by
 obtain ⟨q1,q2,q3,rfl,B⟩:=h
 obtain ⟨x,c,rfl,-,-,-⟩:=hv.src
 refine ⟨fun W=>by kernel_rfl,fun W=>by kernel_rfl,fun W hb => ?_,fun ha W hb => ?_⟩
 · exact vAl q1 q2 q3 p o x n c l m W ((B.nth 0 hb).cell (o:=0) rfl) ((B.nth 1 hb).cell (o:=0) rfl) ((B.nth 2 hb).cell (o:=0) rfl) ((hb.cell (p:=⟨p,o,none⟩) hp).trans hc)
 · rw [Bool.and_eq_true,decide_eq_true_eq,decide_eq_true_eq] at ha
   exact (vPut q1 p o _ n b (by omega) W ((B.nth 0 hb).cell (o:=0) rfl) ((hb.cell (p:=⟨p,o,none⟩) hp).trans hc) (hv.keep hb)).mono fun e w' ⟨s,h1,h2,h3⟩=>⟨s,h1,BytesIn.of_own h2,h3⟩
theorem honP {lo hi:Nat} {w:World} {f:Fd} {p o:Nat} (h:HonD lo hi w f p o) {v:Value} {n:Nat} {b:Nat→Nat} (hc:w.cell? ⟨p,o,none⟩=some v) (hp:p<w.heap.size) (hv:BytesIn w v n b):FieldPut w f (decide (n=0) || decide (n=32)) (vcL n) (vcB n b):=by
 obtain ⟨q0,q1,rfl,B⟩:=h
 obtain ⟨x,c,rfl,-,-,-⟩:=hv.src
 refine ⟨fun W=>by kernel_rfl,fun W=>by kernel_rfl,fun W hb => ?_,fun ha W hb => ?_⟩
 · exact hAl q0 p o x n c W ((B.nth 0 hb).cell (o:=0) rfl) ((hb.cell (p:=⟨p,o,none⟩) hp).trans hc)
 · rw [Bool.or_eq_true,decide_eq_true_eq,decide_eq_true_eq] at ha
   exact (vPut q1 p o _ n b (by omega) W ((B.nth 1 hb).cell (o:=0) rfl) ((hb.cell (p:=⟨p,o,none⟩) hp).trans hc) (hv.keep hb)).mono fun e w' ⟨s,h1,h2,h3⟩=>⟨s,h1,BytesIn.of_own h2,h3⟩
theorem numP {lo hi:Nat} {w:World} {f:Fd} {p o s:Nat} {l m:Int} (h:NumD lo hi w f p o (s:Int) l m) {z:Int} (hc:w.cell? ⟨p,o,none⟩=some (.int .i64 z)) (hp:p<w.heap.size) (hl:0≤l) (hs:szB s=true) (hm:m<(mstN s:Int)):FieldPut w f (decide (l≤z) && decide (z≤m)) s (beN z.toNat s):=by
 obtain ⟨q1,q2,q3,q4,rfl,B⟩:=h
 refine ⟨fun W=>by kernel_rfl,fun W=>by kernel_rfl,fun W hb => ?_,fun ha W hb => ?_⟩
 · exact nAl q1 q3 q4 p o z l m W ((B.nth 0 hb).cell (o:=0) rfl) ((B.nth 2 hb).cell (o:=0) rfl) ((B.nth 3 hb).cell (o:=0) rfl) ((hb.cell (p:=⟨p,o,none⟩) hp).trans hc)
 · rw [Bool.and_eq_true,decide_eq_true_eq,decide_eq_true_eq] at ha
   have r1:=B.nth 0 hb
   have r2:=B.nth 1 hb
   have e:z=(z.toNat:Int):=by omega
   refine nPut q1 q2 p o z.toNat s hs (by omega) W (r1.cell (o:=0) rfl) (r2.cell (o:=0) rfl) ?_ r1.lt r2.lt (Nat.lt_of_lt_of_le hp hb.size)
   rw [←e]
   exact (hb.cell (p:=⟨p,o,none⟩) hp).trans hc
theorem unwP {w:World} {f:Fd} {al:Bool} {n:Nat} {b:Nat→Nat} (h:FieldPut w f al n b):FieldPut w (unwD f) al 0 (fun _=>0) :=
 ⟨h.h0,fun W=>by unfold unwD;kernel_rfl,h.allow,fun _ W _=>(uPut W).mono fun e w' ⟨h1,h2⟩=>⟨_,h1,.inl ⟨none,rfl,rfl⟩,by rw [h2];exact Below.refl _ _⟩⟩
theorem kind_any (q g9 g10 p o:Nat) (src:Int) (f9 f10:Fd) (w:World) (h1:RW w q 0 [pA p o]) (h2:w.cell? ⟨p,o+3,none⟩=some (.int .i64 src)) (h9:RW w g9 0 f9.cells) (h10:RW w g10 0 f10.cells) :
 Calls Tryz.prog 292 #[pA q 0,pA g9 0,pA g10 0] w fun e w'=>e = .returned (if src=3 then f9.val else f10.val)∧Below w.heap.size w w':=by
 obtain ⟨i0,c0,i1,c1,i2,c2⟩:=f9
 obtain ⟨j0,d0,j1,d1,j2,d2⟩:=f10
 obtain ⟨W,hW⟩:∃ W,W=w.alloc (.cells #[.nilFunc,.nilFunc,.nilFunc] 243):=⟨_,rfl⟩
 have hb:Below w.heap.size w W:=by rw [hW];exact (Below.refl _ _).alloc (Nat.le_refl _) _
 have k:=RW.fresh w [.nilFunc,.nilFunc,.nilFunc] 243
 rw [show w.alloc (.cells [.nilFunc,.nilFunc,.nilFunc].toArray 243)=W from hW.symm] at k
 have HW:=Hid.mk' hW
 have c1':=(h1.still hb).cell (o:=0) rfl
 have lp:=block_lt_of_cell h2
 have c2':=(hb.cell (p:=⟨p,o+3,none⟩) lp).trans h2
 have r9:W.rangeAt g9 0 [clo i0 c0,clo i1 c1,clo i2 c2]:=(h9.still hb).range
 have r10:W.rangeAt g10 0 [clo j0 d0,clo j1 d1,clo j2 d2]:=(h10.still hb).range
 clear hW h9 h10 h1 h2
 by_cases hs:src=3
 · subst hs
   rw [if_pos rfl]
   go_enter Tryz.func292,Tryz.ntmps292
   go_upto_region 1 with (fail)
   rw [←HW.out]
   go_wp2_with (first
    | (with_reducible (refine id (?_:wpList _ _ _ _ _ _));refine ldF _ rfl rfl r9 ?_ rfl)
    | (with_reducible (refine id (?_:wpList _ _ _ _ _ _));refine stF _ _ rfl rfl rfl rfl k.there ?_ rfl))
   refine bodyPost_ret (resF Tryz.results292 _ _ _ 0 _ _ _ rfl (rgS k.there)) rfl ?_
   exact ⟨rfl,below_setCells (Nat.le_refl _) _ _ _ hb⟩
 · rw [if_neg hs]
   go_enter Tryz.func292,Tryz.ntmps292
   go_upto_region 1 with (fail)
   rw [←HW.out]
   go_wp2_with (first
    | (with_reducible (refine id (?_:wpList _ _ _ _ _ _));refine ldF _ rfl rfl r10 ?_ rfl)
    | (with_reducible (refine id (?_:wpList _ _ _ _ _ _));refine stF _ _ rfl rfl rfl rfl k.there ?_ rfl))
   refine bodyPost_ret (resF Tryz.results292 _ _ _ 0 _ _ _ rfl (rgS k.there)) rfl ?_
   exact ⟨rfl,below_setCells (Nat.le_refl _) _ _ _ hb⟩
end Go.Proofs.YtddkbmnkbfciaaaGreatDoor
namespace Go.Proofs.YtddkbmnkbfciaaaGreatDoor
open Go.RowKit
def OwnZ (base:Nat) (w:World) (v:Value) (l:List Int):Prop:=w.ownsRow base 3 1 v l.length (l.map fun z => .int .i64 z)
theorem info_int:(Tryz.prog.info? 3).map (fun i=>(i.zero,i.size,i.bytes))=some (some (.int .i64 0),1,8):=by kernel_rfl
theorem und_ints:Tryz.prog.underlying 51=some (.slice 3):=by kernel_rfl
theorem OwnZ.nil (base:Nat) (w:World):OwnZ base w (.slice none 0 0) []:=World.ownsRow_nil w base _ _
theorem OwnZ.slice {base:Nat} {w:World} {v:Value} {l:List Int} (h:OwnZ base w v l):∃ x c,v = .slice x l.length c:=by
 rcases h.2 with ⟨rfl,e⟩ | ⟨g,cap,cur,rfl,_⟩
 · rw [e];exact ⟨_,_,rfl⟩
 · exact ⟨_,_,rfl⟩
theorem OwnZ.below {base:Nat} {w w':World} {v:Value} {l:List Int} (h:OwnZ base w v l) (hb:Below w.heap.size w w'):OwnZ base w' v l:=own_below h hb
def ZIn (w:World) (v:Value) (l:List Int):Prop:=∃ x c,v = .slice x l.length c∧∀ i z,l[i]? = some z→∃ g o,x=some ⟨g,o,none⟩∧g<w.heap.size∧w.cell? ⟨g,o+i,none⟩=some (.int .i64 z)
theorem ZIn.keep {w w':World} {v:Value} {l:List Int} (h:ZIn w v l) (hb:Below w.heap.size w w'):ZIn w' v l:=by
 obtain ⟨x,c,e,hc⟩:=h
 refine ⟨x,c,e,fun i z hz => ?_⟩
 obtain ⟨g,o,e1,hl,h1⟩:=hc i z hz
 exact ⟨g,o,e1,Nat.lt_of_lt_of_le hl hb.size,(hb.cell (p:=⟨g,o+i,none⟩) hl).trans h1⟩
theorem ZIn.nil (w:World):ZIn w (.slice none 0 0) []:=⟨none,0,rfl,fun i z h=>by simp at h⟩
theorem OwnZ.zin {base:Nat} {w:World} {v:Value} {l:List Int} (h:OwnZ base w v l):ZIn w v l:=by
 obtain ⟨x,c,rfl⟩:=h.slice
 refine ⟨x,c,rfl,fun i z hz => ?_⟩
 have hi:i<l.length:=(List.getElem?_eq_some_iff.1 hz).1
 have hlt:=World.ownsRow.lt h
 rcases h.2 with ⟨_,e⟩ | ⟨g,cap,cur,e,_⟩
 · omega
 · cases e
   have hc:=World.ownsRow.cellAt h i (by omega)
   refine ⟨g,0,rfl,(hlt g rfl).2,?_⟩
   rw [Nat.zero_add,hc]
   simp [hz]
theorem wpList_append_z {w:World} {ops:Array Oper} {rest:List Oper} {o:Oper} {a:Act} {Q:Exit→Act→World→Prop} (hgd:o.guard=none) (s x:Operand)
 (ho:o.op = .call { callee := .builtin .append,args:=#[s,x],argTypes:=#[51,51] }) (base:Nat)
 (v:Value) (l:List Int) (y:Int) (hs:a.eval s=v) (hown:OwnZ base w v l) (hx:a.eval x = .slice (some ⟨w.heap.size,0,none⟩) 1 1)
 (hl:l.length+1≤1000) (hbase:base≤w.heap.size)
 (h:∀ v' w',OwnZ base w' v' (l ++ [y])→Below base w w'→wpList Tryz.prog ops Q rest (a.put o.dst v') w'):wpList Tryz.prog ops Q (o :: rest) a (w.alloc (.cells #[.int .i64 y] 3)):=by
 obtain ⟨i0,hi,hz0,hz1,hz2⟩:=info_parts info_int
 have hb:Below base w (w.alloc (.cells #[.int .i64 y] 3)):=(Below.refl _ _).alloc hbase _
 have hz:base≤(w.alloc (.cells #[.int .i64 y] 3)).heap.size:=by simp only [World.size_alloc];omega
 refine wpList_append_own _ hgd s x 51 ho base 3 i0 (.int .i64 0) 1 8 und_ints hi hz0 hz1 hz2 rfl (by decide) v l.length _ hs (World.ownsRow.alloc hown _) ⟨w.heap.size,0,none⟩ 1 1 [.int .i64 y] hx rfl (one_new w _ _) (one_cell _ _) (by unfold maxLen;omega) (by omega) hz (fun v' w' h2 h3 _=>h v' w' ?_ (below_grown hb h3 (World.ownsRow.alloc hown _) (Nat.le_refl _) hz))
 unfold OwnZ
 rw [List.length_append,List.map_append]
 exact h2
end Go.Proofs.YtddkbmnkbfciaaaGreatDoor
namespace Go.Proofs.YtddkbmnkbfciaaaGreatDoor
open Go.RowKit
theorem zat_get {l:List Int} {k:Nat} (h:k<l.length):l[k]? = some (zat l k):=by simp [zat,h]
theorem risU_le {l:List Int}:∀ {k j:Nat},risU l k=true→j≤k→risU l j=true
 | 0,j,h,hj=>by obtain rfl:=Nat.le_zero.1 hj;exact h
 | k+1,j,h,hj=>by
  by_cases e:j=k+1
  · subst e;exact h
  · rw [risU,Bool.and_eq_true] at h
    exact risU_le h.1 (by omega)
theorem risU_at {l:List Int} {k j:Nat} (h:risU l k=true) (hj:j<k):(j:Int)≤zat l j∧zat l j<64:=by
 have h1:=risU_le h (show j+1≤k from hj)
 clear h
 induction j with
 | zero=>rw [risU,Bool.and_eq_true,Bool.and_eq_true,decide_eq_true_eq,decide_eq_true_eq] at h1;exact ⟨by have:=h1.2.1;simp only [lastZ] at this;omega,h1.2.2⟩
 | succ j ih =>
  have h2:=ih (by omega) (risU_le h1 (by omega))
  rw [risU,Bool.and_eq_true,Bool.and_eq_true,decide_eq_true_eq,decide_eq_true_eq] at h1
  exact ⟨by have:=h1.2.1;simp only [lastZ] at this;omega,h1.2.2⟩
theorem risU_len {l:List Int} {k:Nat} (h:risU l k=true):k≤64:=by
 cases k with
 | zero=>omega
 | succ k=>have:=risU_at h (Nat.lt_succ_self k);omega
theorem risU_false {l:List Int} {k:Nat} (h:(decide (lastZ l k<zat l k) && decide (zat l k<64))=false):∀ {n},k<n→risU l n=false
 | 0,hk=>by omega
 | n+1,hk=>by
  rw [risU]
  by_cases e:k=n
  · subst e;rw [h,Bool.and_false]
  · rw [risU_false h (by omega),Bool.false_and]
set_option maxRecDepth 20000 in
set_option maxHeartbeats 2000000 in
theorem rising_any (v:Value) (l:List Int) (w:World) (hv:ZIn w v l) (hl:l.length<140737488355000):Calls Tryz.prog 270 #[v] w fun e w'=>e = .returned (.bool (risU l l.length))∧w'=w:=by
 obtain ⟨x,c,rfl,hz⟩:=hv
 obtain ⟨n,hn⟩:∃ n,n=l.length:=⟨_,rfl⟩
 have Hn:=Hid.mk' hn
 have HZ:=Hid.mk' hz
 rw [←hn] at hl ⊢
 obtain ⟨B,hB⟩:∃ B,B=risU l n:=⟨_,rfl⟩
 have HB:=Hid.mk' hB
 rw [←hB]
 clear hn hz hB
 go_enter Tryz.func270,Tryz.ntmps270
 go_wp2
 go_loopw [3,8] (fun t i wr=>∃ k:Nat,k≤n∧i = .int .i64 k∧t = .int .i64 (lastZ l k)∧risU l k=true∧wr=w) (fun _ i _=>n - (intOf i).toNat)
 case atStart=>exact ⟨0,Nat.zero_le _,rfl,rfl,rfl,rfl⟩
 case round =>
  obtain ⟨k,hk,rfl,rfl,hal,rfl⟩:=hrel
  by_cases hlt:k<n
  · obtain ⟨g,o,rfl,hg,hc⟩:=HZ.out k _ (zat_get (by rw [←Hn.out];exact hlt))
    have e1:lastZ l (k+1)=zat l k:=rfl
    have E1:=Hid.mk' e1
    have E2:Hid (∀ b,(decide (lastZ l k<zat l k) && decide (zat l k<64))=b→risU l (k+1)=b):=Hid.mk' (fun b h=>by rw [risU,hal,h];rfl)
    have E3:Hid ((decide (lastZ l k<zat l k) && decide (zat l k<64))=false→B=false):=Hid.mk' (fun h=>by rw [HB.out];exact risU_false h hlt)
    clear e1 hal HB
    generalize zat l k=z at *
    generalize lastZ l k=t at *
    by_cases h1:z≤t
    · have hBf:=E3.out (by rw [decide_eq_false (by omega)];rfl)
      go_wp2
      go_ret
      exact ⟨by first | rfl | (rw [hBf];rfl),rfl⟩
    · have h1d:decide (z≤t)=false:=by simp [h1]
      by_cases h2:64≤z
      · have hBf:=E3.out (by rw [decide_eq_false (show ¬z<64 by omega),Bool.and_false])
        go_wp2
        go_ret
        exact ⟨by first | rfl | (rw [hBf];rfl),rfl⟩
      · go_wp2
        go_roundw
        case rel=>exact ⟨k+1,by omega,by go_num,by rw [E1.out],E2.out true (by rw [decide_eq_true (by omega),decide_eq_true (by omega)];rfl),by first | rfl | trivial⟩
        case measure=>simp [intOf];omega
  · obtain rfl:k=n:=by omega
    have hBt:B=true:=by rw [HB.out];exact hal
    go_wp2
    go_ret
    exact ⟨by rw [hBt];rfl,rfl⟩
theorem umL (k:Nat):sumN (fun _=>4) k=4*k:=by
 induction k with
 | zero=>rfl
 | succ k ih=>show sumN _ k+4=_;omega
set_option maxRecDepth 20000 in
theorem lAl (q p o:Nat) (v:Value) (l:List Int) (w:World) (h1:w.cell? ⟨q,0,none⟩=some (pA p o)) (hp:w.cell? ⟨p,o,none⟩=some v) (hv:ZIn w v l) (hl:l.length<140737488355000) :
 Calls Tryz.prog 269 #[pA q 0] w fun e w'=>e = .returned (.bool (risU l l.length))∧w'=w:=by
 have c:=rising_any v l w hv hl
 go_enter Tryz.func269,Tryz.ntmps269
 go_wp2_with (go_at_call 270;refine c.mono ?_;clear c;rintro e w1 ⟨rfl,hw⟩;obtain rfl:=hw.symm)
 go_ret
 exact ⟨rfl,rfl⟩
set_option maxRecDepth 20000 in
set_option maxHeartbeats 2000000 in
theorem lPut (q p o:Nat) (v:Value) (l:List Int) (w:World) (h1:w.cell? ⟨q,0,none⟩=some (pA p o)) (hp:w.cell? ⟨p,o,none⟩=some v) (hv:ZIn w v l) (hr:risU l l.length=true) :
 Calls Tryz.prog 271 #[pA q 0] w fun e w'=>∃ s,e = .returned s∧Own w.heap.size w' s (vcL (4*l.length)) (vcB (4*l.length) (umB l l.length))∧Below w.heap.size w w':=by
 have hlen:=risU_len hr
 obtain ⟨x,c,rfl,hz⟩:=hv
 obtain ⟨n,hn⟩:∃ n,n=l.length:=⟨_,rfl⟩
 have Hn:=Hid.mk' hn
 have HZ:=Hid.mk' hz
 have HR:=Hid.mk' hr
 rw [←hn] at hlen hp ⊢
 have c2:=sure_ok
 clear hn hz hr
 go_enter Tryz.func271,Tryz.ntmps271
 go_wp2
 go_loopw [2,9] (fun t i wr=>∃ k:Nat,k≤n∧i = .int .i64 k∧(∃ xa ca,t = .slice xa (4*k) ca∧Own w.heap.size wr (.slice xa (4*k) ca) (4*k) (umB l k))∧Below w.heap.size w wr) (fun _ i _=>n - (intOf i).toNat)
 case atStart=>exact ⟨0,Nat.zero_le _,rfl,⟨none,0,rfl,Own.nil _ _ _⟩,Below.refl _ _⟩
 case round =>
  obtain ⟨k,hk,rfl,⟨xa,ca,rfl,own⟩,hb⟩:=hrel
  by_cases hlt:k<n
  · obtain ⟨g,ob,rfl,hg,hc⟩:=HZ.out k _ (zat_get (by rw [←Hn.out];exact hlt))
    have hza:=risU_at HR.out (show k<l.length by rw [←Hn.out];exact hlt)
    have hcw:=(hb.cell (p:=⟨g,ob+k,none⟩) hg).trans hc
    obtain ⟨z,hzz⟩:∃ z:Nat,z=(zat l k).toNat:=⟨_,rfl⟩
    have ez:zat l k=(z:Int):=by omega
    rw [ez] at hcw
    have c1:=cNum11_good z 4 rfl (by show z<4294967296;omega) wr
    have HN:Hid (umB l (k+1)=cat (4*k) (umB l k) (beN z 4)):=Hid.mk' (by rw [hzz];show cat (sumN (fun _=>4) k) _ _=_;rw [umL];rfl)
    have h4:4*k+4≤140737488355328:=by omega
    obtain ⟨Zi,hZi⟩:∃ Zi:Int,Zi=(z:Int):=⟨_,rfl⟩
    rw [←hZi] at c1 hcw
    obtain ⟨T,hT⟩:∃ T,T=4*k:=⟨_,rfl⟩
    have HT:=Hid.mk' hT
    rw [←hT] at own h4 HN ⊢
    clear hza ez hzz hc hZi hT
    generalize umB l k=F at *
    go_wp2_with (first
     | (go_at_call 133;refine c1.mono ?_;clear c1;rintro e w1 ⟨s1,rfl,hs1,b1⟩;(obtain ⟨x1,c1',hs1',hxn1,hc1,hsrc1⟩:=hs1.src);subst hs1';have hsrc:=hsrc1 w1 (Below.refl _ _);have ownW:=own.below b1;have hbw1:=below_next hb b1)
     | (go_at_call 266;refine (c2 _ _).mono ?_;rintro e w2 ⟨rfl,hw⟩;obtain rfl:=hw.symm)
     | (at_builtin;refine wpList_append_bytes rfl (.tmp 13) (.tmp 18) rfl w.heap.size _ T F rfl ownW x1 4 c1' (beN z 4) rfl hsrc hxn1 h4 hbw1.size ?_;intro v2 w3 own2 grow2;have hbw2:=Own.grown hbw1 grow2 ownW (Nat.le_refl _) hbw1.size;(obtain ⟨x2,c3,hv2⟩:=own2.slice);subst hv2))
    go_roundw
    case rel=>exact ⟨k+1,by omega,by go_num,⟨x2,c3,by rw [HT.out];rfl,by rw [HN.out];rw [show 4*(k+1)=T+4 by rw [HT.out];omega];exact own2⟩,hbw2⟩
    case measure=>simp [intOf];omega
  · obtain rfl:k=n:=by omega
    have c1:=cVec11_good _ (4*k) _ (by omega) wr (BytesIn.of_own own)
    go_wp2_with (first
     | (go_at_call 57;refine c1.mono ?_;clear c1;rintro e w1 ⟨s1,rfl,o1,b1⟩)
     | (go_at_call 266;refine (c2 _ _).mono ?_;rintro e w2 ⟨rfl,hw⟩;obtain rfl:=hw.symm))
    go_ret
    exact ⟨_,rfl,own_base o1 hb.size,below_next hb b1⟩
theorem lnP {lo hi:Nat} {w:World} {f:Fd} {p o:Nat} (h:LnD lo hi w f p o) {v:Value} {l:List Int} (hc:w.cell? ⟨p,o,none⟩=some v) (hv:ZIn w v l) (hl:l.length<140737488355000):FieldPut w f (risU l l.length) (vcL (4*l.length)) (vcB (4*l.length) (umB l l.length)):=by
 have hp:=block_lt_of_cell hc
 obtain ⟨q,rfl,B⟩:=h
 refine ⟨fun W=>by kernel_rfl,fun W=>by kernel_rfl,fun W hb => ?_,fun ha W hb => ?_⟩
 · exact (lAl q p o v l W ((B.nth 0 hb).cell (o:=0) rfl) ((hb.cell (p:=⟨p,o,none⟩) hp).trans hc) (hv.keep hb) hl).mono fun e w' ⟨h1,h2⟩=>⟨h1,by rw [h2];exact Below.refl _ _⟩
 · exact (lPut q p o v l W ((B.nth 0 hb).cell (o:=0) rfl) ((hb.cell (p:=⟨p,o,none⟩) hp).trans hc) (hv.keep hb) ha).mono fun e w' ⟨s,h1,h2,h3⟩=>⟨s,h1,BytesIn.of_own h2,h3⟩
end Go.Proofs.YtddkbmnkbfciaaaGreatDoor
namespace Go.Proofs.YtddkbmnkbfciaaaGreatDoor
open Go.RowKit
theorem Rest.grown {w w':World} {g:Nat} (h:w.grownBy w' (some g)):Rest [g] w w':=⟨h.os,h.tape,h.output,h.size,fun k hk hn=>h.block k hk (fun e=>hn (by simpa using e))⟩
theorem FL.below {base B:Nat} {w w':World} {g:Nat} {v:Value} {fs:List Fd} (hv:v.ownBlock=some g) (h:FL base w v fs) (hr:Rest [g] w w') (hB:B≤base) (hw:B≤w.heap.size):Below B w w' :=
 hr.below (fun x hx=>by rw [List.mem_singleton] at hx;subst hx;exact Nat.le_trans hB (World.ownsRow.lt h _ hv).1) hw
end Go.Proofs.YtddkbmnkbfciaaaGreatDoor
namespace Go.Proofs.YtddkbmnkbfciaaaGreatDoor
open Go.RowKit
structure ParFs (lo hi:Nat) (w:World) (p:Nat) (f0 f1 f2:Fd):Prop where
 e0:VecD lo hi w f0 p 0 32 32
 e1:HonD lo hi w f1 p 1
 e2:LnD lo hi w f2 p 2
set_option maxRecDepth 20000 in
set_option maxHeartbeats 2000000 in
theorem pf_any (p:Nat) (w:World):Calls Tryz.prog 206 #[pA p 0] w fun e w'=>∃ v f0 f1 f2,e = .returned v∧FL w.heap.size w' v [f0,f1,f2]∧ParFs w.heap.size w'.heap.size w' p f0 f1 f2∧Below w.heap.size w w':=by
 go_enter Tryz.func206,Tryz.ntmps206
 go_wp2
 refine wp_region_held_drew (S:=fun u=>Below w.drew.heap.size w.drew u) (by kernel_rfl) (Below.refl _ _) (fun hS => ?_)
 have bd:Below w.heap.size w w.drew:=(Below.refl _ _).drew
 generalize w.drew=V at *
 refine tg 0 hS ?_
 (try simp only [pS])
 refine tg 1 hS ?_
 (try simp only [pS])
 refine tg 2 hS (v:=pA p 0) ?_ (hy:=by intro u _;kernel_rfl)
 (try simp only [pS])
 refine tg 4 hS ?_
 (try simp only [pS])
 refine tg 5 hS ?_
 (try simp only [pS])
 refine tg 6 hS (v:=pA p 1) ?_ (hy:=by intro u _;kernel_rfl)
 (try simp only [pS])
 refine tg 8 hS ?_
 (try simp only [pS])
 refine tg 9 hS ?_
 (try simp only [pS])
 refine tg 10 hS (v:=pA p 2) ?_ (hy:=by intro u _;kernel_rfl)
 (try simp only [pS])
 refine cn 3 (vecD_any p 0 32 32 V) (fun e w1 hr => ?_)
 obtain ⟨f0,rfl,d0,b1⟩:=hr
 refine ⟨_,rfl,b1,?_⟩
 (try simp only [pS])
 refine cn 7 (honD_any p 1 w1) (fun e w2 hr => ?_)
 obtain ⟨f1,rfl,d1,b2⟩:=hr
 refine ⟨_,rfl,b2,?_⟩
 (try simp only [pS])
 refine cn 11 (lnD_any p 2 w2) (fun e w3 hr => ?_)
 obtain ⟨f2,rfl,d2,b3⟩:=hr
 refine ⟨_,rfl,b3,?_⟩
 (try simp only [pS])
 have b7:Below w3.heap.size w3 (w3.alloc (.cells ([f0,f1,f2].flatMap Fd.cells).toArray 243)):=(Below.refl _ _).alloc (Nat.le_refl _) _
 refine onlyV 12 (v := .slice (some ⟨w3.heap.size,0,none⟩) 3 3) (w':=w3.alloc (.cells ([f0,f1,f2].flatMap Fd.cells).toArray 243)) ?_ b7 ?_
 · kernel_rfl
 (try simp only [pS])
 refine tg 13 b7 ?_
 (try simp only [pS])
 refine wpAnyH_done (by kernel_rfl) ?_ _
 go_wp2
 go_ret
 have z1:=bd.size
 have z2:=b1.size
 have z3:=b2.size
 have z4:=b3.size
 have z8:=b7.size
 have hl:=FL.lit w.heap.size w3 [f0,f1,f2] (by omega) (by simp)
 generalize w3.alloc (.cells ([f0,f1,f2].flatMap Fd.cells).toArray 243)=W at *
 have c3:=b7
 have c2:=below_next b3 c3
 have c1:=below_next b2 c2
 refine ⟨_,f0,f1,f2,rfl,hl,⟨?_,?_,?_⟩,below_next bd (below_next b1 c1)⟩
 · exact d0.map fun L h=>(h.still c1).wide (by omega) (by omega)
 · exact d1.map fun L h=>(h.still c2).wide (by omega) (by omega)
 · exact d2.map fun L h=>(h.still c3).wide (by omega) (by omega)
end Go.Proofs.YtddkbmnkbfciaaaGreatDoor
