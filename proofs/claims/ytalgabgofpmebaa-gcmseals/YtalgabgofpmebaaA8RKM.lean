/- What the proof stands on: A8RK, A8RC, A8RBlk, G9RT, G9RF, G9RH, G9RU, G9RG. -/
import Derived.Test.YtalgabgofpmebaaA8Op3M
import Derived.Test.YtalgabgofpmebaaBaseM
namespace Go.Proofs.Ytalgabgofpmebaa
open Go.RowKit
def kyW (w:Nat→Nat) (n k:Nat):Nat:=if n%4=0 then (if k=0 then boxN (w (4*n - 4+1)) ^^^ rcN (n / 4 - 1) else boxN (w (4*n - 4+(k+1)%4))) else w (4*n - 4+k)
theorem kyT_W (w:Nat→Nat) (n k:Nat):kyT w n k=w (4*n - 16+k) ^^^ kyW w n k:=rfl
theorem kyN_next (key:Nat→Nat) (i k:Nat) (h4:4≤i) (h44:i<44) (hk:k<4):kyN key (4*i - 16+k) ^^^ kyW (kyN key) i k=kyN key (4*i+k):=by rw [kyN_word key i k h4 h44 hk,kyT_W]
theorem kyW_lt {w:Nat→Nat} (hw:∀ j,w j<256) (n k:Nat) (hn:n<44) (hn4:4≤n):kyW w n k<256:=by
 unfold kyW
 split
 · split
   · exact xor_byte (box_all _ (hw _)).2.2.1 (rc_lt _ (by omega))
   · exact (box_all _ (hw _)).2.2.1
 · exact hw _
theorem row_of_own {base:Nat} {w:World} {g cap n:Nat} {X:Nat→Nat} (h:Own base w (.slice (some ⟨g,0,none⟩) n cap) n X):RowAt .u8 w g 0 n X:=by
 rcases h.form with ⟨h,_⟩ | ⟨g',cap',e,_,_,_,hr⟩
 · cases h
 · cases e;exact hr
theorem run_append_both (w:World) (base g cap n:Nat) (F:Nat→Nat) (y:Int) (hF:y=(F n:Int)) (hown:Own base w (.slice (some ⟨g,0,none⟩) n cap) n F) (hl:n+1≤1000000) (hbase:base≤w.heap.size) :
 ∃ g' cap' w',(Builtin.append_ #[22,22] 22 #[.slice (some ⟨g,0,none⟩) n cap,.slice (some ⟨w.heap.size,0,none⟩) 1 1]).run Try.prog (w.alloc (.cells #[.int .u8 y] 5)) = .ok (.slice (some ⟨g',0,none⟩) (n+1) cap') w' ∧
  Own base w' (.slice (some ⟨g',0,none⟩) (n+1) cap') (n+1) F∧Below base w w'∧(g'=g∨w.heap.size≤g')∧(∀ b o,b<w.heap.size→b≠g→w'.cell? ⟨b,o,none⟩=w.cell? ⟨b,o,none⟩∧w'.frozen? ⟨b,o,none⟩=w.frozen? ⟨b,o,none⟩)∧∀ q,q<n→w'.cell? ⟨g,q,none⟩=w.cell? ⟨g,q,none⟩:=by
 subst hF
 obtain ⟨i0,hi,hz0,hz1,hz2⟩:=info_parts Try.info5
 have hbA:Below w.heap.size w (w.alloc (.cells #[.int .u8 (F n:Int)] 5)):=(Below.refl _ _).alloc (Nat.le_refl _) _
 have hz:base≤(w.alloc (.cells #[.int .u8 (F n:Int)] 5)).heap.size:=Nat.le_trans hbase hbA.size
 have ownA:=hown.below hbA
 have hgl:g<w.heap.size:=by
  rcases hown.form with ⟨h,_⟩ | ⟨g',cap',e,_,h,_,_⟩
  · cases h
  · cases e;exact h
 have hnew:=one_new w (.int .u8 (F n:Int)) 5
 obtain ⟨g',cap',w',hr,h1,h2,h3⟩:=run_append_keep (P:=Try.prog) _ 22 22 base 5 i0 (.int .u8 0) 1 Try.underlying22 hi hz0 hz1 hz2 rfl g cap n _ ownA ⟨w.heap.size,0,none⟩ 1 (.int .u8 (F n:Int)) hnew rfl (by unfold maxLen;omega) (by omega) hz
 obtain ⟨v2,w2,hr2,_,_,_,h5⟩:=run_append_own_at (P:=Try.prog) _ base 22 22 5 i0 (.int .u8 0) 1 1 Try.underlying22 hi hz0 hz1 hz2 rfl (by decide) _ n _ ownA ⟨w.heap.size,0,none⟩ 1 1 [.int .u8 (F n:Int)] rfl hnew (one_cell _ _) (by unfold maxLen;omega) (by omega) hz
 rw [hr] at hr2
 cases hr2
 refine ⟨g',cap',w',hr,?_,?_,?_,?_,?_⟩
 · unfold Own;rw [←ints_snoc];exact h1
 · exact (hbA.mono hbase).trans (Own.grown (v := .slice (some ⟨g,0,none⟩) n cap) (Below.refl _ _) h2 ownA (Nat.le_refl _) hz)
 · rcases h5 with h5 | h5
   · exact .inl (by simpa [Value.ownBlock] using h5)
   · refine .inr ?_
     have:g'=(w.alloc (.cells #[.int .u8 (F n:Int)] 5)).heap.size:=by simpa [Value.ownBlock] using h5
     rw [this];exact hbA.size
 · intro b o hb hne
   have hk:=h2.block b (by have:=hbA.size;omega) (by simp;omega)
   exact ⟨(World.cell?_of_block hk).trans (hbA.cell (p:=⟨b,o,none⟩) hb),(World.frozen?_of_block hk).trans (hbA.frozen (p:=⟨b,o,none⟩) hb)⟩
 · intro q hq
   exact (h3 q hq).trans (hbA.cell (p:=⟨g,q,none⟩) hgl)
theorem step_append_both {ops:Array Oper} {o:Oper} {a:Act} {w:World} {K:Act→World→Prop} {Q:Exit→Act→World→Prop} {E:Prop} (hgd:o.guard=none) (s x:Operand)
 (ho:o.op = .call { callee := .builtin .append,args:=#[s,x],argTypes:=#[22,22] }) (hty:o.type=22) (base g cap n:Nat) (F:Nat→Nat) (y:Int) (hs:a.eval s = .slice (some ⟨g,0,none⟩) n cap) (hown:Own base w (.slice (some ⟨g,0,none⟩) n cap) n F) (h:Nat) (hh:w.heap.size=h) (hx:a.eval x = .slice (some ⟨h,0,none⟩) 1 1) (hF:y=(F n:Int))
 (hl:n+1≤1000000) (hbase:base≤w.heap.size)
 (H:∀ g' cap' w',Own base w' (.slice (some ⟨g',0,none⟩) (n+1) cap') (n+1) F→Below base w w'→(g'=g∨w.heap.size≤g')→(∀ b o,b<w.heap.size→b≠g→w'.cell? ⟨b,o,none⟩=w.cell? ⟨b,o,none⟩∧w'.frozen? ⟨b,o,none⟩=w.frozen? ⟨b,o,none⟩)→(∀ q,q<n→w'.cell? ⟨g,q,none⟩=w.cell? ⟨g,q,none⟩)→K (a.put o.dst (.slice (some ⟨g',0,none⟩) (n+1) cap')) w') :
 if Region.wanted o (yielded ops a.tmps)=true then Oper.wp Try.prog o a (w.alloc (.cells #[.int .u8 y] 5)) K Q else E:=by
 have hw:Region.wanted o (yielded ops a.tmps)=true:=by simp [Region.wanted,hgd]
 rw [if_pos hw]
 subst hh
 obtain ⟨g',cap',w',hrun,h1,h2,h3,h4,h5⟩:=run_append_both w base g cap n F y hF hown hl hbase
 unfold Oper.wp
 simp [execOp,ho,hty,resolve,invoke,builtin,hs,hx,hrun,Result.andThen]
 exact H g' cap' w' h1 h2 h3 h4 h5
theorem sl44 (q:Nat) (h4:4≤q) (hq:q<44):IntKind.i64.wrap (4*(q:Int))=4*(q:Int)∧IntKind.i64.wrap (4*(q:Int) - 4)=4*(q:Int) - 4∧(4*(q:Int) - 4).toNat=4*q - 4∧(4*(q:Int)).toNat=4*q∧((0:Int)≤4*(q:Int) - 4∧4*(q:Int) - 4≤4*(q:Int))∧4*q - (4*q - 4)=4:=by
 refine ⟨?_,?_,by omega,by omega,by omega,by omega⟩
 all_goals (simp only [IntKind.wrap_i64];omega)
theorem ix44 (q m:Nat) (h4:4≤q) (hq:q<44) (hm:m<4):IntKind.i64.wrap (4*(q:Int))=4*(q:Int)∧IntKind.i64.wrap (4*(q:Int) - 16)=4*(q:Int) - 16∧IntKind.i64.wrap (4*(q:Int) - 16+(m:Int))=4*(q:Int) - 16+(m:Int)∧(4*(q:Int) - 16+(m:Int)).toNat=4*q - 16+m∧(0:Int)≤4*(q:Int) - 16+(m:Int)∧4*(q:Int) - 16+(m:Int)<4*(q:Int)+(m:Int):=by
 refine ⟨?_,?_,?_,by omega,by omega,by omega⟩
 all_goals (simp only [IntKind.wrap_i64];omega)
set_option maxRecDepth 20000 in
set_option maxHeartbeats 8000000 in
theorem rkeys_any (v u:Value) (ks:Nat→Nat) (hks:∀ j,ks j<256) (w:World) (hv:BytesIn w v 16 ks) (hu:RowS w u 256 boxN) :
 Calls Try.prog 48 #[v,u] w fun e w'=>∃ s,e = .returned s∧RowS w' s 176 (kyN ks)∧Below w.heap.size w w':=by
 obtain ⟨xk,ck,rfl,hxn,-,hsrc⟩:=hv.src
 obtain ⟨gb,cb,rfl,hcb,hbx⟩:=hu
 have hgb:gb<w.heap.size:=block_lt_of_cell (hbx 0 (by decide)).1
 have src0:=hsrc _ ((Below.refl _ _).alloc (Nat.le_refl _) (.cells #[] 5))
 have hKl:=kyN_lt hks
 have hK0:=kyN_lo ks
 have hKn:=kyN_next ks
 have hWl:=fun n k h1 h2=>kyW_lt hKl n k h1 h2
 have hWd:∀ n k,kyW (kyN ks) n k=if n%4=0 then (if k=0 then boxN (kyN ks (4*n - 4+1)) ^^^ rcN (n / 4 - 1) else boxN (kyN ks (4*n - 4+(k+1)%4))) else kyN ks (4*n - 4+k):=fun _ _=>rfl
 have hr0:rcN 0=1:=rfl
 have hrs:∀ n,gm (rcN n) 2=rcN (n+1):=fun _=>rfl
 have hrl:=rc_lt
 have ct:=fun n (hn:n<10) W=>rtimes_any (rcN n) 2 (rc_lt n hn) (by decide) W
 have hbl:∀ x,x<256→boxN x<256:=fun x hx=>(box_all x hx).2.2.1
 generalize kyW (kyN ks)=Wd at *
 generalize kyN ks=Y at *
 generalize rcN=R at *
 generalize boxN=F at *
 clear hv hsrc
 go_enter Try.func48,Try.ntmps48
 go_wp2_with (at_builtin;refine wpList_append_empty rfl (.tmp 10) (.tmp 11) rfl w.heap.size ks _ rfl rfl xk 16 ck rfl src0 hxn (by decide) (Nat.le_refl _) ?_;intro v1 w1 own1 hb1;clear src0)
 go_loopw [5,6,7] (fun o c i wr=>∃ q:Nat,4≤q∧q≤44∧c = .int .u8 (R ((q - 1) / 4))∧i = .int .i64 q∧Own w.heap.size wr o (4*q) Y∧Below w.heap.size w wr) (fun _ _ i _=>44 - (intOf i).toNat)
 case atStart=>exact ⟨4,Nat.le_refl _,by decide,by rw [show (4 - 1) / 4=0 from rfl,hr0];rfl,rfl,own1.congr (fun j hj=>(hK0 j hj).symm),hb1⟩
 case round =>
  clear own1 hb1 hK0 hr0
  obtain ⟨q,h4,h44,rfl,rfl,own,b⟩:=hrel
  by_cases hlt:q<44
  · obtain ⟨g,cap,hv,hg,hgl,hcap,hrow⟩:=own.form.resolve_left (fun h=>by omega)
    subst hv
    have hrow':=hrow
    obtain ⟨lo1,lo2,lo3,lo4,lo5,lo6⟩:=sl44 q h4 hlt
    have cap':(4*q:Int)≤cap:=by omega
    have srcT:Src (wr.alloc (.cells #[] 5)) (some ⟨g,4*q - 4,none⟩) 4 (fun j=>Y (4*q - 4+j)) := .inr ⟨g,4*q - 4,rfl,fun j hj=>by
     have:=((hrow.alloc hgl (.cells #[] 5)) (4*q - 4+j) (by omega)).1
     rwa [Nat.zero_add] at this⟩
    go_upto_region 7 with (at_builtin;refine wpList_append_empty rfl (.tmp 17) (.tmp 24) rfl wr.heap.size (fun j=>Y (4*q - 4+j)) _ rfl rfl _ 4 (cap - (4*q - 4)) rfl srcT (fun h=>by cases h) (by decide) (Nat.le_refl _) ?_;intro v2 w2 own2 hb2;clear srcT)
    obtain ⟨gt,cpt,hv2,hgt,hgtl,hct,hrT⟩:=own2.form.resolve_left (fun h=>by omega)
    subst hv2
    have ownW:=own.below hb2
    have bW:=b.trans (hb2.mono b.size)
    have ngW:g≠gt:=by omega
    clear own own2 hrow hrow' lo1 lo2 lo3 lo4 lo5 lo6 cap'
    by_cases hq4:q%4=0
    · have q4i:(q:Int)%4=0:=by omega
      have eR:(q - 1) / 4=q / 4 - 1:=by omega
      have hc9:q / 4 - 1<10:=by omega
      have eR2:q / 4 - 1+1=q / 4:=by omega
      have hw0:=hWd q 0
      have hw1:=hWd q 1
      have hw2:=hWd q 2
      have hw3:=hWd q 3
      rw [if_pos hq4] at hw0 hw1 hw2 hw3
      rw [if_pos rfl] at hw0
      rw [if_neg (by decide)] at hw1 hw2 hw3
      simp only [Nat.reduceAdd,Nat.reduceMod,Nat.add_zero] at hw1 hw2 hw3
      obtain ⟨t0,-⟩:=hrT 0 (by decide)
      obtain ⟨t1,-⟩:=hrT 1 (by decide)
      obtain ⟨t2,-⟩:=hrT 2 (by decide)
      obtain ⟨t3,-⟩:=hrT 3 (by decide)
      simp only [Nat.zero_add,Nat.add_zero] at t0 t1 t2 t3
      have hbx2:=(hbx.still (bW:Below w.heap.size w w2))
      have y0:=hKl (4*q - 4)
      have y1:=hKl (4*q - 4+1)
      have y2:=hKl (4*q - 4+2)
      have y3:=hKl (4*q - 4+3)
      obtain ⟨s0,-⟩:=hbx2 _ y0
      obtain ⟨s1,-⟩:=hbx2 _ y1
      obtain ⟨s2,-⟩:=hbx2 _ y2
      obtain ⟨s3,-⟩:=hbx2 _ y3
      rw [Nat.zero_add] at s0 s1 s2 s3
      have hx:=u8_xor_nat (F (Y (4*q - 4+1))) (R (q / 4 - 1)) (hbl _ y1) (hrl _ hc9)
      rw [←hw0] at hx
      rw [←hw1] at s2
      rw [←hw2] at s3
      rw [←hw3] at s0
      have ct1:=ct (q / 4 - 1) hc9
      rw [hrs,eR2] at ct1
      rw [eR]
      generalize F (Y (4*q - 4+1))=f1 at *
      generalize Y (4*q - 4)=z0 at *
      generalize Y (4*q - 4+1)=z1 at *
      generalize Y (4*q - 4+2)=z2 at *
      generalize Y (4*q - 4+3)=z3 at *
      have i0:(0:Int)≤(z0:Int)∧(z0:Int)<256:=by omega
      have i1:(0:Int)≤(z1:Int)∧(z1:Int)<256:=by omega
      have i2:(0:Int)≤(z2:Int)∧(z2:Int)<256:=by omega
      have i3:(0:Int)≤(z3:Int)∧(z3:Int)<256:=by omega
      clear hw0 hw1 hw2 hw3 hbx2 hWd ct
      go_upto_region 8 with (fail)
      go_cut [8,78] from 13 (fun t z wc=>∃ gn,z=undef∧t = .slice (some ⟨gn,0,none⟩) 4 4∧g≠gn∧RowAt .u8 wc gn 0 4 (Wd q)∧Own w.heap.size wc (.slice (some ⟨g,0,none⟩) (4*q) cap) (4*q) Y∧Below w.heap.size w wc)
      case first =>
       have bU:Below w2.heap.size w2 (w2.alloc (.cells #[.int .u8 (Wd q 0),.int .u8 (Wd q 1),.int .u8 (Wd q 2),.int .u8 (Wd q 3)] 5)).drew:=((Below.refl _ _).alloc (Nat.le_refl _) _).drew
       have rowT:RowAt .u8 (w2.alloc (.cells #[.int .u8 (Wd q 0),.int .u8 (Wd q 1),.int .u8 (Wd q 2),.int .u8 (Wd q 3)] 5)).drew w2.heap.size 0 4 (Wd q):=(RowAt.fresh (fun j hj=>by
        rcases (show j=0∨j=1∨j=2∨j=3 by omega) with rfl | rfl | rfl | rfl <;> rfl)).drew
       have ownT:=ownW.below bU
       have bT:=below_next bW bU
       have ngt:g≠w2.heap.size:=by omega
       have hS:∀ w':World,Below w2.heap.size w2 w'→∀ b o,b<w2.heap.size→w'.cell? ⟨b,o,none⟩=w2.cell? ⟨b,o,none⟩:=fun w' h b o hb=>h.cell (p:=⟨b,o,none⟩) hb
       have hb0:Below w2.heap.size w2 w2.drew:=(Below.refl _ _).drew
       have hbA:∀ ob,Below w2.heap.size w2 (w2.drew.alloc ob):=fun ob=>hb0.alloc (Nat.le_refl _) ob
       have gbl:gb<w2.heap.size:=block_lt_of_cell s0
       clear hKl hKn hWl hrs hrl ct1 hbl hks hxn hcb ngW hrT hbx hb2 hg hgl
       go_region_held3 (fun w'=>Below w2.heap.size w2 w') (first | assumption | exact hbA _) (fail)
       go_wp2
       go_meet
       case rel=>exact ⟨w2.heap.size,rfl,rfl,ngt,rowT,ownT,bT⟩
      case rest =>
      obtain ⟨gn,rfl,rfl,ngn,rowT,ownT,bT⟩:=hcut
      clear ownW bW ngW t0 t1 t2 t3 s0 s1 s2 s3 i0 i1 i2 i3 y0 y1 y2 y3 hx hrT q4i eR eR2 hc9 hb2 hbx hgtl hgt hgl hg
      go_upto_region 10 with (go_at_call 61;refine (ct1 _).mono ?_;clear ct1;rintro e w5 ⟨rfl,hw5⟩;subst hw5)
      go_wp2
      go_loopw [5,9] (fun o i wq=>∃ (m g cap:Nat),m≤4∧i = .int .i64 m∧o = .slice (some ⟨g,0,none⟩) (4*q+m) cap∧g≠gn∧Own w.heap.size wq (.slice (some ⟨g,0,none⟩) (4*q+m) cap) (4*q+m) Y∧RowAt .u8 wq gn 0 4 (Wd q)∧Below w.heap.size w wq) (fun _ i _=>4 - (intOf i).toNat)
      case atStart=>exact ⟨0,g,cap,Nat.zero_le _,rfl,rfl,ngn,ownT,rowT,bT⟩
      case round =>
       clear ngn ownT rowT bT
       obtain ⟨m,g,cap,hm,rfl,rfl,ngn,own,rowT,b⟩:=hrel
       have hrow:=row_of_own own
       by_cases hlm:m<4
       · obtain ⟨r1,-⟩:=hrow (4*q - 16+m) (by omega)
         obtain ⟨r2,-⟩:=rowT m hlm
         rw [Nat.zero_add] at r1 r2
         have hx:=u8_xor_nat (Y (4*q - 16+m)) (Wd q m) (hKl _) (hWl q m hlt h4)
         rw [hKn q m h4 hlt hlm] at hx
         have ngl:gn<wr.heap.size:=block_lt_of_cell r2
         have gl:g<wr.heap.size:=block_lt_of_cell r1
         obtain ⟨e1,e2,e3,e4,e5⟩:=ix44 q m h4 hlt hlm
         have e6:(0:Int)≤(m:Int)∧(m:Int)<4:=by omega
         have own0:Own w.heap.size wr.drew (.slice (some ⟨g,0,none⟩) (4*q+m) cap) (4*q+m) Y:=own.below ((Below.refl _ _).drew)
         have hsz0:w.heap.size≤wr.drew.heap.size:=b.size
         have m1:m+1≤4:=by omega
         obtain ⟨y1,hy1⟩:∃ y,y=Y (4*q - 16+m):=⟨_,rfl⟩
         obtain ⟨y2,hy2⟩:∃ y,y=Wd q m:=⟨_,rfl⟩
         rw [←hy1] at r1 hx
         rw [←hy2] at r2 hx
         have hS0:wr.drew.cell? ⟨g,4*q - 16+m,none⟩=some (.int .u8 y1)∧wr.drew.cell? ⟨gn,m,none⟩=some (.int .u8 y2):=⟨r1,r2⟩
         have hSA:∀ ob:Obj,(wr.drew.alloc ob).cell? ⟨g,4*q - 16+m,none⟩=some (.int .u8 y1)∧(wr.drew.alloc ob).cell? ⟨gn,m,none⟩=some (.int .u8 y2):=fun ob=>by
          have hb:Below wr.drew.heap.size wr.drew (wr.drew.alloc ob):=(Below.refl _ _).alloc (Nat.le_refl _) _
          exact ⟨(hb.cell (p:=⟨g,4*q - 16+m,none⟩) gl).trans r1,(hb.cell (p:=⟨gn,m,none⟩) ngl).trans r2⟩
         clear hy1 hy2 hKl hKn hWl hrs hrl hbl hks hrow own r1 r2 hcb hxn
         have hS1:∀ w':World,(w'.cell? ⟨g,4*q - 16+m,none⟩=some (.int .u8 y1)∧w'.cell? ⟨gn,m,none⟩=some (.int .u8 y2))→w'.cell? ⟨g,4*q - 16+m,none⟩=some (.int .u8 y1):=fun _ h=>h.1
         have hS2:∀ w':World,(w'.cell? ⟨g,4*q - 16+m,none⟩=some (.int .u8 y1)∧w'.cell? ⟨gn,m,none⟩=some (.int .u8 y2))→w'.cell? ⟨gn,m,none⟩=some (.int .u8 y2):=fun _ h=>h.2
         go_wp2
         go_region_held3 (fun w'=>w'.cell? ⟨g,4*q - 16+m,none⟩=some (.int .u8 y1)∧w'.cell? ⟨gn,m,none⟩=some (.int .u8 y2)) (first | assumption | exact hSA _) (first | (refine step_append_both rfl (.tmp 62) (.tmp 76) rfl rfl w.heap.size g cap (4*q+m) Y _ rfl own0 _ rfl rfl rfl (by omega) hsz0 ?_;intro g' cap' w' own1 hbx2 hg' hfar hkeep;(have hSw:w'.cell? ⟨g,4*q - 16+m,none⟩=some (.int .u8 y1)∧w'.cell? ⟨gn,m,none⟩=some (.int .u8 y2):=⟨(hkeep _ (by omega)).trans hS0.1,(hfar _ _ ngl ngn.symm).1.trans hS0.2⟩)))
         have hrT1:RowAt .u8 w' gn 0 4 (Wd q):=fun j hj=>by
          obtain ⟨a1,a2⟩:=rowT j hj
          obtain ⟨c1,c2⟩:=hfar gn (0+j) ngl ngn.symm
          exact ⟨c1.trans a1,c2.trans a2⟩
         have ng':g'≠gn:=by
          rcases hg' with rfl | h
          · exact ngn
          · exact fun e=>Nat.lt_irrefl _ (Nat.lt_of_lt_of_le (e ▸ ngl) h)
         have b':Below w.heap.size w w':=(b.drew).trans hbx2
         clear hS0 hSA hS1 hS2 hx e1 e2 e3 e4 e5 e6 hfar hkeep hg' hbx2 own0 rowT
         go_wp2
         go_roundw
         case rel=>exact ⟨m+1,g',cap',m1,by go_num,rfl,ng',own1,hrT1,b'⟩
         case measure=>simp [intOf];omega
       · obtain rfl:m=4:=by omega
         have m1:q+1≤44:=by omega
         have m2:4≤q+1:=by omega
         clear hKl hKn hWl hrs hrl hbl hks hxn hrow rowT
         go_wp2
         go_roundw
         case rel=>exact ⟨q+1,m2,m1,rfl,by go_num,own.start (by omega),b⟩
         case measure=>simp [intOf];omega
    · have q4i:((q:Int)%4 == 0)=false:=beq_false_of_ne (by omega)
      have eR:(q - 1) / 4=q / 4:=by omega
      have rowT:RowAt .u8 w2 gt 0 4 (Wd q):=hrT.congr (fun j _=>by rw [hWd,if_neg hq4])
      have ownT:=ownW
      have bT:=bW
      have ngt:=ngW
      rw [eR]
      clear ownW bW ngW hrT eR hb2 hbx hgtl hgt hgl hg
      go_upto_region 10 with (fail)
      go_wp2
      go_loopw [5,9] (fun o i wq=>∃ (m g cap:Nat),m≤4∧i = .int .i64 m∧o = .slice (some ⟨g,0,none⟩) (4*q+m) cap∧g≠gt∧Own w.heap.size wq (.slice (some ⟨g,0,none⟩) (4*q+m) cap) (4*q+m) Y∧RowAt .u8 wq gt 0 4 (Wd q)∧Below w.heap.size w wq) (fun _ i _=>4 - (intOf i).toNat)
      case atStart=>exact ⟨0,g,cap,Nat.zero_le _,rfl,rfl,ngt,ownT,rowT,bT⟩
      case round =>
       clear ngt ownT rowT bT
       obtain ⟨m,g,cap,hm,rfl,rfl,ngt,own,rowT,b⟩:=hrel
       have hrow:=row_of_own own
       by_cases hlm:m<4
       · obtain ⟨r1,-⟩:=hrow (4*q - 16+m) (by omega)
         obtain ⟨r2,-⟩:=rowT m hlm
         rw [Nat.zero_add] at r1 r2
         have hx:=u8_xor_nat (Y (4*q - 16+m)) (Wd q m) (hKl _) (hWl q m hlt h4)
         rw [hKn q m h4 hlt hlm] at hx
         have ngl:gt<wr.heap.size:=block_lt_of_cell r2
         have gl:g<wr.heap.size:=block_lt_of_cell r1
         obtain ⟨e1,e2,e3,e4,e5⟩:=ix44 q m h4 hlt hlm
         have e6:(0:Int)≤(m:Int)∧(m:Int)<4:=by omega
         have own0:Own w.heap.size wr.drew (.slice (some ⟨g,0,none⟩) (4*q+m) cap) (4*q+m) Y:=own.below ((Below.refl _ _).drew)
         have hsz0:w.heap.size≤wr.drew.heap.size:=b.size
         have m1:m+1≤4:=by omega
         obtain ⟨y1,hy1⟩:∃ y,y=Y (4*q - 16+m):=⟨_,rfl⟩
         obtain ⟨y2,hy2⟩:∃ y,y=Wd q m:=⟨_,rfl⟩
         rw [←hy1] at r1 hx
         rw [←hy2] at r2 hx
         have hS0:wr.drew.cell? ⟨g,4*q - 16+m,none⟩=some (.int .u8 y1)∧wr.drew.cell? ⟨gt,m,none⟩=some (.int .u8 y2):=⟨r1,r2⟩
         have hSA:∀ ob:Obj,(wr.drew.alloc ob).cell? ⟨g,4*q - 16+m,none⟩=some (.int .u8 y1)∧(wr.drew.alloc ob).cell? ⟨gt,m,none⟩=some (.int .u8 y2):=fun ob=>by
          have hb:Below wr.drew.heap.size wr.drew (wr.drew.alloc ob):=(Below.refl _ _).alloc (Nat.le_refl _) _
          exact ⟨(hb.cell (p:=⟨g,4*q - 16+m,none⟩) gl).trans r1,(hb.cell (p:=⟨gt,m,none⟩) ngl).trans r2⟩
         clear hy1 hy2 hKl hKn hWl hWd hrs hrl ct hbl hks hrow own r1 r2 hcb hxn
         have hS1:∀ w':World,(w'.cell? ⟨g,4*q - 16+m,none⟩=some (.int .u8 y1)∧w'.cell? ⟨gt,m,none⟩=some (.int .u8 y2))→w'.cell? ⟨g,4*q - 16+m,none⟩=some (.int .u8 y1):=fun _ h=>h.1
         have hS2:∀ w':World,(w'.cell? ⟨g,4*q - 16+m,none⟩=some (.int .u8 y1)∧w'.cell? ⟨gt,m,none⟩=some (.int .u8 y2))→w'.cell? ⟨gt,m,none⟩=some (.int .u8 y2):=fun _ h=>h.2
         go_wp2
         go_region_held3 (fun w'=>w'.cell? ⟨g,4*q - 16+m,none⟩=some (.int .u8 y1)∧w'.cell? ⟨gt,m,none⟩=some (.int .u8 y2)) (first | assumption | exact hSA _) (first | (refine step_append_both rfl (.tmp 62) (.tmp 76) rfl rfl w.heap.size g cap (4*q+m) Y _ rfl own0 _ rfl rfl rfl (by omega) hsz0 ?_;intro g' cap' w' own1 hbx2 hg' hfar hkeep;(have hSw:w'.cell? ⟨g,4*q - 16+m,none⟩=some (.int .u8 y1)∧w'.cell? ⟨gt,m,none⟩=some (.int .u8 y2):=⟨(hkeep _ (by omega)).trans hS0.1,(hfar _ _ ngl ngt.symm).1.trans hS0.2⟩)))
         have hrT1:RowAt .u8 w' gt 0 4 (Wd q):=fun j hj=>by
          obtain ⟨a1,a2⟩:=rowT j hj
          obtain ⟨c1,c2⟩:=hfar gt (0+j) ngl ngt.symm
          exact ⟨c1.trans a1,c2.trans a2⟩
         have ng':g'≠gt:=by
          rcases hg' with rfl | h
          · exact ngt
          · exact fun e=>Nat.lt_irrefl _ (Nat.lt_of_lt_of_le (e ▸ ngl) h)
         have b':Below w.heap.size w w':=(b.drew).trans hbx2
         clear hS0 hSA hS1 hS2 hx e1 e2 e3 e4 e5 e6 hfar hkeep hg' hbx2 own0 rowT
         go_wp2
         go_roundw
         case rel=>exact ⟨m+1,g',cap',m1,by go_num,rfl,ng',own1,hrT1,b'⟩
         case measure=>simp [intOf];omega
       · obtain rfl:m=4:=by omega
         have m1:q+1≤44:=by omega
         have m2:4≤q+1:=by omega
         clear hKl hKn hWl hWd hrs hrl ct hbl hks hxn hrow rowT
         go_wp2
         go_roundw
         case rel=>exact ⟨q+1,m2,m1,rfl,by go_num,own.start (by omega),b⟩
         case measure=>simp [intOf];omega
  · obtain rfl:q=44:=by omega
    obtain ⟨g,cap,hv,hg,hgl,hcap,hrow⟩:=(own.start (n:=176) rfl).form.resolve_left (fun h=>by omega)
    subst hv
    clear hKl hKn hWl hWd hrs hrl ct hbl hks hbx own hxn
    go_wp2
    go_ret
    exact ⟨_,rfl,⟨g,cap,rfl,hcap,hrow⟩,b⟩
end Go.Proofs.Ytalgabgofpmebaa
namespace Go.Proofs.Ytalgabgofpmebaa
open Go.RowKit
def aC (M X:Nat→Nat) (c r:Nat):Nat→Nat
 | 0=>0
 | k+1=>aC M X c r k ^^^ gm (M ((k+4 - r)%4)) (X (4*c+k))
theorem aC_four (M X:Nat→Nat) (c r:Nat) (hr:r<4):aC M X c r 4=colN M X (4*c+r):=by
 unfold colN col1
 rw [show (4*c+r) / 4*4=4*c by omega,show (4*c+r)%4=r by omega]
 show (((0 ^^^ _) ^^^ _) ^^^ _) ^^^ _=_
 rw [Nat.zero_xor]
 rfl
theorem aC_lt {M X:Nat→Nat} (hM:∀ j,j<4→M j<256) (c r:Nat):∀ k,aC M X c r k<256
 | 0=>(by decide:0<256)
 | k+1=>xor_byte (aC_lt hM c r k) (gm_lt _ _ (hM _ (by omega)))
theorem i_mod (c k r:Nat) (hr:r<4) (hk:k<4) (hc:c<4):(((k:Int) - (r:Int))%4=(((k+4 - r)%4:Nat):Int)∧((k:Int) - (r:Int)+4).tmod 4=(((k+4 - r)%4:Nat):Int))∧(IntKind.i64.wrap (4*(c:Int))=4*(c:Int)∧IntKind.i64.wrap (4*(c:Int)+(r:Int))=4*(c:Int)+(r:Int)∧IntKind.i64.wrap (4*(c:Int)+(k:Int))=4*(c:Int)+(k:Int))∧IntKind.i64.wrap ((k:Int) - (r:Int))=(k:Int) - (r:Int)∧IntKind.i64.wrap ((k:Int) - (r:Int)+4)=(k:Int) - (r:Int)+4:=by
 refine ⟨⟨by omega,?_⟩,⟨?_,?_,?_⟩,?_,?_⟩
 · rw [Int.tmod_eq_emod_of_nonneg (by omega)];omega
 all_goals (simp only [IntKind.wrap_i64];omega)
set_option maxRecDepth 20000 in
set_option maxHeartbeats 8000000 in
theorem columns_any (v u:Value) (X M:Nat→Nat) (hX:B16 X) (hM:∀ j,j<4→M j<256) (w:World) (hv:RowS w v 16 X) (hu:RowS w u 4 M) :
 Calls Try.prog 52 #[v,u] w fun e w'=>∃ s,e = .returned s∧RowS w' s 16 (colN M X)∧Below w.heap.size w w':=by
 obtain ⟨bb,cb,rfl,hcb,hrow⟩:=hv
 obtain ⟨gm',cm,rfl,hcm,hrm⟩:=hu
 have hbb:bb<w.heap.size:=block_lt_of_cell (hrow 0 (by decide)).1
 have hgm:gm'<w.heap.size:=block_lt_of_cell (hrm 0 (by decide)).1
 have hmk:=make_bytes w 16 16 rfl (by decide)
 have hT0:=RowAt.zero w 16 5
 have hb1:Below w.heap.size w (w.alloc (.cells (zb 16) 5)):=(Below.refl _ _).alloc (Nat.le_refl _) _
 obtain ⟨Z,hZ⟩:∃ Z,Z=colN M X:=⟨_,rfl⟩
 obtain ⟨A,hA⟩:∃ A,A=aC M X:=⟨_,rfl⟩
 have hA4:∀ c r,r<4→A c r 4=Z (4*c+r):=fun c r hr=>by rw [hA,hZ];exact aC_four M X c r hr
 have hAl:∀ c r k,A c r k<256:=fun c r k=>by rw [hA];exact aC_lt hM c r k
 have hA0:∀ c r,A c r 0=0:=fun c r=>by rw [hA];rfl
 have hAs:∀ c r k,A c r k ^^^ gm (M ((k+4 - r)%4)) (X (4*c+k))=A c r (k+1):=fun c r k=>by rw [hA];rfl
 rw [←hZ]
 replace hrow:=hrow.still hb1
 replace hrm:=hrm.still hb1
 generalize w.alloc (.cells (zb 16) 5)=U at *
 clear hZ hA
 go_enter Try.func52,Try.ntmps52
 go_wp2_with (rw [hmk])
 go_loopw [6] (fun i wr=>∃ c:Nat,c≤4∧i = .int .i64 c∧RowAt .u8 wr w.heap.size 0 16 (pr Z (fun _=>0) (4*c))∧RowAt .u8 wr bb 0 16 X∧RowAt .u8 wr gm' 0 4 M∧Below w.heap.size w wr) (fun i _=>4 - (intOf i).toNat)
 case atStart=>exact ⟨0,Nat.zero_le _,rfl,hT0,hrow,hrm,hb1⟩
 case round =>
  clear hT0 hrow hb1 hmk hrm
  obtain ⟨c,hc,rfl,hT,hrow,hrm,b⟩:=hrel
  by_cases hlt:c<4
  · have hci:(c:Int)<4:=by omega
    go_wp2
    go_loopw [7] (fun i wq=>∃ r:Nat,r≤4∧i = .int .i64 r∧RowAt .u8 wq w.heap.size 0 16 (pr Z (fun _=>0) (4*c+r))∧RowAt .u8 wq bb 0 16 X∧RowAt .u8 wq gm' 0 4 M∧Below w.heap.size w wq) (fun i _=>4 - (intOf i).toNat)
    case atStart=>exact ⟨0,Nat.zero_le _,rfl,hT,hrow,hrm,b⟩
    case round =>
     clear hT hrow b hrm
     obtain ⟨r,hr,rfl,hT,hrow,hrm,b⟩:=hrel
     by_cases hlr:r<4
     · have hri:(r:Int)<4:=by omega
       have hTu:RowAt .u8 wr w.heap.size 0 16 (upd (pr Z (fun _=>0) (4*c+r)) (4*c+r) (A c r 0)):=hT.congr (fun j _=>by
        unfold upd
        by_cases e:j=4*c+r
        · rw [if_pos e,hA0,e,pr_at]
        · rw [if_neg e])
       clear hT
       go_wp2
       go_loopw [8] (fun i wq=>∃ k:Nat,k≤4∧i = .int .i64 k∧RowAt .u8 wq w.heap.size 0 16 (upd (pr Z (fun _=>0) (4*c+r)) (4*c+r) (A c r k))∧RowAt .u8 wq bb 0 16 X∧RowAt .u8 wq gm' 0 4 M∧Below w.heap.size w wq) (fun i _=>4 - (intOf i).toNat)
       case atStart=>exact ⟨0,Nat.zero_le _,rfl,hTu,hrow,hrm,b⟩
       case round =>
        clear hTu hrow b hrm
        obtain ⟨k,hk,rfl,hT,hrow,hrm,b⟩:=hrel
        by_cases hlk:k<4
        · obtain ⟨r1,f1⟩:=hT (4*c+r) (by omega)
          obtain ⟨r2,-⟩:=hrm ((k+4 - r)%4) (by omega)
          obtain ⟨r3,-⟩:=hrow (4*c+k) (by omega)
          rw [Nat.zero_add] at r1 f1 r2 r3
          rw [show upd (pr Z (fun _=>0) (4*c+r)) (4*c+r) (A c r k) (4*c+r)=A c r k from if_pos rfl] at r1
          have hm:=hM ((k+4 - r)%4) (by omega)
          have hx:=hX (4*c+k) (by omega)
          have ct:=rtimes_any (M ((k+4 - r)%4)) (X (4*c+k)) hm hx
          have hq:=u8_xor_nat (A c r k) (gm (M ((k+4 - r)%4)) (X (4*c+k))) (hAl c r k) (gm_lt _ _ hm)
          rw [hAs] at hq
          have hs:=hT.set (i:=4*c+r) (by omega) (v:=(A c r (k+1):Int)) (u:=A c r (k+1)) rfl
          rw [Nat.zero_add] at hs
          replace hs:RowAt .u8 (wr.setCell ⟨w.heap.size,4*c+r,none⟩ (.int .u8 (A c r (k+1):Int))) w.heap.size 0 16 (upd (pr Z (fun _=>0) (4*c+r)) (4*c+r) (A c r (k+1))):=hs.congr (fun j _=>by
           unfold upd
           by_cases e:j=4*c+r
           · rw [if_pos e,if_pos e]
           · rw [if_neg e,if_neg e,if_neg e])
          obtain ⟨⟨p0,p6⟩,⟨e1,e2,e3⟩,e4,e5⟩:=i_mod c k r hlr hlk hlt
          have p1:(4*(c:Int)+(r:Int)).toNat=4*c+r:=by omega
          have p2:(0:Int)≤4*(c:Int)+(r:Int)∧4*(c:Int)+(r:Int)<16:=by omega
          have p3:(4*(c:Int)+(k:Int)).toNat=4*c+k:=by omega
          have p4:(0:Int)≤4*(c:Int)+(k:Int)∧4*(c:Int)+(k:Int)<16:=by omega
          have p5:(0:Int)≤(((k+4 - r)%4:Nat):Int)∧(((k+4 - r)%4:Nat):Int)<4:=by omega
          have m1:k+1≤4:=by omega
          have n1:¬w.heap.size=bb:=by omega
          have n2:¬w.heap.size=gm':=by omega
          generalize (k+4 - r)%4=q at *
          generalize gm (M q) (X (4*c+k))=T at *
          generalize M q=mq at *
          generalize X (4*c+k)=xk at *
          obtain ⟨A1,hA1⟩:∃ A1,A1=A c r (k+1):=⟨_,rfl⟩
          rw [←hA1] at hq
          have HA1:=Hid.mk' hA1
          have Hs:=Hid.mk' hs
          clear hA1 hs
          generalize A c r k=A0 at *
          clear hA4 hAl hA0 hAs hX hM hT hm hx
          go_wp2
          go_region_with (go_at_call 61;refine (ct _).mono ?_;rintro e w1 ⟨rfl,hw1⟩;subst hw1)
          all_goals
           clear ct hq r1 f1 r2 r3 p0 p1 p2 p3 p4 p5 p6 e1 e2 e3 e4 e5
           go_wp2
           go_roundw
           case rel =>
            have eA:=HA1.out
            subst eA
            exact ⟨k+1,m1,by go_num,Hs.out.drew,(hrow.far (by show w.heap.size≠bb;omega) _).drew,(hrm.far (by show w.heap.size≠gm';omega) _).drew,(b.setCell (Nat.le_refl _) _).drew⟩
           case measure=>simp [intOf];omega
        · obtain rfl:k=4:=by omega
          have hT':RowAt .u8 wr w.heap.size 0 16 (pr Z (fun _=>0) (4*c+(r+1))):=hT.congr (fun j _=>by
           rw [hA4 c r hlr]
           exact pr_step Z _ (4*c+r) j)
          have m1:r+1≤4:=by omega
          clear hA4 hAl hA0 hAs hX hM hT
          go_wp2
          go_roundw
          case rel=>exact ⟨r+1,m1,by go_num,hT',hrow,hrm,b⟩
          case measure=>simp [intOf];omega
     · obtain rfl:r=4:=by omega
       have m1:c+1≤4:=by omega
       clear hA4 hAl hA0 hAs hX hM
       go_wp2
       go_roundw
       case rel=>exact ⟨c+1,m1,by go_num,hT,hrow,hrm,b⟩
       case measure=>simp [intOf];omega
  · obtain rfl:c=4:=by omega
    have hT':=hT.congr (fun j hj=>pr_full Z _ hj)
    clear hA4 hAl hA0 hAs hX hM hT
    go_wp2
    go_ret
    exact ⟨_,rfl,⟨w.heap.size,16,rfl,Nat.le_refl _,hT'⟩,b⟩
end Go.Proofs.Ytalgabgofpmebaa
namespace Go.Proofs.Ytalgabgofpmebaa
open Go.RowKit
theorem mT_lt (j:Nat) (hj:j<4):mT j<256:=by
 rcases (show j=0∨j=1∨j=2∨j=3 by omega) with rfl | rfl | rfl | rfl <;> decide
theorem mT_row (w:World):RowS (w.alloc (.cells #[.int .u8 2,.int .u8 3,.int .u8 1,.int .u8 1] 5)) (.slice (some ⟨w.heap.size,0,none⟩) 4 4) 4 mT:=⟨w.heap.size,4,rfl,Nat.le_refl _,RowAt.fresh (fun j hj=>by
 rcases (show j=0∨j=1∨j=2∨j=3 by omega) with rfl | rfl | rfl | rfl <;> rfl)⟩
set_option maxRecDepth 20000 in
set_option maxHeartbeats 8000000 in
theorem rBlock_fresh (v u:Value) (ks bs:Nat→Nat) (hks:∀ j,ks j<256) (hbB:B16 bs) (w:World) (hv:BytesIn w v 16 ks) (hu:BytesIn w u 16 bs) :
 Calls Try.prog 44 #[v,u] w fun e w'=>∃ s,e = .returned (.tuple #[s,.int .i64 0])∧RowF w.heap.size w' s 16 (blkN (kyN ks) bs)∧Below w.heap.size w w':=by
 have hK:=kyN_lt hks
 have cb:=rboxes_any w
 have ck:=fun u W h hb=>rkeys_any v u ks hks W (hv.keep hb) h
 generalize kyN ks=K at *
 have ca:=fun s W hs hb=>add_any u s bs K 0 (by decide) hbB hK W (hu.keep hb) hs
 have hBB:∀ r,B16 (blkS K bs r):=blkS_B hbB hK
 have c1:=fun r v u W hv hu=>rthrough_any v u (blkS K bs r) boxN (hBB r) W hv hu
 have c2:=fun r v W hv=>rows1_any v (thrN boxN (blkS K bs r)) W hv
 have c3:=fun r v u W hv hu=>columns_any v u (rowN 1 (thrN boxN (blkS K bs r))) mT (rowN_B (box_B (hBB r)) 1) mT_lt W hv hu
 have c4:∀ r,r<9→∀ v u W,RowS W v 16 (colN mT (rowN 1 (thrN boxN (blkS K bs r))))→RowS W u 176 K→Calls Try.prog 49 #[v,u,.int .i64 ((r:Int)+1)] W fun e w'=>∃ s,e = .returned s∧RowS w' s 16 (blkS K bs (r+1))∧Below W.heap.size W w':=fun r hr v u W hv hu=>add_any v u _ K (r+1) (by omega) (colT_B (rowN_B (box_B (hBB r)) 1)) hK W (hv.bytes (by decide)) hu
 have c5:∀ v u W,RowS W v 16 (rowN 1 (thrN boxN (blkS K bs 9)))→RowS W u 176 K→Calls Try.prog 49 #[v,u,.int .i64 ((9:Nat)+1:Int)] W fun e w'=>∃ s,e = .returned s∧RowF W.heap.size w' s 16 (blkN K bs)∧Below W.heap.size W w':=fun v u W hv hu=>add_fresh v u _ K 10 (by decide) (rowN_B (box_B (hBB 9)) 1) hK W (hv.bytes (by decide)) hu
 have e0:addN K 0 bs=blkS K bs 0:=rfl
 rw [e0] at ca
 have hmT:=mT_row
 generalize hbl:blkN K bs=Z at *
 generalize blkS K bs=B at *
 obtain ⟨xk,ck',rfl,-,-,-⟩:=hv.src
 obtain ⟨xb,cb',rfl,-,-,-⟩:=hu.src
 clear hv hu hbB hK hBB e0 hks hbl
 go_enter Try.func44,Try.ntmps44
 go_wp2_with (first
  | (go_at_call 47;refine cb.mono ?_;clear cb;rintro e w1 ⟨v1,rfl,r1,b1⟩;(have ck1:=ck v1 w1 r1 b1);clear ck)
  | (go_at_call 48;refine ck1.mono ?_;clear ck1;rintro e w2 ⟨v2,rfl,r2,b2⟩;(replace r1:=r1.still b2);(replace b2:=below_next b1 b2);(have ca2:=ca v2 w2 r2 b2);clear ca b1)
  | (go_at_call 49;refine ca2.mono ?_;clear ca2;rintro e w3 ⟨v3,rfl,r3,b3⟩;(replace r1:=r1.still b3);(replace r2:=r2.still b3);(replace b3:=below_next b2 b3);clear b2))
 go_loopw [8,9] (fun x i wr=>∃ k:Nat,k≤10∧i = .int .i64 ((k:Int)+1)∧(k<10→RowS wr x 16 (B k))∧(k=10→RowF w.heap.size wr x 16 Z)∧RowS wr v1 256 boxN∧RowS wr v2 176 K∧Below w.heap.size w wr) (fun _ i _=>11 - (intOf i).toNat)
 case atStart=>exact ⟨0,by decide,rfl,fun _=>r3,fun h=>by omega,r1,r2,b3⟩
 case round =>
  clear r1 r2 r3 b3
  obtain ⟨k,hk,rfl,hx,hxz,r1,r2,b⟩:=hrel
  by_cases hlt:k<9
  · have hx0:=hx (by omega)
    have d1:=c1 k _ _ wr hx0 r1
    have d2:=c2 k
    have d3:=c3 k
    have d4:=c4 k hlt
    have q1:(k:Int)+1≤10:=by omega
    have q2:(k:Int)+1<10:=by omega
    have m1:k+1≤10:=by omega
    have m2:k+1<10:=by omega
    clear c1 c2 c3 c4 c5 hx hxz
    go_wp2_with (first
     | (go_at_call 51;refine d1.mono ?_;clear d1;rintro e w4 ⟨v4,rfl,r4,b4⟩;(replace r1:=r1.still b4);(replace r2:=r2.still b4);(replace b:=below_next b b4);(have d2':=d2 v4 w4 r4);clear d2 b4)
     | (go_at_call 50;refine d2'.mono ?_;clear d2';rintro e w5 ⟨v5,rfl,r5,b5⟩;(have bA:Below w5.heap.size w5 (w5.alloc (.cells #[.int .u8 2,.int .u8 3,.int .u8 1,.int .u8 1] 5)):=(Below.refl _ _).alloc (Nat.le_refl _) _);(replace r1:=(r1.still b5).still bA);(replace r2:=(r2.still b5).still bA);(replace b:=below_next (below_next b b5) bA);(have d3':=d3 v5 _ _ (r5.still bA) (hmT w5));clear d3 b5)
     | (go_at_call 52;refine d3'.mono ?_;clear d3';rintro e w6 ⟨v6,rfl,r6,b6⟩;(replace r1:=r1.still b6);(replace r2:=r2.still b6);(replace b:=below_next b b6);(have d4':=d4 v6 v2 w6 r6 r2);clear d4 b6)
     | (go_at_call 49;refine d4'.mono ?_;clear d4';rintro e w7 ⟨v7,rfl,r7,b7⟩;(replace r1:=r1.still b7);(replace r2:=r2.still b7);(replace b:=below_next b b7)))
    go_roundw
    case rel=>exact ⟨k+1,m1,by go_num,fun _=>r7,fun h=>by omega,r1,r2,b⟩
    case measure=>simp [intOf];omega
  · by_cases h9:k=9
    · subst h9
      have hx0:=hx (by decide)
      have d1:=c1 9 _ _ wr hx0 r1
      have d2:=c2 9
      clear c1 c2 c3 c4 hx hxz
      go_wp2_with (first
       | (go_at_call 51;refine d1.mono ?_;clear d1;rintro e w4 ⟨v4,rfl,r4,b4⟩;(replace r1:=r1.still b4);(replace r2:=r2.still b4);(replace b:=below_next b b4);(have d2':=d2 v4 w4 r4);clear d2 b4)
       | (go_at_call 50;refine d2'.mono ?_;clear d2';rintro e w5 ⟨v5,rfl,r5,b5⟩;(replace r1:=r1.still b5);(replace r2:=r2.still b5);(replace b:=below_next b b5);(have d5':=c5 v5 v2 w5 r5 r2);(have hs5:=b.size);clear c5 b5)
       | (go_at_call 49;refine d5'.mono ?_;clear d5';rintro e w7 ⟨v7,rfl,r7,b7⟩;(replace r1:=r1.still b7);(replace r2:=r2.still b7);(replace b:=below_next b b7)))
      go_roundw
      case rel=>exact ⟨10,by decide,by go_num,fun h=>by omega,fun _=>r7.mono hs5,r1,r2,b⟩
      case measure=>simp [intOf]
    · obtain rfl:k=10:=by omega
      have hz:=hxz rfl
      clear c1 c2 c3 c4 c5 hx hxz
      go_wp2
      go_ret2
      exact ⟨_,rfl,hz,b⟩
theorem rBlock_good (v u:Value) (ks bs:Nat→Nat) (hks:∀ j,ks j<256) (hbB:B16 bs) (w:World) (hv:BytesIn w v 16 ks) (hu:BytesIn w u 16 bs) :
 Calls Try.prog 44 #[v,u] w fun e w'=>∃ s,e = .returned (.tuple #[s,.int .i64 0])∧RowS w' s 16 (blkN (kyN ks) bs)∧Below w.heap.size w w' :=
 (rBlock_fresh v u ks bs hks hbB w hv hu).mono fun _ _ ⟨s,he,hr,hb⟩=>⟨s,he,hr.row,hb⟩
end Go.Proofs.Ytalgabgofpmebaa
namespace Go.Proofs.Ytalgabgofpmebaa
open Go.RowKit
theorem bit_fact (x k:Nat) (hx:x<256):(bits .and .u8 ((x:Int) / 2 ^ k) 1 == 1)=x.testBit k:=by
 have q1:=u8_and_nat (x / 2 ^ k) 1 (Nat.lt_of_le_of_lt (Nat.div_le_self _ _) hx) (by decide)
 rw [Nat.and_one_is_mod] at q1
 have q2:bits .and .u8 ((x:Int) / 2 ^ k) 1=((x / 2 ^ k%2:Nat):Int):=by rw [←q1];simp
 rw [q2,Nat.testBit_eq_decide_div_mod_eq]
 by_cases h:x / 2 ^ k%2=1
 · rw [h];rfl
 · have h0:x / 2 ^ k%2=0:=by omega
   rw [h0];rfl
set_option maxHeartbeats 1000000 in
theorem bit_any (v:Value) (X:Nat→Nat) (i:Nat) (hi:i<128) (hX:B16 X) (w:World) (hv:BytesIn w v 16 X) :
 Calls Try.prog 37 #[v,.int .i64 i] w fun e w'=>e = .returned (.bool (bitN X i))∧w'=w:=by
 obtain ⟨bb,ob,cb,rfl,hbb,hcb,hcell⟩:=hv.resolve_left (fun ⟨_,_,h⟩=>by omega)
 have r:=hcell (i / 8) (by omega)
 have hq:=bit_fact (X (i / 8)) (7 - i%8) (hX _ (by omega))
 rw [show (X (i / 8)).testBit (7 - i%8)=bitN X i from rfl] at hq
 generalize bitN X i=B at *
 generalize X (i / 8)=x at *
 have q1:(0:Int)≤(i:Int) / 8∧(i:Int) / 8<16:=by omega
 have q2:((i:Int) / 8).toNat=i / 8:=by omega
 have q3:(7 - (i:Int)%8).toNat=7 - i%8:=by omega
 have q4:(0:Int)≤7 - (i:Int)%8∧7 - (i:Int)%8<8:=by omega
 clear hcell hX hv
 go_enter Try.func37,Try.ntmps37
 go_wp2
 go_ret
 exact ⟨rfl,rfl⟩
def shK (X:Nat→Nat) (k j:Nat):Nat:=if k<j then (X j / 2 ||| X (j - 1)*128%256) else X j
set_option maxRecDepth 20000 in
set_option maxHeartbeats 8000000 in
theorem rtm_any (v u:Value) (a b:Nat→Nat) (ha:B16 a) (hbB:B16 b) (w:World) (hv:BytesIn w v 16 a) (hu:BytesIn w u 16 b) :
 Calls Try.prog 26 #[v,u] w fun e w'=>∃ s,e = .returned s∧RowF w.heap.size w' s 16 (tmN a b)∧Below w.heap.size w w':=by
 have hmk:=make_bytes w 16 16 rfl (by decide)
 have hp0:=RowAt.zero w 16 5
 have b1:Below w.heap.size w (w.alloc (.cells (zb 16) 5)):=(Below.refl _ _).alloc (Nat.le_refl _) _
 have hW1:(w.alloc (.cells (zb 16) 5)).heap.size=w.heap.size+1:=by simp
 obtain ⟨xv,cv,rfl,hxn,-,hsrc⟩:=hv.src
 generalize w.alloc (.cells (zb 16) 5)=W at *
 have bA:Below W.heap.size W (W.alloc (.cells #[] 5)):=(Below.refl _ _).alloc (Nat.le_refl _) _
 have src0:=hsrc _ (below_next b1 bA)
 have hfin:=tmP_tm b ha
 have hP0:tmP a b 0=fun _=>0:=rfl
 have hX0:tmX a 0=a:=rfl
 obtain ⟨xu,cu,rfl,-,-,-⟩:=hu.src
 generalize tmN a b=Z at *
 have HW1:=Hid.mk' hW1
 clear hsrc hv bA hW1
 go_enter Try.func26,Try.ntmps26
 go_wp2_with (first
  | rw [hmk]
  | (at_builtin;refine wpList_append_empty rfl (.tmp 12) (.tmp 13) rfl W.heap.size a _ rfl rfl xv 16 cv rfl src0 hxn (by decide) (Nat.le_refl _) ?_;intro v2 w2 own2 hb2;(obtain ⟨gx,cx,hv2,hgx,-,hcx,hx0⟩:=own2.form.resolve_left (fun h=>by omega));subst hv2;clear src0 own2))
 have hW1:=HW1.out
 have hp1:=hp0.still hb2
 have bw0:=below_next b1 hb2
 have ngx:w.heap.size<gx:=by omega
 clear hp0 hb2 b1 hW1 hgx hmk hxn
 go_loopw [7] (fun i wr=>∃ k:Nat,k≤128∧i = .int .i64 k∧RowAt .u8 wr w.heap.size 0 16 (tmP a b k)∧RowAt .u8 wr gx 0 16 (tmX a k)∧Below w.heap.size w wr) (fun i _=>128 - (intOf i).toNat)
 case atStart=>exact ⟨0,Nat.zero_le _,rfl,hp1,hx0,bw0⟩
 case round =>
  clear hp1 hx0 bw0
  obtain ⟨i,hi,rfl,hp,hx,bw⟩:=hrel
  by_cases hlt:i<128
  · have cb:=bit_any (.slice xu 16 cu) b i hlt hbB wr (hu.keep bw)
    have hnx:tmP a b (i+1)=if bitN b i then fun j=>tmP a b i j ^^^ tmX a i j else tmP a b i:=rfl
    have hii:(0:Int)≤(i:Int)∧(i:Int)<128:=by omega
    by_cases hbit:bitN b i=true
    · rw [if_pos hbit] at hnx
      rw [hbit] at cb
      have hpB:=tmP_B (b:=b) ha i
      have hxB:=tmX_B ha i
      obtain ⟨Q,hQ⟩:∃ Q,Q=tmP a b i:=⟨_,rfl⟩
      obtain ⟨X,hX⟩:∃ X,X=tmX a i:=⟨_,rfl⟩
      obtain ⟨Q2,hQ2⟩:∃ Q2,Q2=tmP a b (i+1):=⟨_,rfl⟩
      rw [←hQ,←hX,←hQ2] at hnx
      rw [←hQ] at hp hpB
      rw [←hX] at hx hxB
      have hqe:∀ j,Q j ^^^ X j=Q2 j:=fun j=>by rw [hnx]
      clear hnx hbit
      go_upto_region 7 with (go_at_call 37;refine cb.mono ?_;clear cb;rintro e w3 ⟨rfl,hw3⟩;subst hw3)
      go_wp2
      go_loopw [8] (fun k wq=>∃ m:Nat,m≤16∧k = .int .i64 m∧RowAt .u8 wq w.heap.size 0 16 (pr Q2 Q m)∧RowAt .u8 wq gx 0 16 X∧Below w.heap.size w wq) (fun k _=>16 - (intOf k).toNat)
      case atStart=>exact ⟨0,Nat.zero_le _,rfl,hp,hx,bw⟩
      case round =>
       clear hp hx bw
       obtain ⟨m,hm,rfl,hp,hx,bw⟩:=hrel
       by_cases hlm:m<16
       · obtain ⟨r1,f1⟩:=hp m hlm
         obtain ⟨r2,-⟩:=hx m hlm
         rw [Nat.zero_add] at r1 f1 r2
         rw [pr_at] at r1
         have hq:=u8_xor_nat (Q m) (X m) (hpB m hlm) (hxB m hlm)
         rw [hqe m] at hq
         have hs:=hp.next hlm (v:=(Q2 m:Int)) rfl
         have q1:(0:Int)≤(m:Int)∧(m:Int)<16:=by omega
         have m1:m+1≤16:=by omega
         have n1:¬w.heap.size=gx:=by omega
         clear hqe hpB hxB hQ hX hQ2 hfin hP0 hX0 ha hbB hu
         go_wp2
         go_region
         go_wp2
         go_roundw
         case rel=>exact ⟨m+1,m1,by go_num,hs.drew,(hx.far (by show w.heap.size≠gx;omega) _).drew,(bw.setCell (Nat.le_refl _) _).drew⟩
         case measure=>simp [intOf];omega
       · obtain rfl:m=16:=by omega
         replace hp:=hp.congr (fun j hj=>pr_full Q2 Q hj)
         rw [hQ2] at hp
         clear hqe hpB hQ hQ2
         rw [hX] at hx
         clear hxB hX
         have ct:=bit_any (.slice (some ⟨gx,0,none⟩) 16 cx) (tmX a i) 127 (by decide) (tmX_B ha i)
         have hxw:=hx
         go_upto_region 12 with (go_at_call 37;refine (ct _ (rowB hxw (by decide) hcx)).mono ?_;clear ct;rintro e w9 ⟨rfl,hw9⟩;subst hw9)
         obtain ⟨top,htop⟩:∃ top,top=bitN (tmX a i) 127:=⟨_,rfl⟩
         rw [←htop]
         have hxB:=tmX_B ha i
         have hsn:∀ j,tmX a (i+1) j=shN (tmX a i) j:=fun _=>rfl
         have hpB:=tmP_B (b:=b) ha (i+1)
         generalize hX:tmX a i=X at *
         clear hxw
         go_wp2
         go_loopw [10] (fun k wq=>∃ m:Nat,m≤15∧k = .int .i64 m∧RowAt .u8 wq gx 0 16 (shK X m)∧RowAt .u8 wq w.heap.size 0 16 (tmP a b (i+1))∧Below w.heap.size w wq) (fun k _=>(intOf k).toNat)
         case atStart=>exact ⟨15,Nat.le_refl _,rfl,hx.congr (fun j hj=>by unfold shK;rw [if_neg (by omega)]),hp,bw⟩
         case round =>
          clear hx hp bw
          obtain ⟨m,hm,rfl,hx,hp,bw⟩:=hrel
          by_cases h0:0<m
          · obtain ⟨n,rfl⟩:∃ n,m=n+1:=⟨m - 1,by omega⟩
            obtain ⟨r1,f1⟩:=hx (n+1) (by omega)
            obtain ⟨r2,-⟩:=hx n (by omega)
            rw [Nat.zero_add] at r1 f1 r2
            rw [show shK X (n+1) (n+1)=X (n+1) from if_neg (by omega)] at r1
            rw [show shK X (n+1) n=X n from if_neg (by omega)] at r2
            have b1:=hxB (n+1) (by omega)
            have b2:=hxB n (by omega)
            have hq:=u8_or_nat (X (n+1) / 2) (X n*128%256) (by omega) (Nat.mod_lt _ (by decide))
            have hs:=hx.set (i:=n+1) (by omega) (v:=((X (n+1) / 2 ||| X n*128%256:Nat):Int)) (u:=X (n+1) / 2 ||| X n*128%256) rfl
            rw [Nat.zero_add] at hs
            replace hs:=hs.congr (Y:=shK X n) (fun j _=>by
             unfold upd shK
             by_cases e:j=n+1
             · subst e;rw [if_pos rfl,if_pos (by omega)];rfl
             · rw [if_neg e]
               by_cases e2:n+1<j
               · rw [if_pos e2,if_pos (by omega)]
               · rw [if_neg e2,if_neg (by omega)])
            obtain ⟨y,hy⟩:∃ y,y=X (n+1) / 2 ||| X n*128%256:=⟨_,rfl⟩
            rw [←hy] at hq hs
            push_cast at hq
            generalize X (n+1)=x1 at *
            generalize X n=x0 at *
            have q1:(0:Int)<((n+1:Nat):Int):=by omega
            have q2:((n+1:Nat):Int) - 1=(n:Int):=by omega
            have q2':IntKind.i64.wrap (((n+1:Nat):Int) - 1)=(n:Int):=by simp only [IntKind.wrap_i64];omega
            have q3:(0:Int)≤((n+1:Nat):Int)∧((n+1:Nat):Int)<16:=by omega
            have q4:(0:Int)≤(n:Int)∧(n:Int)<16:=by omega
            have q5:((n+1:Nat):Int).toNat=n+1:=by omega
            have m1:n≤15:=by omega
            clear hy hsn hX htop hxB hpB ha hbB
            go_wp2
            go_region
            go_wp2
            go_roundw
            case rel=>exact ⟨n,m1,by go_num,hs.drew,(hp.far (by show gx≠w.heap.size;omega) _).drew,(bw.setCell (by show w.heap.size≤gx;omega) _).drew⟩
            case measure=>simp [intOf]
          · obtain rfl:m=0:=by omega
            obtain ⟨r1,f1⟩:=hx 0 (by decide)
            rw [Nat.zero_add] at r1 f1
            rw [show shK X 0 0=X 0 from if_neg (by omega)] at r1
            have b1:=hxB 0 (by decide)
            have m1:i+1≤128:=by omega
            have hx1:=hx.set (i:=0) (by decide) (v:=((X 0 / 2:Nat):Int)) (u:=X 0 / 2) rfl
            have hp1:=hp.far (a:=⟨gx,0,none⟩) (by show gx≠w.heap.size;omega) (.int .u8 ((X 0 / 2:Nat):Int))
            have bw1:=bw.setCell (p:=⟨gx,0,none⟩) (by show w.heap.size≤gx;omega) (.int .u8 ((X 0 / 2:Nat):Int))
            by_cases ht:top=true
            · have hxf:∀ j,j<16→upd (upd (shK X 0) 0 (X 0 / 2)) 0 (X 0 / 2 ^^^ 225) j=tmX a (i+1) j:=fun j _=>by
               rw [hsn]
               unfold shN upd shK
               rw [←htop,ht]
               by_cases e:j=0
               · subst e;rw [if_pos rfl,if_pos rfl,if_pos rfl]
               · rw [if_neg e,if_neg e,if_neg e,if_pos (by omega)]
              obtain ⟨r2,f2⟩:=hx1 0 (by decide)
              rw [Nat.zero_add] at r2 f2
              have hq:=u8_xor_nat (X 0 / 2) 225 (by omega) (by decide)
              push_cast at hq
              have hx2:=(hx1.set (i:=0) (by decide) (v:=((X 0 / 2 ^^^ 225:Nat):Int)) (u:=X 0 / 2 ^^^ 225) rfl).congr hxf
              have hp2:=hp1.far (a:=⟨gx,0,none⟩) (by show gx≠w.heap.size;omega) (.int .u8 ((X 0 / 2 ^^^ 225:Nat):Int))
              have bw2:=bw1.setCell (p:=⟨gx,0,none⟩) (by show w.heap.size≤gx;omega) (.int .u8 ((X 0 / 2 ^^^ 225:Nat):Int))
              push_cast at hx2 hp2 bw2
              clear hxf hsn hX hxB hpB hx hp bw hx1 hp1 bw1 htop
              subst ht
              go_wp2
              go_roundw
              case rel=>exact ⟨i+1,m1,by go_num,hp2,hx2,bw2⟩
              case measure=>simp [intOf];omega
            · have hxf:∀ j,j<16→upd (shK X 0) 0 (X 0 / 2) j=tmX a (i+1) j:=fun j _=>by
               rw [hsn]
               unfold shN upd shK
               rw [←htop]
               by_cases e:j=0
               · subst e;rw [if_pos rfl,if_pos rfl,if_neg ht]
               · rw [if_neg e,if_neg e,if_pos (by omega)]
              have hx2:=hx1.congr hxf
              have hp2:=hp1
              have bw2:=bw1
              push_cast at hx2 hp2 bw2
              have ht':top=false:=eq_false_of_ne_true ht
              clear hxf hsn hX hxB hpB hx hp bw hx1 hp1 bw1 htop ht
              subst ht'
              go_wp2
              go_roundw
              case rel=>exact ⟨i+1,m1,by go_num,hp2,hx2,bw2⟩
              case measure=>simp [intOf];omega
    · have hbf:bitN b i=false:=eq_false_of_ne_true hbit
      rw [if_neg hbit] at hnx
      rw [hbf] at cb
      rw [←hnx] at hp
      clear hnx hbit
      go_upto_region 11 with (go_at_call 37;refine cb.mono ?_;clear cb;rintro e w3 ⟨rfl,hw3⟩;subst hw3)
      have ct:=bit_any (.slice (some ⟨gx,0,none⟩) 16 cx) (tmX a i) 127 (by decide) (tmX_B ha i)
      have hxw:=hx
      go_upto_region 12 with (go_at_call 37;refine (ct _ (rowB hxw (by decide) hcx)).mono ?_;clear ct;rintro e w9 ⟨rfl,hw9⟩;subst hw9)
      obtain ⟨top,htop⟩:∃ top,top=bitN (tmX a i) 127:=⟨_,rfl⟩
      rw [←htop]
      have hxB:=tmX_B ha i
      have hsn:∀ j,tmX a (i+1) j=shN (tmX a i) j:=fun _=>rfl
      have hpB:=tmP_B (b:=b) ha (i+1)
      generalize hX:tmX a i=X at *
      clear hxw
      go_wp2
      go_loopw [10] (fun k wq=>∃ m:Nat,m≤15∧k = .int .i64 m∧RowAt .u8 wq gx 0 16 (shK X m)∧RowAt .u8 wq w.heap.size 0 16 (tmP a b (i+1))∧Below w.heap.size w wq) (fun k _=>(intOf k).toNat)
      case atStart=>exact ⟨15,Nat.le_refl _,rfl,hx.congr (fun j hj=>by unfold shK;rw [if_neg (by omega)]),hp,bw⟩
      case round =>
       clear hx hp bw
       obtain ⟨m,hm,rfl,hx,hp,bw⟩:=hrel
       by_cases h0:0<m
       · obtain ⟨n,rfl⟩:∃ n,m=n+1:=⟨m - 1,by omega⟩
         obtain ⟨r1,f1⟩:=hx (n+1) (by omega)
         obtain ⟨r2,-⟩:=hx n (by omega)
         rw [Nat.zero_add] at r1 f1 r2
         rw [show shK X (n+1) (n+1)=X (n+1) from if_neg (by omega)] at r1
         rw [show shK X (n+1) n=X n from if_neg (by omega)] at r2
         have b1:=hxB (n+1) (by omega)
         have b2:=hxB n (by omega)
         have hq:=u8_or_nat (X (n+1) / 2) (X n*128%256) (by omega) (Nat.mod_lt _ (by decide))
         have hs:=hx.set (i:=n+1) (by omega) (v:=((X (n+1) / 2 ||| X n*128%256:Nat):Int)) (u:=X (n+1) / 2 ||| X n*128%256) rfl
         rw [Nat.zero_add] at hs
         replace hs:=hs.congr (Y:=shK X n) (fun j _=>by
          unfold upd shK
          by_cases e:j=n+1
          · subst e;rw [if_pos rfl,if_pos (by omega)];rfl
          · rw [if_neg e]
            by_cases e2:n+1<j
            · rw [if_pos e2,if_pos (by omega)]
            · rw [if_neg e2,if_neg (by omega)])
         obtain ⟨y,hy⟩:∃ y,y=X (n+1) / 2 ||| X n*128%256:=⟨_,rfl⟩
         rw [←hy] at hq hs
         push_cast at hq
         generalize X (n+1)=x1 at *
         generalize X n=x0 at *
         have q1:(0:Int)<((n+1:Nat):Int):=by omega
         have q2:((n+1:Nat):Int) - 1=(n:Int):=by omega
         have q2':IntKind.i64.wrap (((n+1:Nat):Int) - 1)=(n:Int):=by simp only [IntKind.wrap_i64];omega
         have q3:(0:Int)≤((n+1:Nat):Int)∧((n+1:Nat):Int)<16:=by omega
         have q4:(0:Int)≤(n:Int)∧(n:Int)<16:=by omega
         have q5:((n+1:Nat):Int).toNat=n+1:=by omega
         have m1:n≤15:=by omega
         clear hy hsn hX htop hxB hpB ha hbB
         go_wp2
         go_region
         go_wp2
         go_roundw
         case rel=>exact ⟨n,m1,by go_num,hs.drew,(hp.far (by show gx≠w.heap.size;omega) _).drew,(bw.setCell (by show w.heap.size≤gx;omega) _).drew⟩
         case measure=>simp [intOf]
       · obtain rfl:m=0:=by omega
         obtain ⟨r1,f1⟩:=hx 0 (by decide)
         rw [Nat.zero_add] at r1 f1
         rw [show shK X 0 0=X 0 from if_neg (by omega)] at r1
         have b1:=hxB 0 (by decide)
         have m1:i+1≤128:=by omega
         have hx1:=hx.set (i:=0) (by decide) (v:=((X 0 / 2:Nat):Int)) (u:=X 0 / 2) rfl
         have hp1:=hp.far (a:=⟨gx,0,none⟩) (by show gx≠w.heap.size;omega) (.int .u8 ((X 0 / 2:Nat):Int))
         have bw1:=bw.setCell (p:=⟨gx,0,none⟩) (by show w.heap.size≤gx;omega) (.int .u8 ((X 0 / 2:Nat):Int))
         by_cases ht:top=true
         · have hxf:∀ j,j<16→upd (upd (shK X 0) 0 (X 0 / 2)) 0 (X 0 / 2 ^^^ 225) j=tmX a (i+1) j:=fun j _=>by
            rw [hsn]
            unfold shN upd shK
            rw [←htop,ht]
            by_cases e:j=0
            · subst e;rw [if_pos rfl,if_pos rfl,if_pos rfl]
            · rw [if_neg e,if_neg e,if_neg e,if_pos (by omega)]
           obtain ⟨r2,f2⟩:=hx1 0 (by decide)
           rw [Nat.zero_add] at r2 f2
           have hq:=u8_xor_nat (X 0 / 2) 225 (by omega) (by decide)
           push_cast at hq
           have hx2:=(hx1.set (i:=0) (by decide) (v:=((X 0 / 2 ^^^ 225:Nat):Int)) (u:=X 0 / 2 ^^^ 225) rfl).congr hxf
           have hp2:=hp1.far (a:=⟨gx,0,none⟩) (by show gx≠w.heap.size;omega) (.int .u8 ((X 0 / 2 ^^^ 225:Nat):Int))
           have bw2:=bw1.setCell (p:=⟨gx,0,none⟩) (by show w.heap.size≤gx;omega) (.int .u8 ((X 0 / 2 ^^^ 225:Nat):Int))
           push_cast at hx2 hp2 bw2
           clear hxf hsn hX hxB hpB hx hp bw hx1 hp1 bw1 htop
           subst ht
           go_wp2
           go_roundw
           case rel=>exact ⟨i+1,m1,by go_num,hp2,hx2,bw2⟩
           case measure=>simp [intOf];omega
         · have hxf:∀ j,j<16→upd (shK X 0) 0 (X 0 / 2) j=tmX a (i+1) j:=fun j _=>by
            rw [hsn]
            unfold shN upd shK
            rw [←htop]
            by_cases e:j=0
            · subst e;rw [if_pos rfl,if_pos rfl,if_neg ht]
            · rw [if_neg e,if_neg e,if_pos (by omega)]
           have hx2:=hx1.congr hxf
           have hp2:=hp1
           have bw2:=bw1
           push_cast at hx2 hp2 bw2
           have ht':top=false:=eq_false_of_ne_true ht
           clear hxf hsn hX hxB hpB hx hp bw hx1 hp1 bw1 htop ht
           subst ht'
           go_wp2
           go_roundw
           case rel=>exact ⟨i+1,m1,by go_num,hp2,hx2,bw2⟩
           case measure=>simp [intOf];omega
  · obtain rfl:i=128:=by omega
    have hp':=hp.congr hfin
    clear hfin
    go_wp2
    go_ret
    exact ⟨_,rfl,⟨w.heap.size,16,rfl,Nat.le_refl _,Nat.le_refl _,hp'⟩,bw⟩
end Go.Proofs.Ytalgabgofpmebaa
namespace Go.Proofs.Ytalgabgofpmebaa
open Go.RowKit
def slLen:Value→Nat
 | .slice _ n _=>n
 | _=>0
theorem Own.sl {base:Nat} {w:World} {v:Value} {n:Nat} {X:Nat→Nat} (h:Own base w v n X):∃ xo c,v = .slice xo n c:=by
 rcases h.form with ⟨rfl,rfl⟩ | ⟨g,cap,rfl,_⟩
 · exact ⟨none,0,rfl⟩
 · exact ⟨_,cap,rfl⟩
theorem Own.srcOf {base:Nat} {w:World} {v:Value} {n:Nat} {X:Nat→Nat} (h:Own base w v n X):∃ xo c,v = .slice xo n c∧(xo=none→c=0)∧∀ w',Below w.heap.size w w'→Src w' xo n X:=by
 rcases h.form with ⟨rfl,rfl⟩ | ⟨g,cap,rfl,_,hg,_,hr⟩
 · exact ⟨none,0,rfl,fun _=>rfl,fun _ _ => .inl rfl⟩
 · exact ⟨_,cap,rfl,(fun h=>by cases h),fun w' hb => .inr ⟨g,0,rfl,fun j hj=>((hr.still hb) j hj).1⟩⟩
theorem Own.bytesOf {base:Nat} {w:World} {v:Value} {n:Nat} {X:Nat→Nat} (h:Own base w v n X):BytesIn w v n X:=by
 rcases h.form with ⟨rfl,rfl⟩ | ⟨g,cap,rfl,_,hg,hc,hr⟩
 · exact .inl ⟨none,rfl,rfl⟩
 · exact .inr ⟨g,0,cap,rfl,hg,hc,fun j hj=>(hr j hj).1⟩
set_option maxRecDepth 20000 in
set_option maxHeartbeats 4000000 in
theorem full_any (v:Value) (n:Nat) (bs:Nat→Nat) (w:World) (hv:BytesIn w v n bs) (hn:n<140737488355300) :
 Calls Try.prog 29 #[v] w fun e w'=>∃ s,e = .returned s∧Own w.heap.size w' s (pad n) (padN n bs)∧Below w.heap.size w w':=by
 obtain ⟨xv,cv,rfl,hxn,-,hsrc⟩:=hv.src
 have src0:=hsrc _ ((Below.refl _ _).alloc (Nat.le_refl _) (.cells #[] 5))
 clear hsrc hv
 go_enter Try.func29,Try.ntmps29
 go_wp2_with (at_builtin;refine wpList_append_empty rfl (.tmp 4) (.tmp 5) rfl w.heap.size bs _ rfl rfl xv n cv rfl src0 hxn (by omega) (Nat.le_refl _) ?_;intro v1 w1 own1 hb1;clear src0)
 go_loopw [3] (fun o wr=>∃ m:Nat,n≤m∧m≤pad n∧Own w.heap.size wr o m (padN n bs)∧Below w.heap.size w wr) (fun o _=>pad n - slLen o)
 case atStart=>exact ⟨n,Nat.le_refl _,by unfold pad;omega,own1.congr (fun j hj=>by unfold padN;rw [if_pos hj]),hb1⟩
 case round =>
  clear own1 hb1
  obtain ⟨m,hnm,hmp,own,b⟩:=hrel
  obtain ⟨xo,c,rfl⟩:=own.sl
  by_cases h16:m%16=0
  · have e:m=pad n:=by unfold pad at *;omega
    have q:((m:Int)%16 != 0)=false:=by
     have:(m:Int)%16=0:=by omega
     rw [this];rfl
    subst e
    go_wp2
    go_ret
    exact ⟨_,rfl,own,b⟩
  · have hlt:m<pad n:=by
     rcases Nat.lt_or_ge m (pad n) with h | h
     · exact h
     · have:m=pad n:=Nat.le_antisymm hmp h
       unfold pad at this;omega
    have q:((m:Int)%16 != 0)=true:=bne_iff_ne.2 (by omega)
    have hF:(0:Int)=((padN n bs m:Nat):Int):=by unfold padN;rw [if_neg (by omega)];rfl
    have HF:=Hid.mk' hF
    clear hF
    have hs:=b.size
    have hm2:m+1≤140737488355328:=by unfold pad at hlt;omega
    go_wp2_with (at_builtin;refine wpList_append_next rfl (.tmp 11) (.tmp 12) rfl w.heap.size _ m (padN n bs) _ rfl own rfl HF.out hm2 hs ?_;intro v2 w2 own2 hb2;(have b2:=b.trans hb2);clear own;(obtain ⟨xo2,c2,hv2⟩:=own2.sl);subst hv2)
    go_roundw
    case rel=>exact ⟨m+1,by omega,hlt,own2,b2⟩
    case measure=>show pad n - (m+1)<pad n - m;omega
set_option maxHeartbeats 1000000 in
theorem length_any (n:Nat) (hn:n<1000000) (w:World) :
 Calls Try.prog 45 #[.int .i64 n] w fun e w'=>∃ s,e = .returned s∧RowS w' s 8 (lnN n)∧Below w.heap.size w w':=by
 have e1:IntKind.i64.wrap (8*(n:Int))=8*(n:Int):=by simp only [IntKind.wrap_i64];omega
 go_enter Try.func45,Try.ntmps45
 go_wp2
 go_ret
 refine ⟨_,rfl,⟨w.heap.size,8,rfl,Nat.le_refl _,RowAt.fresh (fun j hj => ?_)⟩,(Below.refl _ _).alloc (Nat.le_refl _) _⟩
 have e:∀ {x:Int} {y:Nat},x=(y:Int)→some (Value.int .u8 x)=some (.int .u8 (y:Int)):=fun h=>by rw [h]
 rcases (show j=0∨j=1∨j=2∨j=3∨j=4∨j=5∨j=6∨j=7 by omega) with rfl | rfl | rfl | rfl | rfl | rfl | rfl | rfl
 · exact e rfl
 · exact e rfl
 · exact e rfl
 · exact e rfl
 · exact e (by show _=((8*n / 16777216%256:Nat):Int);omega)
 · exact e (by show _=((8*n / 65536%256:Nat):Int);omega)
 · exact e (by show _=((8*n / 256%256:Nat):Int);omega)
 · exact e (by show _=((8*n / 1%256:Nat):Int);omega)
def ctN (nonce:Nat→Nat) (n j:Nat):Nat:=if j<12 then nonce j else be4 n (j - 12)
theorem ctN_B {nonce:Nat→Nat} (h:∀ j,nonce j<256) (n:Nat):B16 (ctN nonce n):=fun j _=>by
 unfold ctN
 split
 · exact h j
 · exact be4_lt _ _
def ctB (ks nonce:Nat→Nat) (n:Nat):Nat→Nat:=blkN (kyN ks) (ctN nonce n)
theorem ctB_B {ks nonce:Nat→Nat} (hk:∀ j,ks j<256) (h:∀ j,nonce j<256) (n:Nat):B16 (ctB ks nonce n):=blkN_B (ctN_B h n) (kyN_lt hk)
set_option maxRecDepth 20000 in
set_option maxHeartbeats 2000000 in
theorem counter_any (v u:Value) (ks nn:Nat→Nat) (n:Nat) (hn:n<1000000) (hks:∀ j,ks j<256) (hnn:∀ j,nn j<256) (w:World) (hv:BytesIn w v 16 ks) (hu:BytesIn w u 12 nn) :
 Calls Try.prog 43 #[v,u,.int .i64 n] w fun e w'=>∃ s,e = .returned s∧RowF w.heap.size w' s 16 (ctB ks nn n)∧Below w.heap.size w w':=by
 obtain ⟨xu,cu,rfl,hxn,-,hsrc⟩:=hu.src
 have src0:=hsrc _ ((Below.refl _ _).alloc (Nat.le_refl _) (.cells #[] 5))
 have cB:=fun x W hb hx=>rBlock_fresh v x ks (ctN nn n) hks (ctN_B hnn n) W (hv.keep hb) hx
 rw [show blkN (kyN ks) (ctN nn n)=ctB ks nn n from rfl] at cB
 obtain ⟨xv,cv,rfl,-,-,-⟩:=hv.src
 have hcat:∀ j,j<16→cat 12 nn (be4 n) j=ctN nn n j:=fun j _=>rfl
 have hbe:∀ (W:World),Src (W.alloc (.cells #[.int .u8 ((n:Int) / 16777216),.int .u8 ((n:Int) / 65536),.int .u8 ((n:Int) / 256%256),.int .u8 ((n:Int)%256)] 5)) (some ⟨W.heap.size,0,none⟩) 4 (be4 n):=fun W => .inr ⟨W.heap.size,0,rfl,fun j hj=>by
  have e:∀ {x:Int} {y:Nat},x=(y:Int)→some (Value.int .u8 x)=some (.int .u8 (y:Int)):=fun h=>by rw [h]
  rw [Nat.zero_add]
  rcases (show j=0∨j=1∨j=2∨j=3 by omega) with rfl | rfl | rfl | rfl
  · simp only [World.cell?_alloc_new]
    exact e (by show _=((n / 16777216%256:Nat):Int);omega)
  · simp only [World.cell?_alloc_new]
    exact e (by show _=((n / 65536%256:Nat):Int);omega)
  · simp only [World.cell?_alloc_new]
    exact e (by show _=((n / 256%256:Nat):Int);omega)
  · simp only [World.cell?_alloc_new]
    exact e (by show _=((n / 1%256:Nat):Int);omega)⟩
 clear hsrc hu hv hks hnn
 generalize ctB ks nn n=Z at *
 go_enter Try.func43,Try.ntmps43
 go_wp2_with (first
  | (at_builtin;refine wpList_append_empty rfl (.tmp 10) (.tmp 11) rfl w.heap.size nn _ rfl rfl xu 12 cu rfl src0 hxn (by decide) (Nat.le_refl _) ?_;intro v1 w1 own1 hb1;clear src0;have hs1:=hb1.size)
  | (at_builtin;refine wpList_append_bytes rfl (.tmp 12) (.tmp 24) rfl w.heap.size v1 12 nn rfl (own1.alloc _) _ 4 4 (be4 n) rfl (hbe w1) (fun h=>by cases h) (by decide) (by simp only [World.size_alloc];omega) ?_;intro v2 w2 own2 grow2;(have b2:=Own.grown (hb1.alloc hs1 _) grow2 (own1.alloc _) (Nat.le_refl _) (by simp only [World.size_alloc];omega));(have cB2:=cB v2 w2 b2 ((own2.congr hcat).bytesOf));clear cB own1 own2 grow2 hb1)
  | (go_at_call 44;refine cB2.mono ?_;clear cB2;rintro e w3 ⟨s3,rfl,r3,hb3⟩))
 go_ret
 exact ⟨s3,rfl,r3.mono b2.size,below_next b2 hb3⟩
end Go.Proofs.Ytalgabgofpmebaa
namespace Go.Proofs.Ytalgabgofpmebaa
open Go.RowKit
def hsS (h X:Nat→Nat):Nat→Nat→Nat
 | 0=>fun _=>0
 | k+1=>tmN (fun j=>hsS h X k j ^^^ X (16*k+j)) h
def hsN (h:Nat→Nat) (n:Nat) (X:Nat→Nat):Nat→Nat:=hsS h (padN n X) (pad n / 16)
theorem hsS_lt (h X:Nat→Nat) (k j:Nat):hsS h X k j<256:=by
 cases k with
 | zero=>exact (by decide:0<256)
 | succ k=>exact tmN_lt _ _ j
set_option maxRecDepth 20000 in
set_option maxHeartbeats 8000000 in
theorem rHash_good (v u:Value) (n:Nat) (hs bs:Nat→Nat) (hB:B16 hs) (hbs:∀ j,bs j<256) (hn:n<140737488355300) (w:World) (hv:BytesIn w v 16 hs) (hu:BytesIn w u n bs) :
 Calls Try.prog 17 #[v,u] w fun e w'=>∃ s,e = .returned (.tuple #[s,.int .i64 0])∧RowF w.heap.size w' s 16 (hsN hs n bs)∧Below w.heap.size w w':=by
 have hmk:=make_bytes w 16 16 rfl (by decide)
 have hy0:=RowAt.zero w 16 5
 have b1:Below w.heap.size w (w.alloc (.cells (zb 16) 5)):=(Below.refl _ _).alloc (Nat.le_refl _) _
 have hW1:(w.alloc (.cells (zb 16) 5)).heap.size=w.heap.size+1:=by simp
 have cf:=fun W hb=>full_any u n bs W (hu.keep hb) (by omega)
 have cf1:=cf _ b1
 have hpl:pad n<140737488355328:=by unfold pad;omega
 have hp16:pad n%16=0:=by unfold pad;omega
 have hXl:∀ j,padN n bs j<256:=padN_lt hbs
 have hfin:hsN hs n bs=hsS hs (padN n bs) (pad n / 16):=rfl
 have hst:∀ k,hsS hs (padN n bs) (k+1)=tmN (fun j=>hsS hs (padN n bs) k j ^^^ padN n bs (16*k+j)) hs:=fun _=>rfl
 have hsl:=hsS_lt hs (padN n bs)
 have hs0:hsS hs (padN n bs) 0=fun _=>0:=rfl
 have ct:=fun k x W hb hx=>rtm_any x v (fun j=>hsS hs (padN n bs) k j ^^^ padN n bs (16*k+j)) hs (fun j _=>xor_byte (hsl k j) (hXl _)) hB W hx (hv.keep hb)
 obtain ⟨Hs,hHs⟩:∃ Hs,Hs=hsS hs (padN n bs):=⟨_,rfl⟩
 simp only [←hHs] at hst ct hsl hs0 hfin
 simp only [←hst] at ct
 generalize hN:pad n=N at *
 generalize padN n bs=X at *
 rw [hfin]
 obtain ⟨xv,cv,rfl,-,-,-⟩:=hv.src
 obtain ⟨xu,cu,rfl,-,-,-⟩:=hu.src
 generalize w.alloc (.cells (zb 16) 5)=W at *
 have HW1:=Hid.mk' hW1
 obtain ⟨Z,hZ⟩:∃ Z,Z=Hs (N / 16):=⟨_,rfl⟩
 rw [←hZ]
 have HZ:=Hid.mk' hZ
 clear hv hu cf hW1 hHs hfin hZ hN hst hB
 go_enter Try.func17,Try.ntmps17
 go_wp2_with (first
  | rw [hmk]
  | (go_at_call 29;refine cf1.mono ?_;clear cf1;rintro e w2 ⟨s2,rfl,own2,hb2⟩;(obtain ⟨xo,cx,hv2⟩:=own2.sl);subst hv2))
 have hW1:=HW1.out
 have hy1:=hy0.still hb2
 have bw0:=below_next b1 hb2
 have nW:w.heap.size<W.heap.size:=by omega
 clear hy0 b1 hW1 HW1 hmk
 by_cases h0:N=0
 · subst h0
   have hz:Z=Hs 0:=HZ.out
   rw [hs0] at hz
   subst hz
   clear ct hsl hXl hs0 own2 hpl hp16
   go_loopw [6,8] (fun y i wr=>y = .slice (some ⟨w.heap.size,0,none⟩) 16 16∧i = .int .i64 0∧wr=w2) (fun _ _ _=>0)
   case atStart=>exact ⟨rfl,rfl,rfl⟩
   case round =>
    obtain ⟨rfl,rfl,hwr⟩:=hrel
    subst hwr
    go_wp2
    go_ret2
    exact ⟨_,rfl,⟨w.heap.size,16,rfl,Nat.le_refl _,Nat.le_refl _,hy1⟩,bw0⟩
 · obtain ⟨gx,cx',hvx,hgx,hgxl,-,hx0⟩:=own2.form.resolve_left (fun h=>h0 h.2)
   cases hvx
   have nyx:w.heap.size≠gx:=by omega
   rw [←hs0] at hy1
   clear own2 hb2 hs0
   go_loopw [6,8] (fun y i wr=>∃ k gy cy:Nat,16*k≤N∧y = .slice (some ⟨gy,0,none⟩) 16 cy∧16≤cy∧i = .int .i64 ((16*k:Nat):Int)∧w.heap.size≤gy∧gy≠gx∧RowAt .u8 wr gy 0 16 (Hs k)∧RowAt .u8 wr gx 0 N X∧Below w.heap.size w wr) (fun _ i _=>N - (intOf i).toNat)
   case atStart=>exact ⟨0,w.heap.size,16,Nat.zero_le _,rfl,Nat.le_refl _,rfl,Nat.le_refl _,nyx,hy1,hx0,bw0⟩
   case round =>
    clear hy1 hx0 bw0 nyx
    obtain ⟨k,gy,cy,hk,rfl,hcy,rfl,wgy,nyx,hy,hx,bw⟩:=hrel
    by_cases hlt:16*k<N
    · have hlt':((16*k:Nat):Int)<(N:Int):=by omega
      have hfit:16*k+16≤N:=by omega
      have c1:=ct k
      have hyl:=hsl k
      obtain ⟨Y,hYe⟩:∃ Y,Y=Hs k:=⟨_,rfl⟩
      rw [←hYe] at hy hyl c1
      obtain ⟨Y2,hY2⟩:∃ Y2:Nat→Nat,Y2=fun j=>Y j ^^^ X (16*k+j):=⟨_,rfl⟩
      have hqe:∀ j,Y j ^^^ X (16*k+j)=Y2 j:=fun j=>by rw [hY2]
      rw [←hY2] at c1
      clear hY2 hYe ct
      go_wp2
      go_loopw [9] (fun q wq=>∃ m:Nat,m≤16∧q = .int .i64 m∧RowAt .u8 wq gy 0 16 (pr Y2 Y m)∧RowAt .u8 wq gx 0 N X∧Below w.heap.size w wq) (fun q _=>16 - (intOf q).toNat)
      case atStart=>exact ⟨0,Nat.zero_le _,rfl,hy,hx,bw⟩
      case round =>
       clear hy hx bw
       obtain ⟨m,hm,rfl,hy,hx,bw⟩:=hrel
       by_cases hlm:m<16
       · obtain ⟨r1,f1⟩:=hy m hlm
         obtain ⟨r2,-⟩:=hx (16*k+m) (by omega)
         rw [Nat.zero_add] at r1 f1 r2
         rw [pr_at] at r1
         have hq:=u8_xor_nat (Y m) (X (16*k+m)) (hyl m) (hXl _)
         rw [hqe m] at hq
         have hs:=hy.next hlm (v:=(Y2 m:Int)) rfl
         have q1:(0:Int)≤(m:Int)∧(m:Int)<16:=by omega
         have q2:(0:Int)≤16*(k:Int)+(m:Int)∧16*(k:Int)+(m:Int)<(N:Int):=by omega
         have q3:(16*(k:Int)+(m:Int)).toNat=16*k+m:=by omega
         have q4:IntKind.i64.wrap (16*(k:Int)+(m:Int))=16*(k:Int)+(m:Int):=by simp only [IntKind.wrap_i64];omega
         have q5:((16*k:Nat):Int)=16*(k:Int):=by omega
         have m1:m+1≤16:=by omega
         have n1:¬gy=gx:=nyx
         clear hqe hyl hXl c1 hsl
         go_wp2
         go_region
         go_wp2
         go_roundw
         case rel=>exact ⟨m+1,m1,by go_num,hs.drew,(hx.far (by show gy≠gx;exact nyx) _).drew,(bw.setCell wgy _).drew⟩
         case measure=>simp [intOf];omega
       · obtain rfl:m=16:=by omega
         replace hy:=hy.congr (fun j hj=>pr_full Y2 Y hj)
         have c2:=c1 _ wr bw (rowB hy (by decide) hcy)
         have m1:16*(k+1)≤N:=by omega
         have e1:((16*k:Nat):Int)+16=((16*(k+1):Nat):Int):=by omega
         have e2:IntKind.i64.wrap (((16*k:Nat):Int)+16)=((16*(k+1):Nat):Int):=by simp only [IntKind.wrap_i64];omega
         have gxl:gx<wr.heap.size:=block_lt_of_cell (hx 0 (by omega)).1
         clear hqe hyl hXl c1 hsl
         go_wp2_with (go_at_call 26;refine c2.mono ?_;clear c2;rintro e w5 ⟨s5,rfl,⟨g5,c5,hs5,hg5,hc5,r5⟩,hb5⟩;subst hs5)
         go_roundw
         case rel=>exact ⟨k+1,g5,c5,m1,rfl,hc5,by go_num,Nat.le_trans bw.size hg5,by omega,r5,hx.still hb5,below_next bw hb5⟩
         case measure=>simp [intOf];omega
    · have hke:k=N / 16:=by omega
      have hlt':¬((16*k:Nat):Int)<(N:Int):=by omega
      have hZ:=HZ.out
      rw [←hke] at hZ
      rw [←hZ] at hy
      clear ct hsl hXl hZ hke
      go_wp2
      go_ret2
      exact ⟨_,rfl,⟨gy,cy,rfl,wgy,hcy,hy⟩,bw⟩
end Go.Proofs.Ytalgabgofpmebaa
namespace Go.Proofs.Ytalgabgofpmebaa
open Go.RowKit
theorem run_append_gen (w:World) (base:Nat) (v:Value) (n:Nat) (F:Nat→Nat) (y:Int) (hF:y=(F n:Int)) (hown:Own base w v n F) (hl:n+1≤1000000) (hbase:base≤w.heap.size) :
 ∃ g' cap' w',(Builtin.append_ #[22,22] 22 #[v,.slice (some ⟨w.heap.size,0,none⟩) 1 1]).run Try.prog (w.alloc (.cells #[.int .u8 y] 5)) = .ok (.slice (some ⟨g',0,none⟩) (n+1) cap') w' ∧
  Own base w' (.slice (some ⟨g',0,none⟩) (n+1) cap') (n+1) F∧Below base w w'∧((∃ c,v = .slice (some ⟨g',0,none⟩) n c)∨w.heap.size≤g')∧(∀ b o,b<w.heap.size→(∀ c,v ≠ .slice (some ⟨b,0,none⟩) n c)→w'.cell? ⟨b,o,none⟩=w.cell? ⟨b,o,none⟩∧w'.frozen? ⟨b,o,none⟩=w.frozen? ⟨b,o,none⟩):=by
 rcases hown.form with ⟨rfl,rfl⟩ | ⟨g,cap,rfl,-,-,-,-⟩
 · obtain ⟨i0,hi,hz0,hz1,hz2⟩:=info_parts Try.info5
   subst hF
   have hbA:Below w.heap.size w (w.alloc (.cells #[.int .u8 (F 0:Int)] 5)):=(Below.refl _ _).alloc (Nat.le_refl _) _
   have hz:base≤(w.alloc (.cells #[.int .u8 (F 0:Int)] 5)).heap.size:=Nat.le_trans hbase hbA.size
   have ownA:=hown.below hbA
   obtain ⟨v',w',hr,h1,h2,h3,h5⟩:=run_append_own_at (P:=Try.prog) _ base 22 22 5 i0 (.int .u8 0) 1 1 Try.underlying22 hi hz0 hz1 hz2 rfl (by decide) _ 0 _ ownA ⟨w.heap.size,0,none⟩ 1 1 [.int .u8 (F 0:Int)] rfl (one_new w (.int .u8 (F 0:Int)) 5) (one_cell _ _) (by unfold maxLen;omega) (by omega) hz
   have o1:Own base w' v' 1 F:=by
    unfold Own
    exact h1
   obtain ⟨g',cap',rfl,-,-,-,-⟩:=o1.form.resolve_left (fun h=>by omega)
   refine ⟨g',cap',w',hr,o1,?_,.inr ?_,fun b o hb _ => ?_⟩
   · exact (hbA.mono hbase).trans (Own.grown (v := .slice none 0 0) (Below.refl _ _) h2 ownA (Nat.le_refl _) hz)
   · rcases h5 with h5 | h5
     · cases h5
     · have e:g'=(w.alloc (.cells #[.int .u8 (F 0:Int)] 5)).heap.size:=by simpa [Value.ownBlock] using h5
       rw [e];exact hbA.size
   · have hk:=h2.block b (by have:=hbA.size;omega) (by simp [Value.ownBlock])
     exact ⟨(World.cell?_of_block hk).trans (hbA.cell (p:=⟨b,o,none⟩) hb),(World.frozen?_of_block hk).trans (hbA.frozen (p:=⟨b,o,none⟩) hb)⟩
 · obtain ⟨g',cap',w',h1,h2,h3,h4,h5,-⟩:=run_append_both w base g cap n F y hF hown hl hbase
   refine ⟨g',cap',w',h1,h2,h3,?_,fun b o hb hne=>h5 b o hb (fun e=>hne cap (by rw [e]))⟩
   rcases h4 with rfl | h4
   · exact .inl ⟨cap,rfl⟩
   · exact .inr h4
theorem step_append_gen {ops:Array Oper} {o:Oper} {a:Act} {w:World} {K:Act→World→Prop} {Q:Exit→Act→World→Prop} {E:Prop} (hgd:o.guard=none) (s x:Operand)
 (ho:o.op = .call { callee := .builtin .append,args:=#[s,x],argTypes:=#[22,22] }) (hty:o.type=22) (base:Nat) (v:Value) (n:Nat) (F:Nat→Nat) (y:Int) (hs:a.eval s=v) (hown:Own base w v n F) (h:Nat) (hh:w.heap.size=h) (hx:a.eval x = .slice (some ⟨h,0,none⟩) 1 1) (hF:y=(F n:Int))
 (hl:n+1≤1000000) (hbase:base≤w.heap.size)
 (H:∀ g' cap' w',Own base w' (.slice (some ⟨g',0,none⟩) (n+1) cap') (n+1) F→Below base w w'→((∃ c,v = .slice (some ⟨g',0,none⟩) n c)∨w.heap.size≤g')→(∀ b o,b<w.heap.size→(∀ c,v ≠ .slice (some ⟨b,0,none⟩) n c)→w'.cell? ⟨b,o,none⟩=w.cell? ⟨b,o,none⟩∧w'.frozen? ⟨b,o,none⟩=w.frozen? ⟨b,o,none⟩)→K (a.put o.dst (.slice (some ⟨g',0,none⟩) (n+1) cap')) w') :
 if Region.wanted o (yielded ops a.tmps)=true then Oper.wp Try.prog o a (w.alloc (.cells #[.int .u8 y] 5)) K Q else E:=by
 have hw:Region.wanted o (yielded ops a.tmps)=true:=by simp [Region.wanted,hgd]
 rw [if_pos hw]
 subst hh
 obtain ⟨g',cap',w',hrun,h1,h2,h3,h4⟩:=run_append_gen w base v n F y hF hown hl hbase
 unfold Oper.wp
 simp [execOp,ho,hty,resolve,invoke,builtin,hs,hx,hrun,Result.andThen]
 exact H g' cap' w' h1 h2 h3 h4
theorem Own.ne_two {base:Nat} {w w':World} {v:Value} {n g:Nat} {X:Nat→Nat} (_:Own base w' v n X) (h:Own base w v n X) (hg:w.heap.size≤g):∀ c,v ≠ .slice (some ⟨g,0,none⟩) n c:=fun c e=>by
 subst e
 rcases h.form with ⟨e,_⟩ | ⟨g',cap',e,_,hl,_⟩
 · cases e
 · cases e;omega
theorem Own.ne_old {base:Nat} {w:World} {v:Value} {n g:Nat} {X:Nat→Nat} (h:Own base w v n X) (hg:g<base):∀ c,v ≠ .slice (some ⟨g,0,none⟩) n c:=fun c e=>by
 subst e
 rcases h.form with ⟨e,_⟩ | ⟨g',cap',e,hb,_,_⟩
 · cases e
 · cases e;omega
def trN (ks nn X:Nat→Nat) (j:Nat):Nat:=X j ^^^ ctB ks nn (2+j / 16) (j%16)
theorem trN_lt {ks nn X:Nat→Nat} (hk:∀ j,ks j<256) (hn:∀ j,nn j<256) (hX:∀ j,X j<256) (j:Nat):trN ks nn X j<256:=xor_byte (hX j) (ctB_B hk hn _ _ (by omega))
set_option maxRecDepth 20000 in
set_option maxHeartbeats 8000000 in
theorem turned_r (v u t:Value) (n:Nat) (ks nn X:Nat→Nat) (hn:n<200000) (hks:∀ j,ks j<256) (hnn:∀ j,nn j<256) (hX:∀ j,X j<256) (w:World) (hv:BytesIn w v 16 ks) (hu:BytesIn w u 12 nn) (ht:BytesIn w t n X) :
 Calls Try.prog 33 #[v,u,t] w fun e w'=>∃ s,e = .returned s∧Own w.heap.size w' s n (trN ks nn X)∧Below w.heap.size w w':=by
 have cc:=fun k (hk:k<1000000) W hb=>counter_any v u ks nn k hk hks hnn W (hv.keep hb) (hu.keep hb)
 have hcB:=fun k=>ctB_B hks hnn k
 have hTe:∀ j,X j ^^^ ctB ks nn (2+j / 16) (j%16)=trN ks nn X j:=fun _=>rfl
 generalize trN ks nn X=T at *
 generalize ctB ks nn=C at *
 obtain ⟨xv,cv,rfl,-,-,-⟩:=hv.src
 obtain ⟨xu,cu,rfl,-,-,-⟩:=hu.src
 obtain ⟨xt,ct,rfl,-,-,-⟩:=ht.src
 clear hv hu hks hnn
 go_enter Try.func33,Try.ntmps33
 go_wp2
 go_loopw [7,8,9] (fun o x i wr=>∃ k:Nat,k≤n∧i = .int .i64 k∧Own w.heap.size wr o k T∧(k%16≠0→∃ gx cx,x = .slice (some ⟨gx,0,none⟩) 16 cx∧RowAt .u8 wr gx 0 16 (C (2+k / 16))∧(∀ c,o ≠ .slice (some ⟨gx,0,none⟩) k c))∧Below w.heap.size w wr) (fun _ _ i _=>n - (intOf i).toNat)
 case atStart=>exact ⟨0,Nat.zero_le _,rfl,Own.nil _ _ _,fun h=>absurd rfl h,Below.refl _ _⟩
 case round =>
  obtain ⟨k,hk,rfl,own,hxk,b⟩:=hrel
  by_cases hlt:k<n
  · obtain ⟨bb,ob,cb,hvt,hbb,-,hcell⟩:=ht.resolve_left (fun ⟨_,_,h⟩=>by omega)
    cases hvt
    have hlt':(k:Int)<(n:Int):=by omega
    have hq:=u8_xor_nat (X k) (C (2+k / 16) (k%16)) (hX k) (hcB _ _ (by omega))
    rw [hTe k] at hq
    have r1:wr.cell? ⟨bb,ob+k,none⟩=some (.int .u8 (X k)):=(b.cell (p:=⟨bb,ob+k,none⟩) hbb).trans (hcell k hlt)
    have q1:(0:Int)≤(k:Int)∧(k:Int)<(n:Int):=by omega
    have q2:(0:Int)≤(k:Int)%16∧(k:Int)%16<16:=by omega
    have q3:((k:Int)%16).toNat=k%16:=by omega
    have m1:k+1≤n:=by omega
    have m2:k+1≤1000000:=by omega
    by_cases h16:k%16=0
    · have q4:((k:Int)%16 == 0)=true:=beq_iff_eq.2 (by omega)
      obtain ⟨z,hz⟩:∃ z,z=2+k / 16:=⟨_,rfl⟩
      have e1:IntKind.i64.wrap (2+(k:Int) / 16)=(z:Int):=by simp only [IntKind.wrap_i64];omega
      have e2:2+(k:Int) / 16=(z:Int):=by omega
      have c1:=cc z (by omega) wr b
      have Hz:=Hid.mk' hz
      clear hz
      clear cc hxk
      go_upto_region 8 with (go_at_call 43;refine c1.mono ?_;clear c1;rintro e w3 ⟨s3,rfl,⟨gx,cx,hs3,hgx,hcx,hr3⟩,hb3⟩;subst hs3)
      rw [Hz.out] at hr3
      have nox:=(own.below hb3).ne_two own hgx
      have own3:=own.below hb3
      have b3:=below_next b hb3
      have r13:w3.cell? ⟨bb,ob+k,none⟩=some (.int .u8 (X k)):=(b3.cell (p:=⟨bb,ob+k,none⟩) hbb).trans (hcell k hlt)
      clear e1 e2 r1 hb3 hgx
      obtain ⟨r2,-⟩:=hr3 (k%16) (by omega)
      obtain ⟨r,hr⟩:∃ r,r=k%16:=⟨_,rfl⟩
      have t1:(k:Int).tmod 16=(r:Int):=by rw [Int.tmod_eq_emod_of_nonneg (by omega)];omega
      have t3:(0:Int)≤(r:Int)∧(r:Int)<16:=by omega
      have hnext:(k+1)%16≠0→2+(k+1) / 16=2+k / 16:=fun h=>by omega
      rw [←hr] at r2 hq
      rw [Nat.zero_add] at r2
      have gxl:gx<w3.heap.size:=block_lt_of_cell r2
      have bbl:bb<w3.heap.size:=Nat.lt_of_lt_of_le hbb b3.size
      have nob:=own3.ne_old hbb
      have own0:Own w.heap.size w3.drew _ k T:=own3.below ((Below.refl _ _).drew)
      have hsz0:w.heap.size≤w3.drew.heap.size:=b3.size
      obtain ⟨y1,hy1⟩:∃ y,y=X k:=⟨_,rfl⟩
      obtain ⟨y2,hy2⟩:∃ y,y=C (2+k / 16) r:=⟨_,rfl⟩
      rw [←hy1] at r13 hq
      rw [←hy2] at r2 hq
      have hS0:w3.drew.cell? ⟨bb,ob+k,none⟩=some (.int .u8 y1)∧w3.drew.cell? ⟨gx,r,none⟩=some (.int .u8 y2):=⟨r13,r2⟩
      have hSA:∀ ob':Obj,(w3.drew.alloc ob').cell? ⟨bb,ob+k,none⟩=some (.int .u8 y1)∧(w3.drew.alloc ob').cell? ⟨gx,r,none⟩=some (.int .u8 y2):=fun ob'=>by
       have hb:Below w3.drew.heap.size w3.drew (w3.drew.alloc ob'):=(Below.refl _ _).alloc (Nat.le_refl _) _
       exact ⟨(hb.cell (p:=⟨bb,ob+k,none⟩) bbl).trans r13,(hb.cell (p:=⟨gx,r,none⟩) gxl).trans r2⟩
      have hS1:∀ w':World,(w'.cell? ⟨bb,ob+k,none⟩=some (.int .u8 y1)∧w'.cell? ⟨gx,r,none⟩=some (.int .u8 y2))→w'.cell? ⟨bb,ob+k,none⟩=some (.int .u8 y1):=fun _ h=>h.1
      have hS2:∀ w':World,(w'.cell? ⟨bb,ob+k,none⟩=some (.int .u8 y1)∧w'.cell? ⟨gx,r,none⟩=some (.int .u8 y2))→w'.cell? ⟨gx,r,none⟩=some (.int .u8 y2):=fun _ h=>h.2
      clear hr q2 q3 q4 h16 hy1 hy2 hcB hTe hX hcell ht r13 r2 own own3 b
      go_region_held3 (fun w'=>w'.cell? ⟨bb,ob+k,none⟩=some (.int .u8 y1)∧w'.cell? ⟨gx,r,none⟩=some (.int .u8 y2)) (first | assumption | exact hSA _) (first | (refine step_append_gen rfl (.tmp 25) (.tmp 36) rfl rfl w.heap.size _ k T _ rfl own0 _ rfl rfl rfl m2 hsz0 ?_;intro g' cap' w' own1 hbx2 hg' hfar;(have hSw:w'.cell? ⟨bb,ob+k,none⟩=some (.int .u8 y1)∧w'.cell? ⟨gx,r,none⟩=some (.int .u8 y2):=⟨(hfar _ _ bbl nob).1.trans hS0.1,(hfar _ _ gxl nox).1.trans hS0.2⟩)))
      have hrT1:RowAt .u8 w' gx 0 16 (C (2+k / 16)):=fun j hj=>by
       obtain ⟨a1,a2⟩:=hr3 j hj
       obtain ⟨c1,c2⟩:=hfar gx (0+j) gxl nox
       exact ⟨c1.trans a1,c2.trans a2⟩
      have ng':∀ c,Value.slice (some ⟨g',0,none⟩) (k+1) cap' ≠ .slice (some ⟨gx,0,none⟩) (k+1) c:=fun c e=>by
       cases e
       rcases hg' with ⟨c',e'⟩ | h
       · exact nox c' e'
       · exact absurd gxl (Nat.not_lt.2 h)
      have b':Below w.heap.size w w':=(b3.drew).trans hbx2
      clear hS0 hSA hS1 hS2 hq hfar hg' hbx2 own0 hr3
      go_wp2
      go_roundw
      case rel=>exact ⟨k+1,m1,by go_num,own1,fun h=>⟨gx,cx,rfl,by rw [hnext h];exact hrT1,ng'⟩,b'⟩
      case measure=>simp [intOf];omega
    · have q4:((k:Int)%16 == 0)=false:=beq_false_of_ne (by omega)
      obtain ⟨gx,cx,hs3,hr3,nox⟩:=hxk h16
      subst hs3
      have own3:=own
      have b3:=b
      have r13:=r1
      clear r1 hxk
      go_upto_region 8 with (fail)
      obtain ⟨r2,-⟩:=hr3 (k%16) (by omega)
      obtain ⟨r,hr⟩:∃ r,r=k%16:=⟨_,rfl⟩
      have t1:(k:Int).tmod 16=(r:Int):=by rw [Int.tmod_eq_emod_of_nonneg (by omega)];omega
      have t3:(0:Int)≤(r:Int)∧(r:Int)<16:=by omega
      have hnext:(k+1)%16≠0→2+(k+1) / 16=2+k / 16:=fun h=>by omega
      rw [←hr] at r2 hq
      rw [Nat.zero_add] at r2
      have gxl:gx<wr.heap.size:=block_lt_of_cell r2
      have bbl:bb<wr.heap.size:=Nat.lt_of_lt_of_le hbb b3.size
      have nob:=own3.ne_old hbb
      have own0:Own w.heap.size wr.drew _ k T:=own3.below ((Below.refl _ _).drew)
      have hsz0:w.heap.size≤wr.drew.heap.size:=b3.size
      obtain ⟨y1,hy1⟩:∃ y,y=X k:=⟨_,rfl⟩
      obtain ⟨y2,hy2⟩:∃ y,y=C (2+k / 16) r:=⟨_,rfl⟩
      rw [←hy1] at r13 hq
      rw [←hy2] at r2 hq
      have hS0:wr.drew.cell? ⟨bb,ob+k,none⟩=some (.int .u8 y1)∧wr.drew.cell? ⟨gx,r,none⟩=some (.int .u8 y2):=⟨r13,r2⟩
      have hSA:∀ ob':Obj,(wr.drew.alloc ob').cell? ⟨bb,ob+k,none⟩=some (.int .u8 y1)∧(wr.drew.alloc ob').cell? ⟨gx,r,none⟩=some (.int .u8 y2):=fun ob'=>by
       have hb:Below wr.drew.heap.size wr.drew (wr.drew.alloc ob'):=(Below.refl _ _).alloc (Nat.le_refl _) _
       exact ⟨(hb.cell (p:=⟨bb,ob+k,none⟩) bbl).trans r13,(hb.cell (p:=⟨gx,r,none⟩) gxl).trans r2⟩
      have hS1:∀ w':World,(w'.cell? ⟨bb,ob+k,none⟩=some (.int .u8 y1)∧w'.cell? ⟨gx,r,none⟩=some (.int .u8 y2))→w'.cell? ⟨bb,ob+k,none⟩=some (.int .u8 y1):=fun _ h=>h.1
      have hS2:∀ w':World,(w'.cell? ⟨bb,ob+k,none⟩=some (.int .u8 y1)∧w'.cell? ⟨gx,r,none⟩=some (.int .u8 y2))→w'.cell? ⟨gx,r,none⟩=some (.int .u8 y2):=fun _ h=>h.2
      clear hr q2 q3 q4 h16 hy1 hy2 hcB hTe hX hcell ht r13 r2 cc own
      go_region_held3 (fun w'=>w'.cell? ⟨bb,ob+k,none⟩=some (.int .u8 y1)∧w'.cell? ⟨gx,r,none⟩=some (.int .u8 y2)) (first | assumption | exact hSA _) (first | (refine step_append_gen rfl (.tmp 25) (.tmp 36) rfl rfl w.heap.size _ k T _ rfl own0 _ rfl rfl rfl m2 hsz0 ?_;intro g' cap' w' own1 hbx2 hg' hfar;(have hSw:w'.cell? ⟨bb,ob+k,none⟩=some (.int .u8 y1)∧w'.cell? ⟨gx,r,none⟩=some (.int .u8 y2):=⟨(hfar _ _ bbl nob).1.trans hS0.1,(hfar _ _ gxl nox).1.trans hS0.2⟩)))
      have hrT1:RowAt .u8 w' gx 0 16 (C (2+k / 16)):=fun j hj=>by
       obtain ⟨a1,a2⟩:=hr3 j hj
       obtain ⟨c1,c2⟩:=hfar gx (0+j) gxl nox
       exact ⟨c1.trans a1,c2.trans a2⟩
      have ng':∀ c,Value.slice (some ⟨g',0,none⟩) (k+1) cap' ≠ .slice (some ⟨gx,0,none⟩) (k+1) c:=fun c e=>by
       cases e
       rcases hg' with ⟨c',e'⟩ | h
       · exact nox c' e'
       · exact absurd gxl (Nat.not_lt.2 h)
      have b':Below w.heap.size w w':=(b3.drew).trans hbx2
      clear hS0 hSA hS1 hS2 hq hfar hg' hbx2 own0 hr3
      go_wp2
      go_roundw
      case rel=>exact ⟨k+1,m1,by go_num,own1,fun h=>⟨gx,cx,rfl,by rw [hnext h];exact hrT1,ng'⟩,b'⟩
      case measure=>simp [intOf];omega
  · obtain rfl:k=n:=by omega
    clear cc hcB hTe hX hxk
    go_wp2
    go_ret
    exact ⟨_,rfl,own,b⟩
end Go.Proofs.Ytalgabgofpmebaa
namespace Go.Proofs.Ytalgabgofpmebaa
open Go.RowKit
def auN (ml:Nat) (M:Nat→Nat) (dl:Nat) (D:Nat→Nat):Nat→Nat:=cat (pad ml+pad dl+8) (cat (pad ml+pad dl) (cat (pad ml) (padN ml M) (padN dl D)) (lnN ml)) (lnN dl)
def h0N (ks:Nat→Nat):Nat→Nat:=blkN (kyN ks) (fun _=>0)
def tgN (ks nn:Nat→Nat) (ml:Nat) (M:Nat→Nat) (dl:Nat) (D:Nat→Nat) (j:Nat):Nat:=ctB ks nn 1 j ^^^ hsN (h0N ks) (pad ml+pad dl+16) (auN ml M dl D) j
theorem lnN_lt (n j:Nat):lnN n j<256:=by
 unfold lnN
 split
 · decide
 · exact be4_lt _ _
theorem auN_lt {ml dl:Nat} {M D:Nat→Nat} (hM:∀ j,M j<256) (hD:∀ j,D j<256):∀ j,auN ml M dl D j<256:=cat_lt (cat_lt (cat_lt (padN_lt hM) (padN_lt hD)) (lnN_lt _)) (lnN_lt _)
theorem hsN_lt (h:Nat→Nat) (n:Nat) (X:Nat→Nat) (j:Nat):hsN h n X j<256:=hsS_lt _ _ _ j
theorem RowS.srcOf {w:World} {v:Value} {n:Nat} {X:Nat→Nat} (h:RowS w v n X):∃ g c,v = .slice (some ⟨g,0,none⟩) n c∧∀ w',Below w.heap.size w w'→Src w' (some ⟨g,0,none⟩) n X:=by
 obtain ⟨g,cap,rfl,hc,hr⟩:=h
 exact ⟨g,cap,rfl,fun w' hb => .inr ⟨g,0,rfl,fun j hj=>((hr.still hb) j hj).1⟩⟩
set_option maxRecDepth 20000 in
set_option maxHeartbeats 8000000 in
theorem rtag_any (v u m d:Value) (ml dl:Nat) (ks nn M D:Nat→Nat) (hml:ml<200000) (hdl:dl<200000) (hks:∀ j,ks j<256) (hnn:∀ j,nn j<256) (hM:∀ j,M j<256) (hD:∀ j,D j<256) (w:World) (hv:BytesIn w v 16 ks) (hu:BytesIn w u 12 nn) (hm:BytesIn w m ml M) (hd:BytesIn w d dl D) :
 Calls Try.prog 34 #[v,u,m,d] w fun e w'=>∃ s,e = .returned s∧RowF w.heap.size w' s 16 (tgN ks nn ml M dl D)∧Below w.heap.size w w':=by
 have hmk:=make_bytes w 16 16 rfl (by decide)
 have hz0:=RowAt.zero w 16 5
 have b1:Below w.heap.size w (w.alloc (.cells (zb 16) 5)):=(Below.refl _ _).alloc (Nat.le_refl _) _
 have cB:=rBlock_good v (.slice (some ⟨w.heap.size,0,none⟩) 16 16) ks (fun _=>0) hks (fun _ _=>(by decide:0<256)) _ (hv.keep b1) (rowB hz0 (by decide) (Nat.le_refl _))
 have cf1:=fun W hb=>full_any m ml M W (hm.keep hb) (by omega)
 have cf2:=fun W hb=>full_any d dl D W (hd.keep hb) (by omega)
 have cl1:=length_any ml (by omega)
 have cl2:=length_any dl (by omega)
 have hpm:pad ml<200016:=by unfold pad;omega
 have hpd:pad dl<200016:=by unfold pad;omega
 have cH:=fun x y W hx hy=>rHash_good x y (pad ml+pad dl+16) (h0N ks) (auN ml M dl D) (blkN_B (fun _ _=>(by decide:0<256)) (kyN_lt hks)) (auN_lt hM hD) (by omega) W hx hy
 have cc:=fun W hb=>counter_any v u ks nn 1 (by decide) hks hnn W (hv.keep hb) (hu.keep hb)
 have hcB:=ctB_B hks hnn 1
 have hhl:=hsN_lt (h0N ks) (pad ml+pad dl+16) (auN ml M dl D)
 have hqe:∀ j,ctB ks nn 1 j ^^^ hsN (h0N ks) (pad ml+pad dl+16) (auN ml M dl D) j=tgN ks nn ml M dl D j:=fun _=>rfl
 have hau:auN ml M dl D=cat (pad ml+pad dl+8) (cat (pad ml+pad dl) (cat (pad ml) (padN ml M) (padN dl D)) (lnN ml)) (lnN dl):=rfl
 rw [show blkN (kyN ks) (fun _=>0)=h0N ks from rfl] at cB
 generalize tgN ks nn ml M dl D=T at *
 generalize ctB ks nn 1=C at *
 generalize hsN (h0N ks) (pad ml+pad dl+16) (auN ml M dl D)=H at *
 generalize h0N ks=H0 at *
 generalize auN ml M dl D=AU at *
 generalize padN ml M=PM at *
 generalize padN dl D=PD at *
 generalize pad ml=pm at *
 generalize pad dl=pd at *
 obtain ⟨xv,cv,rfl,-,-,-⟩:=hv.src
 obtain ⟨xu,cu,rfl,-,-,-⟩:=hu.src
 obtain ⟨xm,cm,rfl,-,-,-⟩:=hm.src
 obtain ⟨xd,cd,rfl,-,-,-⟩:=hd.src
 generalize w.alloc (.cells (zb 16) 5)=W at *
 clear hv hu hm hd hks hnn hM hD hz0
 go_enter Try.func34,Try.ntmps34
 go_upto_region 2 with (first
  | rw [hmk]
  | (go_at_call 44;refine cB.mono ?_;clear cB hmk;rintro e w1 ⟨s1,rfl,r1,hb1⟩;(replace b1:=below_next b1 hb1);clear hb1;(have cf1':=cf1 w1 b1);(have hw01:=b1.size);(obtain ⟨g1,k1,hs1,hk1,r1⟩:=r1);subst hs1;(have hw1:g1<w1.heap.size:=block_lt_of_cell (r1 0 (by decide)).1);clear cf1))
 go_upto_region 3 with (first
  | (go_at_call 29;refine cf1'.mono ?_;clear cf1';rintro e w2 ⟨s2,rfl,own2,hb2⟩;(replace r1:=r1.still hb2);(replace b1:=below_next b1 hb2);(have cf2':=cf2 w2 b1);clear cf2)
  | (go_at_call 29;refine cf2'.mono ?_;clear cf2';rintro e w3 ⟨s3,rfl,own3,hb3⟩;(replace r1:=r1.still hb3);(replace own2:=own2.below hb3);(replace b1:=below_next b1 hb3);(obtain ⟨xo3,c3,hs3,hxn3,src3⟩:=own3.srcOf);subst hs3;(have src3':=src3 w3 (Below.refl _ _));(have hz3:w1.heap.size≤w3.heap.size:=Nat.le_trans hb2.size hb3.size);clear own3 src3)
  | (at_builtin;refine wpList_append_bytes rfl (.tmp 24) (.tmp 26) rfl w1.heap.size _ pm PM rfl own2 _ pd c3 PD rfl src3' hxn3 (by omega) hz3 ?_;intro v4 w4 own4 grow4;(have b4:=Own.grown (Below.refl w1.heap.size w3) grow4 own2 (Nat.le_refl _) hz3);clear src3' hxn3 own2 grow4)
  | (go_at_call 45;refine (cl1 _).mono ?_;clear cl1;rintro e w5 ⟨s5,rfl,r5,hb5⟩;(replace r1:=(r1.below b4 hw1).still hb5);(replace own4:=own4.below hb5);(obtain ⟨g5,c5,hs5,src5⟩:=r5.srcOf);subst hs5;(have src5':=src5 w5 (Below.refl _ _));(have hz5:w1.heap.size≤w5.heap.size:=Nat.le_trans (Nat.le_trans hz3 b4.size) hb5.size);(replace b1:=below_next ((b1.trans (b4.mono hw01))) hb5);clear src5 r5)
  | (at_builtin;refine wpList_append_bytes rfl (.tmp 27) (.tmp 30) rfl w1.heap.size _ (pm+pd) (cat pm PM PD) rfl own4 _ 8 c5 (lnN ml) rfl src5' (fun h=>by cases h) (by omega) hz5 ?_;intro v6 w6 own6 grow6;(have b6:=Own.grown (Below.refl w1.heap.size w5) grow6 own4 (Nat.le_refl _) hz5);clear src5' own4 grow6)
  | (go_at_call 45;refine (cl2 _).mono ?_;clear cl2;rintro e w7 ⟨s7,rfl,r7,hb7⟩;(replace r1:=(r1.below b6 hw1).still hb7);(replace own6:=own6.below hb7);(obtain ⟨g7,c7,hs7,src7⟩:=r7.srcOf);subst hs7;(have src7':=src7 w7 (Below.refl _ _));(have hz7:w1.heap.size≤w7.heap.size:=Nat.le_trans (Nat.le_trans hz5 b6.size) hb7.size);(replace b1:=below_next ((b1.trans (b6.mono hw01))) hb7);clear src7 r7)
  | (at_builtin;refine wpList_append_bytes rfl (.tmp 31) (.tmp 34) rfl w1.heap.size _ (pm+pd+8) (cat (pm+pd) (cat pm PM PD) (lnN ml)) rfl own6 _ 8 c7 (lnN dl) rfl src7' (fun h=>by cases h) (by omega) hz7 ?_;intro v8 w8 own8 grow8;(have b8:=Own.grown (Below.refl w1.heap.size w7) grow8 own6 (Nat.le_refl _) hz7);rw [←hau] at own8;(replace r1:=r1.below b8 hw1);(replace b1:=b1.trans (b8.mono hw01));(have cH':=cH _ v8 w8 (rowB r1 (by decide) hk1) ((own8.start (n:=pm+pd+16) (by omega)).bytesOf));clear cH src7' own6 grow8)
  | (go_at_call 17;refine cH'.mono ?_;clear cH';rintro e w9 ⟨s9,rfl,r9,hb9⟩;(replace b1:=below_next b1 hb9)))
 obtain ⟨g9,k9,hs9,hg9,hk9,r9⟩:=r9
 subst hs9
 have cc9:=cc w9 b1
 have g9l:g9<w9.heap.size:=block_lt_of_cell (r9 0 (by decide)).1
 clear cc hb9 hg9 r1 own8 hau hz3 hz5 hz7 hb2 hb3 hb5 hb7 b4 b6 b8
 go_wp2_with (go_at_call 43;refine cc9.mono ?_;clear cc9;rintro e w10 ⟨s10,rfl,⟨gc,kc,hsc,hgc,hkc,rc⟩,hb10⟩;subst hsc)
 have ngc:gc≠g9:=by omega
 have wgc:w.heap.size≤gc:=Nat.le_trans b1.size hgc
 have r9':=r9.still hb10
 have bb:=below_next b1 hb10
 clear r9 b1 hb10 hgc g9l
 go_loopw [14] (fun q wq=>∃ k:Nat,k≤16∧q = .int .i64 k∧RowAt .u8 wq gc 0 16 (pr T C k)∧RowAt .u8 wq g9 0 16 H∧Below w.heap.size w wq) (fun q _=>16 - (intOf q).toNat)
 case atStart=>exact ⟨0,Nat.zero_le _,rfl,rc,r9',bb⟩
 case round =>
  clear rc r9' bb
  obtain ⟨k,hk,rfl,rc,r9,bb⟩:=hrel
  by_cases hlk:k<16
  · obtain ⟨p1,f1⟩:=rc k hlk
    obtain ⟨p2,-⟩:=r9 k hlk
    rw [Nat.zero_add] at p1 f1 p2
    rw [pr_at] at p1
    have hq:=u8_xor_nat (C k) (H k) (hcB k hlk) (hhl k)
    rw [hqe k] at hq
    have hs:=rc.next hlk (v:=(T k:Int)) rfl
    have q1:(0:Int)≤(k:Int)∧(k:Int)<16:=by omega
    have m1:k+1≤16:=by omega
    have n1:¬gc=g9:=ngc
    clear hqe hhl hcB
    go_wp2
    go_region
    go_wp2
    go_roundw
    case rel=>exact ⟨k+1,m1,by go_num,hs.drew,(r9.far (by show gc≠g9;exact ngc) _).drew,(bb.setCell wgc _).drew⟩
    case measure=>simp [intOf];omega
  · obtain rfl:k=16:=by omega
    replace rc:=rc.congr (fun j hj=>pr_full T C hj)
    clear hqe hhl hcB
    go_wp2
    go_ret
    exact ⟨_,rfl,⟨gc,kc,rfl,wgc,hkc,rc⟩,bb⟩
def slN (ks nn:Nat→Nat) (ml:Nat) (M:Nat→Nat) (n:Nat) (X:Nat→Nat):Nat→Nat:=cat n (trN ks nn X) (tgN ks nn ml M n (trN ks nn X))
set_option maxRecDepth 20000 in
set_option maxHeartbeats 4000000 in
theorem rSeal_good (v u m t:Value) (ml n:Nat) (ks nn M X:Nat→Nat) (hml:ml≤65536) (hn:n≤65536) (hks:∀ j,ks j<256) (hnn:∀ j,nn j<256) (hM:∀ j,M j<256) (hX:∀ j,X j<256) (w:World) (hv:BytesIn w v 16 ks) (hu:BytesIn w u 12 nn) (hm:BytesIn w m ml M) (ht:BytesIn w t n X) :
 Calls Try.prog 19 #[v,u,m,t] w fun e w'=>∃ s,e = .returned (.tuple #[s,.int .i64 0])∧Own w.heap.size w' s (n+16) (slN ks nn ml M n X)∧Below w.heap.size w w':=by
 have c1:=turned_r v u t n ks nn X (by omega) hks hnn hX w hv hu ht
 have hT:=trN_lt (X:=X) hks hnn hX
 have c2:=fun d W hb hd=>rtag_any v u m d ml n ks nn M (trN ks nn X) (by omega) (by omega) hks hnn hM hT W (hv.keep hb) (hu.keep hb) (hm.keep hb) hd
 have hsl:slN ks nn ml M n X=cat n (trN ks nn X) (tgN ks nn ml M n (trN ks nn X)):=rfl
 rw [hsl]
 generalize tgN ks nn ml M n (trN ks nn X)=G at *
 generalize trN ks nn X=T at *
 obtain ⟨xv,cv,rfl,-,-,-⟩:=hv.src
 obtain ⟨xu,cu,rfl,-,-,-⟩:=hu.src
 obtain ⟨xm,cm,rfl,-,-,-⟩:=hm.src
 obtain ⟨xt,ct,rfl,-,-,-⟩:=ht.src
 have hml':¬(65536:Int)<(ml:Int):=by omega
 have hn':¬(65536:Int)<(n:Int):=by omega
 clear hv hu hm ht hks hnn hM hX hT hsl
 go_enter Try.func19,Try.ntmps19
 go_wp2_with (first
  | (go_at_call 33;refine c1.mono ?_;clear c1;rintro e w1 ⟨s1,rfl,own1,b1⟩;(have c2':=c2 s1 w1 b1 own1.bytesOf);clear c2)
  | (go_at_call 34;refine c2'.mono ?_;clear c2';rintro e w2 ⟨s2,rfl,⟨g2,k2,hs2,hg2,hk2,r2⟩,hb2⟩;subst hs2;(replace own1:=own1.below hb2);(replace b1:=below_next b1 hb2);(have src2:Src w2 (some ⟨g2,0,none⟩) 16 G := .inr ⟨g2,0,rfl,fun j hj=>(r2 j hj).1⟩);have hz2:=b1.size)
  | (at_builtin;refine wpList_append_bytes rfl (.tmp 31) (.tmp 36) rfl w.heap.size _ n T rfl own1 _ 16 k2 G rfl src2 (fun h=>by cases h) (by omega) hz2 ?_;intro v3 w3 own3 grow3;(have b3:=Own.grown b1 grow3 own1 (Nat.le_refl _) hz2)))
 go_ret2
 exact ⟨v3,rfl,own3,b3⟩
end Go.Proofs.Ytalgabgofpmebaa
