/- What the proof stands on: A8Rks, A8Kys, A8Bad, A8Thr, A8Stp, A8Blc, A8RI, A8RS, G9RT, G9RF, G9RH, G9RU, G9RG, G9J. -/
import Derived.Test.YtalgabgofpmebaaBaseM
import Derived.Test.YtalgabgofpmebaaRWkM
namespace Go.Proofs.Ytalgabgofpmebaa
open Go.RowKit
theorem zeroK (w:World):Sem.run Try.prog (zeroValue 72) w = .ok (.agg (zb 176)) w:=by kernel_rfl
theorem infoK (X:Nat→Nat):(Try.prog.info? 72).map (·.size)=some (ints .u8 176 X).length:=by rw [ints_len];kernel_rfl
theorem infoKA (X:Nat→Nat):(Try.prog.info? 72).map (·.size)=some (ints .u8 176 X).toArray.size:=by rw [ints_size];kernel_rfl
theorem RowAt.part {K:IntKind} {w:World} {g n:Nat} {X:Nat→Nat} (h:RowAt K w g 0 n X) (a m:Nat) (hm:a+m≤n):RowAt K w g a m (fun j=>X (a+j)):=fun j hj=>by
 have:=h (a+j) (by omega)
 rwa [Nat.zero_add] at this
def kyV (key:Nat→Nat):Value := .agg (ints .u8 176 (kyN key)).toArray
theorem rc_db (n:Nat) (hn:n<10):dbN (rcN n)=rcN (n+1):=(db_all _ (rc_lt n hn)).2.1
set_option maxRecDepth 20000 in
set_option maxHeartbeats 4000000 in
theorem roundKeys_any (X:Nat→Nat) (hX:∀ j,X j<256) (w:World) :
 Calls Try.prog 53 #[sqV X] w fun e w'=>e = .returned (kyV X)∧Below w.heap.size w w':=by
 have hz:=zeroK
 have hi3:=infoS X
 have hKlt:=kyN_lt hX
 have hlo:=kyN_lo X
 have hnx:=ky_next X
 obtain ⟨W,hW⟩:∃ W,W=(w.alloc (.cells (ints .u8 16 X).toArray 71)).alloc (.cells (zb 176) 72):=⟨_,rfl⟩
 have hWs:W.heap.size=w.heap.size+1+1:=by rw [hW];simp
 have hbW:Below w.heap.size w W:=by rw [hW];exact ((Below.refl _ _).alloc (Nat.le_refl _) _).alloc (by simp) _
 have hA:RowAt .u8 W w.heap.size 0 16 X:=by rw [hW];exact (RowAt.box .u8 w 16 X _).alloc (by simp) _
 have hC:RowAt .u8 W (w.heap.size+1) 0 176 (fun _=>0):=by
  have:=RowAt.zero (w.alloc (.cells (ints .u8 16 X).toArray 71)) 176 72
  rw [World.size_alloc] at this
  rw [hW];exact this
 have HW:=Hid.mk' hW
 have hAr:=hA.range
 have hbuild:(ints .u8 176 (pr X (fun _=>0) 16))=(ints .u8 176 (pr (kyN X) (fun _=>0) 16)):=ints_congr _ _ _ _ (fun j _=>by
  unfold pr
  by_cases h:j<16
  · rw [if_pos h,if_pos h,hlo j h]
  · rw [if_neg h,if_neg h])
 unfold kyV sqV
 obtain ⟨Y,hY⟩:∃ Y,Y=kyN X:=⟨_,rfl⟩
 rw [←hY] at hbuild hKlt hnx ⊢
 obtain ⟨LK,hLK⟩:∃ LK,LK=ints .u8 176 Y:=⟨_,rfl⟩
 rw [←hLK]
 have HLK:=Hid.mk' hLK
 clear hLK
 obtain ⟨Z0,hZ0⟩:∃ Z0,Z0=ints .u8 176 (pr Y (fun _=>0) 16):=⟨_,rfl⟩
 have hj2:(Try.prog.info? 72).map (·.size)=some Z0.toArray.size:=by rw [hZ0];exact infoKA _
 have hjo:Z0.toArray.all (·.oneCell')=true:=by rw [hZ0];exact oneU 176 _
 have hWT:=RowAt.zero W 176 72
 have hth:(W.alloc (.cells (zb 176) 72)).there W.heap.size 0 Z0.toArray.size:=by rw [hZ0,ints_size];exact hWT.there
 have hT0:=hWT.stored (L:=pr Y (fun _=>0) 16)
 have bw:Below W.heap.size W (W.alloc (.cells (zb 176) 72)):=(Below.refl _ _).alloc (Nat.le_refl _) _
 have hC0:=(hC.below bw (by omega)).farCells (show w.heap.size+1≠W.heap.size by omega) 0 (ints .u8 176 (pr Y (fun _=>0) 16))
 have b0:=below_setCells (show w.heap.size≤W.heap.size by omega) (ints .u8 176 (pr Y (fun _=>0) 16)) 0 _ (hbW.trans (bw.mono hbW.size))
 have hs0:W.heap.size<((W.alloc (.cells (zb 176) 72)).setCells W.heap.size 0 (ints .u8 176 (pr Y (fun _=>0) 16))).heap.size:=by rw [(setCells_same _ _ _ _).2.2.2];simp
 rw [←hZ0] at hbuild hT0 hC0 b0 hs0
 have HB:=Hid.mk' hbuild
 rw [hWs] at hth hT0 hC0 b0 hs0
 have cn:=fun k (hk:k<10)=>next_any (fun j=>Y (k*16+j)) (rcN k) (fun j _=>hKlt _) (rc_lt k hk)
 have hnS:∀ k,k<10→S16 (nxN (fun j=>Y (k*16+j)) (rcN k)) (fun j=>Y ((k+1)*16+j)):=fun k hk j hj=>by
  have:=hnx k hk j hj
  rw [Nat.mul_comm 16 k,Nat.mul_comm 16 (k+1)] at this
  exact this
 have cn':∀ k,k<10→∀ W,Calls Try.prog 62 #[.agg (ints .u8 16 (fun j=>Y (k*16+j))).toArray,.int .u8 (rcN k)] W fun e w'=>e = .returned (.agg (ints .u8 16 (fun j=>Y ((k+1)*16+j))).toArray)∧Below W.heap.size W w':=fun k hk W=>by
  have h:=cn k hk W
  rw [sqV_S (hnS k hk)] at h
  exact h
 have cd:∀ k,k<10→∀ W,Calls Try.prog 63 #[.int .u8 (rcN k)] W fun e w'=>e = .returned (.int .u8 (rcN (k+1)))∧w'=W:=fun k hk W=>by
  have h:=double_any (rcN k) (rc_lt k hk) W
  rw [rc_db k hk] at h
  exact h
 have e1:rcN 0=1:=rfl
 generalize rcN=R at *
 clear hnS cn hnx hKlt hlo hX hY hZ0 hbuild hW hWT bw hA hC hbW
 go_enter Try.func53,Try.ntmps53
 go_upto_region 2 with (first
  | (rw [←HW.out];refine wpList_load_mid rfl 71 _ rfl w.heap.size 0 rfl (ints .u8 16 X) _ hAr Try.underlying71 rfl hi3 ?_)
  | (refine wpList_val (some 7) (.agg Z0.toArray) rfl rfl (by rw [←HB.out];kernel_rfl) ?_)
  | (refine wpList_store_mid rfl 72 _ _ rfl (w.heap.size+1+1) 0 Z0.toArray rfl rfl hth hj2 hjo ?_))
 dsimp only [Act.put]
 generalize (W.alloc (.cells (zb 176) 72)).setCells (w.heap.size+1+1) 0 Z0=V at *
 clear hth hj2 hjo HB HW hAr hWs hz hi3
 go_wp2
 go_loopw [4,5] (fun p i wr=>∃ k:Nat,k≤10∧p = .int .u8 (R k)∧i = .int .i64 ((k:Int)+1)∧RowAt .u8 wr (w.heap.size+1+1) 0 176 (pr Y (fun _=>0) ((k+1)*16))∧RowAt .u8 wr (w.heap.size+1) 0 176 (fun _=>0)∧Below w.heap.size w wr∧w.heap.size+1+1<wr.heap.size) (fun _ i _=>11 - (intOf i).toNat)
 case atStart=>exact ⟨0,Nat.zero_le _,by rw [e1];rfl,rfl,hT0,hC0,b0,hs0⟩
 case round =>
  clear hT0 hC0 b0 hs0 e1
  obtain ⟨k,hk,rfl,rfl,hT,hC,hb,hs⟩:=hrel
  by_cases hlt:k<10
  · have c1:=cn' k hlt wr
    have c2:=cd k hlt
    have hP:RowAt .u8 wr (w.heap.size+1+1) (k*16) 16 (fun j=>Y (k*16+j)):=(hT.part (k*16) 16 (by omega)).congr (fun j hj=>pr_full _ _ (by omega))
    have hPr:=hP.range
    have hi1:=infoS (fun j=>Y (k*16+j))
    have hi2:=infoSA (fun j=>Y ((k+1)*16+j))
    have ho:=oneU 16 (fun j=>Y ((k+1)*16+j))
    have q1:(k:Int)+1≤10:=by omega
    have q2:(k:Int)+1 - 1=k:=by omega
    have q3:(0:Int)≤(k:Int)∧(k:Int)<11:=by omega
    have q4:(0:Int)≤(k:Int)+1∧(k:Int)+1<11:=by omega
    have q5:((k:Int)+1).toNat=k+1:=by omega
    have hsp:∀ j,over (pr Y (fun _=>0) ((k+1)*16)) ((k+1)*16) 16 (fun j=>Y ((k+1)*16+j)) j=pr Y (fun _=>0) ((k+1+1)*16) j:=fun j=>by
     unfold over pr
     by_cases h1:(k+1)*16≤j∧j<(k+1)*16+16
     · rw [if_pos h1,if_pos (by omega)]
       show Y ((k+1)*16+(j - (k+1)*16))=Y j
       rw [show (k+1)*16+(j - (k+1)*16)=j by omega]
     · rw [if_neg h1]
       by_cases h2:j<(k+1)*16
       · rw [if_pos h2,if_pos (by omega)]
       · rw [if_neg h2,if_neg (by omega)]
    have hst:∀ W,RowAt .u8 W (w.heap.size+1+1) 0 176 (pr Y (fun _=>0) ((k+1)*16))→W.there (w.heap.size+1+1) ((k+1)*16) (ints .u8 16 (fun j=>Y ((k+1)*16+j))).toArray.size∧RowAt .u8 (W.setCells (w.heap.size+1+1) ((k+1)*16) (ints .u8 16 (fun j=>Y ((k+1)*16+j)))) (w.heap.size+1+1) 0 176 (pr Y (fun _=>0) ((k+1+1)*16)):=fun W h=>by
     refine ⟨by rw [ints_size];exact (h.part ((k+1)*16) 16 (by omega)).there,?_⟩
     have h1:=h.splice ((k+1)*16) 16 (fun j=>Y ((k+1)*16+j)) (by omega)
     rw [Nat.zero_add] at h1
     exact h1.congr (fun j _=>hsp j)
    have Hst:=Hid.mk' hst
    clear cn' cd hP hsp hst
    generalize ints .u8 16 (fun j=>Y (k*16+j))=LA at *
    generalize ints .u8 16 (fun j=>Y ((k+1)*16+j))=LB at *
    go_wp2_with (first
     | (refine wpList_load_mid rfl 71 _ rfl (w.heap.size+1+1) (k*16) rfl LA _ hPr Try.underlying71 rfl hi1 ?_)
     | (go_at_call 62;refine c1.mono ?_;clear c1;rintro e w1 ⟨rfl,hb1⟩;clear hPr;(have hT1:=hT.below hb1 hs);(have hC1:=hC.below hb1 (by omega));(have b1:=hb.trans (hb1.mono hb.size));(have hs1:=Nat.lt_of_lt_of_le hs hb1.size);(obtain ⟨hth,hT2⟩:=Hst.out w1 hT1);clear hT1)
     | (refine wpList_store_mid rfl 71 _ _ rfl (w.heap.size+1+1) ((k+1)*16) LB.toArray rfl rfl hth hi2 ho ?_)
     | (go_at_call 63;refine (c2 _).mono ?_;clear c2;rintro e w2 ⟨rfl,hw2⟩;subst hw2))
    go_roundw
    case rel =>
     exact ⟨k+1,by omega,rfl,by go_num,hT2,hC1.farCells (by omega) _ _,below_setCells (by omega) _ _ _ b1,by rw [(setCells_same _ _ _ _).2.2.2];exact hs1⟩
    case measure=>simp [intOf];omega
  · obtain rfl:k=10:=by omega
    have hA':RowAt .u8 wr (w.heap.size+1+1) 0 176 Y:=hT.congr (fun j hj=>pr_full _ _ hj)
    have hi1:=infoK Y
    have hi2:=infoKA Y
    have ho:=oneU 176 Y
    have hth:wr.there (w.heap.size+1) 0 (ints .u8 176 Y).toArray.size:=by rw [ints_size];exact hC.there
    have hth2:wr.there (w.heap.size+1) 0 (ints .u8 176 Y).length:=by rw [ints_len];exact hC.there
    have hAr:=hA'.range
    clear cn' cd hT hC hA'
    rw [←HLK.out] at hi1 hi2 ho hth hth2 hAr
    go_wp2_with (first
     | (refine wpList_load_mid rfl 72 _ rfl (w.heap.size+1+1) 0 rfl LK _ hAr Try.underlying72 rfl hi1 ?_)
     | (refine wpList_store_mid rfl 72 _ _ rfl (w.heap.size+1) 0 LK.toArray rfl rfl hth hi2 ho ?_))
    (try simp only [Exit.inBlock,Exit.then])
    refine bodyPost_ret (results_cell_mid Try.results53 _ _ (w.heap.size+1) 0 LK _ rfl (World.rangeAt_setCells_same _ _ _ _ hth2) Try.underlying72 rfl hi1) rfl ⟨rfl,?_⟩
    exact below_setCells (by omega) _ _ _ hb
end Go.Proofs.Ytalgabgofpmebaa
namespace Go.Proofs.Ytalgabgofpmebaa
open Go.RowKit
theorem squareOf_16 (v:Value) (bs:Nat→Nat) (w:World) (hv:BytesIn w v 16 bs):Calls Try.prog 54 #[v] w fun e w'=>e = .returned (.agg (ints .u8 16 bs).toArray)∧Below w.heap.size w w':=by
 have h:=squareOf_any v 16 bs w hv
 rw [sqV_S (fun j hj=>fit16_full bs hj)] at h
 exact h
end Go.Proofs.Ytalgabgofpmebaa
namespace Go.Proofs.Ytalgabgofpmebaa
open Go.RowKit
theorem rowB {w:World} {g n cap:Nat} {X:Nat→Nat} (h:RowAt .u8 w g 0 n X) (hn:0<n) (hc:n≤cap):BytesIn w (.slice (some ⟨g,0,none⟩) n cap) n X := .inr ⟨g,0,cap,rfl,block_lt_of_cell (h 0 hn).1,hc,fun j hj=>(h j hj).1⟩
end Go.Proofs.Ytalgabgofpmebaa
namespace Go.Proofs.Ytalgabgofpmebaa
open Go.RowKit
theorem wpList_enter {P:Program} {w:World} {ops:Array Oper} {rest:List Oper} {o:Oper} {a:Act} {Q:Exit→Act→World→Prop} (d:Option Nat) (hgd:o.guard=none) (hd:o.dst=d) {f:FuncId} {v:Value} {R:Ending→World→Prop} (c:Calls P f #[v] w R) (hf:(callFunc f #[v]).run P w = .ok (.enter f #[v]) w)
 (x y:Operand) (ts:Array TypeId) (ho:o.op = .call { callee := .value x,args:=#[y],argTypes:=ts }) (hx:a.eval x = .func (.func f) #[] #[]) (hy:a.eval y=v)
 (h:∀ e w',R e w'→∃ r,e = .returned r∧wpList P ops Q rest (a.put d r) w'):wpList P ops Q (o :: rest) a w:=by
 subst hd
 refine wpList_plain hgd fun K hK => ?_
 have hrun:(execOp a.eval o).run P w = .ok (.enter f #[v]) w:=by
  simp [execOp,ho,resolve,Deferred.ofValue,hx,hy,invoke,hf]
 unfold Oper.wp
 rw [hrun,Oper.upon_enter]
 refine c.mono fun e w' hR => ?_
 obtain ⟨r,rfl,hk⟩:=h e w' hR
 exact hK _ _ hk
def stp (G:Nat→(Nat→Nat)→Nat→Nat) (X:Nat→Nat):Nat→Nat→Nat
 | 0=>X
 | n+1=>G n (stp G X n)
def StepsAt (w:World) (g n:Nat) (fs:Nat→FuncId):Prop:=g<w.heap.size∧∀ j,j<n→w.cell? ⟨g,j,none⟩=some (.func (.func (fs j)) #[] #[])
theorem StepsAt.below {w w':World} {g n B:Nat} {fs:Nat→FuncId} (h:StepsAt w g n fs) (hb:Below B w w') (hB:g<B):StepsAt w' g n fs:=⟨Nat.lt_of_lt_of_le h.1 hb.size,fun j hj=>(hb.cell (p:=⟨g,j,none⟩) hB).trans (h.2 j hj)⟩
set_option maxRecDepth 20000 in
set_option maxHeartbeats 4000000 in
theorem through_any (n:Nat) (hn:n<100) (fs:Nat→FuncId) (G:Nat→(Nat→Nat)→Nat→Nat) (hf:∀ j,j<n→∀ v W,(callFunc (fs j) #[v]).run Try.prog W = .ok (.enter (fs j) #[v]) W) (hc:∀ j,j<n→∀ X,B16 X→B16 (G j X)∧∀ W,Calls Try.prog (fs j) #[sqV X] W fun e w'=>e = .returned (sqV (G j X))∧Below W.heap.size W w')
 (X:Nat→Nat) (hX:B16 X) (g:Nat) (w:World) (hg:StepsAt w g n fs) :
 Calls Try.prog 56 #[sqV X,.slice (some ⟨g,0,none⟩) n n] w fun e w'=>e = .returned (sqV (stp G X n))∧Below w.heap.size w w':=by
 have hz:=zeroS
 obtain ⟨W,hW,hWs,hbW,hA,hC⟩:=two_new X (fun _=>0) w (zb 16) zb16 71 71
 have HW:=Hid.mk' hW.symm
 have hgW:=hg.below hbW hg.1
 have hgl:=hg.1
 have hB:∀ k,k≤n→B16 (stp G X k):=fun k=>by
  induction k with
  | zero=>exact fun _=>hX
  | succ k ih=>exact fun hk=>(hc k (by omega) _ (ih (by omega))).1
 have cs:∀ k,k<n→∀ W,Calls Try.prog (fs k) #[sqV (stp G X k)] W fun e w'=>e = .returned (sqV (stp G X (k+1)))∧Below W.heap.size W w':=fun k hk=>(hc k hk _ (hB k (by omega))).2
 have e0:X=stp G X 0:=rfl
 obtain ⟨Z,hZ⟩:∃ Z,Z=sqV (stp G X n):=⟨_,rfl⟩
 rw [←hZ]
 have HZ:=Hid.mk' hZ
 unfold sqV at cs ⊢
 rw [e0] at hA
 generalize stp G X=S at *
 clear hc hB hX hg hZ e0 hW
 go_enter Try.func56,Try.ntmps56
 go_wp2
 rw [←HW.out]
 go_loopw [9] (fun i wr=>∃ k:Nat,k≤n∧i = .int .i64 k∧RowAt .u8 wr w.heap.size 0 16 (S k)∧RowAt .u8 wr (w.heap.size+1) 0 16 (fun _=>0)∧StepsAt wr g n fs∧Below w.heap.size w wr∧w.heap.size+1<wr.heap.size) (fun i _=>n - (intOf i).toNat)
 case atStart=>exact ⟨0,Nat.zero_le _,rfl,hA,hC,hgW,hbW,by omega⟩
 case round =>
  clear hA hC hgW hbW hz
  obtain ⟨k,hk,rfl,hA,hC,hG,hb,hs⟩:=hrel
  by_cases hlt:k<n
  · have c1:=cs k hlt wr
    have hfk:=hf k hlt
    have rk:=hG.2 k hlt
    have hAr:=hA.range
    have hi1:=infoS (S k)
    have hi2:=infoSA (S (k+1))
    have ho:=oneU 16 (S (k+1))
    have hst:∀ W,RowAt .u8 W w.heap.size 0 16 (S k)→W.there w.heap.size 0 (ints .u8 16 (S (k+1))).toArray.size∧RowAt .u8 (W.setCells w.heap.size 0 (ints .u8 16 (S (k+1)))) w.heap.size 0 16 (S (k+1)):=fun W h=>⟨by rw [ints_size];exact h.there,h.stored⟩
    have Hst:=Hid.mk' hst
    clear cs hst hf
    generalize ints .u8 16 (S k)=LA at *
    generalize ints .u8 16 (S (k+1))=LB at *
    go_wp2_with (first
     | (refine wpList_load_mid rfl 71 _ rfl w.heap.size 0 rfl LA _ hAr Try.underlying71 rfl hi1 ?_)
     | (refine wpList_enter (some 15) rfl rfl c1 (hfk _ _) (.tmp 13) (.tmp 14) _ rfl rfl rfl ?_;clear c1;rintro e w1 ⟨rfl,hb1⟩;refine ⟨_,rfl,?_⟩;clear hAr;(have hA1:=hA.below hb1 (by omega));(have hC1:=hC.below hb1 (by omega));(have hG1:=hG.below hb1 hG.1);(have b1:=hb.trans (hb1.mono hb.size));(have hs1:=Nat.lt_of_lt_of_le hs hb1.size);(obtain ⟨hth,hA2⟩:=Hst.out w1 hA1))
     | (refine wpList_store_mid rfl 71 _ _ rfl w.heap.size 0 LB.toArray rfl rfl hth hi2 ho ?_))
    go_roundw
    case rel=>exact ⟨k+1,by omega,by go_num,hA2,hC1.farCells (by omega) _ _,hG1.below (below_setCells (Nat.le_refl w.heap.size) LB 0 w1 (Below.refl _ _)) hgl,below_setCells (Nat.le_refl _) _ _ _ b1,by rw [(setCells_same _ _ _ _).2.2.2];exact hs1⟩
    case measure=>simp [intOf];omega
  · obtain rfl:k=n:=by omega
    have hi1:=infoS (S k)
    have hi2:=infoSA (S k)
    have ho:=oneU 16 (S k)
    have hth:wr.there (w.heap.size+1) 0 (ints .u8 16 (S k)).toArray.size:=by rw [ints_size];exact hC.there
    have hth2:wr.there (w.heap.size+1) 0 (ints .u8 16 (S k)).length:=by rw [ints_len];exact hC.there
    have hAr:=hA.range
    have eZ:Z = .agg (ints .u8 16 (S k)).toArray:=HZ.out
    clear cs hf hG hA
    generalize ints .u8 16 (S k)=LA at *
    go_wp2_with (first
     | (refine wpList_load_mid rfl 71 _ rfl w.heap.size 0 rfl LA _ hAr Try.underlying71 rfl hi1 ?_)
     | (refine wpList_store_mid rfl 71 _ _ rfl (w.heap.size+1) 0 LA.toArray rfl rfl hth hi2 ho ?_))
    (try simp only [Exit.inBlock,Exit.then])
    refine bodyPost_ret (results_cell_mid Try.results56 _ _ (w.heap.size+1) 0 LA _ rfl (World.rangeAt_setCells_same _ _ _ _ hth2) Try.underlying71 rfl hi1) rfl ⟨by rw [eZ],?_⟩
    exact below_setCells (by omega) _ _ _ hb
end Go.Proofs.Ytalgabgofpmebaa
namespace Go.Proofs.Ytalgabgofpmebaa
open Go.RowKit
abbrev fnV (f:FuncId):Value := .func (.func f) #[] #[]
theorem steps_of {w:World} {g:Nat} (l:List FuncId) (h:RW w g 0 (l.map fnV)):StepsAt w g l.length (fun j=>l.getD j 0):=⟨h.lt,fun j hj=>by
 have:=h.range j (fnV (l.getD j 0)) (by simp [List.getElem?_eq_getElem hj])
 rwa [Nat.zero_add] at this⟩
theorem enter1 {f:FuncId} {v:Value} {W:World} (h:(callFunc f #[v]).run Try.prog W = .ok (.enter f #[v]) W):(callFunc f #[v]).run Try.prog W = .ok (.enter f #[v]) W:=h
theorem thr3 (X:Nat→Nat) (hX:B16 X) (g:Nat) (w:World) (h:RW w g 0 [fnV 57,fnV 58,fnV 59]) :
 Calls Try.prog 56 #[.agg (ints .u8 16 X).toArray,.slice (some ⟨g,0,none⟩) 3 3] w fun e w'=>e = .returned (.agg (ints .u8 16 (colN mT (rowN 1 (thrN boxN X)))).toArray)∧Below w.heap.size w w':=by
 have c:=through_any 3 (by decide) _ (fun j=>if j=0 then thrN boxN else if j=1 then tuN else mxN) (fun j hj v W=>by
  match j,hj with
  | 0,_=>exact enter1 (f:=57) (by kernel_rfl)
  | 1,_=>exact enter1 (f:=58) (by kernel_rfl)
  | 2,_=>exact enter1 (f:=59) (by kernel_rfl)) (fun j hj Y hY=>by
  match j,hj with
  | 0,_=>exact ⟨box_B hY,boxed_any Y hY⟩
  | 1,_=>exact ⟨tuN_B hY,turned_any Y⟩
  | 2,_=>exact ⟨mxN_B hY,mixed_any Y hY⟩) X hX g w (steps_of [57,58,59] h)
 have e:S16 (mxN (tuN (thrN boxN X))) (colN mT (rowN 1 (thrN boxN X))):=(mxN_S (tu_row _)).trans (mx_col _ (rowN_B (box_B hX) 1))
 rw [show stp (fun j=>if j=0 then thrN boxN else if j=1 then tuN else mxN) X 3=mxN (tuN (thrN boxN X)) from rfl,sqV_S e] at c
 exact c
theorem thr2 (X:Nat→Nat) (hX:B16 X) (g:Nat) (w:World) (h:RW w g 0 [fnV 57,fnV 58]) :
 Calls Try.prog 56 #[.agg (ints .u8 16 X).toArray,.slice (some ⟨g,0,none⟩) 2 2] w fun e w'=>e = .returned (.agg (ints .u8 16 (rowN 1 (thrN boxN X))).toArray)∧Below w.heap.size w w':=by
 have c:=through_any 2 (by decide) _ (fun j=>if j=0 then thrN boxN else tuN) (fun j hj v W=>by
  match j,hj with
  | 0,_=>exact enter1 (f:=57) (by kernel_rfl)
  | 1,_=>exact enter1 (f:=58) (by kernel_rfl)) (fun j hj Y hY=>by
  match j,hj with
  | 0,_=>exact ⟨box_B hY,boxed_any Y hY⟩
  | 1,_=>exact ⟨tuN_B hY,turned_any Y⟩) X hX g w (steps_of [57,58] h)
 rw [show stp (fun j=>if j=0 then thrN boxN else tuN) X 2=tuN (thrN boxN X) from rfl,sqV_S (tu_row _)] at c
 exact c
theorem plus_key (X K:Nat→Nat) (r:Nat) (hX:B16 X) (hK:∀ j,K j<256) (w:World) :
 Calls Try.prog 55 #[.agg (ints .u8 16 X).toArray,.agg (ints .u8 16 (fun j=>K (16*r+j))).toArray] w fun e w'=>e = .returned (.agg (ints .u8 16 (addN K r X)).toArray)∧Below w.heap.size w w':=plus_any X _ hX (fun _ _=>hK _) w
theorem RowAt.rw {K:IntKind} {w:World} {g o n:Nat} {X:Nat→Nat} (h:RowAt K w g o n X) (hn:0<n):RW w g o (ints K n X):=⟨h.range,by rw [ints_len];exact h.there,block_lt_of_cell (h 0 hn).1⟩
theorem rowAt_of {K:IntKind} {w:World} {g o n:Nat} {X:Nat→Nat} (h:RW w g o (ints K n X)):RowAt K w g o n X:=fun j hj=>⟨h.range j _ (ints_at K n X j hj),(h.there j (by rw [ints_len];exact hj)).2⟩
theorem key_at {w:World} {g:Nat} {K:Nat→Nat} (h:RowAt .u8 w g 0 176 K) (r:Nat) (hr:r<11):RW w g (16*r) (ints .u8 16 (fun j=>K (16*r+j))):=(h.part (16*r) 16 (by omega)).rw (by decide)
end Go.Proofs.Ytalgabgofpmebaa
namespace Go.Proofs.Ytalgabgofpmebaa
open Go.RowKit
abbrev qb46:Oper:=oS (Op.store 71 (oT 7) (oT 25)) "aes.go:27" #[jD 5,jD 4,jC 4,jP 0,jP 1,jP 2,jP 3,jP 4,jP 5]
abbrev qb45:Oper:=oN 7 (Op.alloc 71) 0 "aes.go:27" #[]
abbrev qb44:Oper:=oN 25 (cF1 55 #[oT 22,oT 24] #[71,71]) 71 "aes.go:27" #[jD 1,jD 3,jC 1]
abbrev qb41:Oper:=oN 22 (cF1 54 #[oT 21] #[22]) 71 "aes.go:27" #[jD 0]
abbrev qb85:Oper:=oS (Op.store 71 (oT 7) (oT 36)) "aes.go:29" #[jD 4,jC 4,jP 0,jP 1,jP 2,jP 3,jP 4]
abbrev qb84:Oper:=oN 36 (cF1 55 #[oT 34,oT 35] #[71,71]) 71 "aes.go:29" #[jD 2,jD 3,jC 2]
abbrev qb82:Oper:=oN 34 (cF1 56 #[oT 32,oT 33] #[71,82]) 71 "aes.go:29" #[jD 0,jD 1]
abbrev qb81:Oper:=oN 33 (Op.buildSlice 82 3 #[(0,Operand.func 57),(1,Operand.func 58),(2,Operand.func 59)]) 82 "aes.go:29" #[]
abbrev qb80:Oper:=oN 32 (Op.load 71 (oT 7)) 71 "aes.go:29" #[]
abbrev qbx6:Oper:=oS (Op.store 71 (oT 7) (oT 43)) "aes.go:31" #[jD 5,jC 5,jP 0,jP 1,jP 2,jP 3,jP 4,jP 5]
abbrev qbx5:Oper:=oN 43 (cF1 55 #[oT 40,oT 42] #[71,71]) 71 "aes.go:31" #[jD 2,jD 4,jC 2]
abbrev qbx2:Oper:=oN 40 (cF1 56 #[oT 38,oT 39] #[71,82]) 71 "aes.go:31" #[jD 0,jD 1]
abbrev qbx1:Oper:=oN 39 (Op.buildSlice 82 2 #[(0,Operand.func 57),(1,Operand.func 58)]) 82 "aes.go:31" #[]
abbrev qbx0:Oper:=oN 38 (Op.load 71 (oT 7)) 71 "aes.go:31" #[]
theorem RowAt.still {K:IntKind} {w w':World} {g o n:Nat} {X:Nat→Nat} (h:RowAt K w g o n X) (hb:Below w.heap.size w w'):RowAt K w' g o n X:=fun j hj=>⟨(hb.cell (p:=⟨g,o+j,none⟩) (block_lt_of_cell (h j hj).1)).trans (h j hj).1,(hb.frozen (p:=⟨g,o+j,none⟩) (block_lt_of_cell (h j hj).1)).trans (h j hj).2⟩
set_option maxRecDepth 20000 in
set_option maxHeartbeats 8000000 in
theorem block_good (v u:Value) (ks bs:Nat→Nat) (hks:∀ j,ks j<256) (hbB:B16 bs) (w:World) (hv:BytesIn w v 16 ks) (hu:BytesIn w u 16 bs) :
 Calls Try.prog 46 #[v,u] w fun e w'=>∃ g,e = .returned (.tuple #[.slice (some ⟨g,0,none⟩) 16 16,.int .i64 0])∧RowAt .u8 w' g 0 16 (blkN (kyN ks) bs)∧Below w.heap.size w w':=by
 have hz:=zeroK
 have cs:=squareOf_16 v ks w hv
 have cr:=roundKeys_any ks hks
 have hK:=kyN_lt hks
 obtain ⟨xk,ck,rfl,-,-,-⟩:=hv.src
 obtain ⟨xb,cb,rfl,-,-,-⟩:=hu.src
 unfold kyV sqV at cr
 obtain ⟨K,hKe⟩:∃ K,K=kyN ks:=⟨_,rfl⟩
 rw [←hKe] at cr hK ⊢
 have hj2:=infoKA K
 have hjo:=oneU 176 K
 have hst:∀ W:World,(W.alloc (.cells (zb 176) 72)).there W.heap.size 0 (ints .u8 176 K).toArray.size∧RowAt .u8 ((W.alloc (.cells (zb 176) 72)).setCells W.heap.size 0 (ints .u8 176 K)) W.heap.size 0 176 K∧Below W.heap.size W ((W.alloc (.cells (zb 176) 72)).setCells W.heap.size 0 (ints .u8 176 K)):=fun W=>by
  have h:=RowAt.zero W 176 72
  exact ⟨by rw [ints_size];exact h.there,h.stored,below_setCells (Nat.le_refl _) _ _ _ ((Below.refl _ _).alloc (Nat.le_refl _) _)⟩
 have Hst:=Hid.mk' hst
 obtain ⟨LK,hLK⟩:∃ LK,LK=ints .u8 176 K:=⟨_,rfl⟩
 rw [←hLK] at cr hj2 hjo Hst
 clear hKe hLK hst hv hks
 obtain ⟨Z,hZe⟩:∃ Z,Z=blkN K bs:=⟨_,rfl⟩
 rw [←hZe]
 have HZ:=Hid.mk' hZe
 clear hZe
 go_enter Try.func46,Try.ntmps46
 go_upto_region 4 with (first
  | (go_at_call 54;refine cs.mono ?_;clear cs;rintro e w1 ⟨rfl,hb1⟩;(have cr1:=cr w1);clear cr)
  | (go_at_call 53;refine cr1.mono ?_;clear cr1;rintro e w2 ⟨rfl,hb2⟩;(obtain ⟨hth,hKy,hb3⟩:=Hst.out w2);(have b:=below_next (below_next hb1 hb2) hb3);clear hb1 hb2)
  | (with_reducible (refine id (?_:wpList _ _ _ _ _ _));refine wpList_store_mid rfl 72 _ _ rfl w2.heap.size 0 LK.toArray rfl rfl hth hj2 hjo ?_))
 dsimp only [Act.put]
 have hgk:w2.heap.size<((w2.alloc (.cells (zb 176) 72)).setCells w2.heap.size 0 LK).heap.size:=block_lt_of_cell (hKy 0 (by decide)).1
 clear hth hb3 Hst hj2 hjo hz
 generalize (w2.alloc (.cells (zb 176) 72)).setCells w2.heap.size 0 LK=U at *
 generalize w2.heap.size=gk at *
 go_cut [7] from 10 (fun s7 wc=>∃ gs,s7 = .pointer (some ⟨gs,0,none⟩)∧RowAt .u8 wc gs 0 16 (addN K 0 bs)∧U.heap.size≤gs∧RowAt .u8 wc gk 0 176 K∧Below w.heap.size w wc)
 case first =>
  have hdrew:Below U.heap.size U U.drew:=(Below.refl _ _).drew
  replace hKy:=hKy.still hdrew
  refine wp_region_noPanic ?_
  refine wp_region_held_drew (S:=fun w'=>Below U.drew.heap.size U.drew w') (by kernel_rfl) (Below.refl _ _) (fun hS => ?_)
  generalize U.drew=Vb4 at *
  refine tk 0 (.slice xb 16 cb) hS (hy:=(yR)) (h := ?_)
  (try simp only [pS])
  refine tk 2 (pA gk 0) hS (hy:=(yR)) (h := ?_)
  (try simp only [pS])
  refine tk 3 (.agg (ints .u8 16 (fun j=>K (16*0+j))).toArray) hS (hy:=(ldH (key_at hKy 0 (by decide)) 71 23 Try.underlying71 (infoS _))) (h := ?_)
  (try simp only [pS])
  refine dag_root (fun G hG0 => ?_)
  have hG:=Hid.mk' hG0
  clear hG0
  obtain ⟨F,hF0⟩:∃ F:Value→Value→Value→Act,∀ v7 v22 v25,F v7 v22 v25={ tmps:=#[.slice xk 16 ck,.slice xb 16 cb,undef,undef,.slice none 0 0,.int .i64 0,pA gk 0,v7,undef,undef,.slice xk 16 ck,.int .i64 16,.bool false,.bool false,.slice xb 16 cb,.int .i64 16,.bool false,.bool false,.slice xk 16 ck,.agg (ints .u8 16 (ks)).toArray,.agg LK.toArray,.slice xb 16 cb,v22,pA gk 0,.agg (ints .u8 16 (fun j=>K (16*0+j))).toArray,v25,undef,undef,undef,undef,undef,undef,undef,undef,undef,undef,undef,undef,undef,undef,undef,undef,undef,undef,undef],defers:=[] }:=⟨_,fun _ _ _=>rfl⟩
  have hF:=Hid.mk' hF0
  clear hF0
  have stb40:Hid (∀ (cur:World) (g5:Nat),Below Vb4.heap.size Vb4 cur→RW cur g5 0 (ints .u8 16 (addN K 0 bs))→Vb4.heap.size≤g5→G 0 #[true,true,true,true,true,true,true] (F (pA g5 0) (.agg (ints .u8 16 (bs)).toArray) (.agg (ints .u8 16 (addN K 0 bs)).toArray)) cur):=Hid.mk' (by
   intro cur g5 hS r5 G5
   rw [hF.out,hG.out]
   refine wpAnyH_done (by kernel_rfl) ?_ _
   refine NoPanic.normal ?_
   go_wp2
   go_meet
   case rel=>exact ⟨g5,rfl,rowAt_of r5,Nat.le_trans hdrew.size G5,hKy.still hS,below_next (below_next b hdrew) hS⟩)
  have stb41:Hid (∀ (cur:World) (g5:Nat),Below Vb4.heap.size Vb4 cur→RW cur g5 0 (ints .u8 16 (fun _=>0))→Vb4.heap.size≤g5→G 1 #[true,true,true,true,true,true,false] (F (pA g5 0) (.agg (ints .u8 16 (bs)).toArray) (.agg (ints .u8 16 (addN K 0 bs)).toArray)) cur):=Hid.mk' (by
   intro cur g5 hS r5 G5
   rw [hF.out,hG.out]
   refine wpAnyH_ready (rs:=[6]) (by kernel_rfl) (by simp) ?_
   refine aT qb46 71 7 25 (ints .u8 16 (addN K 0 bs)) r5 (by rw [ints_len,ints_len]) (below_setCells G5 _ _ _ hS) (infoSA _) (oneU 16 _) (fun rr=>dagW hG (stb40.out _ g5 (below_setCells G5 _ _ _ hS) rr G5) (hF.out _ _ _)) ?_
   exact AllReadyH.nil)
  have stb42:Hid (∀ (cur:World),Below Vb4.heap.size Vb4 cur→G 2 #[true,true,true,true,true,false,false] (F undef (.agg (ints .u8 16 (bs)).toArray) (.agg (ints .u8 16 (addN K 0 bs)).toArray)) cur):=Hid.mk' (by
   intro cur  hS 
   rw [hF.out,hG.out]
   clear stb40
   refine wpAnyH_ready (rs:=[5]) (by kernel_rfl) (by simp) ?_
   refine aG qb45 (fun g=>pA g 0) (ints .u8 16 (fun _=>0)) 71 (fun u hb=>below_next hS hb) (fun w1 g5 lg hb rr=>dagW hG (stb41.out w1 g5 (below_next hS hb) rr (Nat.le_trans hS.size lg)) (hF.out _ _ _)) ?_
   exact AllReadyH.nil)
  have stb43:Hid (∀ (cur:World) (g5:Nat),Below Vb4.heap.size Vb4 cur→RW cur g5 0 (ints .u8 16 (fun _=>0))→Vb4.heap.size≤g5→G 2 #[true,true,true,true,false,true,false] (F (pA g5 0) (.agg (ints .u8 16 (bs)).toArray) undef) cur):=Hid.mk' (by
   intro cur g5 hS r5 G5
   rw [hF.out,hG.out]
   clear stb40 stb42
   refine wpAnyH_ready (rs:=[4]) (by kernel_rfl) (by simp) ?_
   refine arC qb44 (plus_key bs K 0 hbB hK cur) (fun e w1 ⟨he,hb⟩=>⟨_,he,below_next hS hb,dagW hG (stb41.out w1 g5 (below_next hS hb) (r5.still hb) G5) (hF.out _ _ _)⟩) ?_
   exact AllReadyH.nil)
  have stb44:Hid (∀ (cur:World),Below Vb4.heap.size Vb4 cur→G 3 #[true,true,true,true,false,false,false] (F undef (.agg (ints .u8 16 (bs)).toArray) undef) cur):=Hid.mk' (by
   intro cur  hS 
   rw [hF.out,hG.out]
   clear stb40 stb41
   refine wpAnyH_ready (rs:=[4,5]) (by kernel_rfl) (by simp) ?_
   refine arC qb44 (plus_key bs K 0 hbB hK cur) (fun e w1 ⟨he,hb⟩=>⟨_,he,below_next hS hb,dagW hG (stb42.out w1  (below_next hS hb) ) (hF.out _ _ _)⟩) ?_
   refine aG qb45 (fun g=>pA g 0) (ints .u8 16 (fun _=>0)) 71 (fun u hb=>below_next hS hb) (fun w1 g5 lg hb rr=>dagW hG (stb43.out w1 g5 (below_next hS hb) rr (Nat.le_trans hS.size lg)) (hF.out _ _ _)) ?_
   exact AllReadyH.nil)
  have stb45:Hid (∀ (cur:World) (g5:Nat),Below Vb4.heap.size Vb4 cur→RW cur g5 0 (ints .u8 16 (fun _=>0))→Vb4.heap.size≤g5→G 3 #[true,false,true,true,false,true,false] (F (pA g5 0) undef undef) cur):=Hid.mk' (by
   intro cur g5 hS r5 G5
   rw [hF.out,hG.out]
   clear stb40 stb41 stb42 stb44
   refine wpAnyH_ready (rs:=[1]) (by kernel_rfl) (by simp) ?_
   refine arC qb41 (squareOf_16 _ bs cur (hu.keep (below_next (below_next b hdrew) hS))) (fun e w1 ⟨he,hb⟩=>⟨_,he,below_next hS hb,dagW hG (stb43.out w1 g5 (below_next hS hb) (r5.still hb) G5) (hF.out _ _ _)⟩) ?_
   exact AllReadyH.nil)
  have stb46:Hid (∀ (cur:World),Below Vb4.heap.size Vb4 cur→G 4 #[true,false,true,true,false,false,false] (F undef undef undef) cur):=Hid.mk' (by
   intro cur  hS 
   rw [hF.out,hG.out]
   clear stb40 stb41 stb42 stb43
   refine wpAnyH_ready (rs:=[1,5]) (by kernel_rfl) (by simp) ?_
   refine arC qb41 (squareOf_16 _ bs cur (hu.keep (below_next (below_next b hdrew) hS))) (fun e w1 ⟨he,hb⟩=>⟨_,he,below_next hS hb,dagW hG (stb44.out w1  (below_next hS hb) ) (hF.out _ _ _)⟩) ?_
   refine aG qb45 (fun g=>pA g 0) (ints .u8 16 (fun _=>0)) 71 (fun u hb=>below_next hS hb) (fun w1 g5 lg hb rr=>dagW hG (stb45.out w1 g5 (below_next hS hb) rr (Nat.le_trans hS.size lg)) (hF.out _ _ _)) ?_
   exact AllReadyH.nil)
  rw [hG.out]
  exact dagW hG (stb46.out Vb4 hS ) (hF.out _ _ _)
 case rest =>
 obtain ⟨gs,rfl,hs0,hgs,hKy0,b0⟩:=hcut
 have ngk:gk<gs:=Nat.lt_of_lt_of_le hgk hgs
 have wgs:w.heap.size≤gs:=Nat.le_trans b.size hgs
 clear hKy b hu hgk hgs
 obtain ⟨B,hBe⟩:∃ B,B=blkS K bs:=⟨_,rfl⟩
 have hBB:∀ r,B16 (B r):=fun r=>by rw [hBe];exact blkS_B hbB hK r
 have hB0:addN K 0 bs=B 0:=by rw [hBe];rfl
 have hBs:∀ r,addN K (r+1) (colN mT (rowN 1 (thrN boxN (B r))))=B (r+1):=fun r=>by rw [hBe];rfl
 have hBn:addN K 10 (rowN 1 (thrN boxN (B 9)))=blkN K bs:=by rw [hBe];rfl
 rw [hB0] at hs0
 have hz:=zeroS
 have sz0:=block_lt_of_cell (hs0 0 (by decide)).1
 have HBs:=Hid.mk' hBs
 have HBn:=Hid.mk' hBn
 clear hBe hB0 hBs hBn
 go_wp2
 go_loopw [28] (fun i wr=>∃ k:Nat,k≤9∧i = .int .i64 k∧RowAt .u8 wr gs 0 16 (B k)∧RowAt .u8 wr gk 0 176 K∧Below w.heap.size w wr) (fun i _=>9 - (intOf i).toNat)
 case atStart=>exact ⟨0,Nat.zero_le _,rfl,hs0,hKy0,b0⟩
 case round =>
  clear hs0 hKy0 b0 sz0
  obtain ⟨k,hk,rfl,hs,hKy,b⟩:=hrel
  have sz:=block_lt_of_cell (hs 0 (by decide)).1
  by_cases hlt:k<9
  · have hPr:=(key_at hKy (k+1) (by omega)).range
    rw [show 16*(k+1)=16+k*16 by omega] at hPr
    have q1:(0:Int)≤(k:Int)∧(k:Int)<9:=by omega
    have hi1:=infoS (fun j=>K (16+k*16+j))
    have hj2:=infoSA (fun j=>K (16+k*16+j))
    have hjo:=oneU 16 (fun j=>K (16+k*16+j))
    have hT:=RowAt.zero wr 16 71
    have hth:(wr.alloc (.cells (zb 16) 71)).there wr.heap.size 0 (ints .u8 16 (fun j=>K (16+k*16+j))).toArray.size:=by rw [ints_size];exact hT.there
    have hL9:=(hT.stored (L:=fun j=>K (16+k*16+j))).rw (by decide)
    have hb2:Below wr.heap.size wr ((wr.alloc (.cells (zb 16) 71)).setCells wr.heap.size 0 (ints .u8 16 (fun j=>K (16+k*16+j)))):=below_setCells (Nat.le_refl _) _ _ _ ((Below.refl _ _).alloc (Nat.le_refl _) _)
    replace hs:=(hs.still hb2).rw (by decide)
    replace hKy:=hKy.still hb2
    replace b:=below_next b hb2
    have c1:=fun g W h=>thr3 (B k) (hBB k) g W h
    have c2:=fun W=>plus_key (colN mT (rowN 1 (thrN boxN (B k)))) K (k+1) (colT_B (rowN_B (box_B (hBB k)) 1)) hK W
    rw [HBs.out k,show 16*(k+1)=16+k*16 by omega] at c2
    generalize colN mT (rowN 1 (thrN boxN (B k)))=X2 at *
    generalize hLL:ints .u8 16 (fun j=>K (16+k*16+j))=LL at *
    go_upto_region 8 with (first
     | (refine wpList_load_mid rfl 71 _ rfl gk (16+k*16) rfl LL _ hPr Try.underlying71 rfl hi1 ?_)
     | (with_reducible (refine id (?_:wpList _ _ _ _ _ _));refine wpList_store_mid rfl 71 _ _ rfl wr.heap.size 0 LL.toArray rfl rfl hth hj2 hjo ?_))
    dsimp only [Act.put]
    have n9:wr.heap.size≠gs:=fun h=>Nat.lt_irrefl _ (h ▸ sz)
    clear hT hth hb2 hPr hj2 hjo hLL hz sz HBs HBn
    generalize (wr.alloc (.cells (zb 16) 71)).setCells wr.heap.size 0 LL=U8 at *
    generalize wr.heap.size=g9 at *
    have hdrew:Below U8.heap.size U8 U8.drew:=(Below.refl _ _).drew
    replace hs:=hs.still hdrew
    replace hKy:=hKy.still hdrew
    replace hL9:=hL9.still hdrew
    refine wp_region_noPanic ?_
    refine wp_region_held_drew (S:=fun w'=>Out gs 0 16 U8.drew w') (by kernel_rfl) (Out.refl _ _ _ _) (fun hS => ?_)
    generalize U8.drew=Vb8 at *
    refine tk 3 (.agg LL.toArray) hS (hy:=(ldO hL9 n9 71 9 Try.underlying71 hi1)) (h := ?_)
    (try simp only [pS])
    refine dag_root (fun G hG0 => ?_)
    have hG:=Hid.mk' hG0
    clear hG0
    obtain ⟨F,hF0⟩:∃ F:Value→Value→Value→Value→Act,∀ v32 v33 v34 v36,F v32 v33 v34 v36={ tmps:=#[.slice xk 16 ck,.slice xb 16 cb,undef,undef,.slice none 0 0,.int .i64 0,pA gk 0,pA gs 0,undef,pA g9 0,u10,u11,u12,u13,u14,u15,u16,u17,u18,u19,u20,u21,u22,u23,u24,u25,.slice (some ⟨gk,16,none⟩) 9 10,.int .i64 9,.int .i64 k,.bool true,pA gk (16+k*16),.agg LL.toArray,v32,v33,v34,.agg LL.toArray,v36,u37,u38,u39,u40,u41,u42,u43,u44],defers:=[] }:=⟨_,fun _ _ _ _=>rfl⟩
    have hF:=Hid.mk' hF0
    clear hF0
    have stb80:Hid (∀ (cur:World) (g1:Nat),Out gs 0 16 Vb8 cur→RW cur gs 0 (ints .u8 16 (B (k+1)))→Vb8.heap.size≤g1→G 0 #[true,true,true,true,true,true] (F (.agg (ints .u8 16 (B k)).toArray) (.slice (some ⟨g1,0,none⟩) 3 3) (.agg (ints .u8 16 (X2)).toArray) (.agg (ints .u8 16 (B (k+1))).toArray)) cur):=Hid.mk' (by
     intro cur g1 hS ro G1
     rw [hF.out,hG.out]
     refine wpAnyH_done (by kernel_rfl) ?_ _
     refine NoPanic.normal ?_
     go_wp2
     go_roundw
     case rel=>exact ⟨k+1,by omega,by go_num,rowAt_of ro,hS.row hKy (Nat.ne_of_lt ngk),(below_next b hdrew).trans (hS.below wgs (below_next b hdrew).size)⟩
     case measure=>simp [intOf];omega)
    have stb81:Hid (∀ (cur:World) (g1:Nat),Out gs 0 16 Vb8 cur→RW cur gs 0 (ints .u8 16 (B k))→Vb8.heap.size≤g1→G 1 #[true,true,true,true,true,false] (F (.agg (ints .u8 16 (B k)).toArray) (.slice (some ⟨g1,0,none⟩) 3 3) (.agg (ints .u8 16 (X2)).toArray) (.agg (ints .u8 16 (B (k+1))).toArray)) cur):=Hid.mk' (by
     intro cur g1 hS ro G1
     rw [hF.out,hG.out]
     refine wpAnyH_ready (rs:=[5]) (by kernel_rfl) (by simp) ?_
     refine aT qb85 71 7 36 (ints .u8 16 (B (k+1))) ro (by rw [ints_len,ints_len]) (hS.trans (Out.setCells _ _ (Nat.le_refl _) (by rw [ints_len];exact Nat.le_refl _))) (infoSA _) (oneU 16 _) (fun rr=>dagW hG (stb80.out _ g1 (hS.trans (Out.setCells _ _ (Nat.le_refl _) (by rw [ints_len];exact Nat.le_refl _))) rr G1) (hF.out _ _ _ _)) ?_
     exact AllReadyH.nil)
    have stb82:Hid (∀ (cur:World) (g1:Nat),Out gs 0 16 Vb8 cur→RW cur gs 0 (ints .u8 16 (B k))→Vb8.heap.size≤g1→G 2 #[true,true,true,true,false,false] (F (.agg (ints .u8 16 (B k)).toArray) (.slice (some ⟨g1,0,none⟩) 3 3) (.agg (ints .u8 16 (X2)).toArray) u36) cur):=Hid.mk' (by
     intro cur g1 hS ro G1
     rw [hF.out,hG.out]
     clear stb80
     refine wpAnyH_ready (rs:=[4]) (by kernel_rfl) (by simp) ?_
     refine arC qb84 (c2 cur) (fun e w1 ⟨he,hb⟩=>⟨_,he,hS.trans (Out.of_below hb ro.lt),dagW hG (stb81.out w1 g1 (hS.trans (Out.of_below hb ro.lt)) (ro.still hb) G1) (hF.out _ _ _ _)⟩) ?_
     exact AllReadyH.nil)
    have stb83:Hid (∀ (cur:World) (g1:Nat),Out gs 0 16 Vb8 cur→RW cur gs 0 (ints .u8 16 (B k))→RW cur g1 0 ([fnV 57,fnV 58,fnV 59])→Vb8.heap.size≤g1→G 3 #[true,true,false,true,false,false] (F (.agg (ints .u8 16 (B k)).toArray) (.slice (some ⟨g1,0,none⟩) 3 3) u34 u36) cur):=Hid.mk' (by
     intro cur g1 hS ro r1 G1
     rw [hF.out,hG.out]
     clear stb80 stb81
     refine wpAnyH_ready (rs:=[2]) (by kernel_rfl) (by simp) ?_
     refine arC qb82 (c1 _ cur r1) (fun e w1 ⟨he,hb⟩=>⟨_,he,hS.trans (Out.of_below hb ro.lt),dagW hG (stb82.out w1 g1 (hS.trans (Out.of_below hb ro.lt)) (ro.still hb) G1) (hF.out _ _ _ _)⟩) ?_
     exact AllReadyH.nil)
    have stb84:Hid (∀ (cur:World),Out gs 0 16 Vb8 cur→RW cur gs 0 (ints .u8 16 (B k))→G 4 #[true,false,false,true,false,false] (F (.agg (ints .u8 16 (B k)).toArray) u33 u34 u36) cur):=Hid.mk' (by
     intro cur  hS ro
     rw [hF.out,hG.out]
     clear stb80 stb81 stb82
     refine wpAnyH_ready (rs:=[1]) (by kernel_rfl) (by simp) ?_
     refine aG qb81 (fun g => .slice (some ⟨g,0,none⟩) 3 3) ([fnV 57,fnV 58,fnV 59]) 75 (fun u hb=>hS.trans (Out.of_below hb ro.lt)) (fun w1 g1 lg hb rr=>dagW hG (stb83.out w1 g1 (hS.trans (Out.of_below hb ro.lt)) (ro.still hb) rr (Nat.le_trans hS.size lg)) (hF.out _ _ _ _)) ?_
     exact AllReadyH.nil)
    have stb85:Hid (∀ (cur:World) (g1:Nat),Out gs 0 16 Vb8 cur→RW cur gs 0 (ints .u8 16 (B k))→RW cur g1 0 ([fnV 57,fnV 58,fnV 59])→Vb8.heap.size≤g1→G 4 #[false,true,false,true,false,false] (F u32 (.slice (some ⟨g1,0,none⟩) 3 3) u34 u36) cur):=Hid.mk' (by
     intro cur g1 hS ro r1 G1
     rw [hF.out,hG.out]
     clear stb80 stb81 stb82 stb84
     refine wpAnyH_ready (rs:=[0]) (by kernel_rfl) (by simp) ?_
     refine aL qb80 71 7 ro hS Try.underlying71 (infoS _) (dagW hG (stb83.out cur g1 hS ro r1 G1) (hF.out _ _ _ _)) ?_
     exact AllReadyH.nil)
    have stb86:Hid (∀ (cur:World),Out gs 0 16 Vb8 cur→RW cur gs 0 (ints .u8 16 (B k))→G 5 #[false,false,false,true,false,false] (F u32 u33 u34 u36) cur):=Hid.mk' (by
     intro cur  hS ro
     rw [hF.out,hG.out]
     clear stb80 stb81 stb82 stb83
     refine wpAnyH_ready (rs:=[0,1]) (by kernel_rfl) (by simp) ?_
     refine aL qb80 71 7 ro hS Try.underlying71 (infoS _) (dagW hG (stb84.out cur  hS ro) (hF.out _ _ _ _)) ?_
     refine aG qb81 (fun g => .slice (some ⟨g,0,none⟩) 3 3) ([fnV 57,fnV 58,fnV 59]) 75 (fun u hb=>hS.trans (Out.of_below hb ro.lt)) (fun w1 g1 lg hb rr=>dagW hG (stb85.out w1 g1 (hS.trans (Out.of_below hb ro.lt)) (ro.still hb) rr (Nat.le_trans hS.size lg)) (hF.out _ _ _ _)) ?_
     exact AllReadyH.nil)
    rw [hG.out]
    exact dagW hG (stb86.out Vb8 hS hs) (hF.out _ _ _ _)
  · obtain rfl:k=9:=by omega
    have n9:gk≠gs:=Nat.ne_of_lt ngk
    replace hs:=hs.rw (by decide)
    have c1:=fun g W h=>thr2 (B 9) (hBB 9) g W h
    have c2:=fun W=>plus_key (rowN 1 (thrN boxN (B 9))) K 10 (rowN_B (box_B (hBB 9)) 1) hK W
    rw [HBn.out,←HZ.out] at c2
    generalize rowN 1 (thrN boxN (B 9))=X2 at *
    clear hz sz HBs HBn
    go_upto_region 10 with (fail)
    have hdrew:Below wr.heap.size wr wr.drew:=(Below.refl _ _).drew
    replace hs:=hs.still hdrew
    replace hKy:=hKy.still hdrew
    refine wp_region_noPanic ?_
    refine wp_region_held_drew (S:=fun w'=>Out gs 0 16 wr.drew w') (by kernel_rfl) (Out.refl _ _ _ _) (fun hS => ?_)
    generalize wr.drew=Vbx at *
    refine tk 3 (pA gk 160) hS (hy:=(yR)) (h := ?_)
    (try simp only [pS])
    refine tk 4 (.agg (ints .u8 16 (fun j=>K (16*10+j))).toArray) hS (hy:=(ldO (key_at hKy 10 (by decide)) n9 71 41 Try.underlying71 (infoS _))) (h := ?_)
    (try simp only [pS])
    refine dag_root (fun G hG0 => ?_)
    have hG:=Hid.mk' hG0
    clear hG0
    obtain ⟨F,hF0⟩:∃ F:Value→Value→Value→Value→Act,∀ v38 v39 v40 v43,F v38 v39 v40 v43={ tmps:=#[.slice xk 16 ck,.slice xb 16 cb,undef,undef,.slice none 0 0,.int .i64 0,pA gk 0,pA gs 0,undef,u9,u10,u11,u12,u13,u14,u15,u16,u17,u18,u19,u20,u21,u22,u23,u24,u25,.slice (some ⟨gk,16,none⟩) 9 10,.int .i64 9,.int .i64 9,.bool false,u30,u31,u32,u33,u34,u35,u36,u37,v38,v39,v40,pA gk 160,.agg (ints .u8 16 (fun j=>K (16*10+j))).toArray,v43,u44],defers:=[] }:=⟨_,fun _ _ _ _=>rfl⟩
    have hF:=Hid.mk' hF0
    clear hF0
    have stbx0:Hid (∀ (cur:World) (g1:Nat),Out gs 0 16 Vbx cur→RW cur gs 0 (ints .u8 16 (Z))→Vbx.heap.size≤g1→G 0 #[true,true,true,true,true,true,true] (F (.agg (ints .u8 16 (B 9)).toArray) (.slice (some ⟨g1,0,none⟩) 2 2) (.agg (ints .u8 16 (X2)).toArray) (.agg (ints .u8 16 (Z)).toArray)) cur):=Hid.mk' (by
     intro cur g1 hS ro G1
     rw [hF.out,hG.out]
     refine wpAnyH_done (by kernel_rfl) ?_ _
     refine NoPanic.normal ?_
     go_wp2
     go_ret2
     exact ⟨gs,rfl,rowAt_of ro,(below_next b hdrew).trans (hS.below wgs (below_next b hdrew).size)⟩)
    have stbx1:Hid (∀ (cur:World) (g1:Nat),Out gs 0 16 Vbx cur→RW cur gs 0 (ints .u8 16 (B 9))→Vbx.heap.size≤g1→G 1 #[true,true,true,true,true,true,false] (F (.agg (ints .u8 16 (B 9)).toArray) (.slice (some ⟨g1,0,none⟩) 2 2) (.agg (ints .u8 16 (X2)).toArray) (.agg (ints .u8 16 (Z)).toArray)) cur):=Hid.mk' (by
     intro cur g1 hS ro G1
     rw [hF.out,hG.out]
     refine wpAnyH_ready (rs:=[6]) (by kernel_rfl) (by simp) ?_
     refine aT qbx6 71 7 43 (ints .u8 16 (Z)) ro (by rw [ints_len,ints_len]) (hS.trans (Out.setCells _ _ (Nat.le_refl _) (by rw [ints_len];exact Nat.le_refl _))) (infoSA _) (oneU 16 _) (fun rr=>dagW hG (stbx0.out _ g1 (hS.trans (Out.setCells _ _ (Nat.le_refl _) (by rw [ints_len];exact Nat.le_refl _))) rr G1) (hF.out _ _ _ _)) ?_
     exact AllReadyH.nil)
    have stbx2:Hid (∀ (cur:World) (g1:Nat),Out gs 0 16 Vbx cur→RW cur gs 0 (ints .u8 16 (B 9))→Vbx.heap.size≤g1→G 2 #[true,true,true,true,true,false,false] (F (.agg (ints .u8 16 (B 9)).toArray) (.slice (some ⟨g1,0,none⟩) 2 2) (.agg (ints .u8 16 (X2)).toArray) u43) cur):=Hid.mk' (by
     intro cur g1 hS ro G1
     rw [hF.out,hG.out]
     clear stbx0
     refine wpAnyH_ready (rs:=[5]) (by kernel_rfl) (by simp) ?_
     refine arC qbx5 (c2 cur) (fun e w1 ⟨he,hb⟩=>⟨_,he,hS.trans (Out.of_below hb ro.lt),dagW hG (stbx1.out w1 g1 (hS.trans (Out.of_below hb ro.lt)) (ro.still hb) G1) (hF.out _ _ _ _)⟩) ?_
     exact AllReadyH.nil)
    have stbx3:Hid (∀ (cur:World) (g1:Nat),Out gs 0 16 Vbx cur→RW cur gs 0 (ints .u8 16 (B 9))→RW cur g1 0 ([fnV 57,fnV 58])→Vbx.heap.size≤g1→G 3 #[true,true,false,true,true,false,false] (F (.agg (ints .u8 16 (B 9)).toArray) (.slice (some ⟨g1,0,none⟩) 2 2) u40 u43) cur):=Hid.mk' (by
     intro cur g1 hS ro r1 G1
     rw [hF.out,hG.out]
     clear stbx0 stbx1
     refine wpAnyH_ready (rs:=[2]) (by kernel_rfl) (by simp) ?_
     refine arC qbx2 (c1 _ cur r1) (fun e w1 ⟨he,hb⟩=>⟨_,he,hS.trans (Out.of_below hb ro.lt),dagW hG (stbx2.out w1 g1 (hS.trans (Out.of_below hb ro.lt)) (ro.still hb) G1) (hF.out _ _ _ _)⟩) ?_
     exact AllReadyH.nil)
    have stbx4:Hid (∀ (cur:World),Out gs 0 16 Vbx cur→RW cur gs 0 (ints .u8 16 (B 9))→G 4 #[true,false,false,true,true,false,false] (F (.agg (ints .u8 16 (B 9)).toArray) u39 u40 u43) cur):=Hid.mk' (by
     intro cur  hS ro
     rw [hF.out,hG.out]
     clear stbx0 stbx1 stbx2
     refine wpAnyH_ready (rs:=[1]) (by kernel_rfl) (by simp) ?_
     refine aG qbx1 (fun g => .slice (some ⟨g,0,none⟩) 2 2) ([fnV 57,fnV 58]) 75 (fun u hb=>hS.trans (Out.of_below hb ro.lt)) (fun w1 g1 lg hb rr=>dagW hG (stbx3.out w1 g1 (hS.trans (Out.of_below hb ro.lt)) (ro.still hb) rr (Nat.le_trans hS.size lg)) (hF.out _ _ _ _)) ?_
     exact AllReadyH.nil)
    have stbx5:Hid (∀ (cur:World) (g1:Nat),Out gs 0 16 Vbx cur→RW cur gs 0 (ints .u8 16 (B 9))→RW cur g1 0 ([fnV 57,fnV 58])→Vbx.heap.size≤g1→G 4 #[false,true,false,true,true,false,false] (F u38 (.slice (some ⟨g1,0,none⟩) 2 2) u40 u43) cur):=Hid.mk' (by
     intro cur g1 hS ro r1 G1
     rw [hF.out,hG.out]
     clear stbx0 stbx1 stbx2 stbx4
     refine wpAnyH_ready (rs:=[0]) (by kernel_rfl) (by simp) ?_
     refine aL qbx0 71 7 ro hS Try.underlying71 (infoS _) (dagW hG (stbx3.out cur g1 hS ro r1 G1) (hF.out _ _ _ _)) ?_
     exact AllReadyH.nil)
    have stbx6:Hid (∀ (cur:World),Out gs 0 16 Vbx cur→RW cur gs 0 (ints .u8 16 (B 9))→G 5 #[false,false,false,true,true,false,false] (F u38 u39 u40 u43) cur):=Hid.mk' (by
     intro cur  hS ro
     rw [hF.out,hG.out]
     clear stbx0 stbx1 stbx2 stbx3
     refine wpAnyH_ready (rs:=[0,1]) (by kernel_rfl) (by simp) ?_
     refine aL qbx0 71 7 ro hS Try.underlying71 (infoS _) (dagW hG (stbx4.out cur  hS ro) (hF.out _ _ _ _)) ?_
     refine aG qbx1 (fun g => .slice (some ⟨g,0,none⟩) 2 2) ([fnV 57,fnV 58]) 75 (fun u hb=>hS.trans (Out.of_below hb ro.lt)) (fun w1 g1 lg hb rr=>dagW hG (stbx5.out w1 g1 (hS.trans (Out.of_below hb ro.lt)) (ro.still hb) rr (Nat.le_trans hS.size lg)) (hF.out _ _ _ _)) ?_
     exact AllReadyH.nil)
    rw [hG.out]
    exact dagW hG (stbx6.out Vbx hS hs) (hF.out _ _ _ _)
end Go.Proofs.Ytalgabgofpmebaa
namespace Go.Proofs.Ytalgabgofpmebaa
open Go.RowKit
def RowS (w:World) (v:Value) (n:Nat) (X:Nat→Nat):Prop:=∃ g cap,v = .slice (some ⟨g,0,none⟩) n cap∧n≤cap∧RowAt .u8 w g 0 n X
theorem RowS.still {w w':World} {v:Value} {n:Nat} {X:Nat→Nat} (h:RowS w v n X) (hb:Below w.heap.size w w'):RowS w' v n X:=by
 obtain ⟨g,cap,rfl,hc,hr⟩:=h
 exact ⟨g,cap,rfl,hc,hr.still hb⟩
theorem RowS.bytes {w:World} {v:Value} {n:Nat} {X:Nat→Nat} (h:RowS w v n X) (hn:0<n):BytesIn w v n X:=by
 obtain ⟨g,cap,rfl,hc,hr⟩:=h
 exact rowB hr hn hc
end Go.Proofs.Ytalgabgofpmebaa
namespace Go.Proofs.Ytalgabgofpmebaa
open Go.RowKit
def RowF (base:Nat) (w:World) (v:Value) (n:Nat) (X:Nat→Nat):Prop:=∃ g cap,v = .slice (some ⟨g,0,none⟩) n cap∧base≤g∧n≤cap∧RowAt .u8 w g 0 n X
theorem RowF.row {base:Nat} {w:World} {v:Value} {n:Nat} {X:Nat→Nat} (h:RowF base w v n X):RowS w v n X:=by
 obtain ⟨g,cap,e,_,hc,hr⟩:=h
 exact ⟨g,cap,e,hc,hr⟩
theorem RowF.mono {base base':Nat} {w:World} {v:Value} {n:Nat} {X:Nat→Nat} (h:RowF base w v n X) (hb:base'≤base):RowF base' w v n X:=by
 obtain ⟨g,cap,e,h1,hc,hr⟩:=h
 exact ⟨g,cap,e,Nat.le_trans hb h1,hc,hr⟩
end Go.Proofs.Ytalgabgofpmebaa
namespace Go.Proofs.Ytalgabgofpmebaa
open Go.RowKit
theorem bit_fact (x k:Nat) (hx:x<256):(bits .and .u8 ((x:Int) / 2 ^ k) 1 == 1)=x.testBit k:=by
 have q1:=u8_and_nat (x / 2 ^ k) 1 (Nat.lt_of_le_of_lt (Nat.div_le_self _ _) hx) (by decide)
 rw [Nat.and_one_is_mod] at q1
 have q2:bits .and .u8 ((x:Int) / 2 ^ k) 1=((x / 2 ^ k%2:Nat):Int):=by rw [←q1];simp
 rw [q2,Nat.testBit_eq_decide_div_mod_eq]
 by_cases h:x / 2 ^ k%2=1
 · rw [h];rfl
 · have h0:x / 2 ^ k%2=0:=by omega
   rw [h0];rfl
set_option maxHeartbeats 1000000 in
theorem bit_any (v:Value) (X:Nat→Nat) (i:Nat) (hi:i<128) (hX:B16 X) (w:World) (hv:BytesIn w v 16 X) :
 Calls Try.prog 37 #[v,.int .i64 i] w fun e w'=>e = .returned (.bool (bitN X i))∧w'=w:=by
 obtain ⟨bb,ob,cb,rfl,hbb,hcb,hcell⟩:=hv.resolve_left (fun ⟨_,_,h⟩=>by omega)
 have r:=hcell (i / 8) (by omega)
 have hq:=bit_fact (X (i / 8)) (7 - i%8) (hX _ (by omega))
 rw [show (X (i / 8)).testBit (7 - i%8)=bitN X i from rfl] at hq
 generalize bitN X i=B at *
 generalize X (i / 8)=x at *
 have q1:(0:Int)≤(i:Int) / 8∧(i:Int) / 8<16:=by omega
 have q2:((i:Int) / 8).toNat=i / 8:=by omega
 have q3:(7 - (i:Int)%8).toNat=7 - i%8:=by omega
 have q4:(0:Int)≤7 - (i:Int)%8∧7 - (i:Int)%8<8:=by omega
 clear hcell hX hv
 go_enter Try.func37,Try.ntmps37
 go_wp2
 go_ret
 exact ⟨rfl,rfl⟩
def shK (X:Nat→Nat) (k j:Nat):Nat:=if k<j then (X j / 2 ||| X (j - 1)*128%256) else X j
set_option maxRecDepth 20000 in
set_option maxHeartbeats 8000000 in
theorem rtm_any (v u:Value) (a b:Nat→Nat) (ha:B16 a) (hbB:B16 b) (w:World) (hv:BytesIn w v 16 a) (hu:BytesIn w u 16 b) :
 Calls Try.prog 26 #[v,u] w fun e w'=>∃ s,e = .returned s∧RowF w.heap.size w' s 16 (tmN a b)∧Below w.heap.size w w':=by
 have hmk:=make_bytes w 16 16 rfl (by decide)
 have hp0:=RowAt.zero w 16 5
 have b1:Below w.heap.size w (w.alloc (.cells (zb 16) 5)):=(Below.refl _ _).alloc (Nat.le_refl _) _
 have hW1:(w.alloc (.cells (zb 16) 5)).heap.size=w.heap.size+1:=by simp
 obtain ⟨xv,cv,rfl,hxn,-,hsrc⟩:=hv.src
 generalize w.alloc (.cells (zb 16) 5)=W at *
 have bA:Below W.heap.size W (W.alloc (.cells #[] 5)):=(Below.refl _ _).alloc (Nat.le_refl _) _
 have src0:=hsrc _ (below_next b1 bA)
 have hfin:=tmP_tm b ha
 have hP0:tmP a b 0=fun _=>0:=rfl
 have hX0:tmX a 0=a:=rfl
 obtain ⟨xu,cu,rfl,-,-,-⟩:=hu.src
 generalize tmN a b=Z at *
 have HW1:=Hid.mk' hW1
 clear hsrc hv bA hW1
 go_enter Try.func26,Try.ntmps26
 go_wp2_with (first
  | rw [hmk]
  | (at_builtin;refine wpList_append_empty rfl (.tmp 12) (.tmp 13) rfl W.heap.size a _ rfl rfl xv 16 cv rfl src0 hxn (by decide) (Nat.le_refl _) ?_;intro v2 w2 own2 hb2;(obtain ⟨gx,cx,hv2,hgx,-,hcx,hx0⟩:=own2.form.resolve_left (fun h=>by omega));subst hv2;clear src0 own2))
 have hW1:=HW1.out
 have hp1:=hp0.still hb2
 have bw0:=below_next b1 hb2
 have ngx:w.heap.size<gx:=by omega
 clear hp0 hb2 b1 hW1 hgx hmk hxn
 go_loopw [7] (fun i wr=>∃ k:Nat,k≤128∧i = .int .i64 k∧RowAt .u8 wr w.heap.size 0 16 (tmP a b k)∧RowAt .u8 wr gx 0 16 (tmX a k)∧Below w.heap.size w wr) (fun i _=>128 - (intOf i).toNat)
 case atStart=>exact ⟨0,Nat.zero_le _,rfl,hp1,hx0,bw0⟩
 case round =>
  clear hp1 hx0 bw0
  obtain ⟨i,hi,rfl,hp,hx,bw⟩:=hrel
  by_cases hlt:i<128
  · have cb:=bit_any (.slice xu 16 cu) b i hlt hbB wr (hu.keep bw)
    have hnx:tmP a b (i+1)=if bitN b i then fun j=>tmP a b i j ^^^ tmX a i j else tmP a b i:=rfl
    have hii:(0:Int)≤(i:Int)∧(i:Int)<128:=by omega
    by_cases hbit:bitN b i=true
    · rw [if_pos hbit] at hnx
      rw [hbit] at cb
      have hpB:=tmP_B (b:=b) ha i
      have hxB:=tmX_B ha i
      obtain ⟨Q,hQ⟩:∃ Q,Q=tmP a b i:=⟨_,rfl⟩
      obtain ⟨X,hX⟩:∃ X,X=tmX a i:=⟨_,rfl⟩
      obtain ⟨Q2,hQ2⟩:∃ Q2,Q2=tmP a b (i+1):=⟨_,rfl⟩
      rw [←hQ,←hX,←hQ2] at hnx
      rw [←hQ] at hp hpB
      rw [←hX] at hx hxB
      have hqe:∀ j,Q j ^^^ X j=Q2 j:=fun j=>by rw [hnx]
      clear hnx hbit
      go_upto_region 7 with (go_at_call 37;refine cb.mono ?_;clear cb;rintro e w3 ⟨rfl,hw3⟩;subst hw3)
      go_wp2
      go_loopw [8] (fun k wq=>∃ m:Nat,m≤16∧k = .int .i64 m∧RowAt .u8 wq w.heap.size 0 16 (pr Q2 Q m)∧RowAt .u8 wq gx 0 16 X∧Below w.heap.size w wq) (fun k _=>16 - (intOf k).toNat)
      case atStart=>exact ⟨0,Nat.zero_le _,rfl,hp,hx,bw⟩
      case round =>
       clear hp hx bw
       obtain ⟨m,hm,rfl,hp,hx,bw⟩:=hrel
       by_cases hlm:m<16
       · obtain ⟨r1,f1⟩:=hp m hlm
         obtain ⟨r2,-⟩:=hx m hlm
         rw [Nat.zero_add] at r1 f1 r2
         rw [pr_at] at r1
         have hq:=u8_xor_nat (Q m) (X m) (hpB m hlm) (hxB m hlm)
         rw [hqe m] at hq
         have hs:=hp.next hlm (v:=(Q2 m:Int)) rfl
         have q1:(0:Int)≤(m:Int)∧(m:Int)<16:=by omega
         have m1:m+1≤16:=by omega
         have n1:¬w.heap.size=gx:=by omega
         clear hqe hpB hxB hQ hX hQ2 hfin hP0 hX0 ha hbB hu
         go_wp2
         go_region
         go_wp2
         go_roundw
         case rel=>exact ⟨m+1,m1,by go_num,hs.drew,(hx.far (by show w.heap.size≠gx;omega) _).drew,(bw.setCell (Nat.le_refl _) _).drew⟩
         case measure=>simp [intOf];omega
       · obtain rfl:m=16:=by omega
         replace hp:=hp.congr (fun j hj=>pr_full Q2 Q hj)
         rw [hQ2] at hp
         clear hqe hpB hQ hQ2
         rw [hX] at hx
         clear hxB hX
         have ct:=bit_any (.slice (some ⟨gx,0,none⟩) 16 cx) (tmX a i) 127 (by decide) (tmX_B ha i)
         have hxw:=hx
         go_upto_region 12 with (go_at_call 37;refine (ct _ (rowB hxw (by decide) hcx)).mono ?_;clear ct;rintro e w9 ⟨rfl,hw9⟩;subst hw9)
         obtain ⟨top,htop⟩:∃ top,top=bitN (tmX a i) 127:=⟨_,rfl⟩
         rw [←htop]
         have hxB:=tmX_B ha i
         have hsn:∀ j,tmX a (i+1) j=shN (tmX a i) j:=fun _=>rfl
         have hpB:=tmP_B (b:=b) ha (i+1)
         generalize hX:tmX a i=X at *
         clear hxw
         go_wp2
         go_loopw [10] (fun k wq=>∃ m:Nat,m≤15∧k = .int .i64 m∧RowAt .u8 wq gx 0 16 (shK X m)∧RowAt .u8 wq w.heap.size 0 16 (tmP a b (i+1))∧Below w.heap.size w wq) (fun k _=>(intOf k).toNat)
         case atStart=>exact ⟨15,Nat.le_refl _,rfl,hx.congr (fun j hj=>by unfold shK;rw [if_neg (by omega)]),hp,bw⟩
         case round =>
          clear hx hp bw
          obtain ⟨m,hm,rfl,hx,hp,bw⟩:=hrel
          by_cases h0:0<m
          · obtain ⟨n,rfl⟩:∃ n,m=n+1:=⟨m - 1,by omega⟩
            obtain ⟨r1,f1⟩:=hx (n+1) (by omega)
            obtain ⟨r2,-⟩:=hx n (by omega)
            rw [Nat.zero_add] at r1 f1 r2
            rw [show shK X (n+1) (n+1)=X (n+1) from if_neg (by omega)] at r1
            rw [show shK X (n+1) n=X n from if_neg (by omega)] at r2
            have b1:=hxB (n+1) (by omega)
            have b2:=hxB n (by omega)
            have hq:=u8_or_nat (X (n+1) / 2) (X n*128%256) (by omega) (Nat.mod_lt _ (by decide))
            have hs:=hx.set (i:=n+1) (by omega) (v:=((X (n+1) / 2 ||| X n*128%256:Nat):Int)) (u:=X (n+1) / 2 ||| X n*128%256) rfl
            rw [Nat.zero_add] at hs
            replace hs:=hs.congr (Y:=shK X n) (fun j _=>by
             unfold upd shK
             by_cases e:j=n+1
             · subst e;rw [if_pos rfl,if_pos (by omega)];rfl
             · rw [if_neg e]
               by_cases e2:n+1<j
               · rw [if_pos e2,if_pos (by omega)]
               · rw [if_neg e2,if_neg (by omega)])
            obtain ⟨y,hy⟩:∃ y,y=X (n+1) / 2 ||| X n*128%256:=⟨_,rfl⟩
            rw [←hy] at hq hs
            push_cast at hq
            generalize X (n+1)=x1 at *
            generalize X n=x0 at *
            have q1:(0:Int)<((n+1:Nat):Int):=by omega
            have q2:((n+1:Nat):Int) - 1=(n:Int):=by omega
            have q2':IntKind.i64.wrap (((n+1:Nat):Int) - 1)=(n:Int):=by simp only [IntKind.wrap_i64];omega
            have q3:(0:Int)≤((n+1:Nat):Int)∧((n+1:Nat):Int)<16:=by omega
            have q4:(0:Int)≤(n:Int)∧(n:Int)<16:=by omega
            have q5:((n+1:Nat):Int).toNat=n+1:=by omega
            have m1:n≤15:=by omega
            clear hy hsn hX htop hxB hpB ha hbB
            go_wp2
            go_region
            go_wp2
            go_roundw
            case rel=>exact ⟨n,m1,by go_num,hs.drew,(hp.far (by show gx≠w.heap.size;omega) _).drew,(bw.setCell (by show w.heap.size≤gx;omega) _).drew⟩
            case measure=>simp [intOf]
          · obtain rfl:m=0:=by omega
            obtain ⟨r1,f1⟩:=hx 0 (by decide)
            rw [Nat.zero_add] at r1 f1
            rw [show shK X 0 0=X 0 from if_neg (by omega)] at r1
            have b1:=hxB 0 (by decide)
            have m1:i+1≤128:=by omega
            have hx1:=hx.set (i:=0) (by decide) (v:=((X 0 / 2:Nat):Int)) (u:=X 0 / 2) rfl
            have hp1:=hp.far (a:=⟨gx,0,none⟩) (by show gx≠w.heap.size;omega) (.int .u8 ((X 0 / 2:Nat):Int))
            have bw1:=bw.setCell (p:=⟨gx,0,none⟩) (by show w.heap.size≤gx;omega) (.int .u8 ((X 0 / 2:Nat):Int))
            by_cases ht:top=true
            · have hxf:∀ j,j<16→upd (upd (shK X 0) 0 (X 0 / 2)) 0 (X 0 / 2 ^^^ 225) j=tmX a (i+1) j:=fun j _=>by
               rw [hsn]
               unfold shN upd shK
               rw [←htop,ht]
               by_cases e:j=0
               · subst e;rw [if_pos rfl,if_pos rfl,if_pos rfl]
               · rw [if_neg e,if_neg e,if_neg e,if_pos (by omega)]
              obtain ⟨r2,f2⟩:=hx1 0 (by decide)
              rw [Nat.zero_add] at r2 f2
              have hq:=u8_xor_nat (X 0 / 2) 225 (by omega) (by decide)
              push_cast at hq
              have hx2:=(hx1.set (i:=0) (by decide) (v:=((X 0 / 2 ^^^ 225:Nat):Int)) (u:=X 0 / 2 ^^^ 225) rfl).congr hxf
              have hp2:=hp1.far (a:=⟨gx,0,none⟩) (by show gx≠w.heap.size;omega) (.int .u8 ((X 0 / 2 ^^^ 225:Nat):Int))
              have bw2:=bw1.setCell (p:=⟨gx,0,none⟩) (by show w.heap.size≤gx;omega) (.int .u8 ((X 0 / 2 ^^^ 225:Nat):Int))
              push_cast at hx2 hp2 bw2
              clear hxf hsn hX hxB hpB hx hp bw hx1 hp1 bw1 htop
              subst ht
              go_wp2
              go_roundw
              case rel=>exact ⟨i+1,m1,by go_num,hp2,hx2,bw2⟩
              case measure=>simp [intOf];omega
            · have hxf:∀ j,j<16→upd (shK X 0) 0 (X 0 / 2) j=tmX a (i+1) j:=fun j _=>by
               rw [hsn]
               unfold shN upd shK
               rw [←htop]
               by_cases e:j=0
               · subst e;rw [if_pos rfl,if_pos rfl,if_neg ht]
               · rw [if_neg e,if_neg e,if_pos (by omega)]
              have hx2:=hx1.congr hxf
              have hp2:=hp1
              have bw2:=bw1
              push_cast at hx2 hp2 bw2
              have ht':top=false:=eq_false_of_ne_true ht
              clear hxf hsn hX hxB hpB hx hp bw hx1 hp1 bw1 htop ht
              subst ht'
              go_wp2
              go_roundw
              case rel=>exact ⟨i+1,m1,by go_num,hp2,hx2,bw2⟩
              case measure=>simp [intOf];omega
    · have hbf:bitN b i=false:=eq_false_of_ne_true hbit
      rw [if_neg hbit] at hnx
      rw [hbf] at cb
      rw [←hnx] at hp
      clear hnx hbit
      go_upto_region 11 with (go_at_call 37;refine cb.mono ?_;clear cb;rintro e w3 ⟨rfl,hw3⟩;subst hw3)
      have ct:=bit_any (.slice (some ⟨gx,0,none⟩) 16 cx) (tmX a i) 127 (by decide) (tmX_B ha i)
      have hxw:=hx
      go_upto_region 12 with (go_at_call 37;refine (ct _ (rowB hxw (by decide) hcx)).mono ?_;clear ct;rintro e w9 ⟨rfl,hw9⟩;subst hw9)
      obtain ⟨top,htop⟩:∃ top,top=bitN (tmX a i) 127:=⟨_,rfl⟩
      rw [←htop]
      have hxB:=tmX_B ha i
      have hsn:∀ j,tmX a (i+1) j=shN (tmX a i) j:=fun _=>rfl
      have hpB:=tmP_B (b:=b) ha (i+1)
      generalize hX:tmX a i=X at *
      clear hxw
      go_wp2
      go_loopw [10] (fun k wq=>∃ m:Nat,m≤15∧k = .int .i64 m∧RowAt .u8 wq gx 0 16 (shK X m)∧RowAt .u8 wq w.heap.size 0 16 (tmP a b (i+1))∧Below w.heap.size w wq) (fun k _=>(intOf k).toNat)
      case atStart=>exact ⟨15,Nat.le_refl _,rfl,hx.congr (fun j hj=>by unfold shK;rw [if_neg (by omega)]),hp,bw⟩
      case round =>
       clear hx hp bw
       obtain ⟨m,hm,rfl,hx,hp,bw⟩:=hrel
       by_cases h0:0<m
       · obtain ⟨n,rfl⟩:∃ n,m=n+1:=⟨m - 1,by omega⟩
         obtain ⟨r1,f1⟩:=hx (n+1) (by omega)
         obtain ⟨r2,-⟩:=hx n (by omega)
         rw [Nat.zero_add] at r1 f1 r2
         rw [show shK X (n+1) (n+1)=X (n+1) from if_neg (by omega)] at r1
         rw [show shK X (n+1) n=X n from if_neg (by omega)] at r2
         have b1:=hxB (n+1) (by omega)
         have b2:=hxB n (by omega)
         have hq:=u8_or_nat (X (n+1) / 2) (X n*128%256) (by omega) (Nat.mod_lt _ (by decide))
         have hs:=hx.set (i:=n+1) (by omega) (v:=((X (n+1) / 2 ||| X n*128%256:Nat):Int)) (u:=X (n+1) / 2 ||| X n*128%256) rfl
         rw [Nat.zero_add] at hs
         replace hs:=hs.congr (Y:=shK X n) (fun j _=>by
          unfold upd shK
          by_cases e:j=n+1
          · subst e;rw [if_pos rfl,if_pos (by omega)];rfl
          · rw [if_neg e]
            by_cases e2:n+1<j
            · rw [if_pos e2,if_pos (by omega)]
            · rw [if_neg e2,if_neg (by omega)])
         obtain ⟨y,hy⟩:∃ y,y=X (n+1) / 2 ||| X n*128%256:=⟨_,rfl⟩
         rw [←hy] at hq hs
         push_cast at hq
         generalize X (n+1)=x1 at *
         generalize X n=x0 at *
         have q1:(0:Int)<((n+1:Nat):Int):=by omega
         have q2:((n+1:Nat):Int) - 1=(n:Int):=by omega
         have q2':IntKind.i64.wrap (((n+1:Nat):Int) - 1)=(n:Int):=by simp only [IntKind.wrap_i64];omega
         have q3:(0:Int)≤((n+1:Nat):Int)∧((n+1:Nat):Int)<16:=by omega
         have q4:(0:Int)≤(n:Int)∧(n:Int)<16:=by omega
         have q5:((n+1:Nat):Int).toNat=n+1:=by omega
         have m1:n≤15:=by omega
         clear hy hsn hX htop hxB hpB ha hbB
         go_wp2
         go_region
         go_wp2
         go_roundw
         case rel=>exact ⟨n,m1,by go_num,hs.drew,(hp.far (by show gx≠w.heap.size;omega) _).drew,(bw.setCell (by show w.heap.size≤gx;omega) _).drew⟩
         case measure=>simp [intOf]
       · obtain rfl:m=0:=by omega
         obtain ⟨r1,f1⟩:=hx 0 (by decide)
         rw [Nat.zero_add] at r1 f1
         rw [show shK X 0 0=X 0 from if_neg (by omega)] at r1
         have b1:=hxB 0 (by decide)
         have m1:i+1≤128:=by omega
         have hx1:=hx.set (i:=0) (by decide) (v:=((X 0 / 2:Nat):Int)) (u:=X 0 / 2) rfl
         have hp1:=hp.far (a:=⟨gx,0,none⟩) (by show gx≠w.heap.size;omega) (.int .u8 ((X 0 / 2:Nat):Int))
         have bw1:=bw.setCell (p:=⟨gx,0,none⟩) (by show w.heap.size≤gx;omega) (.int .u8 ((X 0 / 2:Nat):Int))
         by_cases ht:top=true
         · have hxf:∀ j,j<16→upd (upd (shK X 0) 0 (X 0 / 2)) 0 (X 0 / 2 ^^^ 225) j=tmX a (i+1) j:=fun j _=>by
            rw [hsn]
            unfold shN upd shK
            rw [←htop,ht]
            by_cases e:j=0
            · subst e;rw [if_pos rfl,if_pos rfl,if_pos rfl]
            · rw [if_neg e,if_neg e,if_neg e,if_pos (by omega)]
           obtain ⟨r2,f2⟩:=hx1 0 (by decide)
           rw [Nat.zero_add] at r2 f2
           have hq:=u8_xor_nat (X 0 / 2) 225 (by omega) (by decide)
           push_cast at hq
           have hx2:=(hx1.set (i:=0) (by decide) (v:=((X 0 / 2 ^^^ 225:Nat):Int)) (u:=X 0 / 2 ^^^ 225) rfl).congr hxf
           have hp2:=hp1.far (a:=⟨gx,0,none⟩) (by show gx≠w.heap.size;omega) (.int .u8 ((X 0 / 2 ^^^ 225:Nat):Int))
           have bw2:=bw1.setCell (p:=⟨gx,0,none⟩) (by show w.heap.size≤gx;omega) (.int .u8 ((X 0 / 2 ^^^ 225:Nat):Int))
           push_cast at hx2 hp2 bw2
           clear hxf hsn hX hxB hpB hx hp bw hx1 hp1 bw1 htop
           subst ht
           go_wp2
           go_roundw
           case rel=>exact ⟨i+1,m1,by go_num,hp2,hx2,bw2⟩
           case measure=>simp [intOf];omega
         · have hxf:∀ j,j<16→upd (shK X 0) 0 (X 0 / 2) j=tmX a (i+1) j:=fun j _=>by
            rw [hsn]
            unfold shN upd shK
            rw [←htop]
            by_cases e:j=0
            · subst e;rw [if_pos rfl,if_pos rfl,if_neg ht]
            · rw [if_neg e,if_neg e,if_pos (by omega)]
           have hx2:=hx1.congr hxf
           have hp2:=hp1
           have bw2:=bw1
           push_cast at hx2 hp2 bw2
           have ht':top=false:=eq_false_of_ne_true ht
           clear hxf hsn hX hxB hpB hx hp bw hx1 hp1 bw1 htop ht
           subst ht'
           go_wp2
           go_roundw
           case rel=>exact ⟨i+1,m1,by go_num,hp2,hx2,bw2⟩
           case measure=>simp [intOf];omega
  · obtain rfl:i=128:=by omega
    have hp':=hp.congr hfin
    clear hfin
    go_wp2
    go_ret
    exact ⟨_,rfl,⟨w.heap.size,16,rfl,Nat.le_refl _,Nat.le_refl _,hp'⟩,bw⟩
end Go.Proofs.Ytalgabgofpmebaa
namespace Go.Proofs.Ytalgabgofpmebaa
open Go.RowKit
def slLen:Value→Nat
 | .slice _ n _=>n
 | _=>0
theorem Own.sl {base:Nat} {w:World} {v:Value} {n:Nat} {X:Nat→Nat} (h:Own base w v n X):∃ xo c,v = .slice xo n c:=by
 rcases h.form with ⟨rfl,rfl⟩ | ⟨g,cap,rfl,_⟩
 · exact ⟨none,0,rfl⟩
 · exact ⟨_,cap,rfl⟩
theorem Own.bytesOf {base:Nat} {w:World} {v:Value} {n:Nat} {X:Nat→Nat} (h:Own base w v n X):BytesIn w v n X:=by
 rcases h.form with ⟨rfl,rfl⟩ | ⟨g,cap,rfl,_,hg,hc,hr⟩
 · exact .inl ⟨none,rfl,rfl⟩
 · exact .inr ⟨g,0,cap,rfl,hg,hc,fun j hj=>(hr j hj).1⟩
set_option maxRecDepth 20000 in
set_option maxHeartbeats 4000000 in
theorem full_any (v:Value) (n:Nat) (bs:Nat→Nat) (w:World) (hv:BytesIn w v n bs) (hn:n<140737488355300) :
 Calls Try.prog 29 #[v] w fun e w'=>∃ s,e = .returned s∧Own w.heap.size w' s (pad n) (padN n bs)∧Below w.heap.size w w':=by
 obtain ⟨xv,cv,rfl,hxn,-,hsrc⟩:=hv.src
 have src0:=hsrc _ ((Below.refl _ _).alloc (Nat.le_refl _) (.cells #[] 5))
 clear hsrc hv
 go_enter Try.func29,Try.ntmps29
 go_wp2_with (at_builtin;refine wpList_append_empty rfl (.tmp 4) (.tmp 5) rfl w.heap.size bs _ rfl rfl xv n cv rfl src0 hxn (by omega) (Nat.le_refl _) ?_;intro v1 w1 own1 hb1;clear src0)
 go_loopw [3] (fun o wr=>∃ m:Nat,n≤m∧m≤pad n∧Own w.heap.size wr o m (padN n bs)∧Below w.heap.size w wr) (fun o _=>pad n - slLen o)
 case atStart=>exact ⟨n,Nat.le_refl _,by unfold pad;omega,own1.congr (fun j hj=>by unfold padN;rw [if_pos hj]),hb1⟩
 case round =>
  clear own1 hb1
  obtain ⟨m,hnm,hmp,own,b⟩:=hrel
  obtain ⟨xo,c,rfl⟩:=own.sl
  by_cases h16:m%16=0
  · have e:m=pad n:=by unfold pad at *;omega
    have q:((m:Int)%16 != 0)=false:=by
     have:(m:Int)%16=0:=by omega
     rw [this];rfl
    subst e
    go_wp2
    go_ret
    exact ⟨_,rfl,own,b⟩
  · have hlt:m<pad n:=by
     rcases Nat.lt_or_ge m (pad n) with h | h
     · exact h
     · have:m=pad n:=Nat.le_antisymm hmp h
       unfold pad at this;omega
    have q:((m:Int)%16 != 0)=true:=bne_iff_ne.2 (by omega)
    have hF:(0:Int)=((padN n bs m:Nat):Int):=by unfold padN;rw [if_neg (by omega)];rfl
    have HF:=Hid.mk' hF
    clear hF
    have hs:=b.size
    have hm2:m+1≤140737488355328:=by unfold pad at hlt;omega
    go_wp2_with (at_builtin;refine wpList_append_next rfl (.tmp 11) (.tmp 12) rfl w.heap.size _ m (padN n bs) _ rfl own rfl HF.out hm2 hs ?_;intro v2 w2 own2 hb2;(have b2:=b.trans hb2);clear own;(obtain ⟨xo2,c2,hv2⟩:=own2.sl);subst hv2)
    go_roundw
    case rel=>exact ⟨m+1,by omega,hlt,own2,b2⟩
    case measure=>show pad n - (m+1)<pad n - m;omega
def ctN (nonce:Nat→Nat) (n j:Nat):Nat:=if j<12 then nonce j else be4 n (j - 12)
theorem ctN_B {nonce:Nat→Nat} (h:∀ j,nonce j<256) (n:Nat):B16 (ctN nonce n):=fun j _=>by
 unfold ctN
 split
 · exact h j
 · exact be4_lt _ _
def ctB (ks nonce:Nat→Nat) (n:Nat):Nat→Nat:=blkN (kyN ks) (ctN nonce n)
theorem ctB_B {ks nonce:Nat→Nat} (hk:∀ j,ks j<256) (h:∀ j,nonce j<256) (n:Nat):B16 (ctB ks nonce n):=blkN_B (ctN_B h n) (kyN_lt hk)
end Go.Proofs.Ytalgabgofpmebaa
namespace Go.Proofs.Ytalgabgofpmebaa
open Go.RowKit
def hsS (h X:Nat→Nat):Nat→Nat→Nat
 | 0=>fun _=>0
 | k+1=>tmN (fun j=>hsS h X k j ^^^ X (16*k+j)) h
def hsN (h:Nat→Nat) (n:Nat) (X:Nat→Nat):Nat→Nat:=hsS h (padN n X) (pad n / 16)
theorem hsS_lt (h X:Nat→Nat) (k j:Nat):hsS h X k j<256:=by
 cases k with
 | zero=>exact (by decide:0<256)
 | succ k=>exact tmN_lt _ _ j
set_option maxHeartbeats 1000000 in
theorem rHash_bad (v u:Value) (n m:Nat) (hs bs:Nat→Nat) (w:World) (hv:BytesIn w v n hs) (hu:BytesIn w u m bs) (hn:n≠16) :
 Calls Try.prog 17 #[v,u] w fun e w'=>e = .returned (.tuple #[.slice none 0 0,.int .i64 1])∧w'=w:=by
 obtain ⟨xv,cv,rfl,-,-,-⟩:=hv.src
 obtain ⟨xu,cu,rfl,-,-,-⟩:=hu.src
 have hn':¬(n:Int)=16:=by omega
 clear hv hu
 go_enter Try.func17,Try.ntmps17
 go_wp2
 go_ret2
 exact ⟨rfl,rfl⟩
set_option maxRecDepth 20000 in
set_option maxHeartbeats 8000000 in
theorem rHash_good (v u:Value) (n:Nat) (hs bs:Nat→Nat) (hB:B16 hs) (hbs:∀ j,bs j<256) (hn:n<140737488355300) (w:World) (hv:BytesIn w v 16 hs) (hu:BytesIn w u n bs) :
 Calls Try.prog 17 #[v,u] w fun e w'=>∃ s,e = .returned (.tuple #[s,.int .i64 0])∧RowF w.heap.size w' s 16 (hsN hs n bs)∧Below w.heap.size w w':=by
 have hmk:=make_bytes w 16 16 rfl (by decide)
 have hy0:=RowAt.zero w 16 5
 have b1:Below w.heap.size w (w.alloc (.cells (zb 16) 5)):=(Below.refl _ _).alloc (Nat.le_refl _) _
 have hW1:(w.alloc (.cells (zb 16) 5)).heap.size=w.heap.size+1:=by simp
 have cf:=fun W hb=>full_any u n bs W (hu.keep hb) (by omega)
 have cf1:=cf _ b1
 have hpl:pad n<140737488355328:=by unfold pad;omega
 have hp16:pad n%16=0:=by unfold pad;omega
 have hXl:∀ j,padN n bs j<256:=padN_lt hbs
 have hfin:hsN hs n bs=hsS hs (padN n bs) (pad n / 16):=rfl
 have hst:∀ k,hsS hs (padN n bs) (k+1)=tmN (fun j=>hsS hs (padN n bs) k j ^^^ padN n bs (16*k+j)) hs:=fun _=>rfl
 have hsl:=hsS_lt hs (padN n bs)
 have hs0:hsS hs (padN n bs) 0=fun _=>0:=rfl
 have ct:=fun k x W hb hx=>rtm_any x v (fun j=>hsS hs (padN n bs) k j ^^^ padN n bs (16*k+j)) hs (fun j _=>xor_byte (hsl k j) (hXl _)) hB W hx (hv.keep hb)
 obtain ⟨Hs,hHs⟩:∃ Hs,Hs=hsS hs (padN n bs):=⟨_,rfl⟩
 simp only [←hHs] at hst ct hsl hs0 hfin
 simp only [←hst] at ct
 generalize hN:pad n=N at *
 generalize padN n bs=X at *
 rw [hfin]
 obtain ⟨xv,cv,rfl,-,-,-⟩:=hv.src
 obtain ⟨xu,cu,rfl,-,-,-⟩:=hu.src
 generalize w.alloc (.cells (zb 16) 5)=W at *
 have HW1:=Hid.mk' hW1
 obtain ⟨Z,hZ⟩:∃ Z,Z=Hs (N / 16):=⟨_,rfl⟩
 rw [←hZ]
 have HZ:=Hid.mk' hZ
 clear hv hu cf hW1 hHs hfin hZ hN hst hB
 go_enter Try.func17,Try.ntmps17
 go_wp2_with (first
  | rw [hmk]
  | (go_at_call 29;refine cf1.mono ?_;clear cf1;rintro e w2 ⟨s2,rfl,own2,hb2⟩;(obtain ⟨xo,cx,hv2⟩:=own2.sl);subst hv2))
 have hW1:=HW1.out
 have hy1:=hy0.still hb2
 have bw0:=below_next b1 hb2
 have nW:w.heap.size<W.heap.size:=by omega
 clear hy0 b1 hW1 HW1 hmk
 by_cases h0:N=0
 · subst h0
   have hz:Z=Hs 0:=HZ.out
   rw [hs0] at hz
   subst hz
   clear ct hsl hXl hs0 own2 hpl hp16
   go_loopw [6,8] (fun y i wr=>y = .slice (some ⟨w.heap.size,0,none⟩) 16 16∧i = .int .i64 0∧wr=w2) (fun _ _ _=>0)
   case atStart=>exact ⟨rfl,rfl,rfl⟩
   case round =>
    obtain ⟨rfl,rfl,hwr⟩:=hrel
    subst hwr
    go_wp2
    go_ret2
    exact ⟨_,rfl,⟨w.heap.size,16,rfl,Nat.le_refl _,Nat.le_refl _,hy1⟩,bw0⟩
 · obtain ⟨gx,cx',hvx,hgx,hgxl,-,hx0⟩:=own2.form.resolve_left (fun h=>h0 h.2)
   cases hvx
   have nyx:w.heap.size≠gx:=by omega
   rw [←hs0] at hy1
   clear own2 hb2 hs0
   go_loopw [6,8] (fun y i wr=>∃ k gy cy:Nat,16*k≤N∧y = .slice (some ⟨gy,0,none⟩) 16 cy∧16≤cy∧i = .int .i64 ((16*k:Nat):Int)∧w.heap.size≤gy∧gy≠gx∧RowAt .u8 wr gy 0 16 (Hs k)∧RowAt .u8 wr gx 0 N X∧Below w.heap.size w wr) (fun _ i _=>N - (intOf i).toNat)
   case atStart=>exact ⟨0,w.heap.size,16,Nat.zero_le _,rfl,Nat.le_refl _,rfl,Nat.le_refl _,nyx,hy1,hx0,bw0⟩
   case round =>
    clear hy1 hx0 bw0 nyx
    obtain ⟨k,gy,cy,hk,rfl,hcy,rfl,wgy,nyx,hy,hx,bw⟩:=hrel
    by_cases hlt:16*k<N
    · have hlt':((16*k:Nat):Int)<(N:Int):=by omega
      have hfit:16*k+16≤N:=by omega
      have c1:=ct k
      have hyl:=hsl k
      obtain ⟨Y,hYe⟩:∃ Y,Y=Hs k:=⟨_,rfl⟩
      rw [←hYe] at hy hyl c1
      obtain ⟨Y2,hY2⟩:∃ Y2:Nat→Nat,Y2=fun j=>Y j ^^^ X (16*k+j):=⟨_,rfl⟩
      have hqe:∀ j,Y j ^^^ X (16*k+j)=Y2 j:=fun j=>by rw [hY2]
      rw [←hY2] at c1
      clear hY2 hYe ct
      go_wp2
      go_loopw [9] (fun q wq=>∃ m:Nat,m≤16∧q = .int .i64 m∧RowAt .u8 wq gy 0 16 (pr Y2 Y m)∧RowAt .u8 wq gx 0 N X∧Below w.heap.size w wq) (fun q _=>16 - (intOf q).toNat)
      case atStart=>exact ⟨0,Nat.zero_le _,rfl,hy,hx,bw⟩
      case round =>
       clear hy hx bw
       obtain ⟨m,hm,rfl,hy,hx,bw⟩:=hrel
       by_cases hlm:m<16
       · obtain ⟨r1,f1⟩:=hy m hlm
         obtain ⟨r2,-⟩:=hx (16*k+m) (by omega)
         rw [Nat.zero_add] at r1 f1 r2
         rw [pr_at] at r1
         have hq:=u8_xor_nat (Y m) (X (16*k+m)) (hyl m) (hXl _)
         rw [hqe m] at hq
         have hs:=hy.next hlm (v:=(Y2 m:Int)) rfl
         have q1:(0:Int)≤(m:Int)∧(m:Int)<16:=by omega
         have q2:(0:Int)≤16*(k:Int)+(m:Int)∧16*(k:Int)+(m:Int)<(N:Int):=by omega
         have q3:(16*(k:Int)+(m:Int)).toNat=16*k+m:=by omega
         have q4:IntKind.i64.wrap (16*(k:Int)+(m:Int))=16*(k:Int)+(m:Int):=by simp only [IntKind.wrap_i64];omega
         have q5:((16*k:Nat):Int)=16*(k:Int):=by omega
         have m1:m+1≤16:=by omega
         have n1:¬gy=gx:=nyx
         clear hqe hyl hXl c1 hsl
         go_wp2
         go_region
         go_wp2
         go_roundw
         case rel=>exact ⟨m+1,m1,by go_num,hs.drew,(hx.far (by show gy≠gx;exact nyx) _).drew,(bw.setCell wgy _).drew⟩
         case measure=>simp [intOf];omega
       · obtain rfl:m=16:=by omega
         replace hy:=hy.congr (fun j hj=>pr_full Y2 Y hj)
         have c2:=c1 _ wr bw (rowB hy (by decide) hcy)
         have m1:16*(k+1)≤N:=by omega
         have e1:((16*k:Nat):Int)+16=((16*(k+1):Nat):Int):=by omega
         have e2:IntKind.i64.wrap (((16*k:Nat):Int)+16)=((16*(k+1):Nat):Int):=by simp only [IntKind.wrap_i64];omega
         have gxl:gx<wr.heap.size:=block_lt_of_cell (hx 0 (by omega)).1
         clear hqe hyl hXl c1 hsl
         go_wp2_with (go_at_call 26;refine c2.mono ?_;clear c2;rintro e w5 ⟨s5,rfl,⟨g5,c5,hs5,hg5,hc5,r5⟩,hb5⟩;subst hs5)
         go_roundw
         case rel=>exact ⟨k+1,g5,c5,m1,rfl,hc5,by go_num,Nat.le_trans bw.size hg5,by omega,r5,hx.still hb5,below_next bw hb5⟩
         case measure=>simp [intOf];omega
    · have hke:k=N / 16:=by omega
      have hlt':¬((16*k:Nat):Int)<(N:Int):=by omega
      have hZ:=HZ.out
      rw [←hke] at hZ
      rw [←hZ] at hy
      clear ct hsl hXl hZ hke
      go_wp2
      go_ret2
      exact ⟨_,rfl,⟨gy,cy,rfl,wgy,hcy,hy⟩,bw⟩
end Go.Proofs.Ytalgabgofpmebaa
namespace Go.Proofs.Ytalgabgofpmebaa
open Go.RowKit
def trN (ks nn X:Nat→Nat) (j:Nat):Nat:=X j ^^^ ctB ks nn (2+j / 16) (j%16)
theorem trN_lt {ks nn X:Nat→Nat} (hk:∀ j,ks j<256) (hn:∀ j,nn j<256) (hX:∀ j,X j<256) (j:Nat):trN ks nn X j<256:=xor_byte (hX j) (ctB_B hk hn _ _ (by omega))
end Go.Proofs.Ytalgabgofpmebaa
namespace Go.Proofs.Ytalgabgofpmebaa
open Go.RowKit
set_option maxHeartbeats 1000000 in
theorem rTimes_bad (v u:Value) (n m:Nat) (ks bs:Nat→Nat) (w:World) (hv:BytesIn w v n ks) (hu:BytesIn w u m bs) (h:¬(n=16∧m=16)) :
 Calls Try.prog 12 #[v,u] w fun e w'=>e = .returned (.tuple #[.slice none 0 0,.int .i64 1])∧w'=w:=by
 obtain ⟨xk,ck,rfl,-,-,-⟩:=hv.src
 obtain ⟨xb,cb,rfl,-,-,-⟩:=hu.src
 clear hv hu
 by_cases hn:n=16
 · subst hn
   have hm':¬(m:Int)=16:=by omega
   clear h
   go_enter Try.func12,Try.ntmps12
   go_wp2
   go_ret2
   exact ⟨rfl,rfl⟩
 · have hn':¬(n:Int)=16:=by omega
   clear h hn
   go_enter Try.func12,Try.ntmps12
   go_wp2
   go_ret2
   exact ⟨rfl,rfl⟩
set_option maxHeartbeats 1000000 in
theorem rTimes_good (v u:Value) (a b:Nat→Nat) (ha:B16 a) (hb:B16 b) (w:World) (hv:BytesIn w v 16 a) (hu:BytesIn w u 16 b) :
 Calls Try.prog 12 #[v,u] w fun e w'=>∃ s,e = .returned (.tuple #[s,.int .i64 0])∧RowF w.heap.size w' s 16 (tmN a b)∧Below w.heap.size w w':=by
 have c:=rtm_any v u a b ha hb w hv hu
 obtain ⟨xk,ck,rfl,-,-,-⟩:=hv.src
 obtain ⟨xb,cb,rfl,-,-,-⟩:=hu.src
 clear hv hu ha hb
 go_enter Try.func12,Try.ntmps12
 go_wp2_with (go_at_call 26;refine c.mono ?_;clear c;rintro e w1 ⟨s1,rfl,r1,b1⟩)
 go_ret2
 exact ⟨s1,rfl,r1,b1⟩
def auN (ml:Nat) (M:Nat→Nat) (dl:Nat) (D:Nat→Nat):Nat→Nat:=cat (pad ml+pad dl+8) (cat (pad ml+pad dl) (cat (pad ml) (padN ml M) (padN dl D)) (lnN ml)) (lnN dl)
def h0N (ks:Nat→Nat):Nat→Nat:=blkN (kyN ks) (fun _=>0)
def tgN (ks nn:Nat→Nat) (ml:Nat) (M:Nat→Nat) (dl:Nat) (D:Nat→Nat) (j:Nat):Nat:=ctB ks nn 1 j ^^^ hsN (h0N ks) (pad ml+pad dl+16) (auN ml M dl D) j
theorem hsN_lt (h:Nat→Nat) (n:Nat) (X:Nat→Nat) (j:Nat):hsN h n X j<256:=hsS_lt _ _ _ j
def slN (ks nn:Nat→Nat) (ml:Nat) (M:Nat→Nat) (n:Nat) (X:Nat→Nat):Nat→Nat:=cat n (trN ks nn X) (tgN ks nn ml M n (trN ks nn X))
end Go.Proofs.Ytalgabgofpmebaa
namespace Go.Proofs.Ytalgabgofpmebaa
open Go.RowKit
def hsG (h:V8) (B:Nat→V8) (s:V8):Nat→V8
 | 0=>s
 | k+1=>gTm (hsG h B s k ^^^ B k) h
theorem hsV_G (h s:V8) (n:Nat) (X:Nat→Nat):∀ k,hsV h s n X k=hsG h (blkT n X) s k
 | 0=>rfl
 | k+1=>by
  show gTm (hsV h s n X k ^^^ blkT n X k) h=gTm (hsG h (blkT n X) s k ^^^ blkT n X k) h
  rw [hsV_G h s n X k]
theorem hsS_G (h Z:Nat→Nat):∀ k,toV (hsS h Z k)=hsG (toV h) (fun k=>toV (fun j=>Z (16*k+j))) vZ k
 | 0=>toV_zero
 | k+1=>by
  show toV (tmN (fun j=>hsS h Z k j ^^^ Z (16*k+j)) h)=gTm (hsG (toV h) (fun k=>toV (fun j=>Z (16*k+j))) vZ k ^^^ toV (fun j=>Z (16*k+j))) (toV h)
  rw [←hsS_G h Z k,←toV_xor]
  exact toV_byV _
theorem hsG_S (h:V8) {B C:Nat→V8} (s:V8):∀ k,(∀ j,j<k→B j=C j)→hsG h B s k=hsG h C s k
 | 0,_=>rfl
 | k+1,e=>by
  show gTm (hsG h B s k ^^^ B k) h=gTm (hsG h C s k ^^^ C k) h
  rw [hsG_S h s k (fun j hj=>e j (by omega)),e k (by omega)]
theorem hsG_add (h:V8) (B:Nat→V8) (s:V8) (a:Nat):∀ b,hsG h B s (a+b)=hsG h (fun k=>B (a+k)) (hsG h B s a) b
 | 0=>rfl
 | b+1=>by
  show gTm (hsG h B s (a+b) ^^^ B (a+b)) h=gTm (hsG h (fun k=>B (a+k)) (hsG h B s a) b ^^^ B (a+b)) h
  rw [hsG_add h B s a b]
theorem pad_nb (n:Nat):pad n=16*nb n:=by unfold pad nb;omega
theorem hash_one (h X:Nat→Nat) (n:Nat):toV (hsN h n X)=hsC (toV h) (fun _=>n) (fun _=>X) 1:=by
 show toV (hsS h (padN n X) (pad n / 16))=hsV (toV h) vZ n X (nb n)
 rw [hsS_G,hsV_G,pad_nb,Nat.mul_div_cancel_left _ (by decide)]
 rfl
def three {α:Type} (a b c:α) (i:Nat):α:=if i=0 then a else if i=1 then b else c
theorem hash_tag (h M D:Nat→Nat) (ml dl:Nat):toV (hsN h (pad ml+pad dl+16) (auN ml M dl D))=hsC (toV h) (three ml dl 16) (three M D (byV (lnV ml dl))) 3:=by
 show toV (hsS h (padN (pad ml+pad dl+16) (auN ml M dl D)) (pad (pad ml+pad dl+16) / 16))=hsV (toV h) (hsV (toV h) (hsV (toV h) vZ ml M (nb ml)) dl D (nb dl)) 16 (byV (lnV ml dl)) (nb 16)
 have e0:pad (pad ml+pad dl+16) / 16=nb ml+(nb dl+1):=by unfold pad nb;omega
 rw [hsS_G,hsV_G,hsV_G,hsV_G,e0,hsG_add,hsG_add]
 have p1:=pad_nb ml
 have p2:=pad_nb dl
 have e1:hsG (toV h) (fun k=>toV (fun j=>padN (pad ml+pad dl+16) (auN ml M dl D) (16*k+j))) vZ (nb ml)=hsG (toV h) (blkT ml M) vZ (nb ml):=hsG_S _ _ _ fun k hk=>toV_S fun j hj=>by
  unfold padN auN cat
  rw [if_pos (by omega),if_pos (by omega),if_pos (by omega),if_pos (by omega)]
  rfl
 rw [e1]
 have e2:hsG (toV h) (fun k=>toV (fun j=>padN (pad ml+pad dl+16) (auN ml M dl D) (16*(nb ml+k)+j))) (hsG (toV h) (blkT ml M) vZ (nb ml)) (nb dl)=hsG (toV h) (blkT dl D) (hsG (toV h) (blkT ml M) vZ (nb ml)) (nb dl):=hsG_S _ _ _ fun k hk=>toV_S fun j hj=>by
  unfold padN auN cat
  rw [if_pos (by omega),if_pos (by omega),if_pos (by omega),if_neg (by omega),show 16*(nb ml+k)+j - pad ml=16*k+j by omega]
  rfl
 rw [e2]
 refine hsG_S _ _ _ fun k hk => ?_
 obtain rfl:k=0:=by omega
 have e3:blkT 16 (byV (lnV ml dl)) 0=lnV ml dl:=by
  have:blkT 16 (byV (lnV ml dl)) 0=toV (byV (lnV ml dl)):=toV_S fun j hj=>by
   unfold padN
   rw [if_pos (by omega),Nat.mul_zero,Nat.zero_add]
  rw [this,toV_byV]
 rw [e3]
 unfold lnV
 refine toV_S fun j hj => ?_
 unfold padN auN cat
 rw [if_pos (by omega)]
 by_cases h8:j<8
 · rw [if_pos (by omega),if_neg (by omega),if_pos h8]
   congr 1
   omega
 · rw [if_neg (by omega),if_neg h8]
   congr 1
   omega
theorem tag_block (ks nn M D:Nat→Nat) (ml dl:Nat):toV (tgN ks nn ml M dl D)=hsC (toV (h0N ks)) (three ml dl 16) (three M D (byV (lnV ml dl))) 3 ^^^ toV (ctB ks nn 1):=by
 rw [←hash_tag,BitVec.xor_comm,←toV_xor]
 rfl
end Go.Proofs.Ytalgabgofpmebaa
