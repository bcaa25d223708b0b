/- What the proof stands on: A8Rks, A8Kys, A8Thr, Narrow, RWk, ZAb2, ZD, A8Stp, A8Blc, A8Bck, A8Bad. -/
import Derived.Test.YtplnmmokafomaaaBaseM
import Derived.Deep.Cut
namespace Go.Proofs.Ytplnmmokafomaaa
open Go.RowKit
theorem zeroK (w:World):Sem.run Try.prog (zeroValue 43) w = .ok (.agg (zb 176)) w:=by kernel_rfl
theorem infoK (X:Nat→Nat):(Try.prog.info? 43).map (·.size)=some (ints .u8 176 X).length:=by rw [ints_len];kernel_rfl
theorem infoKA (X:Nat→Nat):(Try.prog.info? 43).map (·.size)=some (ints .u8 176 X).toArray.size:=by rw [ints_size];kernel_rfl
theorem RowAt.part {K:IntKind} {w:World} {g n:Nat} {X:Nat→Nat} (h:RowAt K w g 0 n X) (a m:Nat) (hm:a+m≤n):RowAt K w g a m (fun j=>X (a+j)):=fun j hj=>by
 have:=h (a+j) (by omega)
 rwa [Nat.zero_add] at this
def kyV (key:Nat→Nat):Value := .agg (ints .u8 176 (kyN key)).toArray
theorem rc_db (n:Nat) (hn:n<10):dbN (rcN n)=rcN (n+1):=(db_all _ (rc_lt n hn)).2.1
set_option maxRecDepth 20000 in
set_option maxHeartbeats 4000000 in
theorem roundKeys_any (X:Nat→Nat) (hX:∀ j,X j<256) (w:World) :
 Calls Try.prog 23 #[sqV X] w fun e w'=>e = .returned (kyV X)∧Below w.heap.size w w':=by
 have hz:=zeroK
 have hi3:=infoS X
 have hKlt:=kyN_lt hX
 have hlo:=kyN_lo X
 have hnx:=ky_next X
 obtain ⟨W,hW⟩:∃ W,W=(w.alloc (.cells (ints .u8 16 X).toArray 42)).alloc (.cells (zb 176) 43):=⟨_,rfl⟩
 have hWs:W.heap.size=w.heap.size+1+1:=by rw [hW];simp
 have hbW:Below w.heap.size w W:=by rw [hW];exact ((Below.refl _ _).alloc (Nat.le_refl _) _).alloc (by simp) _
 have hA:RowAt .u8 W w.heap.size 0 16 X:=by rw [hW];exact (RowAt.box .u8 w 16 X _).alloc (by simp) _
 have hC:RowAt .u8 W (w.heap.size+1) 0 176 (fun _=>0):=by
  have:=RowAt.zero (w.alloc (.cells (ints .u8 16 X).toArray 42)) 176 43
  rw [World.size_alloc] at this
  rw [hW];exact this
 have HW:=Hid.mk' hW
 have hAr:=hA.range
 have hbuild:(ints .u8 176 (pr X (fun _=>0) 16))=(ints .u8 176 (pr (kyN X) (fun _=>0) 16)):=ints_congr _ _ _ _ (fun j _=>by
  unfold pr
  by_cases h:j<16
  · rw [if_pos h,if_pos h,hlo j h]
  · rw [if_neg h,if_neg h])
 unfold kyV sqV
 obtain ⟨Y,hY⟩:∃ Y,Y=kyN X:=⟨_,rfl⟩
 rw [←hY] at hbuild hKlt hnx ⊢
 obtain ⟨LK,hLK⟩:∃ LK,LK=ints .u8 176 Y:=⟨_,rfl⟩
 rw [←hLK]
 have HLK:=Hid.mk' hLK
 clear hLK
 obtain ⟨Z0,hZ0⟩:∃ Z0,Z0=ints .u8 176 (pr Y (fun _=>0) 16):=⟨_,rfl⟩
 have hj2:(Try.prog.info? 43).map (·.size)=some Z0.toArray.size:=by rw [hZ0];exact infoKA _
 have hjo:Z0.toArray.all (·.oneCell')=true:=by rw [hZ0];exact oneU 176 _
 have hWT:=RowAt.zero W 176 43
 have hth:(W.alloc (.cells (zb 176) 43)).there W.heap.size 0 Z0.toArray.size:=by rw [hZ0,ints_size];exact hWT.there
 have hT0:=hWT.stored (L:=pr Y (fun _=>0) 16)
 have bw:Below W.heap.size W (W.alloc (.cells (zb 176) 43)):=(Below.refl _ _).alloc (Nat.le_refl _) _
 have hC0:=(hC.below bw (by omega)).farCells (show w.heap.size+1≠W.heap.size by omega) 0 (ints .u8 176 (pr Y (fun _=>0) 16))
 have b0:=below_setCells (show w.heap.size≤W.heap.size by omega) (ints .u8 176 (pr Y (fun _=>0) 16)) 0 _ (hbW.trans (bw.mono hbW.size))
 have hs0:W.heap.size<((W.alloc (.cells (zb 176) 43)).setCells W.heap.size 0 (ints .u8 176 (pr Y (fun _=>0) 16))).heap.size:=by rw [(setCells_same _ _ _ _).2.2.2];simp
 rw [←hZ0] at hbuild hT0 hC0 b0 hs0
 have HB:=Hid.mk' hbuild
 rw [hWs] at hth hT0 hC0 b0 hs0
 have cn:=fun k (hk:k<10)=>next_any (fun j=>Y (k*16+j)) (rcN k) (fun j _=>hKlt _) (rc_lt k hk)
 have hnS:∀ k,k<10→S16 (nxN (fun j=>Y (k*16+j)) (rcN k)) (fun j=>Y ((k+1)*16+j)):=fun k hk j hj=>by
  have:=hnx k hk j hj
  rw [Nat.mul_comm 16 k,Nat.mul_comm 16 (k+1)] at this
  exact this
 have cn':∀ k,k<10→∀ W,Calls Try.prog 39 #[.agg (ints .u8 16 (fun j=>Y (k*16+j))).toArray,.int .u8 (rcN k)] W fun e w'=>e = .returned (.agg (ints .u8 16 (fun j=>Y ((k+1)*16+j))).toArray)∧Below W.heap.size W w':=fun k hk W=>by
  have h:=cn k hk W
  rw [sqV_S (hnS k hk)] at h
  exact h
 have cd:∀ k,k<10→∀ W,Calls Try.prog 40 #[.int .u8 (rcN k)] W fun e w'=>e = .returned (.int .u8 (rcN (k+1)))∧w'=W:=fun k hk W=>by
  have h:=double_any (rcN k) (rc_lt k hk) W
  rw [rc_db k hk] at h
  exact h
 have e1:rcN 0=1:=rfl
 generalize rcN=R at *
 clear hnS cn hnx hKlt hlo hX hY hZ0 hbuild hW hWT bw hA hC hbW
 go_enter Try.func23,Try.ntmps23
 go_upto_region 2 with (first
  | (rw [←HW.out];refine wpList_load_mid rfl 42 _ rfl w.heap.size 0 rfl (ints .u8 16 X) _ hAr Try.underlying42 rfl hi3 ?_)
  | (refine wpList_val (some 7) (.agg Z0.toArray) rfl rfl (by rw [←HB.out];kernel_rfl) ?_)
  | (refine wpList_store_mid rfl 43 _ _ rfl (w.heap.size+1+1) 0 Z0.toArray rfl rfl hth hj2 hjo ?_))
 dsimp only [Act.put]
 generalize (W.alloc (.cells (zb 176) 43)).setCells (w.heap.size+1+1) 0 Z0=V at *
 clear hth hj2 hjo HB HW hAr hWs hz hi3
 go_wp2
 go_loopw [4,5] (fun p i wr=>∃ k:Nat,k≤10∧p = .int .u8 (R k)∧i = .int .i64 ((k:Int)+1)∧RowAt .u8 wr (w.heap.size+1+1) 0 176 (pr Y (fun _=>0) ((k+1)*16))∧RowAt .u8 wr (w.heap.size+1) 0 176 (fun _=>0)∧Below w.heap.size w wr∧w.heap.size+1+1<wr.heap.size) (fun _ i _=>11 - (intOf i).toNat)
 case atStart=>exact ⟨0,Nat.zero_le _,by rw [e1];rfl,rfl,hT0,hC0,b0,hs0⟩
 case round =>
  clear hT0 hC0 b0 hs0 e1
  obtain ⟨k,hk,rfl,rfl,hT,hC,hb,hs⟩:=hrel
  by_cases hlt:k<10
  · have c1:=cn' k hlt wr
    have c2:=cd k hlt
    have hP:RowAt .u8 wr (w.heap.size+1+1) (k*16) 16 (fun j=>Y (k*16+j)):=(hT.part (k*16) 16 (by omega)).congr (fun j hj=>pr_full _ _ (by omega))
    have hPr:=hP.range
    have hi1:=infoS (fun j=>Y (k*16+j))
    have hi2:=infoSA (fun j=>Y ((k+1)*16+j))
    have ho:=oneU 16 (fun j=>Y ((k+1)*16+j))
    have q1:(k:Int)+1≤10:=by omega
    have q2:(k:Int)+1 - 1=k:=by omega
    have q3:(0:Int)≤(k:Int)∧(k:Int)<11:=by omega
    have q4:(0:Int)≤(k:Int)+1∧(k:Int)+1<11:=by omega
    have q5:((k:Int)+1).toNat=k+1:=by omega
    have hsp:∀ j,over (pr Y (fun _=>0) ((k+1)*16)) ((k+1)*16) 16 (fun j=>Y ((k+1)*16+j)) j=pr Y (fun _=>0) ((k+1+1)*16) j:=fun j=>by
     unfold over pr
     by_cases h1:(k+1)*16≤j∧j<(k+1)*16+16
     · rw [if_pos h1,if_pos (by omega)]
       show Y ((k+1)*16+(j - (k+1)*16))=Y j
       rw [show (k+1)*16+(j - (k+1)*16)=j by omega]
     · rw [if_neg h1]
       by_cases h2:j<(k+1)*16
       · rw [if_pos h2,if_pos (by omega)]
       · rw [if_neg h2,if_neg (by omega)]
    have hst:∀ W,RowAt .u8 W (w.heap.size+1+1) 0 176 (pr Y (fun _=>0) ((k+1)*16))→W.there (w.heap.size+1+1) ((k+1)*16) (ints .u8 16 (fun j=>Y ((k+1)*16+j))).toArray.size∧RowAt .u8 (W.setCells (w.heap.size+1+1) ((k+1)*16) (ints .u8 16 (fun j=>Y ((k+1)*16+j)))) (w.heap.size+1+1) 0 176 (pr Y (fun _=>0) ((k+1+1)*16)):=fun W h=>by
     refine ⟨by rw [ints_size];exact (h.part ((k+1)*16) 16 (by omega)).there,?_⟩
     have h1:=h.splice ((k+1)*16) 16 (fun j=>Y ((k+1)*16+j)) (by omega)
     rw [Nat.zero_add] at h1
     exact h1.congr (fun j _=>hsp j)
    have Hst:=Hid.mk' hst
    clear cn' cd hP hsp hst
    generalize ints .u8 16 (fun j=>Y (k*16+j))=LA at *
    generalize ints .u8 16 (fun j=>Y ((k+1)*16+j))=LB at *
    go_wp2_with (first
     | (refine wpList_load_mid rfl 42 _ rfl (w.heap.size+1+1) (k*16) rfl LA _ hPr Try.underlying42 rfl hi1 ?_)
     | (go_at_call 39;refine c1.mono ?_;clear c1;rintro e w1 ⟨rfl,hb1⟩;clear hPr;(have hT1:=hT.below hb1 hs);(have hC1:=hC.below hb1 (by omega));(have b1:=hb.trans (hb1.mono hb.size));(have hs1:=Nat.lt_of_lt_of_le hs hb1.size);(obtain ⟨hth,hT2⟩:=Hst.out w1 hT1);clear hT1)
     | (refine wpList_store_mid rfl 42 _ _ rfl (w.heap.size+1+1) ((k+1)*16) LB.toArray rfl rfl hth hi2 ho ?_)
     | (go_at_call 40;refine (c2 _).mono ?_;clear c2;rintro e w2 ⟨rfl,hw2⟩;subst hw2))
    go_roundw
    case rel =>
     exact ⟨k+1,by omega,rfl,by go_num,hT2,hC1.farCells (by omega) _ _,below_setCells (by omega) _ _ _ b1,by rw [(setCells_same _ _ _ _).2.2.2];exact hs1⟩
    case measure=>simp [intOf];omega
  · obtain rfl:k=10:=by omega
    have hA':RowAt .u8 wr (w.heap.size+1+1) 0 176 Y:=hT.congr (fun j hj=>pr_full _ _ hj)
    have hi1:=infoK Y
    have hi2:=infoKA Y
    have ho:=oneU 176 Y
    have hth:wr.there (w.heap.size+1) 0 (ints .u8 176 Y).toArray.size:=by rw [ints_size];exact hC.there
    have hth2:wr.there (w.heap.size+1) 0 (ints .u8 176 Y).length:=by rw [ints_len];exact hC.there
    have hAr:=hA'.range
    clear cn' cd hT hC hA'
    rw [←HLK.out] at hi1 hi2 ho hth hth2 hAr
    go_wp2_with (first
     | (refine wpList_load_mid rfl 43 _ rfl (w.heap.size+1+1) 0 rfl LK _ hAr Try.underlying43 rfl hi1 ?_)
     | (refine wpList_store_mid rfl 43 _ _ rfl (w.heap.size+1) 0 LK.toArray rfl rfl hth hi2 ho ?_))
    (try simp only [Exit.inBlock,Exit.then])
    refine bodyPost_ret (results_cell_mid Try.results23 _ _ (w.heap.size+1) 0 LK _ rfl (World.rangeAt_setCells_same _ _ _ _ hth2) Try.underlying43 rfl hi1) rfl ⟨rfl,?_⟩
    exact below_setCells (by omega) _ _ _ hb
end Go.Proofs.Ytplnmmokafomaaa
namespace Go.Proofs.Ytplnmmokafomaaa
open Go.RowKit
theorem squareOf_16 (v:Value) (bs:Nat→Nat) (w:World) (hv:BytesIn w v 16 bs):Calls Try.prog 24 #[v] w fun e w'=>e = .returned (.agg (ints .u8 16 bs).toArray)∧Below w.heap.size w w':=by
 have h:=squareOf_any v 16 bs w hv
 rw [sqV_S (fun j hj=>fit16_full bs hj)] at h
 exact h
set_option maxHeartbeats 1000000 in
theorem keys_bad (v:Value) (n:Nat) (bs:Nat→Nat) (w:World) (hv:BytesIn w v n bs) (hn:n≠16) :
 Calls Try.prog 12 #[v] w fun e w'=>e = .returned (.tuple #[.slice none 0 0,.int .i64 1])∧w'=w:=by
 obtain ⟨xo,cx,rfl,-,-,-⟩:=hv.src
 clear hv
 have hn':¬(n:Int)=16:=by omega
 go_enter Try.func12,Try.ntmps12
 go_wp2
 go_ret2
 exact ⟨rfl,rfl⟩
end Go.Proofs.Ytplnmmokafomaaa
namespace Go.Proofs.Ytplnmmokafomaaa
open Go.RowKit
theorem wpList_enter {P:Program} {w:World} {ops:Array Oper} {rest:List Oper} {o:Oper} {a:Act} {Q:Exit→Act→World→Prop} (d:Option Nat) (hgd:o.guard=none) (hd:o.dst=d) {f:FuncId} {v:Value} {R:Ending→World→Prop} (c:Calls P f #[v] w R) (hf:(callFunc f #[v]).run P w = .ok (.enter f #[v]) w)
 (x y:Operand) (ts:Array TypeId) (ho:o.op = .call { callee := .value x,args:=#[y],argTypes:=ts }) (hx:a.eval x = .func (.func f) #[] #[]) (hy:a.eval y=v)
 (h:∀ e w',R e w'→∃ r,e = .returned r∧wpList P ops Q rest (a.put d r) w'):wpList P ops Q (o :: rest) a w:=by
 subst hd
 refine wpList_plain hgd fun K hK => ?_
 have hrun:(execOp a.eval o).run P w = .ok (.enter f #[v]) w:=by
  simp [execOp,ho,resolve,Deferred.ofValue,hx,hy,invoke,hf]
 unfold Oper.wp
 rw [hrun,Oper.upon_enter]
 refine c.mono fun e w' hR => ?_
 obtain ⟨r,rfl,hk⟩:=h e w' hR
 exact hK _ _ hk
def stp (G:Nat→(Nat→Nat)→Nat→Nat) (X:Nat→Nat):Nat→Nat→Nat
 | 0=>X
 | n+1=>G n (stp G X n)
def StepsAt (w:World) (g n:Nat) (fs:Nat→FuncId):Prop:=g<w.heap.size∧∀ j,j<n→w.cell? ⟨g,j,none⟩=some (.func (.func (fs j)) #[] #[])
theorem StepsAt.below {w w':World} {g n B:Nat} {fs:Nat→FuncId} (h:StepsAt w g n fs) (hb:Below B w w') (hB:g<B):StepsAt w' g n fs:=⟨Nat.lt_of_lt_of_le h.1 hb.size,fun j hj=>(hb.cell (p:=⟨g,j,none⟩) hB).trans (h.2 j hj)⟩
set_option maxRecDepth 20000 in
set_option maxHeartbeats 4000000 in
theorem through_any (n:Nat) (hn:n<100) (fs:Nat→FuncId) (G:Nat→(Nat→Nat)→Nat→Nat) (hf:∀ j,j<n→∀ v W,(callFunc (fs j) #[v]).run Try.prog W = .ok (.enter (fs j) #[v]) W) (hc:∀ j,j<n→∀ X,B16 X→B16 (G j X)∧∀ W,Calls Try.prog (fs j) #[sqV X] W fun e w'=>e = .returned (sqV (G j X))∧Below W.heap.size W w')
 (X:Nat→Nat) (hX:B16 X) (g:Nat) (w:World) (hg:StepsAt w g n fs) :
 Calls Try.prog 27 #[sqV X,.slice (some ⟨g,0,none⟩) n n] w fun e w'=>e = .returned (sqV (stp G X n))∧Below w.heap.size w w':=by
 have hz:=zeroS
 obtain ⟨W,hW,hWs,hbW,hA,hC⟩:=two_new X (fun _=>0) w (zb 16) zb16 42 42
 have HW:=Hid.mk' hW.symm
 have hgW:=hg.below hbW hg.1
 have hgl:=hg.1
 have hB:∀ k,k≤n→B16 (stp G X k):=fun k=>by
  induction k with
  | zero=>exact fun _=>hX
  | succ k ih=>exact fun hk=>(hc k (by omega) _ (ih (by omega))).1
 have cs:∀ k,k<n→∀ W,Calls Try.prog (fs k) #[sqV (stp G X k)] W fun e w'=>e = .returned (sqV (stp G X (k+1)))∧Below W.heap.size W w':=fun k hk=>(hc k hk _ (hB k (by omega))).2
 have e0:X=stp G X 0:=rfl
 obtain ⟨Z,hZ⟩:∃ Z,Z=sqV (stp G X n):=⟨_,rfl⟩
 rw [←hZ]
 have HZ:=Hid.mk' hZ
 unfold sqV at cs ⊢
 rw [e0] at hA
 generalize stp G X=S at *
 clear hc hB hX hg hZ e0 hW
 go_enter Try.func27,Try.ntmps27
 go_wp2
 rw [←HW.out]
 go_loopw [9] (fun i wr=>∃ k:Nat,k≤n∧i = .int .i64 k∧RowAt .u8 wr w.heap.size 0 16 (S k)∧RowAt .u8 wr (w.heap.size+1) 0 16 (fun _=>0)∧StepsAt wr g n fs∧Below w.heap.size w wr∧w.heap.size+1<wr.heap.size) (fun i _=>n - (intOf i).toNat)
 case atStart=>exact ⟨0,Nat.zero_le _,rfl,hA,hC,hgW,hbW,by omega⟩
 case round =>
  clear hA hC hgW hbW hz
  obtain ⟨k,hk,rfl,hA,hC,hG,hb,hs⟩:=hrel
  by_cases hlt:k<n
  · have c1:=cs k hlt wr
    have hfk:=hf k hlt
    have rk:=hG.2 k hlt
    have hAr:=hA.range
    have hi1:=infoS (S k)
    have hi2:=infoSA (S (k+1))
    have ho:=oneU 16 (S (k+1))
    have hst:∀ W,RowAt .u8 W w.heap.size 0 16 (S k)→W.there w.heap.size 0 (ints .u8 16 (S (k+1))).toArray.size∧RowAt .u8 (W.setCells w.heap.size 0 (ints .u8 16 (S (k+1)))) w.heap.size 0 16 (S (k+1)):=fun W h=>⟨by rw [ints_size];exact h.there,h.stored⟩
    have Hst:=Hid.mk' hst
    clear cs hst hf
    generalize ints .u8 16 (S k)=LA at *
    generalize ints .u8 16 (S (k+1))=LB at *
    go_wp2_with (first
     | (refine wpList_load_mid rfl 42 _ rfl w.heap.size 0 rfl LA _ hAr Try.underlying42 rfl hi1 ?_)
     | (refine wpList_enter (some 15) rfl rfl c1 (hfk _ _) (.tmp 13) (.tmp 14) _ rfl rfl rfl ?_;clear c1;rintro e w1 ⟨rfl,hb1⟩;refine ⟨_,rfl,?_⟩;clear hAr;(have hA1:=hA.below hb1 (by omega));(have hC1:=hC.below hb1 (by omega));(have hG1:=hG.below hb1 hG.1);(have b1:=hb.trans (hb1.mono hb.size));(have hs1:=Nat.lt_of_lt_of_le hs hb1.size);(obtain ⟨hth,hA2⟩:=Hst.out w1 hA1))
     | (refine wpList_store_mid rfl 42 _ _ rfl w.heap.size 0 LB.toArray rfl rfl hth hi2 ho ?_))
    go_roundw
    case rel=>exact ⟨k+1,by omega,by go_num,hA2,hC1.farCells (by omega) _ _,hG1.below (below_setCells (Nat.le_refl w.heap.size) LB 0 w1 (Below.refl _ _)) hgl,below_setCells (Nat.le_refl _) _ _ _ b1,by rw [(setCells_same _ _ _ _).2.2.2];exact hs1⟩
    case measure=>simp [intOf];omega
  · obtain rfl:k=n:=by omega
    have hi1:=infoS (S k)
    have hi2:=infoSA (S k)
    have ho:=oneU 16 (S k)
    have hth:wr.there (w.heap.size+1) 0 (ints .u8 16 (S k)).toArray.size:=by rw [ints_size];exact hC.there
    have hth2:wr.there (w.heap.size+1) 0 (ints .u8 16 (S k)).length:=by rw [ints_len];exact hC.there
    have hAr:=hA.range
    have eZ:Z = .agg (ints .u8 16 (S k)).toArray:=HZ.out
    clear cs hf hG hA
    generalize ints .u8 16 (S k)=LA at *
    go_wp2_with (first
     | (refine wpList_load_mid rfl 42 _ rfl w.heap.size 0 rfl LA _ hAr Try.underlying42 rfl hi1 ?_)
     | (refine wpList_store_mid rfl 42 _ _ rfl (w.heap.size+1) 0 LA.toArray rfl rfl hth hi2 ho ?_))
    (try simp only [Exit.inBlock,Exit.then])
    refine bodyPost_ret (results_cell_mid Try.results27 _ _ (w.heap.size+1) 0 LA _ rfl (World.rangeAt_setCells_same _ _ _ _ hth2) Try.underlying42 rfl hi1) rfl ⟨by rw [eZ],?_⟩
    exact below_setCells (by omega) _ _ _ hb
end Go.Proofs.Ytplnmmokafomaaa
namespace Go.Proofs.Ytplnmmokafomaaa
open Go.RowKit
theorem wpAnyH_narrow {P:Program} {md:Region.Mode} {ops:Array Oper} {Q:Exit→Act→World→Prop} {S S':World→Prop} (h:∀ w,S' w→S w):∀ (fuel:Nat) (listed:Array Bool) (a:Act) (w:World),wpAnyH P md ops Q S' fuel listed a w→wpAnyH P md ops Q S fuel listed a w
 | 0,_,_,_,H=>H
 | fuel+1,_,_,_,H=>⟨H.1,fun i hi=>wpOp_mono (fun a' w' h'=>⟨h w' h'.1,wpAnyH_narrow h fuel _ a' w' h'.2⟩) (H.2 i hi)⟩
end Go.Proofs.Ytplnmmokafomaaa
namespace Go.Proofs.Ytplnmmokafomaaa
open Go.RowKit
structure RW (w:World) (g o:Nat) (cs:List Value):Prop where
 range:w.rangeAt g o cs
 there:w.there g o cs.length
 lt:g<w.heap.size
theorem RW.still {w w':World} {g o:Nat} {cs:List Value} (h:RW w g o cs) (hb:Below w.heap.size w w'):RW w' g o cs :=
 ⟨fun j v hv=>(hb.cell (p:=⟨g,o+j,none⟩) h.lt).trans (h.range j v hv),fun j hj=>by
   rw [hb.cell (p:=⟨g,o+j,none⟩) h.lt,hb.frozen (p:=⟨g,o+j,none⟩) h.lt];exact h.there j hj,Nat.lt_of_lt_of_le h.lt hb.size⟩
theorem RW.below {w w':World} {g o B:Nat} {cs:List Value} (h:RW w g o cs) (hb:Below B w w') (hB:g<B):RW w' g o cs :=
 ⟨fun j v hv=>(hb.cell (p:=⟨g,o+j,none⟩) hB).trans (h.range j v hv),fun j hj=>by
   rw [hb.cell (p:=⟨g,o+j,none⟩) hB,hb.frozen (p:=⟨g,o+j,none⟩) hB];exact h.there j hj,Nat.lt_of_lt_of_le h.lt hb.size⟩
theorem RW.out {w w':World} {g o b p n:Nat} {cs:List Value} (h:RW w g o cs) (hb:Out b p n w w') (hne:g≠b):RW w' g o cs :=
 ⟨fun j v hv=>(hb.cell' h.lt hne).trans (h.range j v hv),fun j hj=>by
   rw [hb.cell' h.lt hne,hb.frozen' h.lt hne];exact h.there j hj,Nat.lt_of_lt_of_le h.lt hb.size⟩
theorem RW.stored {w:World} {g o:Nat} {cs:List Value} (h:RW w g o cs) (ds:List Value) (hl:ds.length=cs.length):RW (w.setCells g o ds) g o ds :=
 ⟨World.rangeAt_setCells_same _ _ _ _ (by rw [hl];exact h.there),World.there_setCells (by rw [hl];exact h.there) _ _ _,by rw [(setCells_same g ds o w).2.2.2];exact h.lt⟩
theorem RW.far {w:World} {g o:Nat} {cs:List Value} (h:RW w g o cs) (b p:Nat) (ds:List Value) (hap:g≠b∨o+cs.length≤p∨p+ds.length≤o):RW (w.setCells b p ds) g o cs :=
 ⟨World.rangeAt_setCells_apart h.range _ _ _ hap,World.there_setCells h.there _ _ _,by rw [(setCells_same b ds p w).2.2.2];exact h.lt⟩
theorem RW.fresh (w:World) (cs:List Value) (t:TypeId):RW (w.alloc (.cells cs.toArray t)) w.heap.size 0 cs :=
 ⟨fun j v hv=>by rw [Nat.zero_add];simp [hv],fun j hj=>by
   rw [Nat.zero_add];simp [hj],by simp⟩
theorem RW.drew {w:World} {g o:Nat} {cs:List Value} (h:RW w g o cs):RW w.drew g o cs:=h.still ((Below.refl _ _).drew)
end Go.Proofs.Ytplnmmokafomaaa
namespace Go.Proofs.Ytplnmmokafomaaa
open Go.RowKit
abbrev jD (n:Nat):Edge:={ on:=n,ground:=Ground.data }
abbrev jC (n:Nat):Edge:={ on:=n,ground:=Ground.chain }
abbrev jP (n:Nat):Edge:={ on:=n,ground:=Ground.phase }
abbrev oN (d:Nat) (o:Op) (t:TypeId) (p:String) (a:Array Edge):Oper:={ dst:=some d,op:=o,type:=t,pos:=p,after:=a,guard:=none }
abbrev oS (o:Op) (p:String) (a:Array Edge):Oper:={ dst:=none,op:=o,type:=0,pos:=p,after:=a,guard:=none }
abbrev cF1 (f:FuncId) (a:Array Operand) (t:Array TypeId):Op:=Op.call { callee:=Callee.value (Operand.func f),args:=a,argTypes:=t }
abbrev oT (k:Nat):Operand:=Operand.tmp k
abbrev pA (g o:Nat):Value := .pointer (some ⟨g,o,none⟩)
theorem pS:(∀ (a:Act) (d:Nat) (v:Value),a.put (some d) v={ a with tmps:=a.tmps.setIfInBounds d v })∧(∀ (l:List Value) (i:Nat) (v:Value),l.toArray.setIfInBounds i v=(l.set i v).toArray)∧(∀ (x:Value) (l:List Value) (v:Value),(x :: l).set 0 v=v :: l)∧(∀ (x:Value) (l:List Value) (n:Nat) (v:Value),(x :: l).set (n+1) v=x :: l.set n v) :=
 ⟨fun _ _ _=>rfl,fun _ _ _=>List.setIfInBounds_toArray ..,fun _ _ _=>rfl,fun _ _ _ _=>rfl⟩
section
variable {P:Program} {md:Region.Mode} {ops:Array Oper} {Q:Exit→Act→World→Prop} {S:World→Prop} {fuel:Nat} {listed:Array Bool} {a:Act} {w:World}
theorem tkH (i:Nat) (oi:Oper) (v:Value) (hS:S w) (hy:YieldsIf P ops S oi v a)
 (h:wpAnyH P md ops Q S fuel (listed.setIfInBounds i true) (a.put oi.dst v) w) (hQ:∀ c a w,Q (.panic c) (a.put oi.dst v) w→Q (.panic c) a w:=by exact fun _ _ _ h=>h) (hi:ops[i]? = some oi:=by rfl) (hs:Region.noSelect ops=true:=by kernel_rfl) (hf:Region.free md ops listed i=true:=by kernel_rfl) (hr:(Region.ready md ops listed).contains i=true:=by kernel_rfl):wpAnyH P md ops Q S (fuel+1) listed a w :=
 wpAnyH_take hi hs hf hr hQ hy hS h
theorem bR {w:World}:Below w.heap.size w w:=Below.refl _ _
theorem yR {o:Oper} {v:Value} (hw:Region.wanted o (yielded ops a.tmps)=true:=by rfl) (hr:∀ w,(execOp a.eval o).run P w = .ok (.value v) w:=by intro _;kernel_rfl):YieldsIf P ops S o v a := .inl ⟨hw,fun w _=>hr w⟩
theorem ldH {V:World} {o:Oper} {g off:Nat} {cs:List Value} (h:RW V g off cs) (ty k:Nat) {d:TypeDesc} (hu:P.underlying ty=some d) (hi:(P.info? ty).map (·.size)=some cs.length) (hd:d.isRow=true:=by rfl) (hw:Region.wanted o (yielded ops a.tmps)=true:=by rfl) (ho:o.op = .load ty (.tmp k):=by rfl) (hx:a.eval (.tmp k) = .pointer (some ⟨g,off,none⟩):=by rfl):YieldsIf P ops (fun w'=>Below V.heap.size V w') o (.agg cs.toArray) a :=
 yieldsIf_load_mid hw ty _ ho g off hx cs d (fun _ hb=>(h.still hb).range) hu hd hi
theorem ldO {V:World} {o:Oper} {g off b p n:Nat} {cs:List Value} (h:RW V g off cs) (hne:g≠b) (ty k:Nat) {d:TypeDesc} (hu:P.underlying ty=some d) (hi:(P.info? ty).map (·.size)=some cs.length) (hd:d.isRow=true:=by rfl) (hw:Region.wanted o (yielded ops a.tmps)=true:=by rfl) (ho:o.op = .load ty (.tmp k):=by rfl) (hx:a.eval (.tmp k) = .pointer (some ⟨g,off,none⟩):=by rfl):YieldsIf P ops (fun w'=>Out b p n V w') o (.agg cs.toArray) a :=
 yieldsIf_load_mid hw ty _ ho g off hx cs d (fun _ hb=>(h.out hb hne).range) hu hd hi
theorem arC {i:Nat} {rs:List Nat} (oi:Oper) {f:FuncId} {args:Array Value} {R:Ending→World→Prop} (c:Calls P f args w R) (h:∀ e w',R e w'→∃ r,e = .returned r∧S w'∧wpAnyH P md ops Q S fuel (listed.setIfInBounds i true) (a.put oi.dst r) w') (hs:AllReadyH P md ops Q S fuel listed a w rs)
 (hi:ops[i]? = some oi:=by rfl) (hw:Region.wanted oi (yielded ops a.tmps)=true:=by rfl) (hrun:(execOp a.eval oi).run P w = .ok (.enter f args) w:=by kernel_rfl):AllReadyH P md ops Q S fuel listed a w (i :: rs):=by
 refine AllReadyH.cons hi (fun K hK => ?_) hs
 rw [if_pos hw]
 unfold Oper.wp
 rw [hrun,Oper.upon_enter]
 refine c.mono fun e w' hR => ?_
 obtain ⟨r,rfl,hS,hk⟩:=h e w' hR
 exact hK.out _ _ hS (fun _=>hk)
theorem callH (i:Nat) (oi:Oper) {f:FuncId} {args:Array Value} {R:Ending→World→Prop} (c:Calls P f args w R) (h:∀ e w',R e w'→∃ r,e = .returned r∧S w'∧wpAnyH P md ops Q S fuel (listed.setIfInBounds i true) (a.put oi.dst r) w')
 (hr:Region.ready md ops listed=[i]:=by kernel_rfl) (hi:ops[i]? = some oi:=by rfl) (hw:Region.wanted oi (yielded ops a.tmps)=true:=by rfl) (hrun:(execOp a.eval oi).run P w = .ok (.enter f args) w:=by kernel_rfl):wpAnyH P md ops Q S (fuel+1) listed a w :=
 wpAnyH_ready hr (by simp) (arC oi c h AllReadyH.nil hi hw hrun)
theorem callN (i:Nat) (oi:Oper) {f:FuncId} {args:Array Value} {R:Ending→World→Prop} (c:Calls P f args w R) (h:∀ e w',R e w'→∃ r,e = .returned r∧Below w.heap.size w w'∧wpAnyH P md ops Q (fun u=>Below w'.heap.size w' u) fuel (listed.setIfInBounds i true) (a.put oi.dst r) w')
 (hr:Region.ready md ops listed=[i]:=by kernel_rfl) (hi:ops[i]? = some oi:=by rfl) (hw:Region.wanted oi (yielded ops a.tmps)=true:=by rfl) (hrun:(execOp a.eval oi).run P w = .ok (.enter f args) w:=by kernel_rfl):wpAnyH P md ops Q (fun u=>Below w.heap.size w u) (fuel+1) listed a w :=
 callH i oi c (fun e w' hR=>by
  obtain ⟨r,he,hb,hk⟩:=h e w' hR
  exact ⟨r,he,hb,wpAnyH_narrow (fun _ hu=>below_next hb hu) _ _ _ _ hk⟩) hr hi hw hrun
theorem dag_root (h:∀ G:Nat→Array Bool→Act→World→Prop,G=wpAnyH P md ops Q S→G fuel listed a w):wpAnyH P md ops Q S fuel listed a w:=h _ rfl
theorem dagW {G:Nat→Array Bool→Act→World→Prop} (hG:Hid (G=wpAnyH P md ops Q S)) {f:Nat} {l:Array Bool} {b:Act} (h:G f l b w) (hb:b=a) (hf:f=fuel:=by kernel_rfl) (hl:l=listed:=by kernel_rfl):wpAnyH P md ops Q S fuel listed a w:=by
 subst hf;subst hl;subst hb;rw [←hG.out];exact h
theorem at_list {i:Nat} {oi:Oper} (hi:ops.toList[i]? = some oi):ops[i]? = some oi:=by rw [←Array.getElem?_toList];exact hi
theorem cn (i:Nat) {oi:Oper} {f:FuncId} {args:Array Value} {R:Ending→World→Prop} (c:Calls P f args w R) (h:∀ e w',R e w'→∃ r,e = .returned r∧Below w.heap.size w w'∧wpAnyH P md ops Q (fun u=>Below w'.heap.size w' u) fuel (listed.setIfInBounds i true) (a.put oi.dst r) w')
 (hi:ops.toList[i]? = some oi:=by rfl) (hr:Region.ready md ops listed=[i]:=by kernel_rfl) (hw:Region.wanted oi (yielded ops a.tmps)=true:=by rfl) (hrun:(execOp a.eval oi).run P w = .ok (.enter f args) w:=by kernel_rfl):wpAnyH P md ops Q (fun u=>Below w.heap.size w u) (fuel+1) listed a w :=
 callN i oi c h hr (at_list hi) hw hrun
theorem tk (i:Nat) (v:Value) (hS:S w) {oi:Oper} (hi:ops.toList[i]? = some oi:=by rfl) (hy:YieldsIf P ops S oi v a) (h:wpAnyH P md ops Q S fuel (listed.setIfInBounds i true) (a.put oi.dst v) w)
 (hQ:∀ c b w,Q (.panic c) (b.put oi.dst v) w→Q (.panic c) b w:=by exact fun _ _ _ h=>h) (hs:Region.noSelect ops=true:=by kernel_rfl) (hf:Region.free md ops listed i=true:=by kernel_rfl) (hr:(Region.ready md ops listed).contains i=true:=by kernel_rfl):wpAnyH P md ops Q S (fuel+1) listed a w :=
 tkH i oi v hS hy h hQ (at_list hi) hs hf hr
end
end Go.Proofs.Ytplnmmokafomaaa
namespace Go.Proofs.Ytplnmmokafomaaa
open Go.RowKit
section
variable {P:Program} {md:Region.Mode} {ops:Array Oper} {Q:Exit→Act→World→Prop} {S:World→Prop} {fuel:Nat} {listed:Array Bool} {a:Act} {w:World}
theorem aG {i:Nat} {rs:List Nat} (oi:Oper) (v:Nat→Value) (cs:List Value) (t:TypeId) (hk:∀ u,Below w.heap.size w u→S u) (h:∀ w1 g,w.heap.size≤g→Below w.heap.size w w1→RW w1 g 0 cs→wpAnyH P md ops Q S fuel (listed.setIfInBounds i true) (a.put oi.dst (v g)) w1) (hs:AllReadyH P md ops Q S fuel listed a w rs)
 (hrun:(execOp a.eval oi).run P w = .ok (.value (v w.heap.size)) (w.alloc (.cells cs.toArray t)):=by kernel_rfl) (hi:ops[i]? = some oi:=by rfl) (hw:Region.wanted oi (yielded ops a.tmps)=true:=by rfl):AllReadyH P md ops Q S fuel listed a w (i :: rs):=by
 have hb:Below w.heap.size w (w.alloc (.cells cs.toArray t)):=bR.alloc (Nat.le_refl _) _
 refine AllReadyH.cons hi (fun K hK => ?_) hs
 rw [if_pos hw]
 unfold Oper.wp
 rw [hrun,Oper.upon_value]
 exact hK.out _ _ (hk _ hb) (fun _=>h _ _ (Nat.le_refl _) hb (RW.fresh w cs t))
theorem aL {i:Nat} {rs:List Nat} (oi:Oper) (ty k:Nat) {g off:Nat} {cs:List Value} {d:TypeDesc} (r:RW w g off cs) (hS:S w) (hu:P.underlying ty=some d) (hin:(P.info? ty).map (·.size)=some cs.length) (h:wpAnyH P md ops Q S fuel (listed.setIfInBounds i true) (a.put oi.dst (.agg cs.toArray)) w) (hs:AllReadyH P md ops Q S fuel listed a w rs)
 (hd:d.isRow=true:=by rfl) (ho:oi.op = .load ty (.tmp k):=by rfl) (hx:a.eval (.tmp k) = .pointer (some ⟨g,off,none⟩):=by rfl) (hi:ops[i]? = some oi:=by rfl) (hw:Region.wanted oi (yielded ops a.tmps)=true:=by rfl):AllReadyH P md ops Q S fuel listed a w (i :: rs):=by
 refine AllReadyH.cons hi (fun K hK => ?_) hs
 rw [if_pos hw]
 exact wp_load_mid ty _ ho g off hx cs d r.range hu hd hin (hK.out _ _ hS (fun _=>h))
theorem aT {i:Nat} {rs:List Nat} (oi:Oper) (ty x y:Nat) {g off:Nat} {cs:List Value} (ds:List Value) (r:RW w g off cs) (hl:ds.length=cs.length) (hk:S (w.setCells g off ds)) (hin:(P.info? ty).map (·.size)=some ds.toArray.size) (h1:ds.toArray.all (·.oneCell')=true) (h:RW (w.setCells g off ds) g off ds→wpAnyH P md ops Q S fuel (listed.setIfInBounds i true) (a.put oi.dst undef) (w.setCells g off ds)) (hs:AllReadyH P md ops Q S fuel listed a w rs)
 (ho:oi.op = .store ty (.tmp x) (.tmp y):=by rfl) (hx:a.eval (.tmp x) = .pointer (some ⟨g,off,none⟩):=by rfl) (hy:a.eval (.tmp y) = .agg ds.toArray:=by rfl) (hi:ops[i]? = some oi:=by rfl) (hw:Region.wanted oi (yielded ops a.tmps)=true:=by rfl):AllReadyH P md ops Q S fuel listed a w (i :: rs):=by
 refine AllReadyH.cons hi (fun K hK => ?_) hs
 rw [if_pos hw]
 exact wp_store_mid ty _ _ ho g off ds.toArray hx hy (by rw [List.size_toArray,hl];exact r.there) hin h1 (hK.out _ _ hk (fun _=>h (r.stored ds hl)))
end
end Go.Proofs.Ytplnmmokafomaaa
namespace Go.Proofs.Ytplnmmokafomaaa
open Go.RowKit
abbrev fnV (f:FuncId):Value := .func (.func f) #[] #[]
theorem steps_of {w:World} {g:Nat} (l:List FuncId) (h:RW w g 0 (l.map fnV)):StepsAt w g l.length (fun j=>l.getD j 0):=⟨h.lt,fun j hj=>by
 have:=h.range j (fnV (l.getD j 0)) (by simp [List.getElem?_eq_getElem hj])
 rwa [Nat.zero_add] at this⟩
theorem enter1 {f:FuncId} {v:Value} {W:World} (h:(callFunc f #[v]).run Try.prog W = .ok (.enter f #[v]) W):(callFunc f #[v]).run Try.prog W = .ok (.enter f #[v]) W:=h
theorem thr3 (X:Nat→Nat) (hX:B16 X) (g:Nat) (w:World) (h:RW w g 0 [fnV 28,fnV 29,fnV 30]) :
 Calls Try.prog 27 #[.agg (ints .u8 16 X).toArray,.slice (some ⟨g,0,none⟩) 3 3] w fun e w'=>e = .returned (.agg (ints .u8 16 (colN mT (rowN 1 (thrN boxN X)))).toArray)∧Below w.heap.size w w':=by
 have c:=through_any 3 (by decide) _ (fun j=>if j=0 then thrN boxN else if j=1 then tuN else mxN) (fun j hj v W=>by
  match j,hj with
  | 0,_=>exact enter1 (f:=28) (by kernel_rfl)
  | 1,_=>exact enter1 (f:=29) (by kernel_rfl)
  | 2,_=>exact enter1 (f:=30) (by kernel_rfl)) (fun j hj Y hY=>by
  match j,hj with
  | 0,_=>exact ⟨box_B hY,boxed_any Y hY⟩
  | 1,_=>exact ⟨tuN_B hY,turned_any Y⟩
  | 2,_=>exact ⟨mxN_B hY,mixed_any Y hY⟩) X hX g w (steps_of [28,29,30] h)
 have e:S16 (mxN (tuN (thrN boxN X))) (colN mT (rowN 1 (thrN boxN X))):=(mxN_S (tu_row _)).trans (mx_col _ (rowN_B (box_B hX) 1))
 rw [show stp (fun j=>if j=0 then thrN boxN else if j=1 then tuN else mxN) X 3=mxN (tuN (thrN boxN X)) from rfl,sqV_S e] at c
 exact c
theorem thr2 (X:Nat→Nat) (hX:B16 X) (g:Nat) (w:World) (h:RW w g 0 [fnV 28,fnV 29]) :
 Calls Try.prog 27 #[.agg (ints .u8 16 X).toArray,.slice (some ⟨g,0,none⟩) 2 2] w fun e w'=>e = .returned (.agg (ints .u8 16 (rowN 1 (thrN boxN X))).toArray)∧Below w.heap.size w w':=by
 have c:=through_any 2 (by decide) _ (fun j=>if j=0 then thrN boxN else tuN) (fun j hj v W=>by
  match j,hj with
  | 0,_=>exact enter1 (f:=28) (by kernel_rfl)
  | 1,_=>exact enter1 (f:=29) (by kernel_rfl)) (fun j hj Y hY=>by
  match j,hj with
  | 0,_=>exact ⟨box_B hY,boxed_any Y hY⟩
  | 1,_=>exact ⟨tuN_B hY,turned_any Y⟩) X hX g w (steps_of [28,29] h)
 rw [show stp (fun j=>if j=0 then thrN boxN else tuN) X 2=tuN (thrN boxN X) from rfl,sqV_S (tu_row _)] at c
 exact c
theorem unT {X:Nat→Nat} (h:B16 X):B16 (tuN (tuN (tuN X))):=tuN_B (tuN_B (tuN_B h))
theorem bk3 (X:Nat→Nat) (hX:B16 X) (g:Nat) (w:World) (h:RW w g 0 [fnV 37,fnV 35,fnV 36]) :
 Calls Try.prog 27 #[.agg (ints .u8 16 X).toArray,.slice (some ⟨g,0,none⟩) 3 3] w fun e w'=>e = .returned (.agg (ints .u8 16 (thrN unN (rowN 3 (colN mB X)))).toArray)∧Below w.heap.size w w':=by
 have c:=through_any 3 (by decide) _ (fun j=>if j=0 then (fun Y=>mxN (mxN (mxN Y))) else if j=1 then (fun Y=>tuN (tuN (tuN Y))) else thrN unN) (fun j hj v W=>by
  match j,hj with
  | 0,_=>exact enter1 (f:=37) (by kernel_rfl)
  | 1,_=>exact enter1 (f:=35) (by kernel_rfl)
  | 2,_=>exact enter1 (f:=36) (by kernel_rfl)) (fun j hj Y hY=>by
  match j,hj with
  | 0,_=>exact ⟨mxN_B (mxN_B (mxN_B hY)),unmixed_any Y hY⟩
  | 1,_=>exact ⟨unT hY,unturned_any Y⟩
  | 2,_=>exact ⟨un_B hY,unboxed_any Y hY⟩) X hX g w (steps_of [37,35,36] h)
 have e:S16 (thrN unN (tuN (tuN (tuN (mxN (mxN (mxN X))))))) (thrN unN (rowN 3 (colN mB X))):=thrN_S ((tu_three _).trans (rowN_S (mx_three hX) 3)) unN
 rw [show stp (fun j=>if j=0 then (fun Y=>mxN (mxN (mxN Y))) else if j=1 then (fun Y=>tuN (tuN (tuN Y))) else thrN unN) X 3=thrN unN (tuN (tuN (tuN (mxN (mxN (mxN X)))))) from rfl,sqV_S e] at c
 exact c
theorem bk2 (X:Nat→Nat) (hX:B16 X) (g:Nat) (w:World) (h:RW w g 0 [fnV 35,fnV 36]) :
 Calls Try.prog 27 #[.agg (ints .u8 16 X).toArray,.slice (some ⟨g,0,none⟩) 2 2] w fun e w'=>e = .returned (.agg (ints .u8 16 (thrN unN (rowN 3 X))).toArray)∧Below w.heap.size w w':=by
 have c:=through_any 2 (by decide) _ (fun j=>if j=0 then (fun Y=>tuN (tuN (tuN Y))) else thrN unN) (fun j hj v W=>by
  match j,hj with
  | 0,_=>exact enter1 (f:=35) (by kernel_rfl)
  | 1,_=>exact enter1 (f:=36) (by kernel_rfl)) (fun j hj Y hY=>by
  match j,hj with
  | 0,_=>exact ⟨unT hY,unturned_any Y⟩
  | 1,_=>exact ⟨un_B hY,unboxed_any Y hY⟩) X hX g w (steps_of [35,36] h)
 rw [show stp (fun j=>if j=0 then (fun Y=>tuN (tuN (tuN Y))) else thrN unN) X 2=thrN unN (tuN (tuN (tuN X))) from rfl,sqV_S (thrN_S (tu_three X) unN)] at c
 exact c
theorem plus_key (X K:Nat→Nat) (r:Nat) (hX:B16 X) (hK:∀ j,K j<256) (w:World) :
 Calls Try.prog 26 #[.agg (ints .u8 16 X).toArray,.agg (ints .u8 16 (fun j=>K (16*r+j))).toArray] w fun e w'=>e = .returned (.agg (ints .u8 16 (addN K r X)).toArray)∧Below w.heap.size w w':=plus_any X _ hX (fun _ _=>hK _) w
theorem RowAt.rw {K:IntKind} {w:World} {g o n:Nat} {X:Nat→Nat} (h:RowAt K w g o n X) (hn:0<n):RW w g o (ints K n X):=⟨h.range,by rw [ints_len];exact h.there,block_lt_of_cell (h 0 hn).1⟩
theorem rowAt_of {K:IntKind} {w:World} {g o n:Nat} {X:Nat→Nat} (h:RW w g o (ints K n X)):RowAt K w g o n X:=fun j hj=>⟨h.range j _ (ints_at K n X j hj),(h.there j (by rw [ints_len];exact hj)).2⟩
theorem key_at {w:World} {g:Nat} {K:Nat→Nat} (h:RowAt .u8 w g 0 176 K) (r:Nat) (hr:r<11):RW w g (16*r) (ints .u8 16 (fun j=>K (16*r+j))):=(h.part (16*r) 16 (by omega)).rw (by decide)
end Go.Proofs.Ytplnmmokafomaaa
namespace Go.Proofs.Ytplnmmokafomaaa
open Go.RowKit
abbrev qb46:Oper:=oS (Op.store 42 (oT 7) (oT 25)) "aes.go:27" #[jD 5,jD 4,jC 4,jP 0,jP 1,jP 2,jP 3,jP 4,jP 5]
abbrev qb45:Oper:=oN 7 (Op.alloc 42) 0 "aes.go:27" #[]
abbrev qb44:Oper:=oN 25 (cF1 26 #[oT 22,oT 24] #[42,42]) 42 "aes.go:27" #[jD 1,jD 3,jC 1]
abbrev qb41:Oper:=oN 22 (cF1 24 #[oT 21] #[25]) 42 "aes.go:27" #[jD 0]
abbrev qb85:Oper:=oS (Op.store 42 (oT 7) (oT 36)) "aes.go:29" #[jD 4,jC 4,jP 0,jP 1,jP 2,jP 3,jP 4]
abbrev qb84:Oper:=oN 36 (cF1 26 #[oT 34,oT 35] #[42,42]) 42 "aes.go:29" #[jD 2,jD 3,jC 2]
abbrev qb82:Oper:=oN 34 (cF1 27 #[oT 32,oT 33] #[42,56]) 42 "aes.go:29" #[jD 0,jD 1]
abbrev qb81:Oper:=oN 33 (Op.buildSlice 56 3 #[(0,Operand.func 28),(1,Operand.func 29),(2,Operand.func 30)]) 56 "aes.go:29" #[]
abbrev qb80:Oper:=oN 32 (Op.load 42 (oT 7)) 42 "aes.go:29" #[]
abbrev qbx6:Oper:=oS (Op.store 42 (oT 7) (oT 43)) "aes.go:31" #[jD 5,jC 5,jP 0,jP 1,jP 2,jP 3,jP 4,jP 5]
abbrev qbx5:Oper:=oN 43 (cF1 26 #[oT 40,oT 42] #[42,42]) 42 "aes.go:31" #[jD 2,jD 4,jC 2]
abbrev qbx2:Oper:=oN 40 (cF1 27 #[oT 38,oT 39] #[42,56]) 42 "aes.go:31" #[jD 0,jD 1]
abbrev qbx1:Oper:=oN 39 (Op.buildSlice 56 2 #[(0,Operand.func 28),(1,Operand.func 29)]) 56 "aes.go:31" #[]
abbrev qbx0:Oper:=oN 38 (Op.load 42 (oT 7)) 42 "aes.go:31" #[]
theorem RowAt.still {K:IntKind} {w w':World} {g o n:Nat} {X:Nat→Nat} (h:RowAt K w g o n X) (hb:Below w.heap.size w w'):RowAt K w' g o n X:=fun j hj=>⟨(hb.cell (p:=⟨g,o+j,none⟩) (block_lt_of_cell (h j hj).1)).trans (h j hj).1,(hb.frozen (p:=⟨g,o+j,none⟩) (block_lt_of_cell (h j hj).1)).trans (h j hj).2⟩
set_option maxRecDepth 20000 in
set_option maxHeartbeats 8000000 in
theorem block_good (v u:Value) (ks bs:Nat→Nat) (hks:∀ j,ks j<256) (hbB:B16 bs) (w:World) (hv:BytesIn w v 16 ks) (hu:BytesIn w u 16 bs) :
 Calls Try.prog 16 #[v,u] w fun e w'=>∃ g,e = .returned (.tuple #[.slice (some ⟨g,0,none⟩) 16 16,.int .i64 0])∧RowAt .u8 w' g 0 16 (blkN (kyN ks) bs)∧Below w.heap.size w w':=by
 have hz:=zeroK
 have cs:=squareOf_16 v ks w hv
 have cr:=roundKeys_any ks hks
 have hK:=kyN_lt hks
 obtain ⟨xk,ck,rfl,-,-,-⟩:=hv.src
 obtain ⟨xb,cb,rfl,-,-,-⟩:=hu.src
 unfold kyV sqV at cr
 obtain ⟨K,hKe⟩:∃ K,K=kyN ks:=⟨_,rfl⟩
 rw [←hKe] at cr hK ⊢
 have hj2:=infoKA K
 have hjo:=oneU 176 K
 have hst:∀ W:World,(W.alloc (.cells (zb 176) 43)).there W.heap.size 0 (ints .u8 176 K).toArray.size∧RowAt .u8 ((W.alloc (.cells (zb 176) 43)).setCells W.heap.size 0 (ints .u8 176 K)) W.heap.size 0 176 K∧Below W.heap.size W ((W.alloc (.cells (zb 176) 43)).setCells W.heap.size 0 (ints .u8 176 K)):=fun W=>by
  have h:=RowAt.zero W 176 43
  exact ⟨by rw [ints_size];exact h.there,h.stored,below_setCells (Nat.le_refl _) _ _ _ ((Below.refl _ _).alloc (Nat.le_refl _) _)⟩
 have Hst:=Hid.mk' hst
 obtain ⟨LK,hLK⟩:∃ LK,LK=ints .u8 176 K:=⟨_,rfl⟩
 rw [←hLK] at cr hj2 hjo Hst
 clear hKe hLK hst hv hks
 obtain ⟨Z,hZe⟩:∃ Z,Z=blkN K bs:=⟨_,rfl⟩
 rw [←hZe]
 have HZ:=Hid.mk' hZe
 clear hZe
 go_enter Try.func16,Try.ntmps16
 go_upto_region 4 with (first
  | (go_at_call 24;refine cs.mono ?_;clear cs;rintro e w1 ⟨rfl,hb1⟩;(have cr1:=cr w1);clear cr)
  | (go_at_call 23;refine cr1.mono ?_;clear cr1;rintro e w2 ⟨rfl,hb2⟩;(obtain ⟨hth,hKy,hb3⟩:=Hst.out w2);(have b:=below_next (below_next hb1 hb2) hb3);clear hb1 hb2)
  | (with_reducible (refine id (?_:wpList _ _ _ _ _ _));refine wpList_store_mid rfl 43 _ _ rfl w2.heap.size 0 LK.toArray rfl rfl hth hj2 hjo ?_))
 dsimp only [Act.put]
 have hgk:w2.heap.size<((w2.alloc (.cells (zb 176) 43)).setCells w2.heap.size 0 LK).heap.size:=block_lt_of_cell (hKy 0 (by decide)).1
 clear hth hb3 Hst hj2 hjo hz
 generalize (w2.alloc (.cells (zb 176) 43)).setCells w2.heap.size 0 LK=U at *
 generalize w2.heap.size=gk at *
 go_cut [7] from 10 (fun s7 wc=>∃ gs,s7 = .pointer (some ⟨gs,0,none⟩)∧RowAt .u8 wc gs 0 16 (addN K 0 bs)∧U.heap.size≤gs∧RowAt .u8 wc gk 0 176 K∧Below w.heap.size w wc)
 case first =>
  have hdrew:Below U.heap.size U U.drew:=(Below.refl _ _).drew
  replace hKy:=hKy.still hdrew
  refine wp_region_noPanic ?_
  refine wp_region_held_drew (S:=fun w'=>Below U.drew.heap.size U.drew w') (by kernel_rfl) (Below.refl _ _) (fun hS => ?_)
  generalize U.drew=Vb4 at *
  refine tk 0 (.slice xb 16 cb) hS (hy:=(yR)) (h := ?_)
  (try simp only [pS])
  refine tk 2 (pA gk 0) hS (hy:=(yR)) (h := ?_)
  (try simp only [pS])
  refine tk 3 (.agg (ints .u8 16 (fun j=>K (16*0+j))).toArray) hS (hy:=(ldH (key_at hKy 0 (by decide)) 42 23 Try.underlying42 (infoS _))) (h := ?_)
  (try simp only [pS])
  refine dag_root (fun G hG0 => ?_)
  have hG:=Hid.mk' hG0
  clear hG0
  obtain ⟨F,hF0⟩:∃ F:Value→Value→Value→Act,∀ v7 v22 v25,F v7 v22 v25={ tmps:=#[.slice xk 16 ck,.slice xb 16 cb,undef,undef,.slice none 0 0,.int .i64 0,pA gk 0,v7,undef,undef,.slice xk 16 ck,.int .i64 16,.bool false,.bool false,.slice xb 16 cb,.int .i64 16,.bool false,.bool false,.slice xk 16 ck,.agg (ints .u8 16 (ks)).toArray,.agg LK.toArray,.slice xb 16 cb,v22,pA gk 0,.agg (ints .u8 16 (fun j=>K (16*0+j))).toArray,v25,undef,undef,undef,undef,undef,undef,undef,undef,undef,undef,undef,undef,undef,undef,undef,undef,undef,undef,undef],defers:=[] }:=⟨_,fun _ _ _=>rfl⟩
  have hF:=Hid.mk' hF0
  clear hF0
  have stb40:Hid (∀ (cur:World) (g5:Nat),Below Vb4.heap.size Vb4 cur→RW cur g5 0 (ints .u8 16 (addN K 0 bs))→Vb4.heap.size≤g5→G 0 #[true,true,true,true,true,true,true] (F (pA g5 0) (.agg (ints .u8 16 (bs)).toArray) (.agg (ints .u8 16 (addN K 0 bs)).toArray)) cur):=Hid.mk' (by
   intro cur g5 hS r5 G5
   rw [hF.out,hG.out]
   refine wpAnyH_done (by kernel_rfl) ?_ _
   refine NoPanic.normal ?_
   go_wp2
   go_meet
   case rel=>exact ⟨g5,rfl,rowAt_of r5,Nat.le_trans hdrew.size G5,hKy.still hS,below_next (below_next b hdrew) hS⟩)
  have stb41:Hid (∀ (cur:World) (g5:Nat),Below Vb4.heap.size Vb4 cur→RW cur g5 0 (ints .u8 16 (fun _=>0))→Vb4.heap.size≤g5→G 1 #[true,true,true,true,true,true,false] (F (pA g5 0) (.agg (ints .u8 16 (bs)).toArray) (.agg (ints .u8 16 (addN K 0 bs)).toArray)) cur):=Hid.mk' (by
   intro cur g5 hS r5 G5
   rw [hF.out,hG.out]
   refine wpAnyH_ready (rs:=[6]) (by kernel_rfl) (by simp) ?_
   refine aT qb46 42 7 25 (ints .u8 16 (addN K 0 bs)) r5 (by rw [ints_len,ints_len]) (below_setCells G5 _ _ _ hS) (infoSA _) (oneU 16 _) (fun rr=>dagW hG (stb40.out _ g5 (below_setCells G5 _ _ _ hS) rr G5) (hF.out _ _ _)) ?_
   exact AllReadyH.nil)
  have stb42:Hid (∀ (cur:World),Below Vb4.heap.size Vb4 cur→G 2 #[true,true,true,true,true,false,false] (F undef (.agg (ints .u8 16 (bs)).toArray) (.agg (ints .u8 16 (addN K 0 bs)).toArray)) cur):=Hid.mk' (by
   intro cur  hS 
   rw [hF.out,hG.out]
   clear stb40
   refine wpAnyH_ready (rs:=[5]) (by kernel_rfl) (by simp) ?_
   refine aG qb45 (fun g=>pA g 0) (ints .u8 16 (fun _=>0)) 42 (fun u hb=>below_next hS hb) (fun w1 g5 lg hb rr=>dagW hG (stb41.out w1 g5 (below_next hS hb) rr (Nat.le_trans hS.size lg)) (hF.out _ _ _)) ?_
   exact AllReadyH.nil)
  have stb43:Hid (∀ (cur:World) (g5:Nat),Below Vb4.heap.size Vb4 cur→RW cur g5 0 (ints .u8 16 (fun _=>0))→Vb4.heap.size≤g5→G 2 #[true,true,true,true,false,true,false] (F (pA g5 0) (.agg (ints .u8 16 (bs)).toArray) undef) cur):=Hid.mk' (by
   intro cur g5 hS r5 G5
   rw [hF.out,hG.out]
   clear stb40 stb42
   refine wpAnyH_ready (rs:=[4]) (by kernel_rfl) (by simp) ?_
   refine arC qb44 (plus_key bs K 0 hbB hK cur) (fun e w1 ⟨he,hb⟩=>⟨_,he,below_next hS hb,dagW hG (stb41.out w1 g5 (below_next hS hb) (r5.still hb) G5) (hF.out _ _ _)⟩) ?_
   exact AllReadyH.nil)
  have stb44:Hid (∀ (cur:World),Below Vb4.heap.size Vb4 cur→G 3 #[true,true,true,true,false,false,false] (F undef (.agg (ints .u8 16 (bs)).toArray) undef) cur):=Hid.mk' (by
   intro cur  hS 
   rw [hF.out,hG.out]
   clear stb40 stb41
   refine wpAnyH_ready (rs:=[4,5]) (by kernel_rfl) (by simp) ?_
   refine arC qb44 (plus_key bs K 0 hbB hK cur) (fun e w1 ⟨he,hb⟩=>⟨_,he,below_next hS hb,dagW hG (stb42.out w1  (below_next hS hb) ) (hF.out _ _ _)⟩) ?_
   refine aG qb45 (fun g=>pA g 0) (ints .u8 16 (fun _=>0)) 42 (fun u hb=>below_next hS hb) (fun w1 g5 lg hb rr=>dagW hG (stb43.out w1 g5 (below_next hS hb) rr (Nat.le_trans hS.size lg)) (hF.out _ _ _)) ?_
   exact AllReadyH.nil)
  have stb45:Hid (∀ (cur:World) (g5:Nat),Below Vb4.heap.size Vb4 cur→RW cur g5 0 (ints .u8 16 (fun _=>0))→Vb4.heap.size≤g5→G 3 #[true,false,true,true,false,true,false] (F (pA g5 0) undef undef) cur):=Hid.mk' (by
   intro cur g5 hS r5 G5
   rw [hF.out,hG.out]
   clear stb40 stb41 stb42 stb44
   refine wpAnyH_ready (rs:=[1]) (by kernel_rfl) (by simp) ?_
   refine arC qb41 (squareOf_16 _ bs cur (hu.keep (below_next (below_next b hdrew) hS))) (fun e w1 ⟨he,hb⟩=>⟨_,he,below_next hS hb,dagW hG (stb43.out w1 g5 (below_next hS hb) (r5.still hb) G5) (hF.out _ _ _)⟩) ?_
   exact AllReadyH.nil)
  have stb46:Hid (∀ (cur:World),Below Vb4.heap.size Vb4 cur→G 4 #[true,false,true,true,false,false,false] (F undef undef undef) cur):=Hid.mk' (by
   intro cur  hS 
   rw [hF.out,hG.out]
   clear stb40 stb41 stb42 stb43
   refine wpAnyH_ready (rs:=[1,5]) (by kernel_rfl) (by simp) ?_
   refine arC qb41 (squareOf_16 _ bs cur (hu.keep (below_next (below_next b hdrew) hS))) (fun e w1 ⟨he,hb⟩=>⟨_,he,below_next hS hb,dagW hG (stb44.out w1  (below_next hS hb) ) (hF.out _ _ _)⟩) ?_
   refine aG qb45 (fun g=>pA g 0) (ints .u8 16 (fun _=>0)) 42 (fun u hb=>below_next hS hb) (fun w1 g5 lg hb rr=>dagW hG (stb45.out w1 g5 (below_next hS hb) rr (Nat.le_trans hS.size lg)) (hF.out _ _ _)) ?_
   exact AllReadyH.nil)
  rw [hG.out]
  exact dagW hG (stb46.out Vb4 hS ) (hF.out _ _ _)
 case rest =>
 obtain ⟨gs,rfl,hs0,hgs,hKy0,b0⟩:=hcut
 have ngk:gk<gs:=Nat.lt_of_lt_of_le hgk hgs
 have wgs:w.heap.size≤gs:=Nat.le_trans b.size hgs
 clear hKy b hu hgk hgs
 obtain ⟨B,hBe⟩:∃ B,B=blkS K bs:=⟨_,rfl⟩
 have hBB:∀ r,B16 (B r):=fun r=>by rw [hBe];exact blkS_B hbB hK r
 have hB0:addN K 0 bs=B 0:=by rw [hBe];rfl
 have hBs:∀ r,addN K (r+1) (colN mT (rowN 1 (thrN boxN (B r))))=B (r+1):=fun r=>by rw [hBe];rfl
 have hBn:addN K 10 (rowN 1 (thrN boxN (B 9)))=blkN K bs:=by rw [hBe];rfl
 rw [hB0] at hs0
 have hz:=zeroS
 have sz0:=block_lt_of_cell (hs0 0 (by decide)).1
 have HBs:=Hid.mk' hBs
 have HBn:=Hid.mk' hBn
 clear hBe hB0 hBs hBn
 go_wp2
 go_loopw [28] (fun i wr=>∃ k:Nat,k≤9∧i = .int .i64 k∧RowAt .u8 wr gs 0 16 (B k)∧RowAt .u8 wr gk 0 176 K∧Below w.heap.size w wr) (fun i _=>9 - (intOf i).toNat)
 case atStart=>exact ⟨0,Nat.zero_le _,rfl,hs0,hKy0,b0⟩
 case round =>
  clear hs0 hKy0 b0 sz0
  obtain ⟨k,hk,rfl,hs,hKy,b⟩:=hrel
  have sz:=block_lt_of_cell (hs 0 (by decide)).1
  by_cases hlt:k<9
  · have hPr:=(key_at hKy (k+1) (by omega)).range
    rw [show 16*(k+1)=16+k*16 by omega] at hPr
    have q1:(0:Int)≤(k:Int)∧(k:Int)<9:=by omega
    have hi1:=infoS (fun j=>K (16+k*16+j))
    have hj2:=infoSA (fun j=>K (16+k*16+j))
    have hjo:=oneU 16 (fun j=>K (16+k*16+j))
    have hT:=RowAt.zero wr 16 42
    have hth:(wr.alloc (.cells (zb 16) 42)).there wr.heap.size 0 (ints .u8 16 (fun j=>K (16+k*16+j))).toArray.size:=by rw [ints_size];exact hT.there
    have hL9:=(hT.stored (L:=fun j=>K (16+k*16+j))).rw (by decide)
    have hb2:Below wr.heap.size wr ((wr.alloc (.cells (zb 16) 42)).setCells wr.heap.size 0 (ints .u8 16 (fun j=>K (16+k*16+j)))):=below_setCells (Nat.le_refl _) _ _ _ ((Below.refl _ _).alloc (Nat.le_refl _) _)
    replace hs:=(hs.still hb2).rw (by decide)
    replace hKy:=hKy.still hb2
    replace b:=below_next b hb2
    have c1:=fun g W h=>thr3 (B k) (hBB k) g W h
    have c2:=fun W=>plus_key (colN mT (rowN 1 (thrN boxN (B k)))) K (k+1) (colT_B (rowN_B (box_B (hBB k)) 1)) hK W
    rw [HBs.out k,show 16*(k+1)=16+k*16 by omega] at c2
    generalize colN mT (rowN 1 (thrN boxN (B k)))=X2 at *
    generalize hLL:ints .u8 16 (fun j=>K (16+k*16+j))=LL at *
    go_upto_region 8 with (first
     | (refine wpList_load_mid rfl 42 _ rfl gk (16+k*16) rfl LL _ hPr Try.underlying42 rfl hi1 ?_)
     | (with_reducible (refine id (?_:wpList _ _ _ _ _ _));refine wpList_store_mid rfl 42 _ _ rfl wr.heap.size 0 LL.toArray rfl rfl hth hj2 hjo ?_))
    dsimp only [Act.put]
    have n9:wr.heap.size≠gs:=fun h=>Nat.lt_irrefl _ (h ▸ sz)
    clear hT hth hb2 hPr hj2 hjo hLL hz sz HBs HBn
    generalize (wr.alloc (.cells (zb 16) 42)).setCells wr.heap.size 0 LL=U8 at *
    generalize wr.heap.size=g9 at *
    have hdrew:Below U8.heap.size U8 U8.drew:=(Below.refl _ _).drew
    replace hs:=hs.still hdrew
    replace hKy:=hKy.still hdrew
    replace hL9:=hL9.still hdrew
    refine wp_region_noPanic ?_
    refine wp_region_held_drew (S:=fun w'=>Out gs 0 16 U8.drew w') (by kernel_rfl) (Out.refl _ _ _ _) (fun hS => ?_)
    generalize U8.drew=Vb8 at *
    refine tk 3 (.agg LL.toArray) hS (hy:=(ldO hL9 n9 42 9 Try.underlying42 hi1)) (h := ?_)
    (try simp only [pS])
    refine dag_root (fun G hG0 => ?_)
    have hG:=Hid.mk' hG0
    clear hG0
    obtain ⟨F,hF0⟩:∃ F:Value→Value→Value→Value→Act,∀ v32 v33 v34 v36,F v32 v33 v34 v36={ tmps:=#[.slice xk 16 ck,.slice xb 16 cb,undef,undef,.slice none 0 0,.int .i64 0,pA gk 0,pA gs 0,undef,pA g9 0,u10,u11,u12,u13,u14,u15,u16,u17,u18,u19,u20,u21,u22,u23,u24,u25,.slice (some ⟨gk,16,none⟩) 9 10,.int .i64 9,.int .i64 k,.bool true,pA gk (16+k*16),.agg LL.toArray,v32,v33,v34,.agg LL.toArray,v36,u37,u38,u39,u40,u41,u42,u43,u44],defers:=[] }:=⟨_,fun _ _ _ _=>rfl⟩
    have hF:=Hid.mk' hF0
    clear hF0
    have stb80:Hid (∀ (cur:World) (g1:Nat),Out gs 0 16 Vb8 cur→RW cur gs 0 (ints .u8 16 (B (k+1)))→Vb8.heap.size≤g1→G 0 #[true,true,true,true,true,true] (F (.agg (ints .u8 16 (B k)).toArray) (.slice (some ⟨g1,0,none⟩) 3 3) (.agg (ints .u8 16 (X2)).toArray) (.agg (ints .u8 16 (B (k+1))).toArray)) cur):=Hid.mk' (by
     intro cur g1 hS ro G1
     rw [hF.out,hG.out]
     refine wpAnyH_done (by kernel_rfl) ?_ _
     refine NoPanic.normal ?_
     go_wp2
     go_roundw
     case rel=>exact ⟨k+1,by omega,by go_num,rowAt_of ro,hS.row hKy (Nat.ne_of_lt ngk),(below_next b hdrew).trans (hS.below wgs (below_next b hdrew).size)⟩
     case measure=>simp [intOf];omega)
    have stb81:Hid (∀ (cur:World) (g1:Nat),Out gs 0 16 Vb8 cur→RW cur gs 0 (ints .u8 16 (B k))→Vb8.heap.size≤g1→G 1 #[true,true,true,true,true,false] (F (.agg (ints .u8 16 (B k)).toArray) (.slice (some ⟨g1,0,none⟩) 3 3) (.agg (ints .u8 16 (X2)).toArray) (.agg (ints .u8 16 (B (k+1))).toArray)) cur):=Hid.mk' (by
     intro cur g1 hS ro G1
     rw [hF.out,hG.out]
     refine wpAnyH_ready (rs:=[5]) (by kernel_rfl) (by simp) ?_
     refine aT qb85 42 7 36 (ints .u8 16 (B (k+1))) ro (by rw [ints_len,ints_len]) (hS.trans (Out.setCells _ _ (Nat.le_refl _) (by rw [ints_len];exact Nat.le_refl _))) (infoSA _) (oneU 16 _) (fun rr=>dagW hG (stb80.out _ g1 (hS.trans (Out.setCells _ _ (Nat.le_refl _) (by rw [ints_len];exact Nat.le_refl _))) rr G1) (hF.out _ _ _ _)) ?_
     exact AllReadyH.nil)
    have stb82:Hid (∀ (cur:World) (g1:Nat),Out gs 0 16 Vb8 cur→RW cur gs 0 (ints .u8 16 (B k))→Vb8.heap.size≤g1→G 2 #[true,true,true,true,false,false] (F (.agg (ints .u8 16 (B k)).toArray) (.slice (some ⟨g1,0,none⟩) 3 3) (.agg (ints .u8 16 (X2)).toArray) u36) cur):=Hid.mk' (by
     intro cur g1 hS ro G1
     rw [hF.out,hG.out]
     clear stb80
     refine wpAnyH_ready (rs:=[4]) (by kernel_rfl) (by simp) ?_
     refine arC qb84 (c2 cur) (fun e w1 ⟨he,hb⟩=>⟨_,he,hS.trans (Out.of_below hb ro.lt),dagW hG (stb81.out w1 g1 (hS.trans (Out.of_below hb ro.lt)) (ro.still hb) G1) (hF.out _ _ _ _)⟩) ?_
     exact AllReadyH.nil)
    have stb83:Hid (∀ (cur:World) (g1:Nat),Out gs 0 16 Vb8 cur→RW cur gs 0 (ints .u8 16 (B k))→RW cur g1 0 ([fnV 28,fnV 29,fnV 30])→Vb8.heap.size≤g1→G 3 #[true,true,false,true,false,false] (F (.agg (ints .u8 16 (B k)).toArray) (.slice (some ⟨g1,0,none⟩) 3 3) u34 u36) cur):=Hid.mk' (by
     intro cur g1 hS ro r1 G1
     rw [hF.out,hG.out]
     clear stb80 stb81
     refine wpAnyH_ready (rs:=[2]) (by kernel_rfl) (by simp) ?_
     refine arC qb82 (c1 _ cur r1) (fun e w1 ⟨he,hb⟩=>⟨_,he,hS.trans (Out.of_below hb ro.lt),dagW hG (stb82.out w1 g1 (hS.trans (Out.of_below hb ro.lt)) (ro.still hb) G1) (hF.out _ _ _ _)⟩) ?_
     exact AllReadyH.nil)
    have stb84:Hid (∀ (cur:World),Out gs 0 16 Vb8 cur→RW cur gs 0 (ints .u8 16 (B k))→G 4 #[true,false,false,true,false,false] (F (.agg (ints .u8 16 (B k)).toArray) u33 u34 u36) cur):=Hid.mk' (by
     intro cur  hS ro
     rw [hF.out,hG.out]
     clear stb80 stb81 stb82
     refine wpAnyH_ready (rs:=[1]) (by kernel_rfl) (by simp) ?_
     refine aG qb81 (fun g => .slice (some ⟨g,0,none⟩) 3 3) ([fnV 28,fnV 29,fnV 30]) 47 (fun u hb=>hS.trans (Out.of_below hb ro.lt)) (fun w1 g1 lg hb rr=>dagW hG (stb83.out w1 g1 (hS.trans (Out.of_below hb ro.lt)) (ro.still hb) rr (Nat.le_trans hS.size lg)) (hF.out _ _ _ _)) ?_
     exact AllReadyH.nil)
    have stb85:Hid (∀ (cur:World) (g1:Nat),Out gs 0 16 Vb8 cur→RW cur gs 0 (ints .u8 16 (B k))→RW cur g1 0 ([fnV 28,fnV 29,fnV 30])→Vb8.heap.size≤g1→G 4 #[false,true,false,true,false,false] (F u32 (.slice (some ⟨g1,0,none⟩) 3 3) u34 u36) cur):=Hid.mk' (by
     intro cur g1 hS ro r1 G1
     rw [hF.out,hG.out]
     clear stb80 stb81 stb82 stb84
     refine wpAnyH_ready (rs:=[0]) (by kernel_rfl) (by simp) ?_
     refine aL qb80 42 7 ro hS Try.underlying42 (infoS _) (dagW hG (stb83.out cur g1 hS ro r1 G1) (hF.out _ _ _ _)) ?_
     exact AllReadyH.nil)
    have stb86:Hid (∀ (cur:World),Out gs 0 16 Vb8 cur→RW cur gs 0 (ints .u8 16 (B k))→G 5 #[false,false,false,true,false,false] (F u32 u33 u34 u36) cur):=Hid.mk' (by
     intro cur  hS ro
     rw [hF.out,hG.out]
     clear stb80 stb81 stb82 stb83
     refine wpAnyH_ready (rs:=[0,1]) (by kernel_rfl) (by simp) ?_
     refine aL qb80 42 7 ro hS Try.underlying42 (infoS _) (dagW hG (stb84.out cur  hS ro) (hF.out _ _ _ _)) ?_
     refine aG qb81 (fun g => .slice (some ⟨g,0,none⟩) 3 3) ([fnV 28,fnV 29,fnV 30]) 47 (fun u hb=>hS.trans (Out.of_below hb ro.lt)) (fun w1 g1 lg hb rr=>dagW hG (stb85.out w1 g1 (hS.trans (Out.of_below hb ro.lt)) (ro.still hb) rr (Nat.le_trans hS.size lg)) (hF.out _ _ _ _)) ?_
     exact AllReadyH.nil)
    rw [hG.out]
    exact dagW hG (stb86.out Vb8 hS hs) (hF.out _ _ _ _)
  · obtain rfl:k=9:=by omega
    have n9:gk≠gs:=Nat.ne_of_lt ngk
    replace hs:=hs.rw (by decide)
    have c1:=fun g W h=>thr2 (B 9) (hBB 9) g W h
    have c2:=fun W=>plus_key (rowN 1 (thrN boxN (B 9))) K 10 (rowN_B (box_B (hBB 9)) 1) hK W
    rw [HBn.out,←HZ.out] at c2
    generalize rowN 1 (thrN boxN (B 9))=X2 at *
    clear hz sz HBs HBn
    go_upto_region 10 with (fail)
    have hdrew:Below wr.heap.size wr wr.drew:=(Below.refl _ _).drew
    replace hs:=hs.still hdrew
    replace hKy:=hKy.still hdrew
    refine wp_region_noPanic ?_
    refine wp_region_held_drew (S:=fun w'=>Out gs 0 16 wr.drew w') (by kernel_rfl) (Out.refl _ _ _ _) (fun hS => ?_)
    generalize wr.drew=Vbx at *
    refine tk 3 (pA gk 160) hS (hy:=(yR)) (h := ?_)
    (try simp only [pS])
    refine tk 4 (.agg (ints .u8 16 (fun j=>K (16*10+j))).toArray) hS (hy:=(ldO (key_at hKy 10 (by decide)) n9 42 41 Try.underlying42 (infoS _))) (h := ?_)
    (try simp only [pS])
    refine dag_root (fun G hG0 => ?_)
    have hG:=Hid.mk' hG0
    clear hG0
    obtain ⟨F,hF0⟩:∃ F:Value→Value→Value→Value→Act,∀ v38 v39 v40 v43,F v38 v39 v40 v43={ tmps:=#[.slice xk 16 ck,.slice xb 16 cb,undef,undef,.slice none 0 0,.int .i64 0,pA gk 0,pA gs 0,undef,u9,u10,u11,u12,u13,u14,u15,u16,u17,u18,u19,u20,u21,u22,u23,u24,u25,.slice (some ⟨gk,16,none⟩) 9 10,.int .i64 9,.int .i64 9,.bool false,u30,u31,u32,u33,u34,u35,u36,u37,v38,v39,v40,pA gk 160,.agg (ints .u8 16 (fun j=>K (16*10+j))).toArray,v43,u44],defers:=[] }:=⟨_,fun _ _ _ _=>rfl⟩
    have hF:=Hid.mk' hF0
    clear hF0
    have stbx0:Hid (∀ (cur:World) (g1:Nat),Out gs 0 16 Vbx cur→RW cur gs 0 (ints .u8 16 (Z))→Vbx.heap.size≤g1→G 0 #[true,true,true,true,true,true,true] (F (.agg (ints .u8 16 (B 9)).toArray) (.slice (some ⟨g1,0,none⟩) 2 2) (.agg (ints .u8 16 (X2)).toArray) (.agg (ints .u8 16 (Z)).toArray)) cur):=Hid.mk' (by
     intro cur g1 hS ro G1
     rw [hF.out,hG.out]
     refine wpAnyH_done (by kernel_rfl) ?_ _
     refine NoPanic.normal ?_
     go_wp2
     go_ret2
     exact ⟨gs,rfl,rowAt_of ro,(below_next b hdrew).trans (hS.below wgs (below_next b hdrew).size)⟩)
    have stbx1:Hid (∀ (cur:World) (g1:Nat),Out gs 0 16 Vbx cur→RW cur gs 0 (ints .u8 16 (B 9))→Vbx.heap.size≤g1→G 1 #[true,true,true,true,true,true,false] (F (.agg (ints .u8 16 (B 9)).toArray) (.slice (some ⟨g1,0,none⟩) 2 2) (.agg (ints .u8 16 (X2)).toArray) (.agg (ints .u8 16 (Z)).toArray)) cur):=Hid.mk' (by
     intro cur g1 hS ro G1
     rw [hF.out,hG.out]
     refine wpAnyH_ready (rs:=[6]) (by kernel_rfl) (by simp) ?_
     refine aT qbx6 42 7 43 (ints .u8 16 (Z)) ro (by rw [ints_len,ints_len]) (hS.trans (Out.setCells _ _ (Nat.le_refl _) (by rw [ints_len];exact Nat.le_refl _))) (infoSA _) (oneU 16 _) (fun rr=>dagW hG (stbx0.out _ g1 (hS.trans (Out.setCells _ _ (Nat.le_refl _) (by rw [ints_len];exact Nat.le_refl _))) rr G1) (hF.out _ _ _ _)) ?_
     exact AllReadyH.nil)
    have stbx2:Hid (∀ (cur:World) (g1:Nat),Out gs 0 16 Vbx cur→RW cur gs 0 (ints .u8 16 (B 9))→Vbx.heap.size≤g1→G 2 #[true,true,true,true,true,false,false] (F (.agg (ints .u8 16 (B 9)).toArray) (.slice (some ⟨g1,0,none⟩) 2 2) (.agg (ints .u8 16 (X2)).toArray) u43) cur):=Hid.mk' (by
     intro cur g1 hS ro G1
     rw [hF.out,hG.out]
     clear stbx0
     refine wpAnyH_ready (rs:=[5]) (by kernel_rfl) (by simp) ?_
     refine arC qbx5 (c2 cur) (fun e w1 ⟨he,hb⟩=>⟨_,he,hS.trans (Out.of_below hb ro.lt),dagW hG (stbx1.out w1 g1 (hS.trans (Out.of_below hb ro.lt)) (ro.still hb) G1) (hF.out _ _ _ _)⟩) ?_
     exact AllReadyH.nil)
    have stbx3:Hid (∀ (cur:World) (g1:Nat),Out gs 0 16 Vbx cur→RW cur gs 0 (ints .u8 16 (B 9))→RW cur g1 0 ([fnV 28,fnV 29])→Vbx.heap.size≤g1→G 3 #[true,true,false,true,true,false,false] (F (.agg (ints .u8 16 (B 9)).toArray) (.slice (some ⟨g1,0,none⟩) 2 2) u40 u43) cur):=Hid.mk' (by
     intro cur g1 hS ro r1 G1
     rw [hF.out,hG.out]
     clear stbx0 stbx1
     refine wpAnyH_ready (rs:=[2]) (by kernel_rfl) (by simp) ?_
     refine arC qbx2 (c1 _ cur r1) (fun e w1 ⟨he,hb⟩=>⟨_,he,hS.trans (Out.of_below hb ro.lt),dagW hG (stbx2.out w1 g1 (hS.trans (Out.of_below hb ro.lt)) (ro.still hb) G1) (hF.out _ _ _ _)⟩) ?_
     exact AllReadyH.nil)
    have stbx4:Hid (∀ (cur:World),Out gs 0 16 Vbx cur→RW cur gs 0 (ints .u8 16 (B 9))→G 4 #[true,false,false,true,true,false,false] (F (.agg (ints .u8 16 (B 9)).toArray) u39 u40 u43) cur):=Hid.mk' (by
     intro cur  hS ro
     rw [hF.out,hG.out]
     clear stbx0 stbx1 stbx2
     refine wpAnyH_ready (rs:=[1]) (by kernel_rfl) (by simp) ?_
     refine aG qbx1 (fun g => .slice (some ⟨g,0,none⟩) 2 2) ([fnV 28,fnV 29]) 47 (fun u hb=>hS.trans (Out.of_below hb ro.lt)) (fun w1 g1 lg hb rr=>dagW hG (stbx3.out w1 g1 (hS.trans (Out.of_below hb ro.lt)) (ro.still hb) rr (Nat.le_trans hS.size lg)) (hF.out _ _ _ _)) ?_
     exact AllReadyH.nil)
    have stbx5:Hid (∀ (cur:World) (g1:Nat),Out gs 0 16 Vbx cur→RW cur gs 0 (ints .u8 16 (B 9))→RW cur g1 0 ([fnV 28,fnV 29])→Vbx.heap.size≤g1→G 4 #[false,true,false,true,true,false,false] (F u38 (.slice (some ⟨g1,0,none⟩) 2 2) u40 u43) cur):=Hid.mk' (by
     intro cur g1 hS ro r1 G1
     rw [hF.out,hG.out]
     clear stbx0 stbx1 stbx2 stbx4
     refine wpAnyH_ready (rs:=[0]) (by kernel_rfl) (by simp) ?_
     refine aL qbx0 42 7 ro hS Try.underlying42 (infoS _) (dagW hG (stbx3.out cur g1 hS ro r1 G1) (hF.out _ _ _ _)) ?_
     exact AllReadyH.nil)
    have stbx6:Hid (∀ (cur:World),Out gs 0 16 Vbx cur→RW cur gs 0 (ints .u8 16 (B 9))→G 5 #[false,false,false,true,true,false,false] (F u38 u39 u40 u43) cur):=Hid.mk' (by
     intro cur  hS ro
     rw [hF.out,hG.out]
     clear stbx0 stbx1 stbx2 stbx3
     refine wpAnyH_ready (rs:=[0,1]) (by kernel_rfl) (by simp) ?_
     refine aL qbx0 42 7 ro hS Try.underlying42 (infoS _) (dagW hG (stbx4.out cur  hS ro) (hF.out _ _ _ _)) ?_
     refine aG qbx1 (fun g => .slice (some ⟨g,0,none⟩) 2 2) ([fnV 28,fnV 29]) 47 (fun u hb=>hS.trans (Out.of_below hb ro.lt)) (fun w1 g1 lg hb rr=>dagW hG (stbx5.out w1 g1 (hS.trans (Out.of_below hb ro.lt)) (ro.still hb) rr (Nat.le_trans hS.size lg)) (hF.out _ _ _ _)) ?_
     exact AllReadyH.nil)
    rw [hG.out]
    exact dagW hG (stbx6.out Vbx hS hs) (hF.out _ _ _ _)
end Go.Proofs.Ytplnmmokafomaaa
namespace Go.Proofs.Ytplnmmokafomaaa
open Go.RowKit
abbrev qk48:Oper:=oS (Op.store 42 (oT 7) (oT 26)) "aes.go:41" #[jD 7,jD 6,jC 6,jP 0,jP 1,jP 2,jP 3,jP 4,jP 5,jP 6,jP 7]
abbrev qk47:Oper:=oN 7 (Op.alloc 42) 0 "aes.go:41" #[]
abbrev qk46:Oper:=oN 26 (cF1 27 #[oT 24,oT 25] #[42,56]) 42 "aes.go:41" #[jD 4,jD 5,jC 4]
abbrev qk45:Oper:=oN 25 (Op.buildSlice 56 2 #[(0,Operand.func 35),(1,Operand.func 36)]) 56 "aes.go:41" #[]
abbrev qk44:Oper:=oN 24 (cF1 26 #[oT 21,oT 23] #[42,42]) 42 "aes.go:41" #[jD 1,jD 3,jC 1]
abbrev qk41:Oper:=oN 21 (cF1 24 #[oT 20] #[25]) 42 "aes.go:41" #[jD 0]
abbrev qk87:Oper:=oS (Op.store 42 (oT 7) (oT 37)) "aes.go:43" #[jD 6,jC 6,jP 0,jP 1,jP 2,jP 3,jP 4,jP 5,jP 6]
abbrev qk86:Oper:=oN 37 (cF1 27 #[oT 35,oT 36] #[42,56]) 42 "aes.go:43" #[jD 4,jD 5,jC 4]
abbrev qk85:Oper:=oN 36 (Op.buildSlice 56 3 #[(0,Operand.func 37),(1,Operand.func 35),(2,Operand.func 36)]) 56 "aes.go:43" #[]
abbrev qk84:Oper:=oN 35 (cF1 26 #[oT 31,oT 34] #[42,42]) 42 "aes.go:43" #[jD 0,jD 3]
abbrev qk80:Oper:=oN 31 (Op.load 42 (oT 7)) 42 "aes.go:43" #[]
theorem at_key (gk r:Nat) (hr:r<11) (W:World):(Instr.indexAt 43 (.pointer (some ⟨gk,0,none⟩)) (.int .i64 (r:Int))).run Try.prog W = .ok (.pointer (some ⟨gk,r*16,none⟩)) W:=by
 have hs:∀ W,(sizeOf 42).run Try.prog W = .ok 16 W:=fun W=>by kernel_rfl
 simp [Instr.indexAt,Instr.sureAddr,run_underlying Try.underlying43,asIntOf,hs,hr,go_sem]
theorem y_index {ops:Array Oper} {S:World→Prop} {a:Act} {o:Oper} (x y gk r:Nat) (hr:r<11) (hw:Region.wanted o (yielded ops a.tmps)=true:=by rfl) (ho:o.op = .indexAddr 43 (.tmp x) (.tmp y):=by rfl) (hx:a.eval (.tmp x) = .pointer (some ⟨gk,0,none⟩):=by rfl) (hy:a.eval (.tmp y) = .int .i64 (r:Int):=by rfl):YieldsIf Try.prog ops S o (.pointer (some ⟨gk,r*16,none⟩)) a :=
 .inl ⟨hw,fun w _=>by simp [execOp,ho,hx,hy,at_key gk r hr w]⟩
theorem key_at' {w:World} {g:Nat} {K:Nat→Nat} (h:RowAt .u8 w g 0 176 K) (r:Nat) (hr:r<11):RW w g (r*16) (ints .u8 16 (fun j=>K (16*r+j))):=by
 have:=key_at h r hr
 rwa [Nat.mul_comm 16 r] at this ⊢
set_option maxRecDepth 20000 in
set_option maxHeartbeats 8000000 in
theorem back_good (v u:Value) (ks bs:Nat→Nat) (hks:∀ j,ks j<256) (hbB:B16 bs) (w:World) (hv:BytesIn w v 16 ks) (hu:BytesIn w u 16 bs) :
 Calls Try.prog 18 #[v,u] w fun e w'=>∃ g,e = .returned (.tuple #[.slice (some ⟨g,0,none⟩) 16 16,.int .i64 0])∧RowAt .u8 w' g 0 16 (bckN (kyN ks) bs)∧Below w.heap.size w w':=by
 have hz:=zeroK
 have cs:=squareOf_16 v ks w hv
 have cr:=roundKeys_any ks hks
 have hK:=kyN_lt hks
 obtain ⟨xk,ck,rfl,-,-,-⟩:=hv.src
 obtain ⟨xb,cb,rfl,-,-,-⟩:=hu.src
 unfold kyV sqV at cr
 obtain ⟨K,hKe⟩:∃ K,K=kyN ks:=⟨_,rfl⟩
 rw [←hKe] at cr hK ⊢
 have hj2:=infoKA K
 have hjo:=oneU 176 K
 have hst:∀ W:World,(W.alloc (.cells (zb 176) 43)).there W.heap.size 0 (ints .u8 176 K).toArray.size∧RowAt .u8 ((W.alloc (.cells (zb 176) 43)).setCells W.heap.size 0 (ints .u8 176 K)) W.heap.size 0 176 K∧Below W.heap.size W ((W.alloc (.cells (zb 176) 43)).setCells W.heap.size 0 (ints .u8 176 K)):=fun W=>by
  have h:=RowAt.zero W 176 43
  exact ⟨by rw [ints_size];exact h.there,h.stored,below_setCells (Nat.le_refl _) _ _ _ ((Below.refl _ _).alloc (Nat.le_refl _) _)⟩
 have Hst:=Hid.mk' hst
 obtain ⟨LK,hLK⟩:∃ LK,LK=ints .u8 176 K:=⟨_,rfl⟩
 rw [←hLK] at cr hj2 hjo Hst
 clear hKe hLK hst hv hks
 obtain ⟨Z,hZe⟩:∃ Z,Z=bckN K bs:=⟨_,rfl⟩
 rw [←hZe]
 have HZ:=Hid.mk' hZe
 clear hZe
 go_enter Try.func18,Try.ntmps18
 go_upto_region 4 with (first
  | (go_at_call 24;refine cs.mono ?_;clear cs;rintro e w1 ⟨rfl,hb1⟩;(have cr1:=cr w1);clear cr)
  | (go_at_call 23;refine cr1.mono ?_;clear cr1;rintro e w2 ⟨rfl,hb2⟩;(obtain ⟨hth,hKy,hb3⟩:=Hst.out w2);(have b:=below_next (below_next hb1 hb2) hb3);clear hb1 hb2)
  | (with_reducible (refine id (?_:wpList _ _ _ _ _ _));refine wpList_store_mid rfl 43 _ _ rfl w2.heap.size 0 LK.toArray rfl rfl hth hj2 hjo ?_))
 dsimp only [Act.put]
 have hgk:w2.heap.size<((w2.alloc (.cells (zb 176) 43)).setCells w2.heap.size 0 LK).heap.size:=block_lt_of_cell (hKy 0 (by decide)).1
 clear hth hb3 Hst hj2 hjo hz
 generalize (w2.alloc (.cells (zb 176) 43)).setCells w2.heap.size 0 LK=U at *
 generalize w2.heap.size=gk at *
 obtain ⟨B,hBe⟩:∃ B,B=bckS K bs:=⟨_,rfl⟩
 have hBB:∀ r,B16 (B r):=fun r=>by rw [hBe];exact bckS_B hbB hK r
 have hB1:thrN unN (rowN 3 (addN K 10 bs))=B 1:=by rw [hBe];rfl
 have hBs:∀ m,m<9→thrN unN (rowN 3 (colN mB (addN K (m+1) (B (9 - m)))))=B (9 - m+1):=fun m hm=>by
  rw [hBe]
  show _=thrN unN (rowN 3 (if 9 - m=0 then addN K (10 - (9 - m)) (bckS K bs (9 - m)) else colN mB (addN K (10 - (9 - m)) (bckS K bs (9 - m)))))
  rw [if_neg (by omega),show 10 - (9 - m)=m+1 by omega]
 have hBn:addN K 0 (B 10)=bckN K bs:=by rw [hBe];rfl
 have k1:=fun g W h=>bk2 (addN K 10 bs) (addN_B hbB hK 10) g W h
 rw [hB1] at k1
 have HBs:=Hid.mk' hBs
 have HBn:=Hid.mk' hBn
 clear hBe hB1 hBs hBn
 go_cut [7] from 9 (fun s7 wc=>∃ gs,s7 = .pointer (some ⟨gs,0,none⟩)∧RowAt .u8 wc gs 0 16 (B 1)∧U.heap.size≤gs∧RowAt .u8 wc gk 0 176 K∧Below w.heap.size w wc)
 case first =>
  have hdrew:Below U.heap.size U U.drew:=(Below.refl _ _).drew
  replace hKy:=hKy.still hdrew
  refine wp_region_noPanic ?_
  refine wp_region_held_drew (S:=fun w'=>Below U.drew.heap.size U.drew w') (by kernel_rfl) (Below.refl _ _) (fun hS => ?_)
  generalize U.drew=Vk4 at *
  refine tk 0 (.slice xb 16 cb) hS (hy:=(yR)) (h := ?_)
  (try simp only [pS])
  refine tk 2 (pA gk 160) hS (hy:=(yR)) (h := ?_)
  (try simp only [pS])
  refine tk 3 (.agg (ints .u8 16 (fun j=>K (16*10+j))).toArray) hS (hy:=(ldH (key_at hKy 10 (by decide)) 42 22 Try.underlying42 (infoS _))) (h := ?_)
  (try simp only [pS])
  refine dag_root (fun G hG0 => ?_)
  have hG:=Hid.mk' hG0
  clear hG0
  obtain ⟨F,hF0⟩:∃ F:Value→Value→Value→Value→Value→Act,∀ v7 v21 v24 v25 v26,F v7 v21 v24 v25 v26={ tmps:=#[.slice xk 16 ck,.slice xb 16 cb,undef,undef,.slice none 0 0,.int .i64 0,pA gk 0,v7,undef,.slice xk 16 ck,.int .i64 16,.bool false,.bool false,.slice xb 16 cb,.int .i64 16,.bool false,.bool false,.slice xk 16 ck,.agg (ints .u8 16 (ks)).toArray,.agg LK.toArray,.slice xb 16 cb,v21,pA gk 160,.agg (ints .u8 16 (fun j=>K (16*10+j))).toArray,v24,v25,v26,undef,undef,undef,undef,undef,undef,undef,undef,undef,undef,undef,undef,undef,undef,undef,undef],defers:=[] }:=⟨_,fun _ _ _ _ _=>rfl⟩
  have hF:=Hid.mk' hF0
  clear hF0
  have stk40:Hid (∀ (cur:World) (g5 g7:Nat),Below Vk4.heap.size Vk4 cur→RW cur g7 0 (ints .u8 16 (B 1))→Vk4.heap.size≤g5→Vk4.heap.size≤g7→G 0 #[true,true,true,true,true,true,true,true,true] (F (pA g7 0) (.agg (ints .u8 16 (bs)).toArray) (.agg (ints .u8 16 (addN K 10 bs)).toArray) (.slice (some ⟨g5,0,none⟩) 2 2) (.agg (ints .u8 16 (B 1)).toArray)) cur):=Hid.mk' (by
   intro cur g5 g7 hS r7 G5 G7
   rw [hF.out,hG.out]
   refine wpAnyH_done (by kernel_rfl) ?_ _
   refine NoPanic.normal ?_
   go_wp2
   go_meet
   case rel=>exact ⟨g7,rfl,rowAt_of r7,Nat.le_trans hdrew.size G7,hKy.still hS,below_next (below_next b hdrew) hS⟩)
  have stk41:Hid (∀ (cur:World) (g5 g7:Nat),Below Vk4.heap.size Vk4 cur→RW cur g7 0 (ints .u8 16 (fun _=>0))→Vk4.heap.size≤g5→Vk4.heap.size≤g7→G 1 #[true,true,true,true,true,true,true,true,false] (F (pA g7 0) (.agg (ints .u8 16 (bs)).toArray) (.agg (ints .u8 16 (addN K 10 bs)).toArray) (.slice (some ⟨g5,0,none⟩) 2 2) (.agg (ints .u8 16 (B 1)).toArray)) cur):=Hid.mk' (by
   intro cur g5 g7 hS r7 G5 G7
   rw [hF.out,hG.out]
   refine wpAnyH_ready (rs:=[8]) (by kernel_rfl) (by simp) ?_
   refine aT qk48 42 7 26 (ints .u8 16 (B 1)) r7 (by rw [ints_len,ints_len]) (below_setCells G7 _ _ _ hS) (infoSA _) (oneU 16 _) (fun rr=>dagW hG (stk40.out _ g5 g7 (below_setCells G7 _ _ _ hS) rr G5 G7) (hF.out _ _ _ _ _)) ?_
   exact AllReadyH.nil)
  have stk42:Hid (∀ (cur:World) (g5:Nat),Below Vk4.heap.size Vk4 cur→Vk4.heap.size≤g5→G 2 #[true,true,true,true,true,true,true,false,false] (F undef (.agg (ints .u8 16 (bs)).toArray) (.agg (ints .u8 16 (addN K 10 bs)).toArray) (.slice (some ⟨g5,0,none⟩) 2 2) (.agg (ints .u8 16 (B 1)).toArray)) cur):=Hid.mk' (by
   intro cur g5 hS G5
   rw [hF.out,hG.out]
   clear stk40
   refine wpAnyH_ready (rs:=[7]) (by kernel_rfl) (by simp) ?_
   refine aG qk47 (fun g=>pA g 0) (ints .u8 16 (fun _=>0)) 42 (fun u hb=>below_next hS hb) (fun w1 g7 lg hb rr=>dagW hG (stk41.out w1 g5 g7 (below_next hS hb) rr G5 (Nat.le_trans hS.size lg)) (hF.out _ _ _ _ _)) ?_
   exact AllReadyH.nil)
  have stk43:Hid (∀ (cur:World) (g5 g7:Nat),Below Vk4.heap.size Vk4 cur→RW cur g5 0 ([fnV 35,fnV 36])→RW cur g7 0 (ints .u8 16 (fun _=>0))→Vk4.heap.size≤g5→Vk4.heap.size≤g7→G 2 #[true,true,true,true,true,true,false,true,false] (F (pA g7 0) (.agg (ints .u8 16 (bs)).toArray) (.agg (ints .u8 16 (addN K 10 bs)).toArray) (.slice (some ⟨g5,0,none⟩) 2 2) undef) cur):=Hid.mk' (by
   intro cur g5 g7 hS r5 r7 G5 G7
   rw [hF.out,hG.out]
   clear stk40 stk42
   refine wpAnyH_ready (rs:=[6]) (by kernel_rfl) (by simp) ?_
   refine arC qk46 (k1 _ cur r5) (fun e w1 ⟨he,hb⟩=>⟨_,he,below_next hS hb,dagW hG (stk41.out w1 g5 g7 (below_next hS hb) (r7.still hb) G5 G7) (hF.out _ _ _ _ _)⟩) ?_
   exact AllReadyH.nil)
  have stk44:Hid (∀ (cur:World) (g5:Nat),Below Vk4.heap.size Vk4 cur→RW cur g5 0 ([fnV 35,fnV 36])→Vk4.heap.size≤g5→G 3 #[true,true,true,true,true,true,false,false,false] (F undef (.agg (ints .u8 16 (bs)).toArray) (.agg (ints .u8 16 (addN K 10 bs)).toArray) (.slice (some ⟨g5,0,none⟩) 2 2) undef) cur):=Hid.mk' (by
   intro cur g5 hS r5 G5
   rw [hF.out,hG.out]
   clear stk40 stk41
   refine wpAnyH_ready (rs:=[6,7]) (by kernel_rfl) (by simp) ?_
   refine arC qk46 (k1 _ cur r5) (fun e w1 ⟨he,hb⟩=>⟨_,he,below_next hS hb,dagW hG (stk42.out w1 g5 (below_next hS hb) G5) (hF.out _ _ _ _ _)⟩) ?_
   refine aG qk47 (fun g=>pA g 0) (ints .u8 16 (fun _=>0)) 42 (fun u hb=>below_next hS hb) (fun w1 g7 lg hb rr=>dagW hG (stk43.out w1 g5 g7 (below_next hS hb) (r5.still hb) rr G5 (Nat.le_trans hS.size lg)) (hF.out _ _ _ _ _)) ?_
   exact AllReadyH.nil)
  have stk45:Hid (∀ (cur:World) (g7:Nat),Below Vk4.heap.size Vk4 cur→RW cur g7 0 (ints .u8 16 (fun _=>0))→Vk4.heap.size≤g7→G 3 #[true,true,true,true,true,false,false,true,false] (F (pA g7 0) (.agg (ints .u8 16 (bs)).toArray) (.agg (ints .u8 16 (addN K 10 bs)).toArray) undef undef) cur):=Hid.mk' (by
   intro cur g7 hS r7 G7
   rw [hF.out,hG.out]
   clear stk40 stk41 stk42 stk44
   refine wpAnyH_ready (rs:=[5]) (by kernel_rfl) (by simp) ?_
   refine aG qk45 (fun g => .slice (some ⟨g,0,none⟩) 2 2) ([fnV 35,fnV 36]) 47 (fun u hb=>below_next hS hb) (fun w1 g5 lg hb rr=>dagW hG (stk43.out w1 g5 g7 (below_next hS hb) rr (r7.still hb) (Nat.le_trans hS.size lg) G7) (hF.out _ _ _ _ _)) ?_
   exact AllReadyH.nil)
  have stk46:Hid (∀ (cur:World),Below Vk4.heap.size Vk4 cur→G 4 #[true,true,true,true,true,false,false,false,false] (F undef (.agg (ints .u8 16 (bs)).toArray) (.agg (ints .u8 16 (addN K 10 bs)).toArray) undef undef) cur):=Hid.mk' (by
   intro cur  hS 
   rw [hF.out,hG.out]
   clear stk40 stk41 stk42 stk43
   refine wpAnyH_ready (rs:=[5,7]) (by kernel_rfl) (by simp) ?_
   refine aG qk45 (fun g => .slice (some ⟨g,0,none⟩) 2 2) ([fnV 35,fnV 36]) 47 (fun u hb=>below_next hS hb) (fun w1 g5 lg hb rr=>dagW hG (stk44.out w1 g5 (below_next hS hb) rr (Nat.le_trans hS.size lg)) (hF.out _ _ _ _ _)) ?_
   refine aG qk47 (fun g=>pA g 0) (ints .u8 16 (fun _=>0)) 42 (fun u hb=>below_next hS hb) (fun w1 g7 lg hb rr=>dagW hG (stk45.out w1 g7 (below_next hS hb) rr (Nat.le_trans hS.size lg)) (hF.out _ _ _ _ _)) ?_
   exact AllReadyH.nil)
  have stk47:Hid (∀ (cur:World) (g5 g7:Nat),Below Vk4.heap.size Vk4 cur→RW cur g5 0 ([fnV 35,fnV 36])→RW cur g7 0 (ints .u8 16 (fun _=>0))→Vk4.heap.size≤g5→Vk4.heap.size≤g7→G 3 #[true,true,true,true,false,true,false,true,false] (F (pA g7 0) (.agg (ints .u8 16 (bs)).toArray) undef (.slice (some ⟨g5,0,none⟩) 2 2) undef) cur):=Hid.mk' (by
   intro cur g5 g7 hS r5 r7 G5 G7
   rw [hF.out,hG.out]
   clear stk40 stk41 stk42 stk44 stk45 stk46
   refine wpAnyH_ready (rs:=[4]) (by kernel_rfl) (by simp) ?_
   refine arC qk44 (plus_key bs K 10 hbB hK cur) (fun e w1 ⟨he,hb⟩=>⟨_,he,below_next hS hb,dagW hG (stk43.out w1 g5 g7 (below_next hS hb) (r5.still hb) (r7.still hb) G5 G7) (hF.out _ _ _ _ _)⟩) ?_
   exact AllReadyH.nil)
  have stk48:Hid (∀ (cur:World) (g5:Nat),Below Vk4.heap.size Vk4 cur→RW cur g5 0 ([fnV 35,fnV 36])→Vk4.heap.size≤g5→G 4 #[true,true,true,true,false,true,false,false,false] (F undef (.agg (ints .u8 16 (bs)).toArray) undef (.slice (some ⟨g5,0,none⟩) 2 2) undef) cur):=Hid.mk' (by
   intro cur g5 hS r5 G5
   rw [hF.out,hG.out]
   clear stk40 stk41 stk42 stk43 stk45 stk46
   refine wpAnyH_ready (rs:=[4,7]) (by kernel_rfl) (by simp) ?_
   refine arC qk44 (plus_key bs K 10 hbB hK cur) (fun e w1 ⟨he,hb⟩=>⟨_,he,below_next hS hb,dagW hG (stk44.out w1 g5 (below_next hS hb) (r5.still hb) G5) (hF.out _ _ _ _ _)⟩) ?_
   refine aG qk47 (fun g=>pA g 0) (ints .u8 16 (fun _=>0)) 42 (fun u hb=>below_next hS hb) (fun w1 g7 lg hb rr=>dagW hG (stk47.out w1 g5 g7 (below_next hS hb) (r5.still hb) rr G5 (Nat.le_trans hS.size lg)) (hF.out _ _ _ _ _)) ?_
   exact AllReadyH.nil)
  have stk49:Hid (∀ (cur:World) (g7:Nat),Below Vk4.heap.size Vk4 cur→RW cur g7 0 (ints .u8 16 (fun _=>0))→Vk4.heap.size≤g7→G 4 #[true,true,true,true,false,false,false,true,false] (F (pA g7 0) (.agg (ints .u8 16 (bs)).toArray) undef undef undef) cur):=Hid.mk' (by
   intro cur g7 hS r7 G7
   rw [hF.out,hG.out]
   clear stk40 stk41 stk42 stk43 stk44 stk46 stk48
   refine wpAnyH_ready (rs:=[4,5]) (by kernel_rfl) (by simp) ?_
   refine arC qk44 (plus_key bs K 10 hbB hK cur) (fun e w1 ⟨he,hb⟩=>⟨_,he,below_next hS hb,dagW hG (stk45.out w1 g7 (below_next hS hb) (r7.still hb) G7) (hF.out _ _ _ _ _)⟩) ?_
   refine aG qk45 (fun g => .slice (some ⟨g,0,none⟩) 2 2) ([fnV 35,fnV 36]) 47 (fun u hb=>below_next hS hb) (fun w1 g5 lg hb rr=>dagW hG (stk47.out w1 g5 g7 (below_next hS hb) rr (r7.still hb) (Nat.le_trans hS.size lg) G7) (hF.out _ _ _ _ _)) ?_
   exact AllReadyH.nil)
  have stk410:Hid (∀ (cur:World),Below Vk4.heap.size Vk4 cur→G 5 #[true,true,true,true,false,false,false,false,false] (F undef (.agg (ints .u8 16 (bs)).toArray) undef undef undef) cur):=Hid.mk' (by
   intro cur  hS 
   rw [hF.out,hG.out]
   clear stk40 stk41 stk42 stk43 stk44 stk45 stk47
   refine wpAnyH_ready (rs:=[4,5,7]) (by kernel_rfl) (by simp) ?_
   refine arC qk44 (plus_key bs K 10 hbB hK cur) (fun e w1 ⟨he,hb⟩=>⟨_,he,below_next hS hb,dagW hG (stk46.out w1  (below_next hS hb) ) (hF.out _ _ _ _ _)⟩) ?_
   refine aG qk45 (fun g => .slice (some ⟨g,0,none⟩) 2 2) ([fnV 35,fnV 36]) 47 (fun u hb=>below_next hS hb) (fun w1 g5 lg hb rr=>dagW hG (stk48.out w1 g5 (below_next hS hb) rr (Nat.le_trans hS.size lg)) (hF.out _ _ _ _ _)) ?_
   refine aG qk47 (fun g=>pA g 0) (ints .u8 16 (fun _=>0)) 42 (fun u hb=>below_next hS hb) (fun w1 g7 lg hb rr=>dagW hG (stk49.out w1 g7 (below_next hS hb) rr (Nat.le_trans hS.size lg)) (hF.out _ _ _ _ _)) ?_
   exact AllReadyH.nil)
  have stk411:Hid (∀ (cur:World) (g5 g7:Nat),Below Vk4.heap.size Vk4 cur→RW cur g5 0 ([fnV 35,fnV 36])→RW cur g7 0 (ints .u8 16 (fun _=>0))→Vk4.heap.size≤g5→Vk4.heap.size≤g7→G 4 #[true,false,true,true,false,true,false,true,false] (F (pA g7 0) undef undef (.slice (some ⟨g5,0,none⟩) 2 2) undef) cur):=Hid.mk' (by
   intro cur g5 g7 hS r5 r7 G5 G7
   rw [hF.out,hG.out]
   clear stk40 stk41 stk42 stk43 stk44 stk45 stk46 stk48 stk49 stk410
   refine wpAnyH_ready (rs:=[1]) (by kernel_rfl) (by simp) ?_
   refine arC qk41 (squareOf_16 _ bs cur (hu.keep (below_next (below_next b hdrew) hS))) (fun e w1 ⟨he,hb⟩=>⟨_,he,below_next hS hb,dagW hG (stk47.out w1 g5 g7 (below_next hS hb) (r5.still hb) (r7.still hb) G5 G7) (hF.out _ _ _ _ _)⟩) ?_
   exact AllReadyH.nil)
  have stk412:Hid (∀ (cur:World) (g5:Nat),Below Vk4.heap.size Vk4 cur→RW cur g5 0 ([fnV 35,fnV 36])→Vk4.heap.size≤g5→G 5 #[true,false,true,true,false,true,false,false,false] (F undef undef undef (.slice (some ⟨g5,0,none⟩) 2 2) undef) cur):=Hid.mk' (by
   intro cur g5 hS r5 G5
   rw [hF.out,hG.out]
   clear stk40 stk41 stk42 stk43 stk44 stk45 stk46 stk47 stk49 stk410
   refine wpAnyH_ready (rs:=[1,7]) (by kernel_rfl) (by simp) ?_
   refine arC qk41 (squareOf_16 _ bs cur (hu.keep (below_next (below_next b hdrew) hS))) (fun e w1 ⟨he,hb⟩=>⟨_,he,below_next hS hb,dagW hG (stk48.out w1 g5 (below_next hS hb) (r5.still hb) G5) (hF.out _ _ _ _ _)⟩) ?_
   refine aG qk47 (fun g=>pA g 0) (ints .u8 16 (fun _=>0)) 42 (fun u hb=>below_next hS hb) (fun w1 g7 lg hb rr=>dagW hG (stk411.out w1 g5 g7 (below_next hS hb) (r5.still hb) rr G5 (Nat.le_trans hS.size lg)) (hF.out _ _ _ _ _)) ?_
   exact AllReadyH.nil)
  have stk413:Hid (∀ (cur:World) (g7:Nat),Below Vk4.heap.size Vk4 cur→RW cur g7 0 (ints .u8 16 (fun _=>0))→Vk4.heap.size≤g7→G 5 #[true,false,true,true,false,false,false,true,false] (F (pA g7 0) undef undef undef undef) cur):=Hid.mk' (by
   intro cur g7 hS r7 G7
   rw [hF.out,hG.out]
   clear stk40 stk41 stk42 stk43 stk44 stk45 stk46 stk47 stk48 stk410 stk412
   refine wpAnyH_ready (rs:=[1,5]) (by kernel_rfl) (by simp) ?_
   refine arC qk41 (squareOf_16 _ bs cur (hu.keep (below_next (below_next b hdrew) hS))) (fun e w1 ⟨he,hb⟩=>⟨_,he,below_next hS hb,dagW hG (stk49.out w1 g7 (below_next hS hb) (r7.still hb) G7) (hF.out _ _ _ _ _)⟩) ?_
   refine aG qk45 (fun g => .slice (some ⟨g,0,none⟩) 2 2) ([fnV 35,fnV 36]) 47 (fun u hb=>below_next hS hb) (fun w1 g5 lg hb rr=>dagW hG (stk411.out w1 g5 g7 (below_next hS hb) rr (r7.still hb) (Nat.le_trans hS.size lg) G7) (hF.out _ _ _ _ _)) ?_
   exact AllReadyH.nil)
  have stk414:Hid (∀ (cur:World),Below Vk4.heap.size Vk4 cur→G 6 #[true,false,true,true,false,false,false,false,false] (F undef undef undef undef undef) cur):=Hid.mk' (by
   intro cur  hS 
   rw [hF.out,hG.out]
   clear stk40 stk41 stk42 stk43 stk44 stk45 stk46 stk47 stk48 stk49 stk411
   refine wpAnyH_ready (rs:=[1,5,7]) (by kernel_rfl) (by simp) ?_
   refine arC qk41 (squareOf_16 _ bs cur (hu.keep (below_next (below_next b hdrew) hS))) (fun e w1 ⟨he,hb⟩=>⟨_,he,below_next hS hb,dagW hG (stk410.out w1  (below_next hS hb) ) (hF.out _ _ _ _ _)⟩) ?_
   refine aG qk45 (fun g => .slice (some ⟨g,0,none⟩) 2 2) ([fnV 35,fnV 36]) 47 (fun u hb=>below_next hS hb) (fun w1 g5 lg hb rr=>dagW hG (stk412.out w1 g5 (below_next hS hb) rr (Nat.le_trans hS.size lg)) (hF.out _ _ _ _ _)) ?_
   refine aG qk47 (fun g=>pA g 0) (ints .u8 16 (fun _=>0)) 42 (fun u hb=>below_next hS hb) (fun w1 g7 lg hb rr=>dagW hG (stk413.out w1 g7 (below_next hS hb) rr (Nat.le_trans hS.size lg)) (hF.out _ _ _ _ _)) ?_
   exact AllReadyH.nil)
  rw [hG.out]
  exact dagW hG (stk414.out Vk4 hS ) (hF.out _ _ _ _ _)
 case rest =>
 obtain ⟨gs,rfl,hs0,hgs,hKy0,b0⟩:=hcut
 have ngk:gk<gs:=Nat.lt_of_lt_of_le hgk hgs
 have wgs:w.heap.size≤gs:=Nat.le_trans b.size hgs
 have n9:gk≠gs:=Nat.ne_of_lt ngk
 clear hKy b hu hgk hgs k1
 go_wp2
 go_loopw [8] (fun i wr=>∃ r:Nat,r≤9∧i = .int .i64 r∧RowAt .u8 wr gs 0 16 (B (10 - r))∧RowAt .u8 wr gk 0 176 K∧Below w.heap.size w wr) (fun i _=>(intOf i).toNat)
 case atStart=>exact ⟨9,Nat.le_refl _,rfl,hs0,hKy0,b0⟩
 case round =>
  clear hs0 hKy0 b0
  obtain ⟨r,hr,rfl,hs,hKy,b⟩:=hrel
  by_cases hlt:0<r
  · obtain ⟨m,rfl⟩:∃ m,r=m+1:=⟨r - 1,by omega⟩
    rw [show 10 - (m+1)=9 - m by omega] at hs
    replace hs:=hs.rw (by decide)
    have c1:=fun W=>plus_key (B (9 - m)) K (m+1) (hBB _) hK W
    have c2:=fun g W h=>bk3 (addN K (m+1) (B (9 - m))) (addN_B (hBB _) hK _) g W h
    rw [HBs.out m (by omega)] at c2
    generalize addN K (m+1) (B (9 - m))=X2 at *
    have q1:(0:Int)<((m+1:Nat):Int):=by omega
    clear HBs HBn hbB
    go_upto_region 8 with (fail)
    have hdrew:Below wr.heap.size wr wr.drew:=(Below.refl _ _).drew
    replace hs:=hs.still hdrew
    replace hKy:=hKy.still hdrew
    refine wp_region_noPanic ?_
    refine wp_region_held_drew (S:=fun w'=>Out gs 0 16 wr.drew w') (by kernel_rfl) (Out.refl _ _ _ _) (fun hS => ?_)
    generalize wr.drew=Vk8 at *
    refine tk 1 (.int .i64 ((m+1:Nat):Int)) hS (hy:=(yR)) (h := ?_)
    (try simp only [pS])
    refine tk 2 (pA gk ((m+1)*16)) hS (hy:=(y_index 6 32 gk (m+1) (by omega))) (h := ?_)
    (try simp only [pS])
    refine tk 3 (.agg (ints .u8 16 (fun j=>K (16*(m+1)+j))).toArray) hS (hy:=(ldO (key_at' hKy (m+1) (by omega)) n9 42 33 Try.underlying42 (infoS _))) (h := ?_)
    (try simp only [pS])
    refine dag_root (fun G hG0 => ?_)
    have hG:=Hid.mk' hG0
    clear hG0
    obtain ⟨F,hF0⟩:∃ F:Value→Value→Value→Value→Act,∀ v31 v35 v36 v37,F v31 v35 v36 v37={ tmps:=#[.slice xk 16 ck,.slice xb 16 cb,undef,undef,.slice none 0 0,.int .i64 0,pA gk 0,pA gs 0,.int .i64 ((m+1:Nat):Int),u9,u10,u11,u12,u13,u14,u15,u16,u17,u18,u19,u20,u21,u22,u23,u24,u25,u26,.int .i64 ((m+1:Nat):Int),.bool true,u29,u30,v31,.int .i64 ((m+1:Nat):Int),pA gk ((m+1)*16),.agg (ints .u8 16 (fun j=>K (16*(m+1)+j))).toArray,v35,v36,v37,u38,u39,u40,u41,u42],defers:=[] }:=⟨_,fun _ _ _ _=>rfl⟩
    have hF:=Hid.mk' hF0
    clear hF0
    have stk80:Hid (∀ (cur:World) (g5:Nat),Out gs 0 16 Vk8 cur→RW cur gs 0 (ints .u8 16 (B (9 - m+1)))→Vk8.heap.size≤g5→G 0 #[true,true,true,true,true,true,true,true] (F (.agg (ints .u8 16 (B (9 - m))).toArray) (.agg (ints .u8 16 (X2)).toArray) (.slice (some ⟨g5,0,none⟩) 3 3) (.agg (ints .u8 16 (B (9 - m+1))).toArray)) cur):=Hid.mk' (by
     intro cur g5 hS ro G5
     rw [hF.out,hG.out]
     refine wpAnyH_done (by kernel_rfl) ?_ _
     refine NoPanic.normal ?_
     go_wp2
     go_roundw
     case rel=>exact ⟨m,by omega,by go_num,by rw [show 10 - m=9 - m+1 by omega];exact rowAt_of ro,hS.row hKy (Nat.ne_of_lt ngk),(below_next b hdrew).trans (hS.below wgs (below_next b hdrew).size)⟩
     case measure=>simp [intOf];omega)
    have stk81:Hid (∀ (cur:World) (g5:Nat),Out gs 0 16 Vk8 cur→RW cur gs 0 (ints .u8 16 (B (9 - m)))→Vk8.heap.size≤g5→G 1 #[true,true,true,true,true,true,true,false] (F (.agg (ints .u8 16 (B (9 - m))).toArray) (.agg (ints .u8 16 (X2)).toArray) (.slice (some ⟨g5,0,none⟩) 3 3) (.agg (ints .u8 16 (B (9 - m+1))).toArray)) cur):=Hid.mk' (by
     intro cur g5 hS ro G5
     rw [hF.out,hG.out]
     refine wpAnyH_ready (rs:=[7]) (by kernel_rfl) (by simp) ?_
     refine aT qk87 42 7 37 (ints .u8 16 (B (9 - m+1))) ro (by rw [ints_len,ints_len]) (hS.trans (Out.setCells _ _ (Nat.le_refl _) (by rw [ints_len];exact Nat.le_refl _))) (infoSA _) (oneU 16 _) (fun rr=>dagW hG (stk80.out _ g5 (hS.trans (Out.setCells _ _ (Nat.le_refl _) (by rw [ints_len];exact Nat.le_refl _))) rr G5) (hF.out _ _ _ _)) ?_
     exact AllReadyH.nil)
    have stk82:Hid (∀ (cur:World) (g5:Nat),Out gs 0 16 Vk8 cur→RW cur gs 0 (ints .u8 16 (B (9 - m)))→RW cur g5 0 ([fnV 37,fnV 35,fnV 36])→Vk8.heap.size≤g5→G 2 #[true,true,true,true,true,true,false,false] (F (.agg (ints .u8 16 (B (9 - m))).toArray) (.agg (ints .u8 16 (X2)).toArray) (.slice (some ⟨g5,0,none⟩) 3 3) u37) cur):=Hid.mk' (by
     intro cur g5 hS ro r5 G5
     rw [hF.out,hG.out]
     clear stk80
     refine wpAnyH_ready (rs:=[6]) (by kernel_rfl) (by simp) ?_
     refine arC qk86 (c2 _ cur r5) (fun e w1 ⟨he,hb⟩=>⟨_,he,hS.trans (Out.of_below hb ro.lt),dagW hG (stk81.out w1 g5 (hS.trans (Out.of_below hb ro.lt)) (ro.still hb) G5) (hF.out _ _ _ _)⟩) ?_
     exact AllReadyH.nil)
    have stk83:Hid (∀ (cur:World),Out gs 0 16 Vk8 cur→RW cur gs 0 (ints .u8 16 (B (9 - m)))→G 3 #[true,true,true,true,true,false,false,false] (F (.agg (ints .u8 16 (B (9 - m))).toArray) (.agg (ints .u8 16 (X2)).toArray) u36 u37) cur):=Hid.mk' (by
     intro cur  hS ro
     rw [hF.out,hG.out]
     clear stk80 stk81
     refine wpAnyH_ready (rs:=[5]) (by kernel_rfl) (by simp) ?_
     refine aG qk85 (fun g => .slice (some ⟨g,0,none⟩) 3 3) ([fnV 37,fnV 35,fnV 36]) 47 (fun u hb=>hS.trans (Out.of_below hb ro.lt)) (fun w1 g5 lg hb rr=>dagW hG (stk82.out w1 g5 (hS.trans (Out.of_below hb ro.lt)) (ro.still hb) rr (Nat.le_trans hS.size lg)) (hF.out _ _ _ _)) ?_
     exact AllReadyH.nil)
    have stk84:Hid (∀ (cur:World) (g5:Nat),Out gs 0 16 Vk8 cur→RW cur gs 0 (ints .u8 16 (B (9 - m)))→RW cur g5 0 ([fnV 37,fnV 35,fnV 36])→Vk8.heap.size≤g5→G 3 #[true,true,true,true,false,true,false,false] (F (.agg (ints .u8 16 (B (9 - m))).toArray) u35 (.slice (some ⟨g5,0,none⟩) 3 3) u37) cur):=Hid.mk' (by
     intro cur g5 hS ro r5 G5
     rw [hF.out,hG.out]
     clear stk80 stk81 stk83
     refine wpAnyH_ready (rs:=[4]) (by kernel_rfl) (by simp) ?_
     refine arC qk84 (c1 cur) (fun e w1 ⟨he,hb⟩=>⟨_,he,hS.trans (Out.of_below hb ro.lt),dagW hG (stk82.out w1 g5 (hS.trans (Out.of_below hb ro.lt)) (ro.still hb) (r5.still hb) G5) (hF.out _ _ _ _)⟩) ?_
     exact AllReadyH.nil)
    have stk85:Hid (∀ (cur:World),Out gs 0 16 Vk8 cur→RW cur gs 0 (ints .u8 16 (B (9 - m)))→G 4 #[true,true,true,true,false,false,false,false] (F (.agg (ints .u8 16 (B (9 - m))).toArray) u35 u36 u37) cur):=Hid.mk' (by
     intro cur  hS ro
     rw [hF.out,hG.out]
     clear stk80 stk81 stk82
     refine wpAnyH_ready (rs:=[4,5]) (by kernel_rfl) (by simp) ?_
     refine arC qk84 (c1 cur) (fun e w1 ⟨he,hb⟩=>⟨_,he,hS.trans (Out.of_below hb ro.lt),dagW hG (stk83.out w1  (hS.trans (Out.of_below hb ro.lt)) (ro.still hb)) (hF.out _ _ _ _)⟩) ?_
     refine aG qk85 (fun g => .slice (some ⟨g,0,none⟩) 3 3) ([fnV 37,fnV 35,fnV 36]) 47 (fun u hb=>hS.trans (Out.of_below hb ro.lt)) (fun w1 g5 lg hb rr=>dagW hG (stk84.out w1 g5 (hS.trans (Out.of_below hb ro.lt)) (ro.still hb) rr (Nat.le_trans hS.size lg)) (hF.out _ _ _ _)) ?_
     exact AllReadyH.nil)
    have stk86:Hid (∀ (cur:World) (g5:Nat),Out gs 0 16 Vk8 cur→RW cur gs 0 (ints .u8 16 (B (9 - m)))→RW cur g5 0 ([fnV 37,fnV 35,fnV 36])→Vk8.heap.size≤g5→G 4 #[false,true,true,true,false,true,false,false] (F u31 u35 (.slice (some ⟨g5,0,none⟩) 3 3) u37) cur):=Hid.mk' (by
     intro cur g5 hS ro r5 G5
     rw [hF.out,hG.out]
     clear stk80 stk81 stk82 stk83 stk85
     refine wpAnyH_ready (rs:=[0]) (by kernel_rfl) (by simp) ?_
     refine aL qk80 42 7 ro hS Try.underlying42 (infoS _) (dagW hG (stk84.out cur g5 hS ro r5 G5) (hF.out _ _ _ _)) ?_
     exact AllReadyH.nil)
    have stk87:Hid (∀ (cur:World),Out gs 0 16 Vk8 cur→RW cur gs 0 (ints .u8 16 (B (9 - m)))→G 5 #[false,true,true,true,false,false,false,false] (F u31 u35 u36 u37) cur):=Hid.mk' (by
     intro cur  hS ro
     rw [hF.out,hG.out]
     clear stk80 stk81 stk82 stk83 stk84
     refine wpAnyH_ready (rs:=[0,5]) (by kernel_rfl) (by simp) ?_
     refine aL qk80 42 7 ro hS Try.underlying42 (infoS _) (dagW hG (stk85.out cur  hS ro) (hF.out _ _ _ _)) ?_
     refine aG qk85 (fun g => .slice (some ⟨g,0,none⟩) 3 3) ([fnV 37,fnV 35,fnV 36]) 47 (fun u hb=>hS.trans (Out.of_below hb ro.lt)) (fun w1 g5 lg hb rr=>dagW hG (stk86.out w1 g5 (hS.trans (Out.of_below hb ro.lt)) (ro.still hb) rr (Nat.le_trans hS.size lg)) (hF.out _ _ _ _)) ?_
     exact AllReadyH.nil)
    rw [hG.out]
    exact dagW hG (stk87.out Vk8 hS hs) (hF.out _ _ _ _)
  · obtain rfl:r=0:=by omega
    have hAr:=(hs.rw (by decide)).range
    have hKr:=(key_at hKy 0 (by decide)).range
    have c1:=fun W=>plus_key (B 10) K 0 (hBB 10) hK W
    rw [HBn.out,←HZ.out] at c1
    have hi1:=infoS (B 10)
    have hi0:=infoS (fun j=>K (16*0+j))
    have hi2:=infoSA Z
    have ho:=oneU 16 Z
    have hst:∀ W,RowAt .u8 W gs 0 16 (B 10)→W.there gs 0 (ints .u8 16 Z).toArray.size∧RowAt .u8 (W.setCells gs 0 (ints .u8 16 Z)) gs 0 16 Z:=fun W h=>⟨by rw [ints_size];exact h.there,h.stored⟩
    have Hst:=Hid.mk' hst
    clear HBs HBn hbB hst
    generalize ints .u8 16 (fun j=>K (16*0+j))=LA at *
    generalize ints .u8 16 Z=LZ at *
    go_wp2_with (first
     | (refine wpList_load_mid rfl 42 _ rfl gs 0 rfl (ints .u8 16 (B 10)) _ hAr Try.underlying42 rfl hi1 ?_)
     | (refine wpList_load_mid rfl 42 _ rfl gk 0 rfl LA _ hKr Try.underlying42 rfl hi0 ?_)
     | (go_at_call 26;refine (c1 _).mono ?_;clear c1 hAr hKr;rintro e w3 ⟨rfl,hb3⟩;(obtain ⟨hth,hfin⟩:=Hst.out w3 (hs.still hb3));(have bf:=below_setCells wgs LZ 0 _ (below_next b hb3)))
     | (with_reducible (refine id (?_:wpList _ _ _ _ _ _));refine wpList_store_mid rfl 42 _ _ rfl gs 0 LZ.toArray rfl rfl hth hi2 ho ?_))
    go_ret2
    exact ⟨gs,rfl,hfin,bf⟩
end Go.Proofs.Ytplnmmokafomaaa
namespace Go.Proofs.Ytplnmmokafomaaa
open Go.RowKit
theorem num8_any (n:Int) (w:World):Calls Try.prog 14 #[.int .i64 n] w fun e w'=>e = .returned (.int .i64 n)∧w'=w:=by
 go_enter Try.func14,Try.ntmps14
 go_wp2
 go_ret
 exact ⟨rfl,rfl⟩
set_option maxHeartbeats 1000000 in
theorem sixteen_any (v:Value) (n:Nat) (bs:Nat→Nat) (w:World) (hv:BytesIn w v n bs) :
 Calls Try.prog 20 #[v] w fun e w'=>∃ g,e = .returned (.slice (some ⟨g,0,none⟩) 16 16)∧RowAt .u8 w' g 0 16 (fit16 n bs)∧Below w.heap.size w w':=by
 obtain ⟨xo,cx,rfl,-,-,hsrc⟩:=hv.src
 have hmk:=make_bytes w 16 16 rfl (by decide)
 have hsz:(Try.prog.info? 5).map (·.size)=some 1:=by kernel_rfl
 obtain ⟨W,hW⟩:∃ W,W=w.alloc (.cells (zb 16) 5):=⟨_,rfl⟩
 have hrow:RowAt .u8 W w.heap.size 0 16 (fun _=>0):=by rw [hW];exact RowAt.zero w 16 _
 have b:Below w.heap.size w W:=by rw [hW];exact (Below.refl _ _).alloc (Nat.le_refl _) _
 rw [←hW] at hmk
 have src:=hsrc W b
 have hth:=hrow.there
 obtain ⟨m,hm⟩:∃ m,m=Nat.min n 16:=⟨_,rfl⟩
 have hR:=hrow.splice 0 m bs (by rw [hm,Nat.zero_add];exact Nat.min_le_right _ _)
 rw [Nat.zero_add] at hR
 have eR:fit16 n bs=over (fun _=>0) 0 m bs:=by rw [hm];rfl
 rw [eR]
 generalize over (fun _=>0) 0 m bs=Z at *
 have b2:Below w.heap.size w (W.setCells w.heap.size 0 (ints .u8 m bs)):=below_setCells (Nat.le_refl _) _ _ _ b
 have Hm:=Hid.mk' hm
 clear hW hv hsrc eR hrow hm b
 go_enter Try.func20,Try.ntmps20
 go_wp2_with (first
  | rw [hmk]
  | (refine wpList_copy_bytes rfl _ _ 25 25 rfl 5 Try.underlying25 hsz w.heap.size 0 16 16 xo n cx rfl rfl m bs src Hm.out hth ?_))
 go_ret
 exact ⟨_,rfl,hR,b2⟩
theorem rowB {w:World} {g n cap:Nat} {X:Nat→Nat} (h:RowAt .u8 w g 0 n X) (hn:0<n) (hc:n≤cap):BytesIn w (.slice (some ⟨g,0,none⟩) n cap) n X := .inr ⟨g,0,cap,rfl,block_lt_of_cell (h 0 hn).1,hc,fun j hj=>(h j hj).1⟩
set_option maxHeartbeats 1000000 in
theorem knows8 (w:World):Calls Try.prog 10 #[] w fun e w'=>e = .returned (.bool true)∧Below w.heap.size w w':=by
 have ck:=keys_bad (.slice none 0 0) 0 (fun _=>0) w (.inl ⟨none,rfl,rfl⟩) (by decide)
 have c0:=box_any 0 (by decide)
 have c1:=box_any 83 (by decide)
 rw [show boxN 0=99 by kernel_rfl] at c0
 rw [show boxN 83=237 by kernel_rfl] at c1
 go_enter Try.func10,Try.ntmps10
 go_wp2_with (first
  | (go_at_call 12;refine ck.mono ?_;clear ck;rintro e w1 ⟨rfl,hw1⟩;subst hw1)
  | (go_at_call 8;refine (c0 _).mono ?_;clear c0;rintro e w2 ⟨rfl,hb2⟩)
  | (go_at_call 8;refine (c1 _).mono ?_;clear c1;rintro e w3 ⟨rfl,hb3⟩)
  | (go_at_call 14;refine (num8_any _ _).mono ?_;rintro e wn ⟨rfl,hwn⟩;subst hwn))
 go_ret
 exact ⟨rfl,below_next hb2 hb3⟩
end Go.Proofs.Ytplnmmokafomaaa
