/- What the proof stands on: HStart, HHash. -/
import Derived.Test.YtibdhadbflfdpaaGreatDoorHMixM
namespace Go.Proofs.YtibdhadbflfdpaaGreatDoor
open Nat renaming le_refl → JW
open Nat renaming zero_add → J0
open Go renaming block_lt_of_cell → J5
open Go.RowKit
def aH (K:IntKind) (s:St) (R:Nat→Nat) (c:Nat):List Value:=au K 8 s.at ++ au .u8 128 R ++ [.int .i64 c]
theorem aV (K:IntKind) (s:St) (R:Nat→Nat) (c:Nat):(aH K s R c).length=137:=by simp [aH,ak]
theorem f8 (K:IntKind) (s:St) (R:Nat→Nat) (c:Nat):∀ v∈aH K s R c,v.oneCell'=true:=fun v hv=>by
 simp only [aH,List.mem_append,List.mem_singleton] at hv
 rcases hv with (hv | hv) | rfl
 · exact bW _ _ _ v hv
 · exact bW _ _ _ v hv
 · rfl
theorem oo (K:IntKind) (s:St) (R:Nat→Nat) (c j:Nat) (h:j<8):(aH K s R c)[j]? = some (.int K (s.at j)):=by
 unfold aH;rw [List.append_assoc,List.getElem?_append_left (by rw [ak];exact h)];exact bo _ _ _ j h
theorem kW (K:IntKind) (s:St) (R:Nat→Nat) (c j:Nat) (h:j<128):(aH K s R c)[8+j]? = some (.int .u8 (R j)):=by
 unfold aH;rw [List.append_assoc,List.getElem?_append_right (by rw [ak];omega),ak,List.getElem?_append_left (by rw [ak];omega),show 8+j - 8=j by omega];exact bo _ _ _ j h
theorem mG (K:IntKind) (s:St) (R:Nat→Nat) (c:Nat):(aH K s R c)[136]? = some (.int .i64 c):=by
 unfold aH;rw [List.getElem?_append_right (by simp [ak])];simp [ak]
theorem az.of_range {K:IntKind} {w:World} {b o:Nat} {s:St} {R:Nat→Nat} {c:Nat} (h:w.rangeAt b o (aH K s R c)) (hf:∀ j,j<137→w.frozen? ⟨b,o+j,none⟩=false):az K w b o s R c :=
 ⟨fun j hj=>⟨h j _ (oo K s R c j hj),hf j (by omega)⟩,fun j hj=>by rw [Nat.add_assoc];exact ⟨h (8+j) _ (kW K s R c j hj),hf _ (by omega)⟩,h 136 _ (mG K s R c),hf 136 (by decide)⟩
theorem az.range {K:IntKind} {w:World} {b o:Nat} {s:St} {R:Nat→Nat} {c:Nat} (h:az K w b o s R c):w.rangeAt b o (aH K s R c):=fun j v hv=>by
 have hj:j<137:=by have:=(List.getElem?_eq_some_iff.1 hv).1;rwa [aV] at this
 by_cases h1:j<8
 · rw [oo K s R c j h1] at hv;rw [←hv];exact (h.st j h1).1
 · by_cases h2:j=136
   · subst h2;rw [mG K s R c] at hv;rw [←hv];exact h.cnt
   · have:=(h.rest (j - 8) (by omega)).1
     have hv':=kW K s R c (j - 8) (by omega);rw [show 8+(j - 8)=j by omega] at hv';rw [hv'] at hv;rw [←hv,show o+j=o+8+(j - 8) by omega];exact this
theorem az.there {K:IntKind} {w:World} {b o:Nat} {s:St} {R:Nat→Nat} {c:Nat} (h:az K w b o s R c):w.there b o 137:=fun j hj=>by
 by_cases h1:j<8
 · rw [(h.st j h1).1];exact ⟨rfl,(h.st j h1).2⟩
 · by_cases h2:j=136
   · subst h2;rw [h.cnt];exact ⟨rfl,h.cntf⟩
   · have:=h.rest (j - 8) (by omega)
     rw [show o+8+(j - 8)=o+j by omega] at this;rw [this.1];exact ⟨rfl,this.2⟩
theorem az.fresh {K:IntKind} (w:World) (s:St) (R:Nat→Nat) (c:Nat) (t:TypeId):az K (w.alloc (.cells (aH K s R c).toArray t)) w.heap.size 0 s R c :=
 az.of_range (fun j v hv=>by rw [J0];simp [hv]) (fun j hj=>by simp)
theorem az.stored {K:IntKind} {w:World} {b o:Nat} (ht:w.there b o 137) (s:St) (R:Nat→Nat) (c:Nat):az K (w.setCells b o (aH K s R c)) b o s R c :=
 az.of_range (World.rangeAt_setCells_same _ _ _ _ (by rw [aV];exact ht)) (fun j hj=>by rw [World.frozen?_setCells];exact (ht j hj).2)
theorem ah.cong {K:IntKind} {w:World} {b o n:Nat} {X Y:Nat→Nat} (h:ah K w b o n X) (e:∀ j,j<n→X j=Y j):ah K w b o n Y:=fun j hj=>by rw [←e j hj];exact h j hj
def tJ:St:=⟨0,0,0,0,0,0,0,0⟩
def aL (r:Ru) (q:Nat→Nat):St:=⟨q 0 / 2 ^ (64 - r.m),q 1 / 2 ^ (64 - r.m),q 2 / 2 ^ (64 - r.m),q 3 / 2 ^ (64 - r.m),q 4 / 2 ^ (64 - r.m),q 5 / 2 ^ (64 - r.m),q 6 / 2 ^ (64 - r.m),q 7 / 2 ^ (64 - r.m)⟩
def IJ (m:Nat) (q:Nat→Nat):Nat→Nat→Nat
 | 0=>fun _=>0
 | k+1=>bK (IJ m q k) k (q k / 2 ^ (64 - m))
def jN:Array Value:=(aH .u32 tJ (fun _=>0) 0).toArray
theorem xX (w:World):Sem.run Tryz.prog (zeroValue 154) w = .ok (.agg jN) w:=by kernel_rfl
theorem Dh (K:IntKind) (s:St) (R:Nat→Nat) (c:Nat):(Tryz.prog.info? 154).map (·.size)=some (aH K s R c).toArray.size:=by simp only [List.size_toArray,aV];kernel_rfl
theorem vW (q:Nat→Nat) (j:Nat) (h:j<8):IJ 32 q 8 j=(aL rn q).at j:=by
 match j,h with
 | 0,_=>rfl
 | 1,_=>rfl
 | 2,_=>rfl
 | 3,_=>rfl
 | 4,_=>rfl
 | 5,_=>rfl
 | 6,_=>rfl
 | 7,_=>rfl
set_option maxRecDepth 20000 in
set_option maxHeartbeats 1000000 in
theorem mW (q:Nat→Nat) (hq:∀ j,q j<18446744073709551616) (w:World) (hsq:∀ j,j<8→w.cell? ⟨3,j,none⟩=some (.int .u64 (q j))) :
 Calls Tryz.prog 131 #[(.agg #[.int .i64 32,.int .i64 64,.int .u64 7,.int .u64 18,.int .u64 3,.int .u64 17,.int .u64 19,.int .u64 10,.int .u64 2,.int .u64 13,.int .u64 22,.int .u64 6,.int .u64 11,.int .u64 25])] w fun e w'=>e = .returned (.agg (aH .u32 (aL rn q) (fun _=>0) 0).toArray)∧Below w.heap.size w w':=by
 have hz:=xX;have h2:3<w.heap.size:=J5 (hsq 0 (by decide));go_enter Tryz.func131,Tryz.ntmps131;go_wp2;clear hz;go_loopw [5] (fun i wr=>∃ k:Nat,k≤8∧i = .int .i64 k∧ah .u32 wr (w.heap.size+1+1) 0 8 (IJ 32 q k)∧ah .u8 wr (w.heap.size+1+1) 8 128 (fun _=>0)∧wr.cell? ⟨w.heap.size+1+1,136,none⟩=some (.int .i64 0)∧wr.frozen? ⟨w.heap.size+1+1,136,none⟩=false∧wr.there (w.heap.size+1) 0 137∧Below (w.heap.size+1) (w.alloc (.cells #[.int .i64 32,.int .i64 64,.int .u64 7,.int .u64 18,.int .u64 3,.int .u64 17,.int .u64 19,.int .u64 10,.int .u64 2,.int .u64 13,.int .u64 22,.int .u64 6,.int .u64 11,.int .u64 25] 158)) wr) (fun i _=>8 - (intOf i).toNat)
 case atStart =>
  have e1:=az.fresh (K := .u32) (w.alloc (.cells #[.int .i64 32,.int .i64 64,.int .u64 7,.int .u64 18,.int .u64 3,.int .u64 17,.int .u64 19,.int .u64 10,.int .u64 2,.int .u64 13,.int .u64 22,.int .u64 6,.int .u64 11,.int .u64 25] 158)) tJ (fun _=>0) 0 154;have e2:=az.fresh (K := .u32) ((w.alloc (.cells #[.int .i64 32,.int .i64 64,.int .u64 7,.int .u64 18,.int .u64 3,.int .u64 17,.int .u64 19,.int .u64 10,.int .u64 2,.int .u64 13,.int .u64 22,.int .u64 6,.int .u64 11,.int .u64 25] 158)).alloc (.cells jN 154)) tJ (fun _=>0) 0 154;have e3:=e1.below ((Below.refl _ _).alloc (JW _) (.cells jN 154));simp only [World.size_alloc] at e2 e3;refine ⟨0,Nat.zero_le _,rfl,fun j hj => ?_,?_,e2.cnt,e2.cntf,e3.there,((Below.refl _ _).alloc (by simp) _).alloc (by simp) _⟩
  · have h0:tJ.at j=0:=by
     match j,hj with
     | 0,_=>rfl
     | 1,_=>rfl
     | 2,_=>rfl
     | 3,_=>rfl
     | 4,_=>rfl
     | 5,_=>rfl
     | 6,_=>rfl
     | 7,_=>rfl
    have:=e2.st j hj;rw [h0] at this;exact this
  · exact e2.rest
 case round =>
  obtain ⟨k,hk,rfl,hrow,hrest,hcnt,hcntf,hres,hbel⟩:=hrel
  by_cases hlt:k<8
  · obtain ⟨p0,p1,p2,p3,p4,p5,p6,p7,p8,p9,p10,p11,p12,p13⟩:=n9 hbel _ rfl
    have hN:w.heap.size+1+1<wr.heap.size:=J5 hcnt
    have g0:w.heap.size<wr.heap.size:=by omega
    have g2:3<wr.heap.size:=by omega
    have hsk:wr.cell? ⟨3,k,none⟩=some (.int .u64 (q k)):=(hbel.cell (p:=⟨3,k,none⟩) (Nat.lt_succ_of_lt h2)).trans ((World.cell?_alloc_lt _ _ _ h2).trans (hsq k hlt))
    have hS:∀ w':World,dO (w.heap.size+1+1) k wr w'→∀ j,w'.cell? ⟨3,j,none⟩=wr.cell? ⟨3,j,none⟩:=fun w' h j=>h.cell _ _ g2 (fun e=>by omega)
    have hS':∀ w':World,dO (w.heap.size+1+1) k wr w'→∀ j,w'.cell? ⟨w.heap.size,j,none⟩=wr.cell? ⟨w.heap.size,j,none⟩:=fun w' h j=>h.cell _ _ g0 (fun e=>by omega)
    have hF:∀ w':World,dO (w.heap.size+1+1) k wr w'→∀ j,w'.frozen? ⟨w.heap.size+1+1,j,none⟩=wr.frozen? ⟨w.heap.size+1+1,j,none⟩:=fun w' h j=>h.frozen _ _ hN
    have hb0:Below wr.heap.size wr wr.drew:=(Below.refl _ _).drew;obtain ⟨rg,rf⟩:=hrow k (by omega);rw [J0] at rg rf;have hqk:=hq k
    have ki:(0:Int)≤(k:Int)∧(k:Int)<8:=by omega
    clear hsq;go_wp2
    go_region_held3 (fun w'=>dO (w.heap.size+1+1) k wr w') (first | exact dO.of_below (by assumption) | exact dO.set (by assumption) _) (first
     | (go_at_call 184;refine (jG _ hqk _).mono ?_;rintro e w' ⟨rfl,hb⟩;have hbn:=aa (W:=wr) (by assumption) hb;have rgn:=(hbn.cell (p:=⟨w.heap.size+1+1,k,none⟩) hN).trans rg))
    clear hS hS' hF hb0 hsk p0 p1 p2 p3 p4 p5 p6 p7 p8 p9 p10 p11 p12 p13;go_wp2;go_roundw
    case rel =>
     have h1:=(hrow.below hbn hN).set (i:=k) (by omega) (v:=((q k:Int) / 4294967296)) (u:=q k / 2 ^ (64 - 32)) (by simp);rw [J0] at h1;have h2':ah .u8 (w'.setCell ⟨w.heap.size+1+1,k,none⟩ (.int .u32 ((q k:Int) / 4294967296))) (w.heap.size+1+1) 8 128 (fun _=>0):=(hrest.below hbn hN).apart k [.int .u32 ((q k:Int) / 4294967296)] (.inr (by simp;omega))
     have h3':(w'.setCell ⟨w.heap.size+1+1,k,none⟩ (.int .u32 ((q k:Int) / 4294967296))).cell? ⟨w.heap.size+1+1,136,none⟩=some (.int .i64 0):=by
      rw [World.cell?_setCell_other _ _ _ _ (fun e=>by injection e;omega)];exact (hbn.cell (p:=⟨w.heap.size+1+1,136,none⟩) hN).trans hcnt
     have h4':(w'.setCell ⟨w.heap.size+1+1,k,none⟩ (.int .u32 ((q k:Int) / 4294967296))).frozen? ⟨w.heap.size+1+1,136,none⟩=false:=by
      rw [World.frozen?_setCell];exact (hbn.frozen (p:=⟨w.heap.size+1+1,136,none⟩) hN).trans hcntf
     have h5':(w'.setCell ⟨w.heap.size+1+1,k,none⟩ (.int .u32 ((q k:Int) / 4294967296))).there (w.heap.size+1) 0 137:=fun j hj=>by
      rw [World.frozen?_setCell,World.cell?_setCell_other _ _ _ _ (fun e=>by injection e;omega),hbn.cell (p:=⟨w.heap.size+1,0+j,none⟩) (by show w.heap.size+1<_;omega),hbn.frozen (p:=⟨w.heap.size+1,0+j,none⟩) (by show w.heap.size+1<_;omega)];exact hres j hj
     have h6':=(hbel.trans (hbn.mono (by omega))).setCell (p:=⟨w.heap.size+1+1,k,none⟩) (by simp) (.int .u32 ((q k:Int) / 4294967296))
     first
      | exact ⟨k+1,by omega,by go_num,h1,h2',h3',h4',h5',h6'⟩
      | (repeat apply Exists.intro
         refine ⟨?_,rfl⟩
         exact ⟨k+1,by omega,by go_num,h1,h2',h3',h4',h5',h6'⟩)
    case measure=>simp [intOf];omega
  · have hke:k=8:=by omega
    subst hke
    have hE:az .u32 wr (w.heap.size+1+1) 0 (aL rn q) (fun _=>0) 0:=⟨hrow.cong (vW q),hrest,hcnt,hcntf⟩
    have ht:wr.there (w.heap.size+1) 0 (aH .u32 (aL rn q) (fun _=>0) 0).toArray.size:=by simp only [List.size_toArray,aV];exact hres
    have hi:=Dh .u32 (aL rn q) (fun _=>0) 0
    have hi':(Tryz.prog.info? 154).map (·.size)=some (aH .u32 (aL rn q) (fun _=>0) 0).length:=by rw [aV];kernel_rfl
    have hone:=all_oneCell_toArray (f8 .u32 (aL rn q) (fun _=>0) 0);clear hsq
    go_wp2_with (first
     | (refine wpList_load_mid rfl 154 _ rfl _ 0 rfl _ _ hE.range Tryz.underlying154 rfl hi' ?_)
     | (refine wpList_store_mid rfl 154 _ _ rfl _ 0 _ rfl rfl ht hi hone ?_))
    refine bodyPost_ret (ai Tryz.results131 _ _ (w.heap.size+1) 0 _ _ rfl (World.rangeAt_setCells_same _ _ _ _ (by rw [aV];exact hres)) Tryz.underlying154 rfl hi') rfl ⟨rfl,?_⟩;exact ac (by omega) _ _ _ (((Below.refl _ _).alloc (JW _) _).trans (hbel.mono (by omega)))
def jL:Array Value:=(aH .u64 tJ (fun _=>0) 0).toArray
theorem yT (w:World):Sem.run Tryz.prog (zeroValue 174) w = .ok (.agg jL) w:=by kernel_rfl
theorem Dd (K:IntKind) (s:St) (R:Nat→Nat) (c:Nat):(Tryz.prog.info? 174).map (·.size)=some (aH K s R c).toArray.size:=by simp only [List.size_toArray,aV];kernel_rfl
theorem wF (q:Nat→Nat) (j:Nat) (h:j<8):IJ 64 q 8 j=(aL aA q).at j:=by
 match j,h with
 | 0,_=>rfl
 | 1,_=>rfl
 | 2,_=>rfl
 | 3,_=>rfl
 | 4,_=>rfl
 | 5,_=>rfl
 | 6,_=>rfl
 | 7,_=>rfl
set_option maxRecDepth 20000 in
set_option maxHeartbeats 1000000 in
theorem mF (q:Nat→Nat) (hq:∀ j,q j<18446744073709551616) (w:World) (hsq:∀ j,j<8→w.cell? ⟨3,j,none⟩=some (.int .u64 (q j))) :
 Calls Tryz.prog 150 #[(.agg #[.int .i64 64,.int .i64 80,.int .u64 1,.int .u64 8,.int .u64 7,.int .u64 19,.int .u64 61,.int .u64 6,.int .u64 28,.int .u64 34,.int .u64 39,.int .u64 14,.int .u64 18,.int .u64 41])] w fun e w'=>e = .returned (.agg (aH .u64 (aL aA q) (fun _=>0) 0).toArray)∧Below w.heap.size w w':=by
 have hz:=yT;have h2:3<w.heap.size:=J5 (hsq 0 (by decide));go_enter Tryz.func150,Tryz.ntmps150;go_wp2;clear hz;go_loopw [5] (fun i wr=>∃ k:Nat,k≤8∧i = .int .i64 k∧ah .u64 wr (w.heap.size+1+1) 0 8 (IJ 64 q k)∧ah .u8 wr (w.heap.size+1+1) 8 128 (fun _=>0)∧wr.cell? ⟨w.heap.size+1+1,136,none⟩=some (.int .i64 0)∧wr.frozen? ⟨w.heap.size+1+1,136,none⟩=false∧wr.there (w.heap.size+1) 0 137∧Below (w.heap.size+1) (w.alloc (.cells #[.int .i64 64,.int .i64 80,.int .u64 1,.int .u64 8,.int .u64 7,.int .u64 19,.int .u64 61,.int .u64 6,.int .u64 28,.int .u64 34,.int .u64 39,.int .u64 14,.int .u64 18,.int .u64 41] 158)) wr) (fun i _=>8 - (intOf i).toNat)
 case atStart =>
  have e1:=az.fresh (K := .u64) (w.alloc (.cells #[.int .i64 64,.int .i64 80,.int .u64 1,.int .u64 8,.int .u64 7,.int .u64 19,.int .u64 61,.int .u64 6,.int .u64 28,.int .u64 34,.int .u64 39,.int .u64 14,.int .u64 18,.int .u64 41] 158)) tJ (fun _=>0) 0 174;have e2:=az.fresh (K := .u64) ((w.alloc (.cells #[.int .i64 64,.int .i64 80,.int .u64 1,.int .u64 8,.int .u64 7,.int .u64 19,.int .u64 61,.int .u64 6,.int .u64 28,.int .u64 34,.int .u64 39,.int .u64 14,.int .u64 18,.int .u64 41] 158)).alloc (.cells jL 174)) tJ (fun _=>0) 0 174;have e3:=e1.below ((Below.refl _ _).alloc (JW _) (.cells jL 174));simp only [World.size_alloc] at e2 e3;refine ⟨0,Nat.zero_le _,rfl,fun j hj => ?_,?_,e2.cnt,e2.cntf,e3.there,((Below.refl _ _).alloc (by simp) _).alloc (by simp) _⟩
  · have h0:tJ.at j=0:=by
     match j,hj with
     | 0,_=>rfl
     | 1,_=>rfl
     | 2,_=>rfl
     | 3,_=>rfl
     | 4,_=>rfl
     | 5,_=>rfl
     | 6,_=>rfl
     | 7,_=>rfl
    have:=e2.st j hj;rw [h0] at this;exact this
  · exact e2.rest
 case round =>
  obtain ⟨k,hk,rfl,hrow,hrest,hcnt,hcntf,hres,hbel⟩:=hrel
  by_cases hlt:k<8
  · obtain ⟨p0,p1,p2,p3,p4,p5,p6,p7,p8,p9,p10,p11,p12,p13⟩:=ol hbel _ rfl
    have hN:w.heap.size+1+1<wr.heap.size:=J5 hcnt
    have g0:w.heap.size<wr.heap.size:=by omega
    have g2:3<wr.heap.size:=by omega
    have hsk:wr.cell? ⟨3,k,none⟩=some (.int .u64 (q k)):=(hbel.cell (p:=⟨3,k,none⟩) (Nat.lt_succ_of_lt h2)).trans ((World.cell?_alloc_lt _ _ _ h2).trans (hsq k hlt))
    have hS:∀ w':World,dO (w.heap.size+1+1) k wr w'→∀ j,w'.cell? ⟨3,j,none⟩=wr.cell? ⟨3,j,none⟩:=fun w' h j=>h.cell _ _ g2 (fun e=>by omega)
    have hS':∀ w':World,dO (w.heap.size+1+1) k wr w'→∀ j,w'.cell? ⟨w.heap.size,j,none⟩=wr.cell? ⟨w.heap.size,j,none⟩:=fun w' h j=>h.cell _ _ g0 (fun e=>by omega)
    have hF:∀ w':World,dO (w.heap.size+1+1) k wr w'→∀ j,w'.frozen? ⟨w.heap.size+1+1,j,none⟩=wr.frozen? ⟨w.heap.size+1+1,j,none⟩:=fun w' h j=>h.frozen _ _ hN
    have hb0:Below wr.heap.size wr wr.drew:=(Below.refl _ _).drew;obtain ⟨rg,rf⟩:=hrow k (by omega);rw [J0] at rg rf;have hqk:=hq k
    have ki:(0:Int)≤(k:Int)∧(k:Int)<8:=by omega
    clear hsq;go_wp2
    go_region_held3 (fun w'=>dO (w.heap.size+1+1) k wr w') (first | exact dO.of_below (by assumption) | exact dO.set (by assumption) _) (first
     | (go_at_call 205;refine (jA _ hqk _).mono ?_;rintro e w' ⟨rfl,hb⟩;have hbn:=aa (W:=wr) (by assumption) hb;have rgn:=(hbn.cell (p:=⟨w.heap.size+1+1,k,none⟩) hN).trans rg))
    clear hS hS' hF hb0 hsk p0 p1 p2 p3 p4 p5 p6 p7 p8 p9 p10 p11 p12 p13;go_wp2;go_roundw
    case rel =>
     have h1:=(hrow.below hbn hN).set (i:=k) (by omega) (v:=(q k:Int)) (u:=q k / 2 ^ (64 - 64)) (by simp);rw [J0] at h1;have h2':ah .u8 (w'.setCell ⟨w.heap.size+1+1,k,none⟩ (.int .u64 (q k:Int))) (w.heap.size+1+1) 8 128 (fun _=>0):=(hrest.below hbn hN).apart k [.int .u64 (q k:Int)] (.inr (by simp;omega))
     have h3':(w'.setCell ⟨w.heap.size+1+1,k,none⟩ (.int .u64 (q k:Int))).cell? ⟨w.heap.size+1+1,136,none⟩=some (.int .i64 0):=by
      rw [World.cell?_setCell_other _ _ _ _ (fun e=>by injection e;omega)];exact (hbn.cell (p:=⟨w.heap.size+1+1,136,none⟩) hN).trans hcnt
     have h4':(w'.setCell ⟨w.heap.size+1+1,k,none⟩ (.int .u64 (q k:Int))).frozen? ⟨w.heap.size+1+1,136,none⟩=false:=by
      rw [World.frozen?_setCell];exact (hbn.frozen (p:=⟨w.heap.size+1+1,136,none⟩) hN).trans hcntf
     have h5':(w'.setCell ⟨w.heap.size+1+1,k,none⟩ (.int .u64 (q k:Int))).there (w.heap.size+1) 0 137:=fun j hj=>by
      rw [World.frozen?_setCell,World.cell?_setCell_other _ _ _ _ (fun e=>by injection e;omega),hbn.cell (p:=⟨w.heap.size+1,0+j,none⟩) (by show w.heap.size+1<_;omega),hbn.frozen (p:=⟨w.heap.size+1,0+j,none⟩) (by show w.heap.size+1<_;omega)];exact hres j hj
     have h6':=(hbel.trans (hbn.mono (by omega))).setCell (p:=⟨w.heap.size+1+1,k,none⟩) (by simp) (.int .u64 (q k:Int))
     first
      | exact ⟨k+1,by omega,by go_num,h1,h2',h3',h4',h5',h6'⟩
      | (repeat apply Exists.intro
         refine ⟨?_,rfl⟩
         exact ⟨k+1,by omega,by go_num,h1,h2',h3',h4',h5',h6'⟩)
    case measure=>simp [intOf];omega
  · have hke:k=8:=by omega
    subst hke
    have hE:az .u64 wr (w.heap.size+1+1) 0 (aL aA q) (fun _=>0) 0:=⟨hrow.cong (wF q),hrest,hcnt,hcntf⟩
    have ht:wr.there (w.heap.size+1) 0 (aH .u64 (aL aA q) (fun _=>0) 0).toArray.size:=by simp only [List.size_toArray,aV];exact hres
    have hi:=Dd .u64 (aL aA q) (fun _=>0) 0
    have hi':(Tryz.prog.info? 174).map (·.size)=some (aH .u64 (aL aA q) (fun _=>0) 0).length:=by rw [aV];kernel_rfl
    have hone:=all_oneCell_toArray (f8 .u64 (aL aA q) (fun _=>0) 0);clear hsq
    go_wp2_with (first
     | (refine wpList_load_mid rfl 174 _ rfl _ 0 rfl _ _ hE.range Tryz.underlying174 rfl hi' ?_)
     | (refine wpList_store_mid rfl 174 _ _ rfl _ 0 _ rfl rfl ht hi hone ?_))
    refine bodyPost_ret (ai Tryz.results150 _ _ (w.heap.size+1) 0 _ _ rfl (World.rangeAt_setCells_same _ _ _ _ (by rw [aV];exact hres)) Tryz.underlying174 rfl hi') rfl ⟨rfl,?_⟩;exact ac (by omega) _ _ _ (((Below.refl _ _).alloc (JW _) _).trans (hbel.mono (by omega)))
theorem lv (g n:Nat) (hn:(n:Int)≠0) (w:World) (hc:w.cell? ⟨g,0,none⟩=some (.int .i64 n)):Calls Tryz.prog 154 #[.pointer (some ⟨g,0,none⟩)] w fun e w'=>e = .returned (.bool true)∧w'=w:=by
 have hn':((n:Int) != 0)=true:=by simpa using hn
 go_enter Tryz.func154,Tryz.ntmps154;go_wp2;go_ret;exact ⟨by simp,rfl⟩
def dq (n:Nat) (s t:St):List Value := .int .i64 n :: (aH .u32 s (fun _=>0) 0 ++ aH .u64 t (fun _=>0) 0)
theorem C6 (s:St):Tryz.prog.built 177 [(0,.int .i64 256),(1,.agg (aH .u32 s (fun _=>0) 0).toArray)]=some (dq 256 s tJ).toArray:=by kernel_rfl
theorem CC (s:St):Tryz.prog.built 177 [(0,.int .i64 512),(2,.agg (aH .u64 s (fun _=>0) 0).toArray)]=some (dq 512 tJ s).toArray:=by kernel_rfl
theorem m9 {P:Program} {ops:Array Oper} {rest:List Oper} {o:Oper} {a:Act} {w:World} {Q:Exit→Act→World→Prop} (hg:o.guard=none) (t:TypeId) (parts:Array (Nat × Operand)) (ho:o.op = .build t parts) (cells:Array Value)
 (hf:P.built t (parts.map fun (i,x)=>(i,a.eval x)).toList=some cells) (h:wpList P ops Q rest (a.put o.dst (.agg cells)) w):wpList P ops Q (o :: rest) a w :=
 wpList_build hg t parts ho (by rw [hf];rfl) (by rw [hf];exact h)
theorem jw {P:Program} {ops:Array Oper} {rest:List Oper} {o:Oper} {a:Act} {w:World} {Q:Exit→Act→World→Prop} (hg:o.guard=none) (t:TypeId) (i j:Nat) (x y:Operand) (ho:o.op = .build t #[(i,x),(j,y)]) (u v:Value) (hx:a.eval x=u) (hy:a.eval y=v) (cells:Array Value)
 (hf:P.built t [(i,u),(j,v)]=some cells) (h:wpList P ops Q rest (a.put o.dst (.agg cells)) w):wpList P ops Q (o :: rest) a w :=
 m9 hg t _ ho cells (by simp only [List.map_toArray,List.map_cons,List.map_nil,hx,hy,hf]) h
theorem tX (w:World) (n:Nat) (s t:St):az .u32 (w.alloc (.cells (dq n s t).toArray 177)) w.heap.size 1 s (fun _=>0) 0 :=
 az.of_range (fun j v hv=>by
  have hj:j<137:=by have:=(List.getElem?_eq_some_iff.1 hv).1;rwa [aV] at this
  have:(dq n s t)[1+j]? = some v:=by
   rw [Nat.add_comm,dq,List.getElem?_cons_succ,List.getElem?_append_left (by rw [aV];exact hj)];exact hv
  simp [this]) (fun j hj=>by simp)
theorem zV (w:World) (n:Nat) (s t:St):az .u64 (w.alloc (.cells (dq n s t).toArray 177)) w.heap.size 138 t (fun _=>0) 0 :=
 az.of_range (fun j v hv=>by
  have hj:j<137:=by have:=(List.getElem?_eq_some_iff.1 hv).1;rwa [aV] at this
  have:(dq n s t)[138+j]? = some v:=by
   rw [show 138+j=(137+j)+1 by omega,dq,List.getElem?_cons_succ,List.getElem?_append_right (by rw [aV];omega),aV,show 137+j - 137=j by omega];exact hv
  simp [this]) (fun j hj=>by simp)
theorem qF (w:World) (n:Nat) (s t:St):(w.alloc (.cells (dq n s t).toArray 177)).cell? ⟨w.heap.size,0,none⟩=some (.int .i64 n):=by simp [dq]
set_option maxHeartbeats 400000 in
theorem wi (q:Nat→Nat) (hq:∀ j,q j<18446744073709551616) (w:World) (hsq:∀ j,j<8→w.cell? ⟨3,j,none⟩=some (.int .u64 (q j))) (hru:aY w 0) :
 Calls Tryz.prog 87 #[.int .i64 256] w fun e w'=>∃ g,e = .returned (.pointer (some ⟨g,0,none⟩))∧w.heap.size≤g∧w'.cell? ⟨g,0,none⟩=some (.int .i64 256)∧az .u32 w' g 1 (aL rn q) (fun _=>0) 0∧Below w.heap.size w w':=by
 obtain ⟨p0,p1,p2,p3,p4,p5,p6,p7,p8,p9,p10,p11,p12,p13⟩:=hru;go_enter Tryz.func87,Tryz.ntmps87
 go_wp2_with (first
  | (go_at_call 131;refine (mW q hq _ hsq).mono ?_;rintro e w' ⟨rfl,hb⟩;clear hsq)
  | (refine jw rfl 177 0 1 (.tmp 6) (.tmp 8) rfl (.int .i64 256) (.agg (aH .u32 (aL rn q) (fun _=>0) 0).toArray) rfl rfl (dq 256 (aL rn q) tJ).toArray (C6 (aL rn q)) ?_))
 go_ret;have e1:=qF w' 256 (aL rn q) tJ;have e2:=tX w' 256 (aL rn q) tJ;exact ⟨w'.heap.size,rfl,hb.size,e1,e2,hb.alloc hb.size _⟩
set_option maxHeartbeats 400000 in
theorem wJ (q:Nat→Nat) (hq:∀ j,q j<18446744073709551616) (w:World) (hsq:∀ j,j<8→w.cell? ⟨3,j,none⟩=some (.int .u64 (q j))) (hru:aZ w 1) :
 Calls Tryz.prog 87 #[.int .i64 512] w fun e w'=>∃ g,e = .returned (.pointer (some ⟨g,0,none⟩))∧w.heap.size≤g∧w'.cell? ⟨g,0,none⟩=some (.int .i64 512)∧az .u64 w' g 138 (aL aA q) (fun _=>0) 0∧Below w.heap.size w w':=by
 obtain ⟨p0,p1,p2,p3,p4,p5,p6,p7,p8,p9,p10,p11,p12,p13⟩:=hru;go_enter Tryz.func87,Tryz.ntmps87
 go_wp2_with (first
  | (go_at_call 150;refine (mF q hq _ hsq).mono ?_;rintro e w' ⟨rfl,hb⟩;clear hsq)
  | (refine jw rfl 177 0 2 (.tmp 13) (.tmp 15) rfl (.int .i64 512) (.agg (aH .u64 (aL aA q) (fun _=>0) 0).toArray) rfl rfl (dq 512 tJ (aL aA q)).toArray (CC (aL aA q)) ?_))
 go_ret;have e1:=qF w' 512 tJ (aL aA q);have e2:=zV w' 512 tJ (aL aA q);exact ⟨w'.heap.size,rfl,hb.size,e1,e2,hb.alloc hb.size _⟩
end Go.Proofs.YtibdhadbflfdpaaGreatDoor
