/- What the proof stands on: HStart, HSum, HTop4, HRefSmall. -/
import Derived.Test.YtddkbmnkbfciaaaGreatDoorHEngM
import Derived.Test.YtddkbmnkbfciaaaGreatDoorHMathM
import Derived.Deep.Cut
import Derived.Deep.RegionWith
namespace Go.Proofs.YtddkbmnkbfciaaaGreatDoor
open Go.RowKit
def engVals (K:IntKind) (s:St) (R:Nat→Nat) (c:Nat):List Value:=ints K 8 s.at ++ ints .u8 128 R ++ [.int .i64 c]
theorem engVals_len (K:IntKind) (s:St) (R:Nat→Nat) (c:Nat):(engVals K s R c).length=137:=by simp [engVals,ints_len]
theorem engVals_one (K:IntKind) (s:St) (R:Nat→Nat) (c:Nat):∀ v∈engVals K s R c,v.oneCell'=true:=fun v hv=>by
 simp only [engVals,List.mem_append,List.mem_singleton] at hv
 rcases hv with (hv | hv) | rfl
 · exact ints_one _ _ _ v hv
 · exact ints_one _ _ _ v hv
 · rfl
theorem engVals_st (K:IntKind) (s:St) (R:Nat→Nat) (c j:Nat) (h:j<8):(engVals K s R c)[j]? = some (.int K (s.at j)):=by
 unfold engVals
 rw [List.append_assoc,List.getElem?_append_left (by rw [ints_len];exact h)];exact ints_at _ _ _ j h
theorem engVals_rest (K:IntKind) (s:St) (R:Nat→Nat) (c j:Nat) (h:j<128):(engVals K s R c)[8+j]? = some (.int .u8 (R j)):=by
 unfold engVals
 rw [List.append_assoc,List.getElem?_append_right (by rw [ints_len];omega),ints_len,List.getElem?_append_left (by rw [ints_len];omega),show 8+j - 8=j by omega];exact ints_at _ _ _ j h
theorem engVals_cnt (K:IntKind) (s:St) (R:Nat→Nat) (c:Nat):(engVals K s R c)[136]? = some (.int .i64 c):=by
 unfold engVals
 rw [List.getElem?_append_right (by simp [ints_len])];simp [ints_len]
theorem EngAt.of_range {K:IntKind} {w:World} {b o:Nat} {s:St} {R:Nat→Nat} {c:Nat} (h:w.rangeAt b o (engVals K s R c)) (hf:∀ j,j<137→w.frozen? ⟨b,o+j,none⟩=false):EngAt K w b o s R c :=
 ⟨fun j hj=>⟨h j _ (engVals_st K s R c j hj),hf j (by omega)⟩,fun j hj=>by rw [Nat.add_assoc];exact ⟨h (8+j) _ (engVals_rest K s R c j hj),hf _ (by omega)⟩,h 136 _ (engVals_cnt K s R c),hf 136 (by decide)⟩
theorem EngAt.range {K:IntKind} {w:World} {b o:Nat} {s:St} {R:Nat→Nat} {c:Nat} (h:EngAt K w b o s R c):w.rangeAt b o (engVals K s R c):=fun j v hv=>by
 have hj:j<137:=by have:=(List.getElem?_eq_some_iff.1 hv).1;rwa [engVals_len] at this
 by_cases h1:j<8
 · rw [engVals_st K s R c j h1] at hv;rw [←hv];exact (h.st j h1).1
 · by_cases h2:j=136
   · subst h2;rw [engVals_cnt K s R c] at hv;rw [←hv];exact h.cnt
   · have:=(h.rest (j - 8) (by omega)).1
     have hv':=engVals_rest K s R c (j - 8) (by omega)
     rw [show 8+(j - 8)=j by omega] at hv'
     rw [hv'] at hv
     rw [←hv,show o+j=o+8+(j - 8) by omega];exact this
theorem EngAt.there {K:IntKind} {w:World} {b o:Nat} {s:St} {R:Nat→Nat} {c:Nat} (h:EngAt K w b o s R c):w.there b o 137:=fun j hj=>by
 by_cases h1:j<8
 · rw [(h.st j h1).1];exact ⟨rfl,(h.st j h1).2⟩
 · by_cases h2:j=136
   · subst h2;rw [h.cnt];exact ⟨rfl,h.cntf⟩
   · have:=h.rest (j - 8) (by omega)
     rw [show o+8+(j - 8)=o+j by omega] at this
     rw [this.1];exact ⟨rfl,this.2⟩
theorem EngAt.fresh {K:IntKind} (w:World) (s:St) (R:Nat→Nat) (c:Nat) (t:TypeId):EngAt K (w.alloc (.cells (engVals K s R c).toArray t)) w.heap.size 0 s R c :=
 EngAt.of_range (fun j v hv=>by rw [Nat.zero_add];simp [hv]) (fun j hj=>by simp)
theorem EngAt.stored {K:IntKind} {w:World} {b o:Nat} (ht:w.there b o 137) (s:St) (R:Nat→Nat) (c:Nat):EngAt K (w.setCells b o (engVals K s R c)) b o s R c :=
 EngAt.of_range (World.rangeAt_setCells_same _ _ _ _ (by rw [engVals_len];exact ht)) (fun j hj=>by rw [World.frozen?_setCells];exact (ht j hj).2)
theorem RowAt.cong {K:IntKind} {w:World} {b o n:Nat} {X Y:Nat→Nat} (h:RowAt K w b o n X) (e:∀ j,j<n→X j=Y j):RowAt K w b o n Y:=fun j hj=>by rw [←e j hj];exact h j hj
def zSt:St:=⟨0,0,0,0,0,0,0,0⟩
def firstS (r:Ru) (q:Nat→Nat):St:=⟨q 0 / 2 ^ (64 - r.m),q 1 / 2 ^ (64 - r.m),q 2 / 2 ^ (64 - r.m),q 3 / 2 ^ (64 - r.m),q 4 / 2 ^ (64 - r.m),q 5 / 2 ^ (64 - r.m),q 6 / 2 ^ (64 - r.m),q 7 / 2 ^ (64 - r.m)⟩
def stG (m:Nat) (q:Nat→Nat):Nat→Nat→Nat
 | 0=>fun _=>0
 | k+1=>upd (stG m q k) k (q k / 2 ^ (64 - m))
def zeng32:Array Value:=(engVals .u32 zSt (fun _=>0) 0).toArray
theorem zero201 (w:World):Sem.run Tryz.prog (zeroValue 201) w = .ok (.agg zeng32) w:=by kernel_rfl
theorem isz201 (K:IntKind) (s:St) (R:Nat→Nat) (c:Nat):(Tryz.prog.info? 201).map (·.size)=some (engVals K s R c).toArray.size:=by simp only [List.size_toArray,engVals_len];kernel_rfl
theorem first32_at (q:Nat→Nat) (j:Nat) (h:j<8):stG 32 q 8 j=(firstS rn q).at j:=by
 match j,h with
 | 0,_=>rfl
 | 1,_=>rfl
 | 2,_=>rfl
 | 3,_=>rfl
 | 4,_=>rfl
 | 5,_=>rfl
 | 6,_=>rfl
 | 7,_=>rfl
set_option maxRecDepth 20000 in
set_option maxHeartbeats 1000000 in
theorem start32_any (q:Nat→Nat) (hq:∀ j,q j<18446744073709551616) (w:World) (hsq:∀ j,j<8→w.cell? ⟨2,j,none⟩=some (.int .u64 (q j))) :
 Calls Tryz.prog 190 #[(.agg #[.int .i64 32,.int .i64 64,.int .u64 7,.int .u64 18,.int .u64 3,.int .u64 17,.int .u64 19,.int .u64 10,.int .u64 2,.int .u64 13,.int .u64 22,.int .u64 6,.int .u64 11,.int .u64 25])] w fun e w'=>e = .returned (.agg (engVals .u32 (firstS rn q) (fun _=>0) 0).toArray)∧Below w.heap.size w w':=by
 have hz:=zero201
 have h2:2<w.heap.size:=block_lt_of_cell (hsq 0 (by decide))
 go_enter Tryz.func190,Tryz.ntmps190
 go_wp2
 clear hz
 go_loopw [5] (fun i wr=>∃ k:Nat,k≤8∧i = .int .i64 k∧RowAt .u32 wr (w.heap.size+1+1) 0 8 (stG 32 q k)∧RowAt .u8 wr (w.heap.size+1+1) 8 128 (fun _=>0)∧wr.cell? ⟨w.heap.size+1+1,136,none⟩=some (.int .i64 0)∧wr.frozen? ⟨w.heap.size+1+1,136,none⟩=false∧wr.there (w.heap.size+1) 0 137∧Below (w.heap.size+1) (w.alloc (.cells #[.int .i64 32,.int .i64 64,.int .u64 7,.int .u64 18,.int .u64 3,.int .u64 17,.int .u64 19,.int .u64 10,.int .u64 2,.int .u64 13,.int .u64 22,.int .u64 6,.int .u64 11,.int .u64 25] 205)) wr) (fun i _=>8 - (intOf i).toNat)
 case atStart =>
  have e1:=EngAt.fresh (K := .u32) (w.alloc (.cells #[.int .i64 32,.int .i64 64,.int .u64 7,.int .u64 18,.int .u64 3,.int .u64 17,.int .u64 19,.int .u64 10,.int .u64 2,.int .u64 13,.int .u64 22,.int .u64 6,.int .u64 11,.int .u64 25] 205)) zSt (fun _=>0) 0 201
  have e2:=EngAt.fresh (K := .u32) ((w.alloc (.cells #[.int .i64 32,.int .i64 64,.int .u64 7,.int .u64 18,.int .u64 3,.int .u64 17,.int .u64 19,.int .u64 10,.int .u64 2,.int .u64 13,.int .u64 22,.int .u64 6,.int .u64 11,.int .u64 25] 205)).alloc (.cells zeng32 201)) zSt (fun _=>0) 0 201
  have e3:=e1.below ((Below.refl _ _).alloc (Nat.le_refl _) (.cells zeng32 201))
  simp only [World.size_alloc] at e2 e3
  refine ⟨0,Nat.zero_le _,rfl,fun j hj => ?_,?_,e2.cnt,e2.cntf,e3.there,((Below.refl _ _).alloc (by simp) _).alloc (by simp) _⟩
  · have h0:zSt.at j=0:=by
     match j,hj with
     | 0,_=>rfl
     | 1,_=>rfl
     | 2,_=>rfl
     | 3,_=>rfl
     | 4,_=>rfl
     | 5,_=>rfl
     | 6,_=>rfl
     | 7,_=>rfl
    have:=e2.st j hj
    rw [h0] at this
    exact this
  · exact e2.rest
 case round =>
  obtain ⟨k,hk,rfl,hrow,hrest,hcnt,hcntf,hres,hbel⟩:=hrel
  by_cases hlt:k<8
  · obtain ⟨p0,p1,p2,p3,p4,p5,p6,p7,p8,p9,p10,p11,p12,p13⟩:=rbox32 hbel _ rfl
    have hN:w.heap.size+1+1<wr.heap.size:=block_lt_of_cell hcnt
    have g0:w.heap.size<wr.heap.size:=by omega
    have g2:2<wr.heap.size:=by omega
    have hsk:wr.cell? ⟨2,k,none⟩=some (.int .u64 (q k)):=(hbel.cell (p:=⟨2,k,none⟩) (Nat.lt_succ_of_lt h2)).trans ((World.cell?_alloc_lt _ _ _ h2).trans (hsq k hlt))
    have hS:∀ w':World,Near (w.heap.size+1+1) k wr w'→∀ j,w'.cell? ⟨2,j,none⟩=wr.cell? ⟨2,j,none⟩:=fun w' h j=>h.cell _ _ g2 (fun e=>by omega)
    have hS':∀ w':World,Near (w.heap.size+1+1) k wr w'→∀ j,w'.cell? ⟨w.heap.size,j,none⟩=wr.cell? ⟨w.heap.size,j,none⟩:=fun w' h j=>h.cell _ _ g0 (fun e=>by omega)
    have hF:∀ w':World,Near (w.heap.size+1+1) k wr w'→∀ j,w'.frozen? ⟨w.heap.size+1+1,j,none⟩=wr.frozen? ⟨w.heap.size+1+1,j,none⟩:=fun w' h j=>h.frozen _ _ hN
    have hb0:Below wr.heap.size wr wr.drew:=(Below.refl _ _).drew
    obtain ⟨rg,rf⟩:=hrow k (by omega)
    rw [Nat.zero_add] at rg rf
    have hqk:=hq k
    have ki:(0:Int)≤(k:Int)∧(k:Int)<8:=by omega
    clear hsq
    go_wp2
    go_region_held3 (fun w'=>Near (w.heap.size+1+1) k wr w') (first | exact Near.of_below (by assumption) | exact Near.set (by assumption) _) (first
     | (go_at_call 228;refine (highest32_any _ hqk _).mono ?_;rintro e w' ⟨rfl,hb⟩;have hbn:=below_next (W:=wr) (by assumption) hb;have rgn:=(hbn.cell (p:=⟨w.heap.size+1+1,k,none⟩) hN).trans rg))
    clear hS hS' hF hb0 hsk p0 p1 p2 p3 p4 p5 p6 p7 p8 p9 p10 p11 p12 p13
    go_wp2
    go_roundw
    case rel =>
     have h1:=(hrow.below hbn hN).set (i:=k) (by omega) (v:=((q k:Int) / 4294967296)) (u:=q k / 2 ^ (64 - 32)) (by simp)
     rw [Nat.zero_add] at h1
     have h2':RowAt .u8 (w'.setCell ⟨w.heap.size+1+1,k,none⟩ (.int .u32 ((q k:Int) / 4294967296))) (w.heap.size+1+1) 8 128 (fun _=>0):=(hrest.below hbn hN).apart k [.int .u32 ((q k:Int) / 4294967296)] (.inr (by simp;omega))
     have h3':(w'.setCell ⟨w.heap.size+1+1,k,none⟩ (.int .u32 ((q k:Int) / 4294967296))).cell? ⟨w.heap.size+1+1,136,none⟩=some (.int .i64 0):=by
      rw [World.cell?_setCell_other _ _ _ _ (fun e=>by injection e;omega)];exact (hbn.cell (p:=⟨w.heap.size+1+1,136,none⟩) hN).trans hcnt
     have h4':(w'.setCell ⟨w.heap.size+1+1,k,none⟩ (.int .u32 ((q k:Int) / 4294967296))).frozen? ⟨w.heap.size+1+1,136,none⟩=false:=by
      rw [World.frozen?_setCell];exact (hbn.frozen (p:=⟨w.heap.size+1+1,136,none⟩) hN).trans hcntf
     have h5':(w'.setCell ⟨w.heap.size+1+1,k,none⟩ (.int .u32 ((q k:Int) / 4294967296))).there (w.heap.size+1) 0 137:=fun j hj=>by
      rw [World.frozen?_setCell,World.cell?_setCell_other _ _ _ _ (fun e=>by injection e;omega),hbn.cell (p:=⟨w.heap.size+1,0+j,none⟩) (by show w.heap.size+1<_;omega),hbn.frozen (p:=⟨w.heap.size+1,0+j,none⟩) (by show w.heap.size+1<_;omega)];exact hres j hj
     have h6':=(hbel.trans (hbn.mono (by omega))).setCell (p:=⟨w.heap.size+1+1,k,none⟩) (by simp) (.int .u32 ((q k:Int) / 4294967296))
     first
      | exact ⟨k+1,by omega,by go_num,h1,h2',h3',h4',h5',h6'⟩
      | (repeat apply Exists.intro
         refine ⟨?_,rfl⟩
         exact ⟨k+1,by omega,by go_num,h1,h2',h3',h4',h5',h6'⟩)
    case measure=>simp [intOf];omega
  · have hke:k=8:=by omega
    subst hke
    have hE:EngAt .u32 wr (w.heap.size+1+1) 0 (firstS rn q) (fun _=>0) 0:=⟨hrow.cong (first32_at q),hrest,hcnt,hcntf⟩
    have ht:wr.there (w.heap.size+1) 0 (engVals .u32 (firstS rn q) (fun _=>0) 0).toArray.size:=by simp only [List.size_toArray,engVals_len];exact hres
    have hi:=isz201 .u32 (firstS rn q) (fun _=>0) 0
    have hi':(Tryz.prog.info? 201).map (·.size)=some (engVals .u32 (firstS rn q) (fun _=>0) 0).length:=by rw [engVals_len];kernel_rfl
    have hone:=all_oneCell_toArray (engVals_one .u32 (firstS rn q) (fun _=>0) 0)
    clear hsq
    go_wp2_with (first
     | (refine wpList_load_mid rfl 201 _ rfl _ 0 rfl _ _ hE.range Tryz.underlying201 rfl hi' ?_)
     | (refine wpList_store_mid rfl 201 _ _ rfl _ 0 _ rfl rfl ht hi hone ?_))
    refine bodyPost_ret (results_cell_mid Tryz.results190 _ _ (w.heap.size+1) 0 _ _ rfl (World.rangeAt_setCells_same _ _ _ _ (by rw [engVals_len];exact hres)) Tryz.underlying201 rfl hi') rfl ⟨rfl,?_⟩
    exact below_setCells (by omega) _ _ _ (((Below.refl _ _).alloc (Nat.le_refl _) _).trans (hbel.mono (by omega)))
end Go.Proofs.YtddkbmnkbfciaaaGreatDoor
namespace Go.Proofs.YtddkbmnkbfciaaaGreatDoor
open Go.RowKit
def endS (r:Ru) (K:Nat→Nat) (s:St) (R:Nat→Nat) (c:Nat):St:=(writeE r K s R c (padN r c) (padF r c)).1
def outB (m:Nat) (s:St) (j:Nat):Nat:=s.at (j / (m / 8)) / 2 ^ (m - 8 - j%(m / 8)*8)%256
def outG (m:Nat) (s:St):Nat→Nat→Nat
 | 0=>fun _=>0
 | k+1=>upd (outG m s k) k (outB m s k)
theorem outG_at (m:Nat) (s:St):∀ k j,j<k→outG m s k j=outB m s j
 | k+1,j,h=>by
  unfold outG upd
  by_cases e:j=k
  · rw [if_pos e,e]
  · rw [if_neg e];exact outG_at m s k j (by omega)
theorem padF_lt (r:Ru) (c:Nat):∀ j,padF r c j<256:=by
 suffices h:∀ N i j,padG N c i j<256 from h _ _
 intro N i
 induction i with
 | zero =>
  intro j;unfold padG upd;split
  · omega
  · exact Nat.zero_lt_succ _
 | succ i ih =>
  intro j;unfold padG upd;split
  · exact Nat.mod_lt _ (by decide)
  · exact ih j
theorem padN32_le (c:Nat):padN rn c≤200:=by
 show 1+(4*32 - 1 - 32 / 4 - c%(2*32))%(2*32)+32 / 4≤200
 omega
set_option maxRecDepth 20000 in
set_option maxHeartbeats 1000000 in
theorem sum32_any (K:Nat→Nat) (hK:∀ j,K j<18446744073709551616) (s:St) (hs:s.lt 4294967296) (R:Nat→Nat) (hR:∀ j,R j<256) (c:Nat) (hc:c<2305843009213693952) (w:World)
 (hcub:∀ j,j<80→w.cell? ⟨4,j,none⟩=some (.int .u64 (K j))) :
 Calls Tryz.prog 192 #[.agg (engVals .u32 s R c).toArray,(.agg #[.int .i64 32,.int .i64 64,.int .u64 7,.int .u64 18,.int .u64 3,.int .u64 17,.int .u64 19,.int .u64 10,.int .u64 2,.int .u64 13,.int .u64 22,.int .u64 6,.int .u64 11,.int .u64 25])] w
  fun e w'=>∃ g,e = .returned (.slice (some ⟨g,0,none⟩) 32 32)∧w.heap.size≤g∧RowAt .u8 w' g 0 32 (outB 32 (endS rn K s R c))∧Below w.heap.size w w':=by
 have h3:4<w.heap.size:=block_lt_of_cell (hcub 0 (by decide))
 obtain ⟨W2,hW2⟩:∃ W2,W2=(w.alloc (.cells (engVals .u32 s R c).toArray 201)).alloc (.cells #[.int .i64 32,.int .i64 64,.int .u64 7,.int .u64 18,.int .u64 3,.int .u64 17,.int .u64 19,.int .u64 10,.int .u64 2,.int .u64 13,.int .u64 22,.int .u64 6,.int .u64 11,.int .u64 25] 205):=⟨_,rfl⟩
 have hE:EngAt .u32 W2 w.heap.size 0 s R c:=by rw [hW2];exact (EngAt.fresh w s R c 201).below ((Below.refl _ _).alloc (Nat.le_refl _) _)
 have hRu:Rules32 W2 (w.heap.size+1):=by
  have:=Rules32.of_box (W:=w.alloc (.cells (engVals .u32 s R c).toArray 201)) (w1:=W2) (by rw [hW2];exact Below.refl _ _)
  rw [World.size_alloc] at this;exact this
 have hcub2:∀ j,j<80→W2.cell? ⟨4,j,none⟩=some (.int .u64 (K j)):=fun j hj=>by
  rw [hW2,World.cell?_alloc_lt _ _ _ (by simp;omega),World.cell?_alloc_lt _ _ _ h3];exact hcub j hj
 have hB2:Below w.heap.size w W2:=by rw [hW2];exact ((Below.refl _ _).alloc (Nat.le_refl _) _).alloc (by simp) _
 have hz2:W2.heap.size=w.heap.size+1+1:=by rw [hW2];simp
 have HW2:Hid (W2=(w.alloc (.cells (engVals .u32 s R c).toArray 201)).alloc (.cells #[.int .i64 32,.int .i64 64,.int .u64 7,.int .u64 18,.int .u64 3,.int .u64 17,.int .u64 19,.int .u64 10,.int .u64 2,.int .u64 13,.int .u64 22,.int .u64 6,.int .u64 11,.int .u64 25] 205)):=hW2
 clear hW2
 go_enter Tryz.func192,Tryz.ntmps192
 go_wp2
 rw [←HW2.out]
 obtain ⟨p0,p1,p2,p3,p4,p5,p6,p7,p8,p9,p10,p11,p12,p13⟩:=id hRu
 have hcn:=hE.cnt
 rw [Nat.zero_add] at hcn
 have hb0:Below W2.heap.size W2 W2.drew:=(Below.refl _ _).drew
 have hpad:=padding32_any c hc W2.drew
 have HZ2:Hid (W2.heap.size=w.heap.size+1+1):=hz2
 clear hz2 hcub
 have hw:∀ (w1:World) (g:Nat),W2.drew.heap.size≤g→RowAt .u8 w1 g 0 (padN rn c) (padF rn c)→Below W2.drew.heap.size W2.drew w1 →
  Rules32 w1 (w.heap.size+1)∧Calls Tryz.prog 191 #[.pointer (some ⟨w.heap.size,0,none⟩),(.agg #[.int .i64 32,.int .i64 64,.int .u64 7,.int .u64 18,.int .u64 3,.int .u64 17,.int .u64 19,.int .u64 10,.int .u64 2,.int .u64 13,.int .u64 22,.int .u64 6,.int .u64 11,.int .u64 25]),.slice (some ⟨g,0,none⟩) (padN rn c) (padN rn c)] w1
   fun e w'=>e = .returned (.tuple #[])∧EngAt .u32 w' w.heap.size 0 (writeE rn K s R c (padN rn c) (padF rn c)).1 (writeE rn K s R c (padN rn c) (padF rn c)).2 (c+padN rn c)∧Rules32 w' (w.heap.size+1)∧Below w.heap.size w w':=fun w1 g hg hrow hb=>by
  have hb':=below_next hb0 hb
  have hz:=HZ2.out
  have hg':w.heap.size+1+1≤g:=by simp only [World.size_drew] at hg;omega
  have hR1:=hRu.below hb' (by omega)
  refine ⟨hR1,(write32_any K hK s hs R hR w.heap.size 0 c (padN rn c) _ (padF rn c) (padF_lt _ _) w1 (hE.below hb') (fun j hj=>(hb'.cell (p:=⟨4,j,none⟩) (by show 4<_;omega)).trans (hcub2 j hj)) (by omega) (.inr ⟨g,0,_,rfl,by omega,Nat.le_refl _,fun j hj=>(hrow j hj).1⟩) (by have:=padN32_le c;omega)).mono ?_⟩
  rintro e w' ⟨rfl,hE',hO'⟩
  have hs':=hb'.size
  exact ⟨rfl,hE',hR1.same (fun q=>hO'.cell' (by omega) (by omega)),hB2.trans ((hb'.mono (by omega)).trans (hO'.below (Nat.le_refl _) (by omega)))⟩
 go_cut [] from 8 (fun wc=>EngAt .u32 wc w.heap.size 0 (writeE rn K s R c (padN rn c) (padF rn c)).1 (writeE rn K s R c (padN rn c) (padF rn c)).2 (c+padN rn c)∧Rules32 wc (w.heap.size+1)∧Below w.heap.size w wc)
 case first =>
  go_region_with (first
   | (go_at_call 231;refine hpad.mono ?_;rintro e w1 ⟨g,rfl,hg,hrow,hb1⟩;obtain ⟨⟨r0,r1,r2,r3,r4,r5,r6,r7,r8,r9,r10,r11,r12,r13⟩,hwc⟩:=hw w1 g hg hrow hb1)
   | (go_at_call 191;refine hwc.mono ?_;rintro e w5 ⟨rfl,hE5,hR5,hB5⟩))
  all_goals
   go_wp2
   go_meet
   case rel=>exact ⟨hE5,hR5,hB5⟩
 case rest =>
  obtain ⟨hE5,hR5,hB5⟩:=hcut
  have hs5:(writeE rn K s R c (padN rn c) (padF rn c)).1.lt 4294967296:=(writeE_lt (r:=rn) hs hR (padF_lt _ _)).1
  have HS5:Hid (endS rn K s R c=(writeE rn K s R c (padN rn c) (padF rn c)).1):=(rfl:endS rn K s R c=(writeE rn K s R c (padN rn c) (padF rn c)).1)
  have hst:=hE5.st
  obtain ⟨x,hx⟩:∃ x,x=(writeE rn K s R c (padN rn c) (padF rn c)).1:=⟨_,rfl⟩
  have HX:Hid (x=(writeE rn K s R c (padN rn c) (padF rn c)).1):=hx
  rw [←hx] at hs5 hst
  clear hx
  have c0:=hR5.1
  have hmk:=fun W=>make_bytes W 32 32 rfl (by decide)
  clear hw hpad hb0 hcn p0 p1 p2 p3 p4 p5 p6 p7 p8 p9 p10 p11 p12 p13 hRu hcub2 hE hB2 HW2 HZ2 hE5
  have hwl:w.heap.size<wc.heap.size:=block_lt_of_cell (hst 0 (by decide)).1
  have hwl1:w.heap.size+1<wc.heap.size:=block_lt_of_cell c0
  go_wp2
  clear hmk
  go_loopw [22] (fun i wr=>∃ k:Nat,k≤32∧i = .int .i64 k∧RowAt .u8 wr wc.heap.size 0 32 (outG 32 x k)∧Below wc.heap.size wc wr) (fun i _=>32 - (intOf i).toNat)
  case atStart=>exact ⟨0,Nat.zero_le _,rfl,RowAt.fresh (fun j hj=>zb_at 32 j hj),(Below.refl _ _).alloc (Nat.le_refl _) _⟩
  case round =>
   obtain ⟨k,hk,rfl,hrow,hbel⟩:=hrel
   by_cases hlt:k<32
   · have rs:wr.cell? ⟨w.heap.size,k / 4,none⟩=some (.int .u32 (x.at (k / 4))):=by
      have:=(hst (k / 4) (by omega)).1
      rw [Nat.zero_add] at this
      exact (hbel.cell (p:=⟨w.heap.size,k / 4,none⟩) hwl).trans this
     have rr:wr.cell? ⟨w.heap.size+1,0,none⟩=some (.int .i64 32):=(hbel.cell (p:=⟨w.heap.size+1,0,none⟩) hwl1).trans c0
     obtain ⟨rg,rf⟩:=hrow k hlt
     rw [Nat.zero_add] at rg rf
     have hq:k / 4<8:=by omega
     go_wp2
     go_region
     go_wp2
     go_roundw
     case rel =>
      have h1:=hrow.set (i:=k) hlt (v:=(x.at (k / 4):Int) / 2 ^ (32 - 8 - k%4*8)%256) (u:=outB 32 x k) (by show _=((x.at (k / (32 / 8)) / 2 ^ (32 - 8 - k%(32 / 8)*8)%256:Nat):Int);simp)
      rw [Nat.zero_add] at h1
      exact ⟨k+1,by omega,by go_num,h1.drew,(hbel.setCell (Nat.le_refl _) _).drew⟩
     case measure=>simp [intOf];omega
   · have hke:k=32:=by omega
     subst hke
     go_wp2
     go_ret
     refine ⟨wc.heap.size,rfl,hB5.size,hrow.cong (fun j hj => ?_),hB5.trans (hbel.mono hB5.size)⟩
     rw [outG_at _ _ _ _ hj,HS5.out,←HX.out]
end Go.Proofs.YtddkbmnkbfciaaaGreatDoor
namespace Go.Proofs.YtddkbmnkbfciaaaGreatDoor
open Go.RowKit
structure HTab (w:World) (K q:Nat→Nat):Prop where
 cubes:∀ j,j<80→w.cell? ⟨4,j,none⟩=some (.int .u64 (K j))
 squares:∀ j,j<8→w.cell? ⟨2,j,none⟩=some (.int .u64 (q j))
 narrow:Rules32 w 0
 Klt:∀ j,K j<18446744073709551616
 qlt:∀ j,q j<18446744073709551616
theorem HTab.size {w:World} {K q:Nat→Nat} (h:HTab w K q):4<w.heap.size:=block_lt_of_cell (h.cubes 0 (by decide))
theorem HTab.below {w w':World} {K q:Nat→Nat} (h:HTab w K q) {n:Nat} (hb:Below n w w') (hn:4<n):HTab w' K q :=
 ⟨fun j hj=>(hb.cell (p:=⟨4,j,none⟩) hn).trans (h.cubes j hj),fun j hj=>(hb.cell (p:=⟨2,j,none⟩) (by show 2<n;omega)).trans (h.squares j hj),h.narrow.below hb (by omega),h.Klt,h.qlt⟩
theorem firstS_lt (r:Ru) (q:Nat→Nat) (hm:r.m≤64) (hq:∀ j,q j<18446744073709551616):(firstS r q).lt (2 ^ r.m):=by
 have h:∀ j,q j / 2 ^ (64 - r.m)<2 ^ r.m:=fun j=>by
  rw [Nat.div_lt_iff_lt_mul (Nat.two_pow_pos _),←Nat.pow_add,show r.m+(64 - r.m)=64 by omega];exact hq j
 exact ⟨h 0,h 1,h 2,h 3,h 4,h 5,h 6,h 7⟩
def hashS (r:Ru) (K q:Nat→Nat) (n:Nat) (bs:Nat→Nat):St:=endS r K (writeE r K (firstS r q) (fun _=>0) 0 n bs).1 (writeE r K (firstS r q) (fun _=>0) 0 n bs).2 n
theorem BytesIn.away {w w':World} {v:Value} {n:Nat} {bs:Nat→Nat} (h:BytesIn w v n bs) (hb:Below w.heap.size w w') {b:Nat} (hn:w.heap.size≤b):Bytes w' b v n bs:=by
 rcases h with h | ⟨bb,ob,cap,rfl,h1,h2,h3⟩
 · exact .inl h
 · exact .inr ⟨bb,ob,cap,rfl,by omega,h2,fun j hj=>(hb.cell (p:=⟨bb,ob+j,none⟩) h1).trans (h3 j hj)⟩
theorem there_new32 (w:World):(w.alloc (.cells zeng32 201)).there w.heap.size 0 137:=(EngAt.fresh (K := .u32) w zSt (fun _=>0) 0 201).there
set_option maxRecDepth 20000 in
set_option maxHeartbeats 1000000 in
theorem Sum256_any (K q:Nat→Nat) (v:Value) (n:Nat) (bs:Nat→Nat) (hbs:∀ j,bs j<256) (w:World) (hT:HTab w K q) (hv:BytesIn w v n bs) (hn:n<2305843009213693952) :
 Calls Tryz.prog 134 #[v] w
  fun e w'=>∃ g,e = .returned (.slice (some ⟨g,0,none⟩) 32 32)∧w.heap.size≤g∧RowAt .u8 w' g 0 32 (outB 32 (hashS rn K q n bs))∧Below w.heap.size w w':=by
 have hz:=zero201
 obtain ⟨p0,p1,p2,p3,p4,p5,p6,p7,p8,p9,p10,p11,p12,p13⟩:=id hT.narrow
 have hst:=start32_any q hT.qlt w hT.squares
 have hi:=isz201 .u32 (firstS rn q) (fun _=>0) 0
 have hone:=all_oneCell_toArray (engVals_one .u32 (firstS rn q) (fun _=>0) 0)
 have hF:(firstS rn q).lt 4294967296:=firstS_lt rn q (by decide) hT.qlt
 have hkey:∀ w1:World,Below w.heap.size w w1→(w1.alloc (.cells zeng32 201)).there w1.heap.size 0 (engVals .u32 (firstS rn q) (fun _=>0) 0).toArray.size∧∀ w2,w2=(w1.alloc (.cells zeng32 201)).setCells w1.heap.size 0 (engVals .u32 (firstS rn q) (fun _=>0) 0)→Rules32 w2 0∧Calls Tryz.prog 191 #[.pointer (some ⟨w1.heap.size,0,none⟩),(.agg #[.int .i64 32,.int .i64 64,.int .u64 7,.int .u64 18,.int .u64 3,.int .u64 17,.int .u64 19,.int .u64 10,.int .u64 2,.int .u64 13,.int .u64 22,.int .u64 6,.int .u64 11,.int .u64 25]),v] w2 fun e w'=>e = .returned (.tuple #[])∧Rules32 w' 0∧EngAt .u32 w' w1.heap.size 0 (writeE rn K (firstS rn q) (fun _=>0) 0 n bs).1 (writeE rn K (firstS rn q) (fun _=>0) 0 n bs).2 n∧Below w.heap.size w w'∧∀ j,j<80→w'.cell? ⟨4,j,none⟩=some (.int .u64 (K j)):=fun w1 hb1=>by
  refine ⟨by simp only [List.size_toArray,engVals_len];exact there_new32 w1,fun w2 hw2 => ?_⟩
  have h3:=hT.size
  have hs1:=hb1.size
  have hE:EngAt .u32 w2 w1.heap.size 0 (firstS rn q) (fun _=>0) 0:=by rw [hw2];exact EngAt.stored (there_new32 w1) _ _ _
  have hb2:Below w1.heap.size w1 w2:=by rw [hw2];exact below_setCells (Nat.le_refl _) _ _ _ ((Below.refl _ _).alloc (Nat.le_refl _) _)
  have hb3:Below w.heap.size w w2:=hb1.trans (hb2.mono hs1)
  have hT2:=hT.below hb3 h3
  refine ⟨hT2.narrow,(write32_any K hT.Klt (firstS rn q) hF (fun _=>0) (fun _=>by decide) w1.heap.size 0 0 n v bs hbs w2 hE hT2.cubes (by omega) (hv.away hb3 hs1) (by omega)).mono ?_⟩
  rintro e w' ⟨rfl,hE',hO'⟩
  have hl:w1.heap.size<w2.heap.size:=block_lt_of_cell hE.cnt
  have hb4:Below w.heap.size w w':=hb3.trans (hO'.below hs1 (by omega))
  have hT3:=hT.below hb4 h3
  rw [Nat.zero_add] at hE'
  exact ⟨rfl,hT3.narrow,hE',hb4,hT3.cubes⟩
 have hX:=writeE_lt (r:=rn) (K:=K) (c:=0) (n:=n) hF (fun _=>(by decide:(0:Nat)<256)) hbs
 obtain ⟨X,hXe⟩:∃ X,X=writeE rn K (firstS rn q) (fun _=>0) 0 n bs:=⟨_,rfl⟩
 have HX:Hid (X=writeE rn K (firstS rn q) (fun _=>0) 0 n bs):=hXe
 rw [←hXe] at hkey hX
 have hsum:=fun w' h=>sum32_any K hT.Klt X.1 hX.1 X.2 hX.2 n hn w' h
 clear hXe hv hT hF
 go_enter Tryz.func134,Tryz.ntmps134
 go_wp2_with (first
  | (go_at_call 190;refine hst.mono ?_;clear hst;rintro e w1 ⟨rfl,hb1⟩;obtain ⟨ht,hk2⟩:=hkey w1 hb1;clear hkey)
  | (refine wpList_store_mid rfl 201 _ _ rfl _ 0 _ rfl rfl ht hi hone ?_;rw [List.toList_toArray];obtain ⟨w2,hw2⟩:∃ w2,w2=(w1.alloc (.cells zeng32 201)).setCells w1.heap.size 0 (engVals .u32 (firstS rn q) (fun _=>0) 0):=⟨_,rfl⟩;obtain ⟨⟨r0,r1,r2,r3,r4,r5,r6,r7,r8,r9,r10,r11,r12,r13⟩,hwr⟩:=hk2 w2 hw2;rw [←hw2];clear hw2 hk2 ht hi hone hz)
  | (go_at_call 191;refine hwr.mono ?_;clear hwr;rintro e w5 ⟨rfl,⟨t0,t1,t2,t3,t4,t5,t6,t7,t8,t9,t10,t11,t12,t13⟩,hE5,hB5,hc5⟩)
  | (refine wpList_load_mid rfl 201 _ rfl _ 0 rfl _ _ hE5.range Tryz.underlying201 rfl (by rw [engVals_len];kernel_rfl) ?_)
  | (go_at_call 192;refine (hsum w5 hc5).mono ?_;rintro e w6 ⟨g,rfl,hg,hrow,hb6⟩))
 go_ret
 have e:hashS rn K q n bs=endS rn K X.1 X.2 n:=by rw [HX.out];rfl
 rw [e]
 exact ⟨g,rfl,Nat.le_trans hB5.size hg,hrow,hB5.trans (hb6.mono hB5.size)⟩
end Go.Proofs.YtddkbmnkbfciaaaGreatDoor
namespace Go.Proofs.YtddkbmnkbfciaaaGreatDoor
open Go.RowKit
structure Lists32 (w:World) (g0 g1 g2 g3:Nat):Prop where
 a0:w.cell? ⟨g0,0,none⟩=some (.int .i64 7)
 a1:w.cell? ⟨g0,1,none⟩=some (.int .i64 18)
 a2:w.cell? ⟨g0,2,none⟩=some (.int .i64 3)
 b0:w.cell? ⟨g1,0,none⟩=some (.int .i64 17)
 b1:w.cell? ⟨g1,1,none⟩=some (.int .i64 19)
 b2:w.cell? ⟨g1,2,none⟩=some (.int .i64 10)
 c0:w.cell? ⟨g2,0,none⟩=some (.int .i64 2)
 c1:w.cell? ⟨g2,1,none⟩=some (.int .i64 13)
 c2:w.cell? ⟨g2,2,none⟩=some (.int .i64 22)
 d0:w.cell? ⟨g3,0,none⟩=some (.int .i64 6)
 d1:w.cell? ⟨g3,1,none⟩=some (.int .i64 11)
 d2:w.cell? ⟨g3,2,none⟩=some (.int .i64 25)
theorem Lists32.below {w w':World} {g0 g1 g2 g3:Nat} (h:Lists32 w g0 g1 g2 g3) (hb:Below w.heap.size w w'):Lists32 w' g0 g1 g2 g3:=by
 have k:∀ {g j:Nat} {v:Value},w.cell? ⟨g,j,none⟩=some v→w'.cell? ⟨g,j,none⟩=some v:=fun {g j v} e=>(hb.cell (p:=⟨g,j,none⟩) (block_lt_of_cell e)).trans e
 exact ⟨k h.a0,k h.a1,k h.a2,k h.b0,k h.b1,k h.b2,k h.c0,k h.c1,k h.c2,k h.d0,k h.d1,k h.d2⟩
theorem cut32_any (g0 g1 g2 g3 x:Nat) (hx:x<18446744073709551616) (w:World) :
 Calls Tryz.prog 233 #[(.agg #[.int .i64 32,.int .i64 64,.int .i64 64,.slice (some ⟨g0,0,none⟩) 3 3,.slice (some ⟨g1,0,none⟩) 3 3,.slice (some ⟨g2,0,none⟩) 3 3,.slice (some ⟨g3,0,none⟩) 3 3]),.int .u64 x] w fun e w'=>e = .returned (.int .u64 ((x%2 ^ 32:Nat):Int))∧Below w.heap.size w w':=by
 go_enter Tryz.func233,Tryz.ntmps233
 go_wp2
 go_ret
 refine ⟨retInt ?_,(Below.refl _ _).alloc (Nat.le_refl _) _⟩
 have e1:(4294967295:Int)=((4294967295:Nat):Int):=rfl
 rw [e1,u64_and_nat _ _ hx (by decide)]
 have:=Nat.and_two_pow_sub_one_eq_mod x 32
 rw [←this]
theorem rotR_32 (x n:Nat) (hx:x<2 ^ 32):((x / 2 ^ n) ||| (x*2 ^ (32 - n)%18446744073709551616))%2 ^ 32=rot 32 x n:=by
 unfold rot
 rw [Nat.or_mod_two_pow,Nat.mod_eq_of_lt (Nat.lt_of_le_of_lt (Nat.div_le_self _ _) hx),show (18446744073709551616:Nat)=2 ^ 64 from rfl,Nat.mod_mod_of_dvd _ (Nat.pow_dvd_pow 2 (by decide))]
theorem rotL_32 (x n:Nat) (hx:x<2 ^ 32):rot 32 x n<18446744073709551616:=Nat.lt_of_lt_of_le (rot_lt 32 x n hx) (by decide)
theorem rotB_32 (x n:Nat) (hx:x<2 ^ 32):((x / 2 ^ n) ||| (x*2 ^ (32 - n)%18446744073709551616))<18446744073709551616 :=
 Nat.or_lt_two_pow (n:=64) (Nat.lt_of_le_of_lt (Nat.div_le_self _ _) (Nat.lt_of_lt_of_le hx (by decide))) (Nat.mod_lt _ (by decide))
set_option maxHeartbeats 400000 in
theorem rotr32_any (g0 g1 g2 g3 x n:Nat) (hx:x<2 ^ 32) (hn:n≤32) (w:World) :
 Calls Tryz.prog 261 #[(.agg #[.int .i64 32,.int .i64 64,.int .i64 64,.slice (some ⟨g0,0,none⟩) 3 3,.slice (some ⟨g1,0,none⟩) 3 3,.slice (some ⟨g2,0,none⟩) 3 3,.slice (some ⟨g3,0,none⟩) 3 3]),.int .u64 x,.int .i64 n] w fun e w'=>e = .returned (.int .u64 ((rot 32 x n:Nat):Int))∧Below w.heap.size w w':=by
 have hx':x<18446744073709551616:=Nat.lt_of_lt_of_le hx (by decide)
 have hb:=rotB_32 x n hx
 have hc:=fun W=>cut32_any g0 g1 g2 g3 _ hb W
 have e1:bits .or .u64 ((x:Int) / 2 ^ n) ((x:Int)*2 ^ (32 - n)%18446744073709551616)=(((x / 2 ^ n) ||| (x*2 ^ (32 - n)%18446744073709551616):Nat):Int):=by
  have f1:(x:Int) / 2 ^ n=((x / 2 ^ n:Nat):Int):=by simp
  have f2:(x:Int)*2 ^ (32 - n)%18446744073709551616=((x*2 ^ (32 - n)%18446744073709551616:Nat):Int):=by simp
  rw [f1,f2,u64_or_nat _ _ (Nat.lt_of_le_of_lt (Nat.div_le_self _ _) hx') (Nat.mod_lt _ (by decide))]
 rw [rotR_32 x n hx,←e1] at hc
 clear hx hb e1
 go_enter Tryz.func261,Tryz.ntmps261
 go_wp2_with (go_at_call 233;refine (hc _).mono ?_;rintro e w' ⟨rfl,hb⟩)
 go_ret
 exact ⟨rfl,((Below.refl _ _).alloc (Nat.le_refl _) _).trans (hb.mono (by simp))⟩
def ZBox32 (W:World) (B g0 g1 g2 g3:Nat):Prop:=W.cell? ⟨B,0,none⟩=some (.int .i64 32)∧W.cell? ⟨B,1,none⟩=some (.int .i64 64)∧W.cell? ⟨B,2,none⟩=some (.int .i64 64)∧W.cell? ⟨B,3,none⟩=some (.slice (some ⟨g0,0,none⟩) 3 3)∧W.cell? ⟨B,4,none⟩=some (.slice (some ⟨g1,0,none⟩) 3 3)∧W.cell? ⟨B,5,none⟩=some (.slice (some ⟨g2,0,none⟩) 3 3)∧W.cell? ⟨B,6,none⟩=some (.slice (some ⟨g3,0,none⟩) 3 3)
theorem ZBox32.below {w w':World} {B g0 g1 g2 g3:Nat} (h:ZBox32 w B g0 g1 g2 g3) (hb:Below w.heap.size w w'):ZBox32 w' B g0 g1 g2 g3:=by
 have k:∀ {g j:Nat} {v:Value},w.cell? ⟨g,j,none⟩=some v→w'.cell? ⟨g,j,none⟩=some v:=fun {g j v} e=>(hb.cell (p:=⟨g,j,none⟩) (block_lt_of_cell e)).trans e
 obtain ⟨h0,h1,h2,h3,h4,h5,h6⟩:=h
 exact ⟨k h0,k h1,k h2,k h3,k h4,k h5,k h6⟩
theorem zbox32 (w:World) (g0 g1 g2 g3:Nat):ZBox32 (w.alloc (.cells #[.int .i64 32,.int .i64 64,.int .i64 64,.slice (some ⟨g0,0,none⟩) 3 3,.slice (some ⟨g1,0,none⟩) 3 3,.slice (some ⟨g2,0,none⟩) 3 3,.slice (some ⟨g3,0,none⟩) 3 3] 162)) w.heap.size g0 g1 g2 g3:=by simp [ZBox32]
set_option maxHeartbeats 1000000 in
theorem high32_any (g0 g1 g2 g3 g x a b c:Nat) (hx:x<2 ^ 32) (ha:a≤32) (hb:b≤32) (hc:c≤32) (w:World) (h0:w.cell? ⟨g,0,none⟩=some (.int .i64 a)) (h1:w.cell? ⟨g,1,none⟩=some (.int .i64 b)) (h2:w.cell? ⟨g,2,none⟩=some (.int .i64 c)) :
 Calls Tryz.prog 234 #[(.agg #[.int .i64 32,.int .i64 64,.int .i64 64,.slice (some ⟨g0,0,none⟩) 3 3,.slice (some ⟨g1,0,none⟩) 3 3,.slice (some ⟨g2,0,none⟩) 3 3,.slice (some ⟨g3,0,none⟩) 3 3]),.int .u64 x,.slice (some ⟨g,0,none⟩) 3 3] w fun e w'=>e = .returned (.int .u64 ((hi3 32 x (a,b,c):Nat):Int))∧Below w.heap.size w w':=by
 have hg:g<w.heap.size:=block_lt_of_cell h0
 obtain ⟨W,hW⟩:∃ W,W=w.alloc (.cells #[.int .i64 32,.int .i64 64,.int .i64 64,.slice (some ⟨g0,0,none⟩) 3 3,.slice (some ⟨g1,0,none⟩) 3 3,.slice (some ⟨g2,0,none⟩) 3 3,.slice (some ⟨g3,0,none⟩) 3 3] 162):=⟨_,rfl⟩
 have HW:Hid (W=w.alloc (.cells #[.int .i64 32,.int .i64 64,.int .i64 64,.slice (some ⟨g0,0,none⟩) 3 3,.slice (some ⟨g1,0,none⟩) 3 3,.slice (some ⟨g2,0,none⟩) 3 3,.slice (some ⟨g3,0,none⟩) 3 3] 162)):=hW
 obtain ⟨c0,c1,c2,c3,c4,c5,c6⟩:ZBox32 W w.heap.size g0 g1 g2 g3:=by rw [hW];exact zbox32 w g0 g1 g2 g3
 have hbW:Below w.heap.size w W:=by rw [hW];exact (Below.refl _ _).alloc (Nat.le_refl _) _
 have k0:=(hbW.cell (p:=⟨g,0,none⟩) hg).trans h0
 have k1:=(hbW.cell (p:=⟨g,1,none⟩) hg).trans h1
 have k2:=(hbW.cell (p:=⟨g,2,none⟩) hg).trans h2
 have q0:w.heap.size<W.heap.size:=by rw [hW];simp
 have q1:g<W.heap.size:=by omega
 have hS:∀ w':World,Below W.heap.size W w'→∀ b o,b<W.heap.size→w'.cell? ⟨b,o,none⟩=W.cell? ⟨b,o,none⟩:=fun w' h b o hb=>h.cell (p:=⟨b,o,none⟩) hb
 have hb0:Below W.heap.size W W.drew:=(Below.refl _ _).drew
 clear hW
 go_enter Tryz.func234,Tryz.ntmps234
 go_wp2
 rw [←HW.out]
 go_region_held3 (fun w'=>Below W.heap.size W w') (assumption) (first
  | (go_at_call 261;refine (rotr32_any g0 g1 g2 g3 _ _ hx (by assumption) _).mono ?_;rintro e w' ⟨rfl,hb⟩;have hbn:=below_next (W:=W) (by assumption) hb))
 go_wp2
 go_ret
 refine ⟨retInt ?_,hbW.trans (hbn.mono (by omega))⟩
 rw [u64_xor_nat _ _ (rotL_32 x a hx) (rotL_32 x b hx),u64_xor_nat _ _ (Nat.xor_lt_two_pow (n:=64) (rotL_32 x a hx) (rotL_32 x b hx)) (rotL_32 x c hx)]
 rfl
set_option maxHeartbeats 1000000 in
theorem low32_any (g0 g1 g2 g3 g x a b c:Nat) (hx:x<2 ^ 32) (ha:a≤32) (hb:b≤32) (hc:c≤32) (w:World) (h0:w.cell? ⟨g,0,none⟩=some (.int .i64 a)) (h1:w.cell? ⟨g,1,none⟩=some (.int .i64 b)) (h2:w.cell? ⟨g,2,none⟩=some (.int .i64 c)) :
 Calls Tryz.prog 260 #[(.agg #[.int .i64 32,.int .i64 64,.int .i64 64,.slice (some ⟨g0,0,none⟩) 3 3,.slice (some ⟨g1,0,none⟩) 3 3,.slice (some ⟨g2,0,none⟩) 3 3,.slice (some ⟨g3,0,none⟩) 3 3]),.int .u64 x,.slice (some ⟨g,0,none⟩) 3 3] w fun e w'=>e = .returned (.int .u64 ((lo3 32 x (a,b,c):Nat):Int))∧Below w.heap.size w w':=by
 have hcc:IntKind.u64.wrap (c:Int)=(c:Int):=by simp only [IntKind.wrap_u64];omega
 have hxl:x<18446744073709551616:=Nat.lt_of_lt_of_le hx (by decide)
 have hg:g<w.heap.size:=block_lt_of_cell h0
 obtain ⟨W,hW⟩:∃ W,W=w.alloc (.cells #[.int .i64 32,.int .i64 64,.int .i64 64,.slice (some ⟨g0,0,none⟩) 3 3,.slice (some ⟨g1,0,none⟩) 3 3,.slice (some ⟨g2,0,none⟩) 3 3,.slice (some ⟨g3,0,none⟩) 3 3] 162):=⟨_,rfl⟩
 have HW:Hid (W=w.alloc (.cells #[.int .i64 32,.int .i64 64,.int .i64 64,.slice (some ⟨g0,0,none⟩) 3 3,.slice (some ⟨g1,0,none⟩) 3 3,.slice (some ⟨g2,0,none⟩) 3 3,.slice (some ⟨g3,0,none⟩) 3 3] 162)):=hW
 obtain ⟨c0,c1,c2,c3,c4,c5,c6⟩:ZBox32 W w.heap.size g0 g1 g2 g3:=by rw [hW];exact zbox32 w g0 g1 g2 g3
 have hbW:Below w.heap.size w W:=by rw [hW];exact (Below.refl _ _).alloc (Nat.le_refl _) _
 have k0:=(hbW.cell (p:=⟨g,0,none⟩) hg).trans h0
 have k1:=(hbW.cell (p:=⟨g,1,none⟩) hg).trans h1
 have k2:=(hbW.cell (p:=⟨g,2,none⟩) hg).trans h2
 have q0:w.heap.size<W.heap.size:=by rw [hW];simp
 have q1:g<W.heap.size:=by omega
 have hS:∀ w':World,Below W.heap.size W w'→∀ b o,b<W.heap.size→w'.cell? ⟨b,o,none⟩=W.cell? ⟨b,o,none⟩:=fun w' h b o hb=>h.cell (p:=⟨b,o,none⟩) hb
 have hb0:Below W.heap.size W W.drew:=(Below.refl _ _).drew
 clear hW
 go_enter Tryz.func260,Tryz.ntmps260
 go_wp2
 rw [←HW.out]
 go_region_held3 (fun w'=>Below W.heap.size W w') (assumption) (first
  | (go_at_call 261;refine (rotr32_any g0 g1 g2 g3 _ _ hx (by assumption) _).mono ?_;rintro e w' ⟨rfl,hb⟩;have hbn:=below_next (W:=W) (by assumption) hb))
 go_wp2
 go_ret
 refine ⟨retInt ?_,hbW.trans (hbn.mono (by omega))⟩
 have e1:(x:Int) / 2 ^ c=((x / 2 ^ c:Nat):Int):=by simp
 rw [e1,u64_xor_nat _ _ (rotL_32 x a hx) (rotL_32 x b hx),u64_xor_nat _ _ (Nat.xor_lt_two_pow (n:=64) (rotL_32 x a hx) (rotL_32 x b hx)) (Nat.lt_of_le_of_lt (Nat.div_le_self _ _) hxl)]
 rfl
structure Lists64 (w:World) (g0 g1 g2 g3:Nat):Prop where
 a0:w.cell? ⟨g0,0,none⟩=some (.int .i64 1)
 a1:w.cell? ⟨g0,1,none⟩=some (.int .i64 8)
 a2:w.cell? ⟨g0,2,none⟩=some (.int .i64 7)
 b0:w.cell? ⟨g1,0,none⟩=some (.int .i64 19)
 b1:w.cell? ⟨g1,1,none⟩=some (.int .i64 61)
 b2:w.cell? ⟨g1,2,none⟩=some (.int .i64 6)
 c0:w.cell? ⟨g2,0,none⟩=some (.int .i64 28)
 c1:w.cell? ⟨g2,1,none⟩=some (.int .i64 34)
 c2:w.cell? ⟨g2,2,none⟩=some (.int .i64 39)
 d0:w.cell? ⟨g3,0,none⟩=some (.int .i64 14)
 d1:w.cell? ⟨g3,1,none⟩=some (.int .i64 18)
 d2:w.cell? ⟨g3,2,none⟩=some (.int .i64 41)
theorem Lists64.below {w w':World} {g0 g1 g2 g3:Nat} (h:Lists64 w g0 g1 g2 g3) (hb:Below w.heap.size w w'):Lists64 w' g0 g1 g2 g3:=by
 have k:∀ {g j:Nat} {v:Value},w.cell? ⟨g,j,none⟩=some v→w'.cell? ⟨g,j,none⟩=some v:=fun {g j v} e=>(hb.cell (p:=⟨g,j,none⟩) (block_lt_of_cell e)).trans e
 exact ⟨k h.a0,k h.a1,k h.a2,k h.b0,k h.b1,k h.b2,k h.c0,k h.c1,k h.c2,k h.d0,k h.d1,k h.d2⟩
def ZBox64 (W:World) (B g0 g1 g2 g3:Nat):Prop:=W.cell? ⟨B,0,none⟩=some (.int .i64 64)∧W.cell? ⟨B,1,none⟩=some (.int .i64 128)∧W.cell? ⟨B,2,none⟩=some (.int .i64 80)∧W.cell? ⟨B,3,none⟩=some (.slice (some ⟨g0,0,none⟩) 3 3)∧W.cell? ⟨B,4,none⟩=some (.slice (some ⟨g1,0,none⟩) 3 3)∧W.cell? ⟨B,5,none⟩=some (.slice (some ⟨g2,0,none⟩) 3 3)∧W.cell? ⟨B,6,none⟩=some (.slice (some ⟨g3,0,none⟩) 3 3)
theorem ZBox64.below {w w':World} {B g0 g1 g2 g3:Nat} (h:ZBox64 w B g0 g1 g2 g3) (hb:Below w.heap.size w w'):ZBox64 w' B g0 g1 g2 g3:=by
 have k:∀ {g j:Nat} {v:Value},w.cell? ⟨g,j,none⟩=some v→w'.cell? ⟨g,j,none⟩=some v:=fun {g j v} e=>(hb.cell (p:=⟨g,j,none⟩) (block_lt_of_cell e)).trans e
 obtain ⟨h0,h1,h2,h3,h4,h5,h6⟩:=h
 exact ⟨k h0,k h1,k h2,k h3,k h4,k h5,k h6⟩
end Go.Proofs.YtddkbmnkbfciaaaGreatDoor
