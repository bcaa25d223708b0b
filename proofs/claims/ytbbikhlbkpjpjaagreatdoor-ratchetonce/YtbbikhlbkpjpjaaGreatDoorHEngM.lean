/- What the proof stands on: HEng, HStart, HHash, HWriteA. -/
import Derived.Test.YtbbikhlbkpjpjaaGreatDoorHMathM
import Derived.Deep.RegionWith
namespace Go.Proofs.YtbbikhlbkpjpjaaGreatDoor
open Go.RowKit
structure EngAt (K:IntKind) (w:World) (b o:Nat) (s:St) (R:Nat→Nat) (c:Nat):Prop where
 st:RowAt K w b o 8 s.at
 rest:RowAt .u8 w b (o+8) 128 R
 cnt:w.cell? ⟨b,o+136,none⟩=some (.int .i64 c)
 cntf:w.frozen? ⟨b,o+136,none⟩=false
theorem EngAt.below {K:IntKind} {w w':World} {b o:Nat} {s:St} {R:Nat→Nat} {c:Nat} (h:EngAt K w b o s R c) (hb:Below w.heap.size w w'):EngAt K w' b o s R c:=by
 have hl:b<w.heap.size:=block_lt_of_cell h.cnt
 exact ⟨h.st.below hb hl,h.rest.below hb hl,(hb.cell (p:=⟨b,o+136,none⟩) hl).trans h.cnt,(hb.frozen (p:=⟨b,o+136,none⟩) hl).trans h.cntf⟩
theorem EngAt.count {K:IntKind} {w:World} {b o:Nat} {s:St} {R:Nat→Nat} {c:Nat} (h:EngAt K w b o s R c) {v:Int} {c':Nat} (hv:v=(c':Int)):EngAt K (w.setCell ⟨b,o+136,none⟩ (.int .i64 v)) b o s R c':=by
 refine ⟨h.st.apart (o+136) [.int .i64 v] (.inl (by omega)),h.rest.apart (o+136) [.int .i64 v] (.inl (by omega)),?_,by rw [World.frozen?_setCell];exact h.cntf⟩
 rw [World.cell?_setCell_same _ _ _ h.cnt,hv]
theorem EngAt.bytes {K:IntKind} {w:World} {b o:Nat} {s:St} {R:Nat→Nat} {c:Nat} (h:EngAt K w b o s R c) (i n:Nat) (Y:Nat→Nat) (hi:i+n≤128):EngAt K (w.setCells b (o+8+i) (ints .u8 n Y)) b o s (over R i n Y) c:=by
 refine ⟨h.st.apart _ _ (.inl (by omega)),h.rest.splice i n Y hi,?_,by rw [World.frozen?_setCells];exact h.cntf⟩
 rw [World.cell?_setCells_out b _ _ w _ (fun _ _=>by rw [ints_len];show o+136<o+8+i∨o+8+i+n≤o+136;omega)]
 exact h.cnt
theorem vals_ints (K:IntKind) (s:St):(St.vals K s).toList=ints K 8 s.at:=rfl
theorem EngAt.state {K:IntKind} {w:World} {b o:Nat} {s:St} {R:Nat→Nat} {c:Nat} (h:EngAt K w b o s R c) (s':St):EngAt K (w.setCells b o (St.vals K s').toList) b o s' R c:=by
 have e:over s.at 0 8 s'.at=over s.at 0 8 s'.at:=rfl
 have h1:=h.st.splice 0 8 s'.at (by decide)
 rw [Nat.add_zero] at h1
 rw [vals_ints]
 refine ⟨fun j hj => ?_,h.rest.apart _ _ (.inr (by rw [ints_len];omega)),?_,by rw [World.frozen?_setCells];exact h.cntf⟩
 · have:=h1 j hj
   have e2:over s.at 0 8 s'.at j=s'.at j:=by simp [over,hj]
   rw [e2] at this
   exact this
 · rw [World.cell?_setCells_out b _ _ w _ (fun _ _=>by rw [ints_len];show o+136<o∨o+8≤o+136;omega)]
   exact h.cnt
def loopS (r:Ru) (K:Nat→Nat) (s:St) (bs:Nat→Nat):Nat→St
 | 0=>s
 | i+1=>blockS r K (fun j=>bs (i*(2*r.m)+j)) (loopS r K s bs i)
theorem loopS_lt {r:Ru} {K:Nat→Nat} {s:St} {bs:Nat→Nat} (h:s.lt (2 ^ r.m)):∀ i,(loopS r K s bs i).lt (2 ^ r.m)
 | 0=>h
 | _+1=>addS_lt
def tailE (r:Ru) (K:Nat→Nat) (s:St) (R:Nat→Nat) (n:Nat) (bs:Nat→Nat):St × (Nat→Nat) :=
 (loopS r K s bs (n / (2*r.m)),over R 0 (n%(2*r.m)) (fun j=>bs (n / (2*r.m)*(2*r.m)+j)))
def writeE (r:Ru) (K:Nat→Nat) (s:St) (R:Nat→Nat) (c n:Nat) (bs:Nat→Nat):St × (Nat→Nat) :=
 if c%(2*r.m)=0 then tailE r K s R n bs
 else if c%(2*r.m)+n<2*r.m then (s,over R (c%(2*r.m)) n bs)
 else tailE r K (blockS r K (over R (c%(2*r.m)) (2*r.m - c%(2*r.m)) bs) s) (over R (c%(2*r.m)) (2*r.m - c%(2*r.m)) bs) (n - (2*r.m - c%(2*r.m))) (fun j=>bs (2*r.m - c%(2*r.m)+j))
end Go.Proofs.YtbbikhlbkpjpjaaGreatDoor
namespace Go.Proofs.YtbbikhlbkpjpjaaGreatDoor
open Go.RowKit
def engVals (K:IntKind) (s:St) (R:Nat→Nat) (c:Nat):List Value:=ints K 8 s.at ++ ints .u8 128 R ++ [.int .i64 c]
theorem engVals_len (K:IntKind) (s:St) (R:Nat→Nat) (c:Nat):(engVals K s R c).length=137:=by simp [engVals,ints_len]
theorem engVals_one (K:IntKind) (s:St) (R:Nat→Nat) (c:Nat):∀ v∈engVals K s R c,v.oneCell'=true:=fun v hv=>by
 simp only [engVals,List.mem_append,List.mem_singleton] at hv
 rcases hv with (hv | hv) | rfl
 · exact ints_one _ _ _ v hv
 · exact ints_one _ _ _ v hv
 · rfl
theorem engVals_st (K:IntKind) (s:St) (R:Nat→Nat) (c j:Nat) (h:j<8):(engVals K s R c)[j]? = some (.int K (s.at j)):=by
 unfold engVals
 rw [List.append_assoc,List.getElem?_append_left (by rw [ints_len];exact h)];exact ints_at _ _ _ j h
theorem engVals_rest (K:IntKind) (s:St) (R:Nat→Nat) (c j:Nat) (h:j<128):(engVals K s R c)[8+j]? = some (.int .u8 (R j)):=by
 unfold engVals
 rw [List.append_assoc,List.getElem?_append_right (by rw [ints_len];omega),ints_len,List.getElem?_append_left (by rw [ints_len];omega),show 8+j - 8=j by omega];exact ints_at _ _ _ j h
theorem engVals_cnt (K:IntKind) (s:St) (R:Nat→Nat) (c:Nat):(engVals K s R c)[136]? = some (.int .i64 c):=by
 unfold engVals
 rw [List.getElem?_append_right (by simp [ints_len])];simp [ints_len]
theorem EngAt.of_range {K:IntKind} {w:World} {b o:Nat} {s:St} {R:Nat→Nat} {c:Nat} (h:w.rangeAt b o (engVals K s R c)) (hf:∀ j,j<137→w.frozen? ⟨b,o+j,none⟩=false):EngAt K w b o s R c :=
 ⟨fun j hj=>⟨h j _ (engVals_st K s R c j hj),hf j (by omega)⟩,fun j hj=>by rw [Nat.add_assoc];exact ⟨h (8+j) _ (engVals_rest K s R c j hj),hf _ (by omega)⟩,h 136 _ (engVals_cnt K s R c),hf 136 (by decide)⟩
theorem EngAt.range {K:IntKind} {w:World} {b o:Nat} {s:St} {R:Nat→Nat} {c:Nat} (h:EngAt K w b o s R c):w.rangeAt b o (engVals K s R c):=fun j v hv=>by
 have hj:j<137:=by have:=(List.getElem?_eq_some_iff.1 hv).1;rwa [engVals_len] at this
 by_cases h1:j<8
 · rw [engVals_st K s R c j h1] at hv;rw [←hv];exact (h.st j h1).1
 · by_cases h2:j=136
   · subst h2;rw [engVals_cnt K s R c] at hv;rw [←hv];exact h.cnt
   · have:=(h.rest (j - 8) (by omega)).1
     have hv':=engVals_rest K s R c (j - 8) (by omega)
     rw [show 8+(j - 8)=j by omega] at hv'
     rw [hv'] at hv
     rw [←hv,show o+j=o+8+(j - 8) by omega];exact this
theorem EngAt.there {K:IntKind} {w:World} {b o:Nat} {s:St} {R:Nat→Nat} {c:Nat} (h:EngAt K w b o s R c):w.there b o 137:=fun j hj=>by
 by_cases h1:j<8
 · rw [(h.st j h1).1];exact ⟨rfl,(h.st j h1).2⟩
 · by_cases h2:j=136
   · subst h2;rw [h.cnt];exact ⟨rfl,h.cntf⟩
   · have:=h.rest (j - 8) (by omega)
     rw [show o+8+(j - 8)=o+j by omega] at this
     rw [this.1];exact ⟨rfl,this.2⟩
theorem EngAt.fresh {K:IntKind} (w:World) (s:St) (R:Nat→Nat) (c:Nat) (t:TypeId):EngAt K (w.alloc (.cells (engVals K s R c).toArray t)) w.heap.size 0 s R c :=
 EngAt.of_range (fun j v hv=>by rw [Nat.zero_add];simp [hv]) (fun j hj=>by simp)
theorem EngAt.stored {K:IntKind} {w:World} {b o:Nat} (ht:w.there b o 137) (s:St) (R:Nat→Nat) (c:Nat):EngAt K (w.setCells b o (engVals K s R c)) b o s R c :=
 EngAt.of_range (World.rangeAt_setCells_same _ _ _ _ (by rw [engVals_len];exact ht)) (fun j hj=>by rw [World.frozen?_setCells];exact (ht j hj).2)
theorem RowAt.cong {K:IntKind} {w:World} {b o n:Nat} {X Y:Nat→Nat} (h:RowAt K w b o n X) (e:∀ j,j<n→X j=Y j):RowAt K w b o n Y:=fun j hj=>by rw [←e j hj];exact h j hj
def zSt:St:=⟨0,0,0,0,0,0,0,0⟩
def firstS (r:Ru) (q:Nat→Nat):St:=⟨q 0 / 2 ^ (64 - r.m),q 1 / 2 ^ (64 - r.m),q 2 / 2 ^ (64 - r.m),q 3 / 2 ^ (64 - r.m),q 4 / 2 ^ (64 - r.m),q 5 / 2 ^ (64 - r.m),q 6 / 2 ^ (64 - r.m),q 7 / 2 ^ (64 - r.m)⟩
def stG (m:Nat) (q:Nat→Nat):Nat→Nat→Nat
 | 0=>fun _=>0
 | k+1=>upd (stG m q k) k (q k / 2 ^ (64 - m))
def zeng32:Array Value:=(engVals .u32 zSt (fun _=>0) 0).toArray
theorem zero185 (w:World):Sem.run Tryz.prog (zeroValue 185) w = .ok (.agg zeng32) w:=by kernel_rfl
theorem isz185 (K:IntKind) (s:St) (R:Nat→Nat) (c:Nat):(Tryz.prog.info? 185).map (·.size)=some (engVals K s R c).toArray.size:=by simp only [List.size_toArray,engVals_len];kernel_rfl
theorem first32_at (q:Nat→Nat) (j:Nat) (h:j<8):stG 32 q 8 j=(firstS rn q).at j:=by
 match j,h with
 | 0,_=>rfl
 | 1,_=>rfl
 | 2,_=>rfl
 | 3,_=>rfl
 | 4,_=>rfl
 | 5,_=>rfl
 | 6,_=>rfl
 | 7,_=>rfl
set_option maxRecDepth 20000 in
set_option maxHeartbeats 1000000 in
theorem start32_any (q:Nat→Nat) (hq:∀ j,q j<18446744073709551616) (w:World) (hsq:∀ j,j<8→w.cell? ⟨3,j,none⟩=some (.int .u64 (q j))) :
 Calls Tryz.prog 143 #[(.agg #[.int .i64 32,.int .i64 64,.int .u64 7,.int .u64 18,.int .u64 3,.int .u64 17,.int .u64 19,.int .u64 10,.int .u64 2,.int .u64 13,.int .u64 22,.int .u64 6,.int .u64 11,.int .u64 25])] w fun e w'=>e = .returned (.agg (engVals .u32 (firstS rn q) (fun _=>0) 0).toArray)∧Below w.heap.size w w':=by
 have hz:=zero185
 have h2:3<w.heap.size:=block_lt_of_cell (hsq 0 (by decide))
 go_enter Tryz.func143,Tryz.ntmps143
 go_wp2
 clear hz
 go_loopw [5] (fun i wr=>∃ k:Nat,k≤8∧i = .int .i64 k∧RowAt .u32 wr (w.heap.size+1+1) 0 8 (stG 32 q k)∧RowAt .u8 wr (w.heap.size+1+1) 8 128 (fun _=>0)∧wr.cell? ⟨w.heap.size+1+1,136,none⟩=some (.int .i64 0)∧wr.frozen? ⟨w.heap.size+1+1,136,none⟩=false∧wr.there (w.heap.size+1) 0 137∧Below (w.heap.size+1) (w.alloc (.cells #[.int .i64 32,.int .i64 64,.int .u64 7,.int .u64 18,.int .u64 3,.int .u64 17,.int .u64 19,.int .u64 10,.int .u64 2,.int .u64 13,.int .u64 22,.int .u64 6,.int .u64 11,.int .u64 25] 189)) wr) (fun i _=>8 - (intOf i).toNat)
 case atStart =>
  have e1:=EngAt.fresh (K := .u32) (w.alloc (.cells #[.int .i64 32,.int .i64 64,.int .u64 7,.int .u64 18,.int .u64 3,.int .u64 17,.int .u64 19,.int .u64 10,.int .u64 2,.int .u64 13,.int .u64 22,.int .u64 6,.int .u64 11,.int .u64 25] 189)) zSt (fun _=>0) 0 185
  have e2:=EngAt.fresh (K := .u32) ((w.alloc (.cells #[.int .i64 32,.int .i64 64,.int .u64 7,.int .u64 18,.int .u64 3,.int .u64 17,.int .u64 19,.int .u64 10,.int .u64 2,.int .u64 13,.int .u64 22,.int .u64 6,.int .u64 11,.int .u64 25] 189)).alloc (.cells zeng32 185)) zSt (fun _=>0) 0 185
  have e3:=e1.below ((Below.refl _ _).alloc (Nat.le_refl _) (.cells zeng32 185))
  simp only [World.size_alloc] at e2 e3
  refine ⟨0,Nat.zero_le _,rfl,fun j hj => ?_,?_,e2.cnt,e2.cntf,e3.there,((Below.refl _ _).alloc (by simp) _).alloc (by simp) _⟩
  · have h0:zSt.at j=0:=by
     match j,hj with
     | 0,_=>rfl
     | 1,_=>rfl
     | 2,_=>rfl
     | 3,_=>rfl
     | 4,_=>rfl
     | 5,_=>rfl
     | 6,_=>rfl
     | 7,_=>rfl
    have:=e2.st j hj
    rw [h0] at this
    exact this
  · exact e2.rest
 case round =>
  obtain ⟨k,hk,rfl,hrow,hrest,hcnt,hcntf,hres,hbel⟩:=hrel
  by_cases hlt:k<8
  · obtain ⟨p0,p1,p2,p3,p4,p5,p6,p7,p8,p9,p10,p11,p12,p13⟩:=rbox32 hbel _ rfl
    have hN:w.heap.size+1+1<wr.heap.size:=block_lt_of_cell hcnt
    have g0:w.heap.size<wr.heap.size:=by omega
    have g2:3<wr.heap.size:=by omega
    have hsk:wr.cell? ⟨3,k,none⟩=some (.int .u64 (q k)):=(hbel.cell (p:=⟨3,k,none⟩) (Nat.lt_succ_of_lt h2)).trans ((World.cell?_alloc_lt _ _ _ h2).trans (hsq k hlt))
    have hS:∀ w':World,Near (w.heap.size+1+1) k wr w'→∀ j,w'.cell? ⟨3,j,none⟩=wr.cell? ⟨3,j,none⟩:=fun w' h j=>h.cell _ _ g2 (fun e=>by omega)
    have hS':∀ w':World,Near (w.heap.size+1+1) k wr w'→∀ j,w'.cell? ⟨w.heap.size,j,none⟩=wr.cell? ⟨w.heap.size,j,none⟩:=fun w' h j=>h.cell _ _ g0 (fun e=>by omega)
    have hF:∀ w':World,Near (w.heap.size+1+1) k wr w'→∀ j,w'.frozen? ⟨w.heap.size+1+1,j,none⟩=wr.frozen? ⟨w.heap.size+1+1,j,none⟩:=fun w' h j=>h.frozen _ _ hN
    have hb0:Below wr.heap.size wr wr.drew:=(Below.refl _ _).drew
    obtain ⟨rg,rf⟩:=hrow k (by omega)
    rw [Nat.zero_add] at rg rf
    have hqk:=hq k
    have ki:(0:Int)≤(k:Int)∧(k:Int)<8:=by omega
    clear hsq
    go_wp2
    go_region_held3 (fun w'=>Near (w.heap.size+1+1) k wr w') (first | exact Near.of_below (by assumption) | exact Near.set (by assumption) _) (first
     | (go_at_call 156;refine (highest32_any _ hqk _).mono ?_;rintro e w' ⟨rfl,hb⟩;have hbn:=below_next (W:=wr) (by assumption) hb;have rgn:=(hbn.cell (p:=⟨w.heap.size+1+1,k,none⟩) hN).trans rg))
    clear hS hS' hF hb0 hsk p0 p1 p2 p3 p4 p5 p6 p7 p8 p9 p10 p11 p12 p13
    go_wp2
    go_roundw
    case rel =>
     have h1:=(hrow.below hbn hN).set (i:=k) (by omega) (v:=((q k:Int) / 4294967296)) (u:=q k / 2 ^ (64 - 32)) (by simp)
     rw [Nat.zero_add] at h1
     have h2':RowAt .u8 (w'.setCell ⟨w.heap.size+1+1,k,none⟩ (.int .u32 ((q k:Int) / 4294967296))) (w.heap.size+1+1) 8 128 (fun _=>0):=(hrest.below hbn hN).apart k [.int .u32 ((q k:Int) / 4294967296)] (.inr (by simp;omega))
     have h3':(w'.setCell ⟨w.heap.size+1+1,k,none⟩ (.int .u32 ((q k:Int) / 4294967296))).cell? ⟨w.heap.size+1+1,136,none⟩=some (.int .i64 0):=by
      rw [World.cell?_setCell_other _ _ _ _ (fun e=>by injection e;omega)];exact (hbn.cell (p:=⟨w.heap.size+1+1,136,none⟩) hN).trans hcnt
     have h4':(w'.setCell ⟨w.heap.size+1+1,k,none⟩ (.int .u32 ((q k:Int) / 4294967296))).frozen? ⟨w.heap.size+1+1,136,none⟩=false:=by
      rw [World.frozen?_setCell];exact (hbn.frozen (p:=⟨w.heap.size+1+1,136,none⟩) hN).trans hcntf
     have h5':(w'.setCell ⟨w.heap.size+1+1,k,none⟩ (.int .u32 ((q k:Int) / 4294967296))).there (w.heap.size+1) 0 137:=fun j hj=>by
      rw [World.frozen?_setCell,World.cell?_setCell_other _ _ _ _ (fun e=>by injection e;omega),hbn.cell (p:=⟨w.heap.size+1,0+j,none⟩) (by show w.heap.size+1<_;omega),hbn.frozen (p:=⟨w.heap.size+1,0+j,none⟩) (by show w.heap.size+1<_;omega)];exact hres j hj
     have h6':=(hbel.trans (hbn.mono (by omega))).setCell (p:=⟨w.heap.size+1+1,k,none⟩) (by simp) (.int .u32 ((q k:Int) / 4294967296))
     first
      | exact ⟨k+1,by omega,by go_num,h1,h2',h3',h4',h5',h6'⟩
      | (repeat apply Exists.intro
         refine ⟨?_,rfl⟩
         exact ⟨k+1,by omega,by go_num,h1,h2',h3',h4',h5',h6'⟩)
    case measure=>simp [intOf];omega
  · have hke:k=8:=by omega
    subst hke
    have hE:EngAt .u32 wr (w.heap.size+1+1) 0 (firstS rn q) (fun _=>0) 0:=⟨hrow.cong (first32_at q),hrest,hcnt,hcntf⟩
    have ht:wr.there (w.heap.size+1) 0 (engVals .u32 (firstS rn q) (fun _=>0) 0).toArray.size:=by simp only [List.size_toArray,engVals_len];exact hres
    have hi:=isz185 .u32 (firstS rn q) (fun _=>0) 0
    have hi':(Tryz.prog.info? 185).map (·.size)=some (engVals .u32 (firstS rn q) (fun _=>0) 0).length:=by rw [engVals_len];kernel_rfl
    have hone:=all_oneCell_toArray (engVals_one .u32 (firstS rn q) (fun _=>0) 0)
    clear hsq
    go_wp2_with (first
     | (refine wpList_load_mid rfl 185 _ rfl _ 0 rfl _ _ hE.range Tryz.underlying185 rfl hi' ?_)
     | (refine wpList_store_mid rfl 185 _ _ rfl _ 0 _ rfl rfl ht hi hone ?_))
    refine bodyPost_ret (results_cell_mid Tryz.results143 _ _ (w.heap.size+1) 0 _ _ rfl (World.rangeAt_setCells_same _ _ _ _ (by rw [engVals_len];exact hres)) Tryz.underlying185 rfl hi') rfl ⟨rfl,?_⟩
    exact below_setCells (by omega) _ _ _ (((Below.refl _ _).alloc (Nat.le_refl _) _).trans (hbel.mono (by omega)))
end Go.Proofs.YtbbikhlbkpjpjaaGreatDoor
namespace Go.Proofs.YtbbikhlbkpjpjaaGreatDoor
open Go.RowKit
theorem made_yes (g n:Nat) (hn:(n:Int)≠0) (w:World) (hc:w.cell? ⟨g,0,none⟩=some (.int .i64 n)):Calls Tryz.prog 161 #[.pointer (some ⟨g,0,none⟩)] w fun e w'=>e = .returned (.bool true)∧w'=w:=by
 have hn':((n:Int) != 0)=true:=by simpa using hn
 go_enter Tryz.func161,Tryz.ntmps161
 go_wp2
 go_ret
 exact ⟨by simp,rfl⟩
def hashVals (n:Nat) (s t:St):List Value := .int .i64 n :: (engVals .u32 s (fun _=>0) 0 ++ engVals .u64 t (fun _=>0) 0)
theorem built256 (s:St):Tryz.prog.built 206 [(0,.int .i64 256),(1,.agg (engVals .u32 s (fun _=>0) 0).toArray)]=some (hashVals 256 s zSt).toArray:=by kernel_rfl
theorem wpList_build_to {P:Program} {ops:Array Oper} {rest:List Oper} {o:Oper} {a:Act} {w:World} {Q:Exit→Act→World→Prop} (hg:o.guard=none) (t:TypeId) (parts:Array (Nat × Operand)) (ho:o.op = .build t parts) (cells:Array Value)
 (hf:P.built t (parts.map fun (i,x)=>(i,a.eval x)).toList=some cells) (h:wpList P ops Q rest (a.put o.dst (.agg cells)) w):wpList P ops Q (o :: rest) a w :=
 wpList_build hg t parts ho (by rw [hf];rfl) (by rw [hf];exact h)
theorem wpList_build2 {P:Program} {ops:Array Oper} {rest:List Oper} {o:Oper} {a:Act} {w:World} {Q:Exit→Act→World→Prop} (hg:o.guard=none) (t:TypeId) (i j:Nat) (x y:Operand) (ho:o.op = .build t #[(i,x),(j,y)]) (u v:Value) (hx:a.eval x=u) (hy:a.eval y=v) (cells:Array Value)
 (hf:P.built t [(i,u),(j,v)]=some cells) (h:wpList P ops Q rest (a.put o.dst (.agg cells)) w):wpList P ops Q (o :: rest) a w :=
 wpList_build_to hg t _ ho cells (by simp only [List.map_toArray,List.map_cons,List.map_nil,hx,hy,hf]) h
theorem hash_narrow (w:World) (n:Nat) (s t:St):EngAt .u32 (w.alloc (.cells (hashVals n s t).toArray 206)) w.heap.size 1 s (fun _=>0) 0 :=
 EngAt.of_range (fun j v hv=>by
  have hj:j<137:=by have:=(List.getElem?_eq_some_iff.1 hv).1;rwa [engVals_len] at this
  have:(hashVals n s t)[1+j]? = some v:=by
   rw [Nat.add_comm,hashVals,List.getElem?_cons_succ,List.getElem?_append_left (by rw [engVals_len];exact hj)];exact hv
  simp [this]) (fun j hj=>by simp)
theorem hash_bits (w:World) (n:Nat) (s t:St):(w.alloc (.cells (hashVals n s t).toArray 206)).cell? ⟨w.heap.size,0,none⟩=some (.int .i64 n):=by simp [hashVals]
set_option maxHeartbeats 400000 in
theorem new256_any (q:Nat→Nat) (hq:∀ j,q j<18446744073709551616) (w:World) (hsq:∀ j,j<8→w.cell? ⟨3,j,none⟩=some (.int .u64 (q j))) (hru:Rules32 w 2) :
 Calls Tryz.prog 146 #[.int .i64 256] w fun e w'=>∃ g,e = .returned (.pointer (some ⟨g,0,none⟩))∧w.heap.size≤g∧w'.cell? ⟨g,0,none⟩=some (.int .i64 256)∧EngAt .u32 w' g 1 (firstS rn q) (fun _=>0) 0∧Below w.heap.size w w':=by
 obtain ⟨p0,p1,p2,p3,p4,p5,p6,p7,p8,p9,p10,p11,p12,p13⟩:=hru
 go_enter Tryz.func146,Tryz.ntmps146
 go_wp2_with (first
  | (go_at_call 143;refine (start32_any q hq _ hsq).mono ?_;rintro e w' ⟨rfl,hb⟩;clear hsq)
  | (refine wpList_build2 rfl 206 0 1 (.tmp 6) (.tmp 8) rfl (.int .i64 256) (.agg (engVals .u32 (firstS rn q) (fun _=>0) 0).toArray) rfl rfl (hashVals 256 (firstS rn q) zSt).toArray (built256 (firstS rn q)) ?_))
 go_ret
 have e1:=hash_bits w' 256 (firstS rn q) zSt
 have e2:=hash_narrow w' 256 (firstS rn q) zSt
 exact ⟨w'.heap.size,rfl,hb.size,e1,e2,hb.alloc hb.size _⟩
end Go.Proofs.YtbbikhlbkpjpjaaGreatDoor
namespace Go.Proofs.YtbbikhlbkpjpjaaGreatDoor
open Go.RowKit
theorem RowAt.there_part {K:IntKind} {w:World} {b o n:Nat} {X:Nat→Nat} (h:RowAt K w b o n X) {i m:Nat} (hi:i+m≤n):w.there b (o+i) m:=fun j hj=>by
 have:=h (i+j) (by omega)
 rw [←Nat.add_assoc] at this
 rw [this.1];exact ⟨rfl,this.2⟩
def lenV:Value→Nat
 | .slice _ n _=>n
 | _=>0
theorem RowAt.st' {K:IntKind} {w:World} {b o:Nat} {s:St} (h:RowAt K w b o 8 s.at):w.cell? ⟨b,o,none⟩=some (.int K s.a)∧w.cell? ⟨b,o+1,none⟩=some (.int K s.b)∧w.cell? ⟨b,o+2,none⟩=some (.int K s.c)∧w.cell? ⟨b,o+3,none⟩=some (.int K s.d)∧w.cell? ⟨b,o+4,none⟩=some (.int K s.e)∧w.cell? ⟨b,o+5,none⟩=some (.int K s.f)∧w.cell? ⟨b,o+6,none⟩=some (.int K s.g)∧w.cell? ⟨b,o+7,none⟩=some (.int K s.h) :=
 ⟨(h 0 (by decide)).1,(h 1 (by decide)).1,(h 2 (by decide)).1,(h 3 (by decide)).1,(h 4 (by decide)).1,(h 5 (by decide)).1,(h 6 (by decide)).1,(h 7 (by decide)).1⟩
theorem store8_32 (w:World) (b o:Nat) (s:St) (ht:w.there b o 8):(storeCells ⟨b,o,none⟩ (St.vals .u32 s).toList).run Tryz.prog w = .ok () (w.setCells b o (St.vals .u32 s).toList):=by
 have:=run_storeCells_cells (P:=Tryz.prog) b o (St.vals .u32 s).toList 0 w (fun j hj=>(ht j hj).1) (fun j hj=>(ht j hj).2) (ints_one .u32 8 s.at)
 rw [Nat.add_zero] at this
 exact this
theorem Rules32.same {w1 w2:World} {B:Nat} (h:Rules32 w1 B) (hc:∀ j,w2.cell? ⟨B,j,none⟩=w1.cell? ⟨B,j,none⟩):Rules32 w2 B:=by
 unfold Rules32 at *
 simp only [hc]
 exact h
theorem begun32 {w w1:World} {b o:Nat} {s:St} {R:Nat→Nat} {c n:Nat} (hE:EngAt .u32 w b o s R c) (h:Below (w.alloc (.cells #[.int .i64 32,.int .i64 64,.int .u64 7,.int .u64 18,.int .u64 3,.int .u64 17,.int .u64 19,.int .u64 10,.int .u64 2,.int .u64 13,.int .u64 22,.int .u64 6,.int .u64 11,.int .u64 25] 189)).heap.size (w.alloc (.cells #[.int .i64 32,.int .i64 64,.int .u64 7,.int .u64 18,.int .u64 3,.int .u64 17,.int .u64 19,.int .u64 10,.int .u64 2,.int .u64 13,.int .u64 22,.int .u64 6,.int .u64 11,.int .u64 25] 189)) w1) :
 EngAt .u32 (w1.setCell ⟨b,o+136,none⟩ (.int .i64 ((c:Int)+n))) b o s R (c+n)∧Out b o 137 w (w1.setCell ⟨b,o+136,none⟩ (.int .i64 ((c:Int)+n)))∧Rules32 (w1.setCell ⟨b,o+136,none⟩ (.int .i64 ((c:Int)+n))) w.heap.size∧w.heap.size<w1.heap.size∧w1.cell? ⟨b,o+136,none⟩=some (.int .i64 c)∧w1.frozen? ⟨b,o+136,none⟩=false:=by
 have hl:b<w.heap.size:=block_lt_of_cell hE.cnt
 have h0:Below w.heap.size w w1:=((Below.refl _ _).alloc (Nat.le_refl _) _).trans (h.mono (by simp))
 have hs:=h.size
 simp only [World.size_alloc] at hs h
 have hR:Rules32 w1 w.heap.size:=Rules32.of_box h
 refine ⟨(hE.below h0).count (by omega),(Out.of_below h0 hl).trans (Out.setCell _ _ (by omega) (by omega)),?_,by omega,(hE.below h0).cnt,(hE.below h0).cntf⟩
 exact hR.same (fun q=>World.cell?_setCell_other _ _ _ _ (fun e=>by injection e with e1;omega))
set_option maxRecDepth 20000 in
set_option maxHeartbeats 1000000 in
theorem write32_A (K:Nat→Nat) (hK:∀ j,K j<18446744073709551616) (s:St) (hs:s.lt 4294967296) (R:Nat→Nat) (b o c n bb ob cap:Nat) (bs:Nat→Nat) (hbs:∀ j,bs j<256) (w:World)
 (hE:EngAt .u32 w b o s R c) (hcub:∀ j,j<80→w.cell? ⟨5,j,none⟩=some (.int .u64 (K j))) (hb3:5≠b) (hbb:bb≠b) (hcap:n≤cap) (hcn:c+n<4611686018427387904)
 (hcell:∀ j,j<n→w.cell? ⟨bb,ob+j,none⟩=some (.int .u8 (bs j))) (hh:c%64=0) :
 Calls Tryz.prog 144 #[.pointer (some ⟨b,o,none⟩),(.agg #[.int .i64 32,.int .i64 64,.int .u64 7,.int .u64 18,.int .u64 3,.int .u64 17,.int .u64 19,.int .u64 10,.int .u64 2,.int .u64 13,.int .u64 22,.int .u64 6,.int .u64 11,.int .u64 25]),.slice (some ⟨bb,ob,none⟩) n cap] w
  fun e w'=>e = .returned (.tuple #[])∧EngAt .u32 w' b o (tailE rn K s R n bs).1 (tailE rn K s R n bs).2 (c+n)∧Out b o 137 w w':=by
 go_enter Tryz.func144,Tryz.ntmps144
 go_wp2_with (go_at_call 157;refine (blockSize32_any _).mono ?_;rintro e w1 ⟨rfl,hb1⟩;obtain ⟨hE1,hO1,hR1,hsz1,hc1,hf1⟩:=begun32 (n:=n) hE hb1;clear hb1)
 clear hc1 hf1
 obtain ⟨w2,hw2⟩:∃ w2,w2=w1.setCell ⟨b,o+136,none⟩ (.int .i64 ((c:Int)+n)):=⟨_,rfl⟩
 rw [←hw2] at hE1 hO1 hR1 ⊢
 replace hsz1:w.heap.size<w2.heap.size:=by rw [hw2];simpa using hsz1
 clear hw2
 go_loopw [2] (fun v wr=>∃ i m p cp:Nat,v = .slice (some ⟨bb,p,none⟩) m cp∧Hid (n=i*64+m)∧Hid (m=0∨p=ob+i*64)∧m≤cp∧EngAt .u32 wr b o (loopS rn K s bs i) R (c+n)∧Out b o 137 w wr∧Rules32 wr w.heap.size∧w.heap.size<wr.heap.size) (fun v _=>lenV v)
 case atStart=>exact ⟨0,n,ob,cap,rfl,(Nat.zero_mul 64 ▸ (Nat.zero_add n).symm:n=0*64+n),(.inr (by simp):n=0∨ob=ob+0*64),hcap,hE1,hO1,hR1,hsz1⟩
 case round =>
  clear hE1 hO1 hR1 hsz1
  obtain ⟨i,m,p,cp,rfl,Hn,Hp,hm,hE1,hO1,hR1,hsz1⟩:=hrel
  have hmn:m≤n:=by have:=Hn.out;omega
  by_cases hlt:64≤m
  · have hsi:(loopS rn K s bs i).lt 4294967296:=loopS_lt (r:=rn) hs i
    have hcw:∀ j,j<80→wr.drew.cell? ⟨5,j,none⟩=some (.int .u64 (K j)):=fun j hj=>(hO1.cell' (block_lt_of_cell (hcub j hj)) hb3).trans (hcub j hj)
    have hcl:∀ j,j<64→wr.drew.cell? ⟨bb,p+j,none⟩=some (.int .u8 (bs (i*(2*Ru.m rn)+j))):=fun j hj=>by
     have h1:=hcell (i*64+j) (by have:=Hn.out;omega)
     have h2:=(hO1.cell' (q:=ob+(i*64+j)) (block_lt_of_cell h1) hbb).trans h1
     rw [←Nat.add_assoc,←Hp.out.resolve_left (by omega)] at h2
     exact h2
    have hmix:=mix32_any K hK (loopS rn K s bs i) hsi bb p cp (fun j=>bs (i*(2*Ru.m rn)+j)) (fun j=>hbs _) wr.drew hcw hcl
    obtain ⟨q0,q1,q2,q3,q4,q5,q6,q7⟩:=hE1.st.st'
    obtain ⟨x,hx⟩:∃ x,x=loopS rn K s bs i:=⟨_,rfl⟩
    have HX:Hid (x=loopS rn K s bs i):=hx
    rw [←hx] at hmix q0 q1 q2 q3 q4 q5 q6 q7
    clear hx hcl hcw hcell hcub
    obtain ⟨p0,p1,p2,p3,p4,p5,p6,p7,p8,p9,p10,p11,p12,p13⟩:=hR1
    have hbw:Below wr.heap.size wr wr.drew:=(Below.refl _ _).drew
    go_wp2
    go_region_with ((go_at_call 158;refine hmix.mono ?_;rintro e w' ⟨rfl,hbm⟩;have hE5:=hE1.below (below_next hbw hbm);have hst:=store8_32 w' b o (blockS rn K (fun j=>bs (i*(2*Ru.m rn)+j)) x) hE5.st.there))
    all_goals
     have hE6:=hE5.state (blockS rn K (fun j=>bs (i*(2*Ru.m rn)+j)) x)
     have hO6:Out b o 137 w (w'.setCells b o (St.vals .u32 (blockS rn K (fun j=>bs (i*(2*Ru.m rn)+j)) x)).toList):=hO1.trans ((Out.of_below (below_next hbw hbm) (block_lt_of_cell hE1.cnt)).trans (Out.setCells _ _ (Nat.le_refl _) (by rw [vals_ints,ints_len];omega)))
     have hR6:Rules32 (w'.setCells b o (St.vals .u32 (blockS rn K (fun j=>bs (i*(2*Ru.m rn)+j)) x)).toList) w.heap.size:=(Rules32.below ⟨p0,p1,p2,p3,p4,p5,p6,p7,p8,p9,p10,p11,p12,p13⟩ (below_next hbw hbm) hsz1).same (fun q=>World.cell?_of_block (heap_setCells_other b _ _ _ _ (Nat.ne_of_gt (block_lt_of_cell hE.cnt))))
     have hZ6:w.heap.size<(w'.setCells b o (St.vals .u32 (blockS rn K (fun j=>bs (i*(2*Ru.m rn)+j)) x)).toList).heap.size:=by rw [(setCells_same b _ _ _).2.2.2];have:=hbm.size;simp only [World.size_drew] at this;omega
     clear hst hE5 p0 p1 p2 p3 p4 p5 p6 p7 p8 p9 p10 p11 p12 p13 q0 q1 q2 q3 q4 q5 q6 q7 hmix hbw hbm
     go_wp2
     go_roundw
     case rel =>
      have hn':n=(i+1)*64+(m - 64):=by have:=Hn.out;omega
      have hE7:EngAt .u32 (w'.setCells b o (St.vals .u32 (blockS rn K (fun j=>bs (i*(2*Ru.m rn)+j)) x)).toList) b o (loopS rn K s bs (i+1)) R (c+n):=by
       show EngAt _ _ _ _ (blockS rn K (fun j=>bs (i*(2*Ru.m rn)+j)) (loopS rn K s bs i)) _ _
       rw [←HX.out];exact hE6
      by_cases hcp:cp=64
      · exact ⟨i+1,m - 64,p,cp - 64,by rw [if_pos hcp],hn',.inl (by omega),by omega,hE7,hO6,hR6,hZ6⟩
      · exact ⟨i+1,m - 64,p+64,cp - 64,by rw [if_neg hcp],hn',.inr (by have:=Hp.out;omega),by omega,hE7,hO6,hR6,hZ6⟩
     case measure=>simp [lenV];omega
  · have hi:i=n / 64∧m=n%64:=by have:=Hn.out;omega
    have hsrc:Src wr (some ⟨bb,p,none⟩) m (fun j=>bs (n / (2*Ru.m rn)*(2*Ru.m rn)+j)):=by
     by_cases h0:m=0
     · exact .inl h0
     · refine .inr ⟨bb,p,rfl,fun j hj => ?_⟩
       have h1:=hcell (i*64+j) (by have:=Hn.out;omega)
       have h2:=(hO1.cell' (q:=ob+(i*64+j)) (block_lt_of_cell h1) hbb).trans h1
       rw [←Nat.add_assoc,←Hp.out.resolve_left h0,hi.1] at h2
       exact h2
    have hE8:=hE1.bytes 0 m (fun j=>bs (n / (2*Ru.m rn)*(2*Ru.m rn)+j)) (by omega)
    have hth:=hE1.rest.there
    have hO8:Out b o 137 w (wr.setCells b (o+8) (ints .u8 m (fun j=>bs (n / (2*Ru.m rn)*(2*Ru.m rn)+j)))):=hO1.trans (Out.setCells _ _ (by omega) (by rw [ints_len];omega))
    have hmin:m=Nat.min m 128:=(Nat.min_eq_left (by omega)).symm
    have HI:Hid (i=n / 64∧m=n%64):=hi
    have HE:Hid (EngAt .u32 (wr.setCells b (o+8) (ints .u8 m (fun j=>bs (n / (2*Ru.m rn)*(2*Ru.m rn)+j)))) b o (loopS rn K s bs i) (over R 0 m (fun j=>bs (n / (2*Ru.m rn)*(2*Ru.m rn)+j))) (c+n)):=hE8
    have HO:Hid (Out b o 137 w (wr.setCells b (o+8) (ints .u8 m (fun j=>bs (n / (2*Ru.m rn)*(2*Ru.m rn)+j))))):=hO8
    have hmi:Hid (m=Nat.min m 128):=hmin
    clear hi hE8 hO8 hcell hcub hmin
    go_wp2_with (refine wpList_copy_bytes rfl _ _ 22 22 rfl 5 Tryz.underlying22 (by kernel_rfl) b (o+8) 128 128 (some ⟨bb,p,none⟩) m cp rfl rfl m (fun j=>bs (n / (2*Ru.m rn)*(2*Ru.m rn)+j)) hsrc hmi.out hth ?_)
    go_end0
    refine ⟨rfl,?_,HO.out⟩
    have e:tailE rn K s R n bs=(loopS rn K s bs i,over R 0 m (fun j=>bs (n / (2*Ru.m rn)*(2*Ru.m rn)+j))):=by rw [HI.out.1,HI.out.2];rfl
    rw [e]
    exact HE.out
theorem Rules64.same {w1 w2:World} {B:Nat} (h:Rules64 w1 B) (hc:∀ j,w2.cell? ⟨B,j,none⟩=w1.cell? ⟨B,j,none⟩):Rules64 w2 B:=by
 unfold Rules64 at *
 simp only [hc]
 exact h
end Go.Proofs.YtbbikhlbkpjpjaaGreatDoor
