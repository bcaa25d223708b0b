/- What the proof stands on: HStart, HHash, HWriteA, HWriteC, HWriteN, HWrite, HPad, HSum, HTop, HRefSmall, HRefWords. -/
import Derived.Test.YtibdhadbflfdpaaDoorBaseM
import Derived.ArgAppend
import Derived.Deep.AppendLies
import Derived.Deep.Cut
import Derived.Deep.RegionLawGrows
import Derived.Deep.RegionWith
namespace Go.Proofs.YtibdhadbflfdpaaDoor
open Go.RowKit
def engVals (K:IntKind) (s:St) (R:Nat→Nat) (c:Nat):List Value:=ints K 8 s.at ++ ints .u8 128 R ++ [.int .i64 c]
theorem engVals_len (K:IntKind) (s:St) (R:Nat→Nat) (c:Nat):(engVals K s R c).length=137:=by simp [engVals,ints_len]
theorem engVals_one (K:IntKind) (s:St) (R:Nat→Nat) (c:Nat):∀ v∈engVals K s R c,v.oneCell'=true:=fun v hv=>by
 simp only [engVals,List.mem_append,List.mem_singleton] at hv
 rcases hv with (hv | hv) | rfl
 · exact ints_one _ _ _ v hv
 · exact ints_one _ _ _ v hv
 · rfl
theorem engVals_st (K:IntKind) (s:St) (R:Nat→Nat) (c j:Nat) (h:j<8):(engVals K s R c)[j]? = some (.int K (s.at j)):=by
 unfold engVals
 rw [List.append_assoc,List.getElem?_append_left (by rw [ints_len];exact h)];exact ints_at _ _ _ j h
theorem engVals_rest (K:IntKind) (s:St) (R:Nat→Nat) (c j:Nat) (h:j<128):(engVals K s R c)[8+j]? = some (.int .u8 (R j)):=by
 unfold engVals
 rw [List.append_assoc,List.getElem?_append_right (by rw [ints_len];omega),ints_len,List.getElem?_append_left (by rw [ints_len];omega),show 8+j - 8=j by omega];exact ints_at _ _ _ j h
theorem engVals_cnt (K:IntKind) (s:St) (R:Nat→Nat) (c:Nat):(engVals K s R c)[136]? = some (.int .i64 c):=by
 unfold engVals
 rw [List.getElem?_append_right (by simp [ints_len])];simp [ints_len]
theorem EngAt.of_range {K:IntKind} {w:World} {b o:Nat} {s:St} {R:Nat→Nat} {c:Nat} (h:w.rangeAt b o (engVals K s R c)) (hf:∀ j,j<137→w.frozen? ⟨b,o+j,none⟩=false):EngAt K w b o s R c :=
 ⟨fun j hj=>⟨h j _ (engVals_st K s R c j hj),hf j (by omega)⟩,fun j hj=>by rw [Nat.add_assoc];exact ⟨h (8+j) _ (engVals_rest K s R c j hj),hf _ (by omega)⟩,h 136 _ (engVals_cnt K s R c),hf 136 (by decide)⟩
theorem EngAt.range {K:IntKind} {w:World} {b o:Nat} {s:St} {R:Nat→Nat} {c:Nat} (h:EngAt K w b o s R c):w.rangeAt b o (engVals K s R c):=fun j v hv=>by
 have hj:j<137:=by have:=(List.getElem?_eq_some_iff.1 hv).1;rwa [engVals_len] at this
 by_cases h1:j<8
 · rw [engVals_st K s R c j h1] at hv;rw [←hv];exact (h.st j h1).1
 · by_cases h2:j=136
   · subst h2;rw [engVals_cnt K s R c] at hv;rw [←hv];exact h.cnt
   · have:=(h.rest (j - 8) (by omega)).1
     have hv':=engVals_rest K s R c (j - 8) (by omega)
     rw [show 8+(j - 8)=j by omega] at hv'
     rw [hv'] at hv
     rw [←hv,show o+j=o+8+(j - 8) by omega];exact this
theorem EngAt.there {K:IntKind} {w:World} {b o:Nat} {s:St} {R:Nat→Nat} {c:Nat} (h:EngAt K w b o s R c):w.there b o 137:=fun j hj=>by
 by_cases h1:j<8
 · rw [(h.st j h1).1];exact ⟨rfl,(h.st j h1).2⟩
 · by_cases h2:j=136
   · subst h2;rw [h.cnt];exact ⟨rfl,h.cntf⟩
   · have:=h.rest (j - 8) (by omega)
     rw [show o+8+(j - 8)=o+j by omega] at this
     rw [this.1];exact ⟨rfl,this.2⟩
theorem EngAt.fresh {K:IntKind} (w:World) (s:St) (R:Nat→Nat) (c:Nat) (t:TypeId):EngAt K (w.alloc (.cells (engVals K s R c).toArray t)) w.heap.size 0 s R c :=
 EngAt.of_range (fun j v hv=>by rw [Nat.zero_add];simp [hv]) (fun j hj=>by simp)
theorem EngAt.stored {K:IntKind} {w:World} {b o:Nat} (ht:w.there b o 137) (s:St) (R:Nat→Nat) (c:Nat):EngAt K (w.setCells b o (engVals K s R c)) b o s R c :=
 EngAt.of_range (World.rangeAt_setCells_same _ _ _ _ (by rw [engVals_len];exact ht)) (fun j hj=>by rw [World.frozen?_setCells];exact (ht j hj).2)
theorem RowAt.cong {K:IntKind} {w:World} {b o n:Nat} {X Y:Nat→Nat} (h:RowAt K w b o n X) (e:∀ j,j<n→X j=Y j):RowAt K w b o n Y:=fun j hj=>by rw [←e j hj];exact h j hj
def zSt:St:=⟨0,0,0,0,0,0,0,0⟩
def firstS (r:Ru) (q:Nat→Nat):St:=⟨q 0 / 2 ^ (64 - r.m),q 1 / 2 ^ (64 - r.m),q 2 / 2 ^ (64 - r.m),q 3 / 2 ^ (64 - r.m),q 4 / 2 ^ (64 - r.m),q 5 / 2 ^ (64 - r.m),q 6 / 2 ^ (64 - r.m),q 7 / 2 ^ (64 - r.m)⟩
def stG (m:Nat) (q:Nat→Nat):Nat→Nat→Nat
 | 0=>fun _=>0
 | k+1=>upd (stG m q k) k (q k / 2 ^ (64 - m))
def zeng32:Array Value:=(engVals .u32 zSt (fun _=>0) 0).toArray
theorem zero59 (w:World):Sem.run Tryd.prog (zeroValue 59) w = .ok (.agg zeng32) w:=by kernel_rfl
theorem isz59 (K:IntKind) (s:St) (R:Nat→Nat) (c:Nat):(Tryd.prog.info? 59).map (·.size)=some (engVals K s R c).toArray.size:=by simp only [List.size_toArray,engVals_len];kernel_rfl
theorem first32_at (q:Nat→Nat) (j:Nat) (h:j<8):stG 32 q 8 j=(firstS rn q).at j:=by
 match j,h with
 | 0,_=>rfl
 | 1,_=>rfl
 | 2,_=>rfl
 | 3,_=>rfl
 | 4,_=>rfl
 | 5,_=>rfl
 | 6,_=>rfl
 | 7,_=>rfl
set_option maxRecDepth 20000 in
set_option maxHeartbeats 1000000 in
theorem start32_any (q:Nat→Nat) (hq:∀ j,q j<18446744073709551616) (w:World) (hsq:∀ j,j<8→w.cell? ⟨1,j,none⟩=some (.int .u64 (q j))) :
 Calls Tryd.prog 34 #[(.agg #[.int .i64 32,.int .i64 64,.int .u64 7,.int .u64 18,.int .u64 3,.int .u64 17,.int .u64 19,.int .u64 10,.int .u64 2,.int .u64 13,.int .u64 22,.int .u64 6,.int .u64 11,.int .u64 25])] w fun e w'=>e = .returned (.agg (engVals .u32 (firstS rn q) (fun _=>0) 0).toArray)∧Below w.heap.size w w':=by
 have hz:=zero59
 have h2:1<w.heap.size:=block_lt_of_cell (hsq 0 (by decide))
 go_enter Tryd.func34,Tryd.ntmps34
 go_wp2
 clear hz
 go_loopw [5] (fun i wr=>∃ k:Nat,k≤8∧i = .int .i64 k∧RowAt .u32 wr (w.heap.size+1+1) 0 8 (stG 32 q k)∧RowAt .u8 wr (w.heap.size+1+1) 8 128 (fun _=>0)∧wr.cell? ⟨w.heap.size+1+1,136,none⟩=some (.int .i64 0)∧wr.frozen? ⟨w.heap.size+1+1,136,none⟩=false∧wr.there (w.heap.size+1) 0 137∧Below (w.heap.size+1) (w.alloc (.cells #[.int .i64 32,.int .i64 64,.int .u64 7,.int .u64 18,.int .u64 3,.int .u64 17,.int .u64 19,.int .u64 10,.int .u64 2,.int .u64 13,.int .u64 22,.int .u64 6,.int .u64 11,.int .u64 25] 63)) wr) (fun i _=>8 - (intOf i).toNat)
 case atStart =>
  have e1:=EngAt.fresh (K := .u32) (w.alloc (.cells #[.int .i64 32,.int .i64 64,.int .u64 7,.int .u64 18,.int .u64 3,.int .u64 17,.int .u64 19,.int .u64 10,.int .u64 2,.int .u64 13,.int .u64 22,.int .u64 6,.int .u64 11,.int .u64 25] 63)) zSt (fun _=>0) 0 59
  have e2:=EngAt.fresh (K := .u32) ((w.alloc (.cells #[.int .i64 32,.int .i64 64,.int .u64 7,.int .u64 18,.int .u64 3,.int .u64 17,.int .u64 19,.int .u64 10,.int .u64 2,.int .u64 13,.int .u64 22,.int .u64 6,.int .u64 11,.int .u64 25] 63)).alloc (.cells zeng32 59)) zSt (fun _=>0) 0 59
  have e3:=e1.below ((Below.refl _ _).alloc (Nat.le_refl _) (.cells zeng32 59))
  simp only [World.size_alloc] at e2 e3
  refine ⟨0,Nat.zero_le _,rfl,fun j hj => ?_,?_,e2.cnt,e2.cntf,e3.there,((Below.refl _ _).alloc (by simp) _).alloc (by simp) _⟩
  · have h0:zSt.at j=0:=by
     match j,hj with
     | 0,_=>rfl
     | 1,_=>rfl
     | 2,_=>rfl
     | 3,_=>rfl
     | 4,_=>rfl
     | 5,_=>rfl
     | 6,_=>rfl
     | 7,_=>rfl
    have:=e2.st j hj
    rw [h0] at this
    exact this
  · exact e2.rest
 case round =>
  obtain ⟨k,hk,rfl,hrow,hrest,hcnt,hcntf,hres,hbel⟩:=hrel
  by_cases hlt:k<8
  · obtain ⟨p0,p1,p2,p3,p4,p5,p6,p7,p8,p9,p10,p11,p12,p13⟩:=rbox32 hbel _ rfl
    have hN:w.heap.size+1+1<wr.heap.size:=block_lt_of_cell hcnt
    have g0:w.heap.size<wr.heap.size:=by omega
    have g2:1<wr.heap.size:=by omega
    have hsk:wr.cell? ⟨1,k,none⟩=some (.int .u64 (q k)):=(hbel.cell (p:=⟨1,k,none⟩) (Nat.lt_succ_of_lt h2)).trans ((World.cell?_alloc_lt _ _ _ h2).trans (hsq k hlt))
    have hS:∀ w':World,Near (w.heap.size+1+1) k wr w'→∀ j,w'.cell? ⟨1,j,none⟩=wr.cell? ⟨1,j,none⟩:=fun w' h j=>h.cell _ _ g2 (fun e=>by omega)
    have hS':∀ w':World,Near (w.heap.size+1+1) k wr w'→∀ j,w'.cell? ⟨w.heap.size,j,none⟩=wr.cell? ⟨w.heap.size,j,none⟩:=fun w' h j=>h.cell _ _ g0 (fun e=>by omega)
    have hF:∀ w':World,Near (w.heap.size+1+1) k wr w'→∀ j,w'.frozen? ⟨w.heap.size+1+1,j,none⟩=wr.frozen? ⟨w.heap.size+1+1,j,none⟩:=fun w' h j=>h.frozen _ _ hN
    have hb0:Below wr.heap.size wr wr.drew:=(Below.refl _ _).drew
    obtain ⟨rg,rf⟩:=hrow k (by omega)
    rw [Nat.zero_add] at rg rf
    have hqk:=hq k
    have ki:(0:Int)≤(k:Int)∧(k:Int)<8:=by omega
    clear hsq
    go_wp2
    go_region_held3 (fun w'=>Near (w.heap.size+1+1) k wr w') (first | exact Near.of_below (by assumption) | exact Near.set (by assumption) _) (first
     | (go_at_call 45;refine (highest32_any _ hqk _).mono ?_;rintro e w' ⟨rfl,hb⟩;have hbn:=below_next (W:=wr) (by assumption) hb;have rgn:=(hbn.cell (p:=⟨w.heap.size+1+1,k,none⟩) hN).trans rg))
    clear hS hS' hF hb0 hsk p0 p1 p2 p3 p4 p5 p6 p7 p8 p9 p10 p11 p12 p13
    go_wp2
    go_roundw
    case rel =>
     have h1:=(hrow.below hbn hN).set (i:=k) (by omega) (v:=((q k:Int) / 4294967296)) (u:=q k / 2 ^ (64 - 32)) (by simp)
     rw [Nat.zero_add] at h1
     have h2':RowAt .u8 (w'.setCell ⟨w.heap.size+1+1,k,none⟩ (.int .u32 ((q k:Int) / 4294967296))) (w.heap.size+1+1) 8 128 (fun _=>0):=(hrest.below hbn hN).apart k [.int .u32 ((q k:Int) / 4294967296)] (.inr (by simp;omega))
     have h3':(w'.setCell ⟨w.heap.size+1+1,k,none⟩ (.int .u32 ((q k:Int) / 4294967296))).cell? ⟨w.heap.size+1+1,136,none⟩=some (.int .i64 0):=by
      rw [World.cell?_setCell_other _ _ _ _ (fun e=>by injection e;omega)];exact (hbn.cell (p:=⟨w.heap.size+1+1,136,none⟩) hN).trans hcnt
     have h4':(w'.setCell ⟨w.heap.size+1+1,k,none⟩ (.int .u32 ((q k:Int) / 4294967296))).frozen? ⟨w.heap.size+1+1,136,none⟩=false:=by
      rw [World.frozen?_setCell];exact (hbn.frozen (p:=⟨w.heap.size+1+1,136,none⟩) hN).trans hcntf
     have h5':(w'.setCell ⟨w.heap.size+1+1,k,none⟩ (.int .u32 ((q k:Int) / 4294967296))).there (w.heap.size+1) 0 137:=fun j hj=>by
      rw [World.frozen?_setCell,World.cell?_setCell_other _ _ _ _ (fun e=>by injection e;omega),hbn.cell (p:=⟨w.heap.size+1,0+j,none⟩) (by show w.heap.size+1<_;omega),hbn.frozen (p:=⟨w.heap.size+1,0+j,none⟩) (by show w.heap.size+1<_;omega)];exact hres j hj
     have h6':=(hbel.trans (hbn.mono (by omega))).setCell (p:=⟨w.heap.size+1+1,k,none⟩) (by simp) (.int .u32 ((q k:Int) / 4294967296))
     first
      | exact ⟨k+1,by omega,by go_num,h1,h2',h3',h4',h5',h6'⟩
      | (repeat apply Exists.intro
         refine ⟨?_,rfl⟩
         exact ⟨k+1,by omega,by go_num,h1,h2',h3',h4',h5',h6'⟩)
    case measure=>simp [intOf];omega
  · have hke:k=8:=by omega
    subst hke
    have hE:EngAt .u32 wr (w.heap.size+1+1) 0 (firstS rn q) (fun _=>0) 0:=⟨hrow.cong (first32_at q),hrest,hcnt,hcntf⟩
    have ht:wr.there (w.heap.size+1) 0 (engVals .u32 (firstS rn q) (fun _=>0) 0).toArray.size:=by simp only [List.size_toArray,engVals_len];exact hres
    have hi:=isz59 .u32 (firstS rn q) (fun _=>0) 0
    have hi':(Tryd.prog.info? 59).map (·.size)=some (engVals .u32 (firstS rn q) (fun _=>0) 0).length:=by rw [engVals_len];kernel_rfl
    have hone:=all_oneCell_toArray (engVals_one .u32 (firstS rn q) (fun _=>0) 0)
    clear hsq
    go_wp2_with (first
     | (refine wpList_load_mid rfl 59 _ rfl _ 0 rfl _ _ hE.range Tryd.underlying59 rfl hi' ?_)
     | (refine wpList_store_mid rfl 59 _ _ rfl _ 0 _ rfl rfl ht hi hone ?_))
    refine bodyPost_ret (results_cell_mid Tryd.results34 _ _ (w.heap.size+1) 0 _ _ rfl (World.rangeAt_setCells_same _ _ _ _ (by rw [engVals_len];exact hres)) Tryd.underlying59 rfl hi') rfl ⟨rfl,?_⟩
    exact below_setCells (by omega) _ _ _ (((Below.refl _ _).alloc (Nat.le_refl _) _).trans (hbel.mono (by omega)))
end Go.Proofs.YtibdhadbflfdpaaDoor
namespace Go.Proofs.YtibdhadbflfdpaaDoor
open Go.RowKit
theorem made_yes (g n:Nat) (hn:(n:Int)≠0) (w:World) (hc:w.cell? ⟨g,0,none⟩=some (.int .i64 n)):Calls Tryd.prog 75 #[.pointer (some ⟨g,0,none⟩)] w fun e w'=>e = .returned (.bool true)∧w'=w:=by
 have hn':((n:Int) != 0)=true:=by simpa using hn
 go_enter Tryd.func75,Tryd.ntmps75
 go_wp2
 go_ret
 exact ⟨by simp,rfl⟩
def hashVals (n:Nat) (s t:St):List Value := .int .i64 n :: (engVals .u32 s (fun _=>0) 0 ++ engVals .u64 t (fun _=>0) 0)
theorem built256 (s:St):Tryd.prog.built 106 [(0,.int .i64 256),(1,.agg (engVals .u32 s (fun _=>0) 0).toArray)]=some (hashVals 256 s zSt).toArray:=by kernel_rfl
theorem wpList_build_to {P:Program} {ops:Array Oper} {rest:List Oper} {o:Oper} {a:Act} {w:World} {Q:Exit→Act→World→Prop} (hg:o.guard=none) (t:TypeId) (parts:Array (Nat × Operand)) (ho:o.op = .build t parts) (cells:Array Value)
 (hf:P.built t (parts.map fun (i,x)=>(i,a.eval x)).toList=some cells) (h:wpList P ops Q rest (a.put o.dst (.agg cells)) w):wpList P ops Q (o :: rest) a w :=
 wpList_build hg t parts ho (by rw [hf];rfl) (by rw [hf];exact h)
theorem wpList_build2 {P:Program} {ops:Array Oper} {rest:List Oper} {o:Oper} {a:Act} {w:World} {Q:Exit→Act→World→Prop} (hg:o.guard=none) (t:TypeId) (i j:Nat) (x y:Operand) (ho:o.op = .build t #[(i,x),(j,y)]) (u v:Value) (hx:a.eval x=u) (hy:a.eval y=v) (cells:Array Value)
 (hf:P.built t [(i,u),(j,v)]=some cells) (h:wpList P ops Q rest (a.put o.dst (.agg cells)) w):wpList P ops Q (o :: rest) a w :=
 wpList_build_to hg t _ ho cells (by simp only [List.map_toArray,List.map_cons,List.map_nil,hx,hy,hf]) h
theorem hash_narrow (w:World) (n:Nat) (s t:St):EngAt .u32 (w.alloc (.cells (hashVals n s t).toArray 106)) w.heap.size 1 s (fun _=>0) 0 :=
 EngAt.of_range (fun j v hv=>by
  have hj:j<137:=by have:=(List.getElem?_eq_some_iff.1 hv).1;rwa [engVals_len] at this
  have:(hashVals n s t)[1+j]? = some v:=by
   rw [Nat.add_comm,hashVals,List.getElem?_cons_succ,List.getElem?_append_left (by rw [engVals_len];exact hj)];exact hv
  simp [this]) (fun j hj=>by simp)
theorem hash_bits (w:World) (n:Nat) (s t:St):(w.alloc (.cells (hashVals n s t).toArray 106)).cell? ⟨w.heap.size,0,none⟩=some (.int .i64 n):=by simp [hashVals]
set_option maxHeartbeats 400000 in
theorem new256_any (q:Nat→Nat) (hq:∀ j,q j<18446744073709551616) (w:World) (hsq:∀ j,j<8→w.cell? ⟨1,j,none⟩=some (.int .u64 (q j))) (hru:Rules32 w 0) :
 Calls Tryd.prog 64 #[.int .i64 256] w fun e w'=>∃ g,e = .returned (.pointer (some ⟨g,0,none⟩))∧w.heap.size≤g∧w'.cell? ⟨g,0,none⟩=some (.int .i64 256)∧EngAt .u32 w' g 1 (firstS rn q) (fun _=>0) 0∧Below w.heap.size w w':=by
 obtain ⟨p0,p1,p2,p3,p4,p5,p6,p7,p8,p9,p10,p11,p12,p13⟩:=hru
 go_enter Tryd.func64,Tryd.ntmps64
 go_wp2_with (first
  | (go_at_call 34;refine (start32_any q hq _ hsq).mono ?_;rintro e w' ⟨rfl,hb⟩;clear hsq)
  | (refine wpList_build2 rfl 106 0 1 (.tmp 6) (.tmp 8) rfl (.int .i64 256) (.agg (engVals .u32 (firstS rn q) (fun _=>0) 0).toArray) rfl rfl (hashVals 256 (firstS rn q) zSt).toArray (built256 (firstS rn q)) ?_))
 go_ret
 have e1:=hash_bits w' 256 (firstS rn q) zSt
 have e2:=hash_narrow w' 256 (firstS rn q) zSt
 exact ⟨w'.heap.size,rfl,hb.size,e1,e2,hb.alloc hb.size _⟩
end Go.Proofs.YtibdhadbflfdpaaDoor
namespace Go.Proofs.YtibdhadbflfdpaaDoor
open Go.RowKit
theorem RowAt.there_part {K:IntKind} {w:World} {b o n:Nat} {X:Nat→Nat} (h:RowAt K w b o n X) {i m:Nat} (hi:i+m≤n):w.there b (o+i) m:=fun j hj=>by
 have:=h (i+j) (by omega)
 rw [←Nat.add_assoc] at this
 rw [this.1];exact ⟨rfl,this.2⟩
def lenV:Value→Nat
 | .slice _ n _=>n
 | _=>0
theorem RowAt.st' {K:IntKind} {w:World} {b o:Nat} {s:St} (h:RowAt K w b o 8 s.at):w.cell? ⟨b,o,none⟩=some (.int K s.a)∧w.cell? ⟨b,o+1,none⟩=some (.int K s.b)∧w.cell? ⟨b,o+2,none⟩=some (.int K s.c)∧w.cell? ⟨b,o+3,none⟩=some (.int K s.d)∧w.cell? ⟨b,o+4,none⟩=some (.int K s.e)∧w.cell? ⟨b,o+5,none⟩=some (.int K s.f)∧w.cell? ⟨b,o+6,none⟩=some (.int K s.g)∧w.cell? ⟨b,o+7,none⟩=some (.int K s.h) :=
 ⟨(h 0 (by decide)).1,(h 1 (by decide)).1,(h 2 (by decide)).1,(h 3 (by decide)).1,(h 4 (by decide)).1,(h 5 (by decide)).1,(h 6 (by decide)).1,(h 7 (by decide)).1⟩
theorem store8_32 (w:World) (b o:Nat) (s:St) (ht:w.there b o 8):(storeCells ⟨b,o,none⟩ (St.vals .u32 s).toList).run Tryd.prog w = .ok () (w.setCells b o (St.vals .u32 s).toList):=by
 have:=run_storeCells_cells (P:=Tryd.prog) b o (St.vals .u32 s).toList 0 w (fun j hj=>(ht j hj).1) (fun j hj=>(ht j hj).2) (ints_one .u32 8 s.at)
 rw [Nat.add_zero] at this
 exact this
theorem Rules32.same {w1 w2:World} {B:Nat} (h:Rules32 w1 B) (hc:∀ j,w2.cell? ⟨B,j,none⟩=w1.cell? ⟨B,j,none⟩):Rules32 w2 B:=by
 unfold Rules32 at *
 simp only [hc]
 exact h
theorem begun32 {w w1:World} {b o:Nat} {s:St} {R:Nat→Nat} {c n:Nat} (hE:EngAt .u32 w b o s R c) (h:Below (w.alloc (.cells #[.int .i64 32,.int .i64 64,.int .u64 7,.int .u64 18,.int .u64 3,.int .u64 17,.int .u64 19,.int .u64 10,.int .u64 2,.int .u64 13,.int .u64 22,.int .u64 6,.int .u64 11,.int .u64 25] 63)).heap.size (w.alloc (.cells #[.int .i64 32,.int .i64 64,.int .u64 7,.int .u64 18,.int .u64 3,.int .u64 17,.int .u64 19,.int .u64 10,.int .u64 2,.int .u64 13,.int .u64 22,.int .u64 6,.int .u64 11,.int .u64 25] 63)) w1) :
 EngAt .u32 (w1.setCell ⟨b,o+136,none⟩ (.int .i64 ((c:Int)+n))) b o s R (c+n)∧Out b o 137 w (w1.setCell ⟨b,o+136,none⟩ (.int .i64 ((c:Int)+n)))∧Rules32 (w1.setCell ⟨b,o+136,none⟩ (.int .i64 ((c:Int)+n))) w.heap.size∧w.heap.size<w1.heap.size∧w1.cell? ⟨b,o+136,none⟩=some (.int .i64 c)∧w1.frozen? ⟨b,o+136,none⟩=false:=by
 have hl:b<w.heap.size:=block_lt_of_cell hE.cnt
 have h0:Below w.heap.size w w1:=((Below.refl _ _).alloc (Nat.le_refl _) _).trans (h.mono (by simp))
 have hs:=h.size
 simp only [World.size_alloc] at hs h
 have hR:Rules32 w1 w.heap.size:=Rules32.of_box h
 refine ⟨(hE.below h0).count (by omega),(Out.of_below h0 hl).trans (Out.setCell _ _ (by omega) (by omega)),?_,by omega,(hE.below h0).cnt,(hE.below h0).cntf⟩
 exact hR.same (fun q=>World.cell?_setCell_other _ _ _ _ (fun e=>by injection e with e1;omega))
set_option maxRecDepth 20000 in
set_option maxHeartbeats 1000000 in
theorem write32_A (K:Nat→Nat) (hK:∀ j,K j<18446744073709551616) (s:St) (hs:s.lt 4294967296) (R:Nat→Nat) (b o c n bb ob cap:Nat) (bs:Nat→Nat) (hbs:∀ j,bs j<256) (w:World)
 (hE:EngAt .u32 w b o s R c) (hcub:∀ j,j<80→w.cell? ⟨2,j,none⟩=some (.int .u64 (K j))) (hb3:2≠b) (hbb:bb≠b) (hcap:n≤cap) (hcn:c+n<4611686018427387904)
 (hcell:∀ j,j<n→w.cell? ⟨bb,ob+j,none⟩=some (.int .u8 (bs j))) (hh:c%64=0) :
 Calls Tryd.prog 35 #[.pointer (some ⟨b,o,none⟩),(.agg #[.int .i64 32,.int .i64 64,.int .u64 7,.int .u64 18,.int .u64 3,.int .u64 17,.int .u64 19,.int .u64 10,.int .u64 2,.int .u64 13,.int .u64 22,.int .u64 6,.int .u64 11,.int .u64 25]),.slice (some ⟨bb,ob,none⟩) n cap] w
  fun e w'=>e = .returned (.tuple #[])∧EngAt .u32 w' b o (tailE rn K s R n bs).1 (tailE rn K s R n bs).2 (c+n)∧Out b o 137 w w':=by
 go_enter Tryd.func35,Tryd.ntmps35
 go_wp2_with (go_at_call 46;refine (blockSize32_any _).mono ?_;rintro e w1 ⟨rfl,hb1⟩;obtain ⟨hE1,hO1,hR1,hsz1,hc1,hf1⟩:=begun32 (n:=n) hE hb1;clear hb1)
 clear hc1 hf1
 obtain ⟨w2,hw2⟩:∃ w2,w2=w1.setCell ⟨b,o+136,none⟩ (.int .i64 ((c:Int)+n)):=⟨_,rfl⟩
 rw [←hw2] at hE1 hO1 hR1 ⊢
 replace hsz1:w.heap.size<w2.heap.size:=by rw [hw2];simpa using hsz1
 clear hw2
 go_loopw [2] (fun v wr=>∃ i m p cp:Nat,v = .slice (some ⟨bb,p,none⟩) m cp∧Hid (n=i*64+m)∧Hid (m=0∨p=ob+i*64)∧m≤cp∧EngAt .u32 wr b o (loopS rn K s bs i) R (c+n)∧Out b o 137 w wr∧Rules32 wr w.heap.size∧w.heap.size<wr.heap.size) (fun v _=>lenV v)
 case atStart=>exact ⟨0,n,ob,cap,rfl,(Nat.zero_mul 64 ▸ (Nat.zero_add n).symm:n=0*64+n),(.inr (by simp):n=0∨ob=ob+0*64),hcap,hE1,hO1,hR1,hsz1⟩
 case round =>
  clear hE1 hO1 hR1 hsz1
  obtain ⟨i,m,p,cp,rfl,Hn,Hp,hm,hE1,hO1,hR1,hsz1⟩:=hrel
  have hmn:m≤n:=by have:=Hn.out;omega
  by_cases hlt:64≤m
  · have hsi:(loopS rn K s bs i).lt 4294967296:=loopS_lt (r:=rn) hs i
    have hcw:∀ j,j<80→wr.drew.cell? ⟨2,j,none⟩=some (.int .u64 (K j)):=fun j hj=>(hO1.cell' (block_lt_of_cell (hcub j hj)) hb3).trans (hcub j hj)
    have hcl:∀ j,j<64→wr.drew.cell? ⟨bb,p+j,none⟩=some (.int .u8 (bs (i*(2*Ru.m rn)+j))):=fun j hj=>by
     have h1:=hcell (i*64+j) (by have:=Hn.out;omega)
     have h2:=(hO1.cell' (q:=ob+(i*64+j)) (block_lt_of_cell h1) hbb).trans h1
     rw [←Nat.add_assoc,←Hp.out.resolve_left (by omega)] at h2
     exact h2
    have hmix:=mix32_any K hK (loopS rn K s bs i) hsi bb p cp (fun j=>bs (i*(2*Ru.m rn)+j)) (fun j=>hbs _) wr.drew hcw hcl
    obtain ⟨q0,q1,q2,q3,q4,q5,q6,q7⟩:=hE1.st.st'
    obtain ⟨x,hx⟩:∃ x,x=loopS rn K s bs i:=⟨_,rfl⟩
    have HX:Hid (x=loopS rn K s bs i):=hx
    rw [←hx] at hmix q0 q1 q2 q3 q4 q5 q6 q7
    clear hx hcl hcw hcell hcub
    obtain ⟨p0,p1,p2,p3,p4,p5,p6,p7,p8,p9,p10,p11,p12,p13⟩:=hR1
    have hbw:Below wr.heap.size wr wr.drew:=(Below.refl _ _).drew
    go_wp2
    go_region_with ((go_at_call 47;refine hmix.mono ?_;rintro e w' ⟨rfl,hbm⟩;have hE5:=hE1.below (below_next hbw hbm);have hst:=store8_32 w' b o (blockS rn K (fun j=>bs (i*(2*Ru.m rn)+j)) x) hE5.st.there))
    all_goals
     have hE6:=hE5.state (blockS rn K (fun j=>bs (i*(2*Ru.m rn)+j)) x)
     have hO6:Out b o 137 w (w'.setCells b o (St.vals .u32 (blockS rn K (fun j=>bs (i*(2*Ru.m rn)+j)) x)).toList):=hO1.trans ((Out.of_below (below_next hbw hbm) (block_lt_of_cell hE1.cnt)).trans (Out.setCells _ _ (Nat.le_refl _) (by rw [vals_ints,ints_len];omega)))
     have hR6:Rules32 (w'.setCells b o (St.vals .u32 (blockS rn K (fun j=>bs (i*(2*Ru.m rn)+j)) x)).toList) w.heap.size:=(Rules32.below ⟨p0,p1,p2,p3,p4,p5,p6,p7,p8,p9,p10,p11,p12,p13⟩ (below_next hbw hbm) hsz1).same (fun q=>World.cell?_of_block (heap_setCells_other b _ _ _ _ (Nat.ne_of_gt (block_lt_of_cell hE.cnt))))
     have hZ6:w.heap.size<(w'.setCells b o (St.vals .u32 (blockS rn K (fun j=>bs (i*(2*Ru.m rn)+j)) x)).toList).heap.size:=by rw [(setCells_same b _ _ _).2.2.2];have:=hbm.size;simp only [World.size_drew] at this;omega
     clear hst hE5 p0 p1 p2 p3 p4 p5 p6 p7 p8 p9 p10 p11 p12 p13 q0 q1 q2 q3 q4 q5 q6 q7 hmix hbw hbm
     go_wp2
     go_roundw
     case rel =>
      have hn':n=(i+1)*64+(m - 64):=by have:=Hn.out;omega
      have hE7:EngAt .u32 (w'.setCells b o (St.vals .u32 (blockS rn K (fun j=>bs (i*(2*Ru.m rn)+j)) x)).toList) b o (loopS rn K s bs (i+1)) R (c+n):=by
       show EngAt _ _ _ _ (blockS rn K (fun j=>bs (i*(2*Ru.m rn)+j)) (loopS rn K s bs i)) _ _
       rw [←HX.out];exact hE6
      by_cases hcp:cp=64
      · exact ⟨i+1,m - 64,p,cp - 64,by rw [if_pos hcp],hn',.inl (by omega),by omega,hE7,hO6,hR6,hZ6⟩
      · exact ⟨i+1,m - 64,p+64,cp - 64,by rw [if_neg hcp],hn',.inr (by have:=Hp.out;omega),by omega,hE7,hO6,hR6,hZ6⟩
     case measure=>simp [lenV];omega
  · have hi:i=n / 64∧m=n%64:=by have:=Hn.out;omega
    have hsrc:Src wr (some ⟨bb,p,none⟩) m (fun j=>bs (n / (2*Ru.m rn)*(2*Ru.m rn)+j)):=by
     by_cases h0:m=0
     · exact .inl h0
     · refine .inr ⟨bb,p,rfl,fun j hj => ?_⟩
       have h1:=hcell (i*64+j) (by have:=Hn.out;omega)
       have h2:=(hO1.cell' (q:=ob+(i*64+j)) (block_lt_of_cell h1) hbb).trans h1
       rw [←Nat.add_assoc,←Hp.out.resolve_left h0,hi.1] at h2
       exact h2
    have hE8:=hE1.bytes 0 m (fun j=>bs (n / (2*Ru.m rn)*(2*Ru.m rn)+j)) (by omega)
    have hth:=hE1.rest.there
    have hO8:Out b o 137 w (wr.setCells b (o+8) (ints .u8 m (fun j=>bs (n / (2*Ru.m rn)*(2*Ru.m rn)+j)))):=hO1.trans (Out.setCells _ _ (by omega) (by rw [ints_len];omega))
    have hmin:m=Nat.min m 128:=(Nat.min_eq_left (by omega)).symm
    have HI:Hid (i=n / 64∧m=n%64):=hi
    have HE:Hid (EngAt .u32 (wr.setCells b (o+8) (ints .u8 m (fun j=>bs (n / (2*Ru.m rn)*(2*Ru.m rn)+j)))) b o (loopS rn K s bs i) (over R 0 m (fun j=>bs (n / (2*Ru.m rn)*(2*Ru.m rn)+j))) (c+n)):=hE8
    have HO:Hid (Out b o 137 w (wr.setCells b (o+8) (ints .u8 m (fun j=>bs (n / (2*Ru.m rn)*(2*Ru.m rn)+j))))):=hO8
    have hmi:Hid (m=Nat.min m 128):=hmin
    clear hi hE8 hO8 hcell hcub hmin
    go_wp2_with (refine wpList_copy_bytes rfl _ _ 22 22 rfl 5 Tryd.underlying22 (by kernel_rfl) b (o+8) 128 128 (some ⟨bb,p,none⟩) m cp rfl rfl m (fun j=>bs (n / (2*Ru.m rn)*(2*Ru.m rn)+j)) hsrc hmi.out hth ?_)
    go_end0
    refine ⟨rfl,?_,HO.out⟩
    have e:tailE rn K s R n bs=(loopS rn K s bs i,over R 0 m (fun j=>bs (n / (2*Ru.m rn)*(2*Ru.m rn)+j))):=by rw [HI.out.1,HI.out.2];rfl
    rw [e]
    exact HE.out
theorem Rules64.same {w1 w2:World} {B:Nat} (h:Rules64 w1 B) (hc:∀ j,w2.cell? ⟨B,j,none⟩=w1.cell? ⟨B,j,none⟩):Rules64 w2 B:=by
 unfold Rules64 at *
 simp only [hc]
 exact h
end Go.Proofs.YtibdhadbflfdpaaDoor
namespace Go.Proofs.YtibdhadbflfdpaaDoor
open Go.RowKit
theorem sliceFrom (W:World) (bb ob n cap d:Nat) (hd:d≤n):(Instr.sliceAt 22 (.slice (some ⟨bb,ob,none⟩) n cap) (some (.int .i64 d)) none none).run Tryd.prog W = .ok (.slice (some ⟨bb,(if cap=d then ob else ob+d),none⟩) (n - d) (cap - d)) W:=by
 have h1:Tryd.prog.underlying 22=some (.slice (Tryd.prog.elem 22)):=by kernel_rfl
 have h2:Tryd.prog.elem 22=5:=by kernel_rfl
 have h3:((sizeOf 5).run Tryd.prog W) = .ok 1 W:=by kernel_rfl
 rw [run_sliceAt_slice W 22 _ _ _ _ h1,run_slice_l W 22 _ n cap h1 .i64 d (by omega) (by omega),h2,h3]
 simp only [Result.andThen_ok,sliced,Int.toNat_natCast,Nat.mul_one,Addr.add_mid,Option.map]
 by_cases h:cap=d
 · simp [h]
 · simp [h]
theorem sliceRest_32 (W:World) (b o h:Nat) (hh:h≤64) (_hz:h<128):(Instr.sliceAt 57 (.pointer (some ⟨b,o+8,none⟩)) (some (.int .i64 h)) (some (.int .i64 64)) none).run Tryd.prog W = .ok (.slice (some ⟨b,o+8+h,none⟩) (64 - h) (128 - h)) W:=by
 have h1:Tryd.prog.arrayLen 57=128:=by kernel_rfl
 have h2:Tryd.prog.elem 57=5:=by kernel_rfl
 have h3:((sizeOf 5).run Tryd.prog W) = .ok 1 W:=by kernel_rfl
 rw [run_sliceAt_array_lh W 57 ⟨b,o+8,none⟩ (by kernel_rfl) .i64 .i64 h 64 (by omega) (by omega) (by rw [h1];decide),h2,h3,h1]
 simp only [Result.andThen_ok,slicedAt,Int.toNat_natCast,Nat.mul_one,Addr.add_mid]
 rw [if_neg (by omega)]
 rfl
set_option maxRecDepth 20000 in
set_option maxHeartbeats 1000000 in
theorem write32_B (s:St) (R:Nat→Nat) (b o c n bb ob cap h:Nat) (bs:Nat→Nat) (w:World)
 (hE:EngAt .u32 w b o s R c) (hbb:bb≠b) (hcn:c+n<4611686018427387904)
 (hcell:∀ j,j<n→w.cell? ⟨bb,ob+j,none⟩=some (.int .u8 (bs j))) (hmod:(c:Int)%64=(h:Int)) (h0:0<h) (hlt:h+n<64) :
 Calls Tryd.prog 35 #[.pointer (some ⟨b,o,none⟩),(.agg #[.int .i64 32,.int .i64 64,.int .u64 7,.int .u64 18,.int .u64 3,.int .u64 17,.int .u64 19,.int .u64 10,.int .u64 2,.int .u64 13,.int .u64 22,.int .u64 6,.int .u64 11,.int .u64 25]),.slice (some ⟨bb,ob,none⟩) n cap] w
  fun e w'=>e = .returned (.tuple #[])∧EngAt .u32 w' b o s (over R h n bs) (c+n)∧Out b o 137 w w':=by
 have hmi:Hid (n=Nat.min n (64 - h)):=(Nat.min_eq_left (by omega)).symm
 have hmi':((h:Int)+n)<64:=by omega
 have hsl:=fun W=>sliceRest_32 W b o h (by omega) (by omega)
 go_enter Tryd.func35,Tryd.ntmps35
 go_wp2_with (first
  | (go_at_call 46;refine (blockSize32_any _).mono ?_;rintro e w1 ⟨rfl,hb1⟩;obtain ⟨hE1,hO1,hR1,hsz1,hc1,hf1⟩:=begun32 (n:=n) hE hb1;have hsrc:Src (w1.setCell ⟨b,o+136,none⟩ (.int .i64 ((c:Int)+n))) (some ⟨bb,ob,none⟩) n bs := .inr ⟨bb,ob,rfl,fun j hj=>(hO1.cell' (block_lt_of_cell (hcell j hj)) hbb).trans (hcell j hj)⟩;have hth:(w1.setCell ⟨b,o+136,none⟩ (.int .i64 ((c:Int)+n))).there b (o+8+h) (64 - h):=RowAt.there_part hE1.rest (by omega);clear hb1 hR1)
  | (refine wpList_copy_bytes rfl _ _ 22 22 rfl 5 Tryd.underlying22 (by kernel_rfl) b (o+8+h) (64 - h) _ (some ⟨bb,ob,none⟩) n cap rfl rfl n bs hsrc hmi.out hth ?_))
 exact bodyPost_ret (results_none Tryd.results35 _ _ _) rfl ⟨rfl,hE1.bytes h n bs (by omega),hO1.trans (Out.setCells _ _ (by omega) (by rw [ints_len];omega))⟩
set_option maxRecDepth 20000 in
set_option maxHeartbeats 2000000 in
theorem write32_C (K:Nat→Nat) (hK:∀ j,K j<18446744073709551616) (s:St) (hs:s.lt 4294967296) (R:Nat→Nat) (hR:∀ j,R j<256) (b o c n bb ob cap h:Nat) (bs:Nat→Nat) (hbs:∀ j,bs j<256) (w:World)
 (hE:EngAt .u32 w b o s R c) (hcub:∀ j,j<80→w.cell? ⟨2,j,none⟩=some (.int .u64 (K j))) (hb3:2≠b) (hbb:bb≠b) (hcap:n≤cap) (hcn:c+n<4611686018427387904)
 (hcell:∀ j,j<n→w.cell? ⟨bb,ob+j,none⟩=some (.int .u8 (bs j))) (hmod:(c:Int)%64=(h:Int)) (h0:0<h) (_hhz:h<64) (hge:64≤h+n) :
 Calls Tryd.prog 35 #[.pointer (some ⟨b,o,none⟩),(.agg #[.int .i64 32,.int .i64 64,.int .u64 7,.int .u64 18,.int .u64 3,.int .u64 17,.int .u64 19,.int .u64 10,.int .u64 2,.int .u64 13,.int .u64 22,.int .u64 6,.int .u64 11,.int .u64 25]),.slice (some ⟨bb,ob,none⟩) n cap] w
  fun e w'=>e = .returned (.tuple #[])∧EngAt .u32 w' b o (tailE rn K (blockS rn K (over R h (64 - h) bs) s) (over R h (64 - h) bs) (n - (64 - h)) (fun j=>bs (64 - h+j))).1 (tailE rn K (blockS rn K (over R h (64 - h) bs) s) (over R h (64 - h) bs) (n - (64 - h)) (fun j=>bs (64 - h+j))).2 (c+n)∧Out b o 137 w w':=by
 obtain ⟨d,hd⟩:∃ d,d=64 - h:=⟨_,rfl⟩
 rw [←hd]
 have Hd:Hid (d=64 - h):=hd
 have hdn:d≤n:=by omega
 have hdZ:d≤128:=by omega
 have hd1:0<d:=by omega
 have hhd:(h:Int)+d=64:=by omega
 clear hd
 have hmi:Hid (d=Nat.min n d):=(Nat.min_eq_right hdn).symm
 have hsl:∀ W:World,(Instr.sliceAt 57 (.pointer (some ⟨b,o+8,none⟩)) (some (.int .i64 h)) (some (.int .i64 64)) none).run Tryd.prog W = .ok (.slice (some ⟨b,o+8+h,none⟩) d (128 - h)) W:=fun W=>by rw [Hd.out];exact sliceRest_32 W b o h (by omega) (by omega)
 obtain ⟨R1,hR1e⟩:∃ R1,R1=over R h d bs:=⟨_,rfl⟩
 have hR1l:∀ j,R1 j<256:=by rw [hR1e];exact over_lt hR hbs
 have HR1:Hid (R1=over R h d bs):=hR1e
 rw [←hR1e]
 clear hR1e
 go_enter Tryd.func35,Tryd.ntmps35
 go_wp2_with (first
  | (go_at_call 46;refine (blockSize32_any _).mono ?_;rintro e w1 ⟨rfl,hb1⟩;obtain ⟨hE1,hO1,hR1,hsz1,hc1,hf1⟩:=begun32 (n:=n) hE hb1;have hsrc:Src (w1.setCell ⟨b,o+136,none⟩ (.int .i64 ((c:Int)+n))) (some ⟨bb,ob,none⟩) n bs := .inr ⟨bb,ob,rfl,fun j hj=>(hO1.cell' (block_lt_of_cell (hcell j hj)) hbb).trans (hcell j hj)⟩;have hth:(w1.setCell ⟨b,o+136,none⟩ (.int .i64 ((c:Int)+n))).there b (o+8+h) d:=RowAt.there_part hE1.rest (by have:=Hd.out;omega);clear hb1)
  | (refine wpList_copy_bytes rfl _ _ 22 22 rfl 5 Tryd.underlying22 (by kernel_rfl) b (o+8+h) d _ (some ⟨bb,ob,none⟩) n cap rfl rfl d bs hsrc hmi.out hth ?_;clear hsrc hth hmi hc1 hf1 hsl))
 obtain ⟨w2,hw2⟩:∃ w2,w2=(w1.setCell ⟨b,o+136,none⟩ (.int .i64 ((c:Int)+n))).setCells b (o+8+h) (ints .u8 d bs):=⟨_,rfl⟩
 have hE2:EngAt .u32 w2 b o s R1 (c+n):=by rw [hw2,HR1.out];exact hE1.bytes h d bs (by have:=Hd.out;omega)
 have hO2:Out b o 137 w w2:=by rw [hw2];exact hO1.trans (Out.setCells _ _ (by omega) (by rw [ints_len];have:=Hd.out;omega))
 have hR2:Rules32 w2 w.heap.size:=by rw [hw2];exact hR1.same (fun q=>World.cell?_of_block (heap_setCells_other b _ _ _ _ (Nat.ne_of_gt (block_lt_of_cell hE.cnt))))
 have hsz2:w.heap.size<w2.heap.size:=by rw [hw2,(setCells_same b _ _ _).2.2.2];simpa using hsz1
 rw [←hw2]
 clear hw2 hE1 hO1 hR1 hsz1 hR
 obtain ⟨ct,hct⟩:∃ ct,ct=c+n:=⟨_,rfl⟩
 have HCT:Hid (ct=c+n):=hct
 rw [←hct] at hE2
 clear hct
 have hcw:∀ j,j<80→w2.drew.cell? ⟨2,j,none⟩=some (.int .u64 (K j)):=fun j hj=>(hO2.cell' (block_lt_of_cell (hcub j hj)) hb3).trans (hcub j hj)
 have hmix:=mix32_any K hK s hs b (o+8) 128 R1 hR1l w2.drew hcw (fun j hj=>(hE2.rest j (by omega)).1)
 obtain ⟨q0,q1,q2,q3,q4,q5,q6,q7⟩:=hE2.st.st'
 obtain ⟨p0,p1,p2,p3,p4,p5,p6,p7,p8,p9,p10,p11,p12,p13⟩:=id hR2
 have hbw:Below w2.heap.size w2 w2.drew:=(Below.refl _ _).drew
 obtain ⟨s1,hs1e⟩:∃ s1,s1=blockS rn K R1 s:=⟨_,rfl⟩
 have hs1:s1.lt 4294967296:=by rw [hs1e];exact addS_lt (r:=rn)
 have HS1:Hid (s1=blockS rn K R1 s):=hs1e
 rw [←hs1e] at hmix
 clear hcw hs1e
 go_cut [2] from 41 (fun v wc=>v = .slice (some ⟨bb,ob,none⟩) n cap∧EngAt .u32 wc b o s1 R1 ct∧Out b o 137 w wc∧Rules32 wc w.heap.size∧w.heap.size<wc.heap.size)
 case first =>
  clear hcell hcub
  go_region_with ((go_at_call 47;refine hmix.mono ?_;rintro e w' ⟨rfl,hbm⟩;have hE5:=hE2.below (below_next hbw hbm);have hst:=store8_32 w' b o s1 hE5.st.there))
  all_goals
   have hE6:=hE5.state s1
   have hO6:Out b o 137 w (w'.setCells b o (St.vals .u32 s1).toList):=hO2.trans ((Out.of_below (below_next hbw hbm) (block_lt_of_cell hE2.cnt)).trans (Out.setCells _ _ (Nat.le_refl _) (by rw [vals_ints,ints_len];omega)))
   have hR6:Rules32 (w'.setCells b o (St.vals .u32 s1).toList) w.heap.size:=(hR2.below (below_next hbw hbm) hsz2).same (fun q=>World.cell?_of_block (heap_setCells_other b _ _ _ _ (Nat.ne_of_gt (block_lt_of_cell hE.cnt))))
   have hZ6:w.heap.size<(w'.setCells b o (St.vals .u32 s1).toList).heap.size:=by rw [(setCells_same b _ _ _).2.2.2];have:=hbm.size;simp only [World.size_drew] at this;omega
   clear hst hE5 p0 p1 p2 p3 p4 p5 p6 p7 p8 p9 p10 p11 p12 p13 q0 q1 q2 q3 q4 q5 q6 q7 hmix hbw hbm
   go_wp2
   go_meet
   case rel=>exact ⟨rfl,hE6,hO6,hR6,hZ6⟩
 case rest =>
  obtain ⟨rfl,hE1,hO1,hR1,hsz1⟩:=hcut
  clear hmix q0 q1 q2 q3 q4 q5 q6 q7 p0 p1 p2 p3 p4 p5 p6 p7 p8 p9 p10 p11 p12 p13 hbw hE2 hO2 hR2 hsz2
  obtain ⟨n1,hn1⟩:∃ n1,n1=n - d:=⟨_,rfl⟩
  obtain ⟨ob1,hob1⟩:∃ ob1,ob1=ob+d:=⟨_,rfl⟩
  obtain ⟨bs1,hbs1e⟩:∃ bs1:Nat→Nat,bs1=fun j=>bs (d+j):=⟨_,rfl⟩
  have hbs1:∀ j,bs1 j<256:=by rw [hbs1e];exact fun j=>hbs _
  have hcell1:∀ j,j<n1→w.cell? ⟨bb,ob1+j,none⟩=some (.int .u8 (bs1 j)):=fun j hj=>by
   rw [hob1,hbs1e,Nat.add_assoc];exact hcell (d+j) (by omega)
  have HN1:Hid (n1=n - d):=hn1
  have HO1:Hid (ob1=ob+d):=hob1
  have HB1:Hid (bs1=fun j=>bs (d+j)):=hbs1e
  obtain ⟨p1,hp1⟩:∃ p1,p1=(if cap=d then ob else ob+d):=⟨_,rfl⟩
  have hslb:∀ W:World,(Instr.sliceAt 22 (.slice (some ⟨bb,ob,none⟩) n cap) (some (.int .i64 d)) none none).run Tryd.prog W = .ok (.slice (some ⟨bb,p1,none⟩) (n - d) (cap - d)) W:=fun W=>by rw [hp1];exact sliceFrom W bb ob n cap d hdn
  have HP1:Hid (p1=(if cap=d then ob else ob+d)):=hp1
  clear hn1 hob1 hbs1e hcell hp1
  go_wp2
  clear hslb
  go_loopw [2] (fun v wr=>∃ i m p cp:Nat,v = .slice (some ⟨bb,p,none⟩) m cp∧Hid (n1=i*64+m)∧Hid (m=0∨p=ob1+i*64)∧m≤cp∧EngAt .u32 wr b o (loopS rn K s1 bs1 i) R1 ct∧Out b o 137 w wr∧Rules32 wr w.heap.size∧w.heap.size<wr.heap.size) (fun v _=>lenV v)
  case atStart =>
   refine ⟨0,n - d,p1,cap - d,rfl,(by rw [HN1.out,Nat.zero_mul,Nat.zero_add]:n1=0*64+(n - d)),?_,by omega,hE1,hO1,hR1,hsz1⟩
   show n - d=0∨p1=ob1+0*64
   rw [HO1.out,Nat.zero_mul,Nat.add_zero]
   by_cases hq:cap=d
   · left;omega
   · right;rw [HP1.out,if_neg hq]
  case round =>
   clear hE1 hO1 hR1 hsz1
   obtain ⟨i,m,p,cp,rfl,Hn,Hp,hm,hE1,hO1,hR1,hsz1⟩:=hrel
   have hmn:m≤n1:=by have:=Hn.out;omega
   by_cases hlt:64≤m
   · have hsi:(loopS rn K s1 bs1 i).lt 4294967296:=loopS_lt (r:=rn) hs1 i
     have hcw:∀ j,j<80→wr.drew.cell? ⟨2,j,none⟩=some (.int .u64 (K j)):=fun j hj=>(hO1.cell' (block_lt_of_cell (hcub j hj)) hb3).trans (hcub j hj)
     have hcl:∀ j,j<64→wr.drew.cell? ⟨bb,p+j,none⟩=some (.int .u8 (bs1 (i*(2*Ru.m rn)+j))):=fun j hj=>by
      have h1:=hcell1 (i*64+j) (by have:=Hn.out;omega)
      have h2:=(hO1.cell' (q:=ob1+(i*64+j)) (block_lt_of_cell h1) hbb).trans h1
      rw [←Nat.add_assoc,←Hp.out.resolve_left (by omega)] at h2
      exact h2
     have hmix:=mix32_any K hK (loopS rn K s1 bs1 i) hsi bb p cp (fun j=>bs1 (i*(2*Ru.m rn)+j)) (fun j=>hbs1 _) wr.drew hcw hcl
     obtain ⟨q0,q1,q2,q3,q4,q5,q6,q7⟩:=hE1.st.st'
     obtain ⟨x,hx⟩:∃ x,x=loopS rn K s1 bs1 i:=⟨_,rfl⟩
     have HX:Hid (x=loopS rn K s1 bs1 i):=hx
     rw [←hx] at hmix q0 q1 q2 q3 q4 q5 q6 q7
     clear hx hcl hcw hcell1 hcub
     obtain ⟨p0,p1,p2,p3,p4,p5,p6,p7,p8,p9,p10,p11,p12,p13⟩:=hR1
     have hbw:Below wr.heap.size wr wr.drew:=(Below.refl _ _).drew
     go_wp2
     go_region_with ((go_at_call 47;refine hmix.mono ?_;rintro e w' ⟨rfl,hbm⟩;have hE5:=hE1.below (below_next hbw hbm);have hst:=store8_32 w' b o (blockS rn K (fun j=>bs1 (i*(2*Ru.m rn)+j)) x) hE5.st.there))
     all_goals
      have hE6:=hE5.state (blockS rn K (fun j=>bs1 (i*(2*Ru.m rn)+j)) x)
      have hO6:Out b o 137 w (w'.setCells b o (St.vals .u32 (blockS rn K (fun j=>bs1 (i*(2*Ru.m rn)+j)) x)).toList):=hO1.trans ((Out.of_below (below_next hbw hbm) (block_lt_of_cell hE1.cnt)).trans (Out.setCells _ _ (Nat.le_refl _) (by rw [vals_ints,ints_len];omega)))
      have hR6:Rules32 (w'.setCells b o (St.vals .u32 (blockS rn K (fun j=>bs1 (i*(2*Ru.m rn)+j)) x)).toList) w.heap.size:=(Rules32.below ⟨p0,p1,p2,p3,p4,p5,p6,p7,p8,p9,p10,p11,p12,p13⟩ (below_next hbw hbm) hsz1).same (fun q=>World.cell?_of_block (heap_setCells_other b _ _ _ _ (Nat.ne_of_gt (block_lt_of_cell hE.cnt))))
      have hZ6:w.heap.size<(w'.setCells b o (St.vals .u32 (blockS rn K (fun j=>bs1 (i*(2*Ru.m rn)+j)) x)).toList).heap.size:=by rw [(setCells_same b _ _ _).2.2.2];have:=hbm.size;simp only [World.size_drew] at this;omega
      clear hst hE5 p0 p1 p2 p3 p4 p5 p6 p7 p8 p9 p10 p11 p12 p13 q0 q1 q2 q3 q4 q5 q6 q7 hmix hbw hbm
      go_wp2
      go_roundw
      case rel =>
       have hn':n1=(i+1)*64+(m - 64):=by have:=Hn.out;omega
       have hE7:EngAt .u32 (w'.setCells b o (St.vals .u32 (blockS rn K (fun j=>bs1 (i*(2*Ru.m rn)+j)) x)).toList) b o (loopS rn K s1 bs1 (i+1)) R1 ct:=by
        show EngAt _ _ _ _ (blockS rn K (fun j=>bs1 (i*(2*Ru.m rn)+j)) (loopS rn K s1 bs1 i)) _ _
        rw [←HX.out];exact hE6
       by_cases hcp:cp=64
       · exact ⟨i+1,m - 64,p,cp - 64,by rw [if_pos hcp],hn',.inl (by omega),by omega,hE7,hO6,hR6,hZ6⟩
       · exact ⟨i+1,m - 64,p+64,cp - 64,by rw [if_neg hcp],hn',.inr (by have:=Hp.out;omega),by omega,hE7,hO6,hR6,hZ6⟩
      case measure=>simp [lenV];omega
   · have hi:i=n1 / 64∧m=n1%64:=by have:=Hn.out;omega
     have hsrc:Src wr (some ⟨bb,p,none⟩) m (fun j=>bs1 (n1 / (2*Ru.m rn)*(2*Ru.m rn)+j)):=by
      by_cases h0:m=0
      · exact .inl h0
      · refine .inr ⟨bb,p,rfl,fun j hj => ?_⟩
        have h1:=hcell1 (i*64+j) (by have:=Hn.out;omega)
        have h2:=(hO1.cell' (q:=ob1+(i*64+j)) (block_lt_of_cell h1) hbb).trans h1
        rw [←Nat.add_assoc,←Hp.out.resolve_left h0,hi.1] at h2
        exact h2
     have hE8:=hE1.bytes 0 m (fun j=>bs1 (n1 / (2*Ru.m rn)*(2*Ru.m rn)+j)) (by omega)
     have hth:=hE1.rest.there
     have hO8:Out b o 137 w (wr.setCells b (o+8) (ints .u8 m (fun j=>bs1 (n1 / (2*Ru.m rn)*(2*Ru.m rn)+j)))):=hO1.trans (Out.setCells _ _ (by omega) (by rw [ints_len];omega))
     have hmin:m=Nat.min m 128:=(Nat.min_eq_left (by omega)).symm
     have HI:Hid (i=n1 / 64∧m=n1%64):=hi
     have HE:Hid (EngAt .u32 (wr.setCells b (o+8) (ints .u8 m (fun j=>bs1 (n1 / (2*Ru.m rn)*(2*Ru.m rn)+j)))) b o (loopS rn K s1 bs1 i) (over R1 0 m (fun j=>bs1 (n1 / (2*Ru.m rn)*(2*Ru.m rn)+j))) ct):=hE8
     have HO:Hid (Out b o 137 w (wr.setCells b (o+8) (ints .u8 m (fun j=>bs1 (n1 / (2*Ru.m rn)*(2*Ru.m rn)+j))))):=hO8
     have hmi:Hid (m=Nat.min m 128):=hmin
     clear hi hE8 hO8 hcell1 hcub hmin
     go_wp2_with (refine wpList_copy_bytes rfl _ _ 22 22 rfl 5 Tryd.underlying22 (by kernel_rfl) b (o+8) 128 128 (some ⟨bb,p,none⟩) m cp rfl rfl m (fun j=>bs1 (n1 / (2*Ru.m rn)*(2*Ru.m rn)+j)) hsrc hmi.out hth ?_)
     go_end0
     refine ⟨rfl,?_,HO.out⟩
     have e:tailE rn K s1 R1 n1 bs1=(loopS rn K s1 bs1 i,over R1 0 m (fun j=>bs1 (n1 / (2*Ru.m rn)*(2*Ru.m rn)+j))):=by rw [HI.out.1,HI.out.2];rfl
     rw [←HS1.out,←HN1.out,←HB1.out,←HCT.out,e]
     exact HE.out
end Go.Proofs.YtibdhadbflfdpaaDoor
namespace Go.Proofs.YtibdhadbflfdpaaDoor
open Go.RowKit
theorem over_none (R:Nat→Nat) (i:Nat) (Y:Nat→Nat):over R i 0 Y=R:=funext fun j=>by
 unfold over;rw [if_neg (by omega)]
theorem sliceRestN (W:World) (b o h Z:Nat) (hh:h≤Z) (hz:Z≤128) (_h128:h<128):(Instr.sliceAt 57 (.pointer (some ⟨b,o+8,none⟩)) (some (.int .i64 h)) (some (.int .i64 Z)) none).run Tryd.prog W = .ok (.slice (some ⟨b,o+8+h,none⟩) (Z - h) (128 - h)) W:=by
 have h1:Tryd.prog.arrayLen 57=128:=by kernel_rfl
 have h2:Tryd.prog.elem 57=5:=by kernel_rfl
 have h3:((sizeOf 5).run Tryd.prog W) = .ok 1 W:=by kernel_rfl
 rw [run_sliceAt_array_lh W 57 ⟨b,o+8,none⟩ (by kernel_rfl) .i64 .i64 h Z (by omega) (by omega) (by rw [h1];omega),h2,h3,h1]
 simp only [Result.andThen_ok,slicedAt,Int.toNat_natCast,Nat.mul_one,Addr.add_mid]
 rw [if_neg (by omega)]
set_option maxRecDepth 20000 in
set_option maxHeartbeats 1000000 in
theorem write32_nil0 (xo:Option Addr) (s:St) (R:Nat→Nat) (b o c:Nat) (w:World) (hE:EngAt .u32 w b o s R c) (hcn:c<4611686018427387904) (hh:c%64=0) :
 Calls Tryd.prog 35 #[.pointer (some ⟨b,o,none⟩),(.agg #[.int .i64 32,.int .i64 64,.int .u64 7,.int .u64 18,.int .u64 3,.int .u64 17,.int .u64 19,.int .u64 10,.int .u64 2,.int .u64 13,.int .u64 22,.int .u64 6,.int .u64 11,.int .u64 25]),.slice xo 0 0] w fun e w'=>e = .returned (.tuple #[])∧EngAt .u32 w' b o s R c∧Out b o 137 w w':=by
 go_enter Tryd.func35,Tryd.ntmps35
 go_wp2_with (go_at_call 46;refine (blockSize32_any _).mono ?_;rintro e w1 ⟨rfl,hb1⟩;obtain ⟨hE1,hO1,hR1,hsz1,hc1,hf1⟩:=begun32 (n:=0) hE hb1;simp only [Int.ofNat_zero,Int.add_zero,Nat.add_zero] at hE1 hO1;clear hb1 hR1)
 go_loopw [2] (fun v wr=>v = .slice xo 0 0∧EngAt .u32 wr b o s R c∧Out b o 137 w wr) (fun v _=>lenV v)
 case atStart=>exact ⟨rfl,hE1,hO1⟩
 case round =>
  clear hE1 hO1 hc1 hf1
  obtain ⟨rfl,hE1,hO1⟩:=hrel
  have hth:=hE1.rest.there
  go_wp2_with (refine wpList_copy_bytes rfl _ _ 22 22 rfl 5 Tryd.underlying22 (by kernel_rfl) b (o+8) 128 128 xo 0 0 rfl rfl 0 (fun _=>0) (.inl rfl) rfl hth ?_)
  go_end0
  exact ⟨rfl,hE1,hO1⟩
set_option maxRecDepth 20000 in
set_option maxHeartbeats 1000000 in
theorem write32_nilh (xo:Option Addr) (s:St) (R:Nat→Nat) (b o c h:Nat) (w:World) (hE:EngAt .u32 w b o s R c) (hcn:c<4611686018427387904) (hmod:(c:Int)%64=(h:Int)) (h0:0<h) (_hlt:h<64) :
 Calls Tryd.prog 35 #[.pointer (some ⟨b,o,none⟩),(.agg #[.int .i64 32,.int .i64 64,.int .u64 7,.int .u64 18,.int .u64 3,.int .u64 17,.int .u64 19,.int .u64 10,.int .u64 2,.int .u64 13,.int .u64 22,.int .u64 6,.int .u64 11,.int .u64 25]),.slice xo 0 0] w fun e w'=>e = .returned (.tuple #[])∧EngAt .u32 w' b o s R c∧Out b o 137 w w':=by
 have hmi':(h:Int)<64:=by omega
 have hsl:∀ W:World,(Instr.sliceAt 57 (.pointer (some ⟨b,o+8,none⟩)) (some (.int .i64 h)) (some (.int .i64 64)) none).run Tryd.prog W = .ok (.slice (some ⟨b,o+8+h,none⟩) (64 - h) (128 - h)) W:=fun W=>sliceRestN W b o h 64 (by omega) (by omega) (by omega)
 go_enter Tryd.func35,Tryd.ntmps35
 go_wp2_with (first
  | (go_at_call 46;refine (blockSize32_any _).mono ?_;rintro e w1 ⟨rfl,hb1⟩;obtain ⟨hE1,hO1,hR1,hsz1,hc1,hf1⟩:=begun32 (n:=0) hE hb1;simp only [Int.ofNat_zero,Int.add_zero,Nat.add_zero] at hE1 hO1;have hth:(w1.setCell ⟨b,o+136,none⟩ (.int .i64 (c:Int))).there b (o+8+h) (64 - h):=RowAt.there_part hE1.rest (by omega);clear hb1 hR1)
  | (refine wpList_copy_bytes rfl _ _ 22 22 rfl 5 Tryd.underlying22 (by kernel_rfl) b (o+8+h) (64 - h) _ xo 0 0 rfl rfl 0 (fun _=>0) (.inl rfl) (Nat.zero_min _).symm hth ?_))
 exact bodyPost_ret (results_none Tryd.results35 _ _ _) rfl ⟨rfl,hE1,hO1⟩
end Go.Proofs.YtibdhadbflfdpaaDoor
namespace Go.Proofs.YtibdhadbflfdpaaDoor
open Go.RowKit
def Bytes (w:World) (b:Nat) (v:Value) (n:Nat) (bs:Nat→Nat):Prop:=(∃ xo,v = .slice xo 0 0∧n=0)∨∃ bb ob cap,v = .slice (some ⟨bb,ob,none⟩) n cap∧bb≠b∧n≤cap∧∀ j,j<n→w.cell? ⟨bb,ob+j,none⟩=some (.int .u8 (bs j))
theorem write32_any (K:Nat→Nat) (hK:∀ j,K j<18446744073709551616) (s:St) (hs:s.lt 4294967296) (R:Nat→Nat) (hR:∀ j,R j<256) (b o c n:Nat) (v:Value) (bs:Nat→Nat) (hbs:∀ j,bs j<256) (w:World)
 (hE:EngAt .u32 w b o s R c) (hcub:∀ j,j<80→w.cell? ⟨2,j,none⟩=some (.int .u64 (K j))) (hb3:2≠b) (hv:Bytes w b v n bs) (hcn:c+n<4611686018427387904) :
 Calls Tryd.prog 35 #[.pointer (some ⟨b,o,none⟩),(.agg #[.int .i64 32,.int .i64 64,.int .u64 7,.int .u64 18,.int .u64 3,.int .u64 17,.int .u64 19,.int .u64 10,.int .u64 2,.int .u64 13,.int .u64 22,.int .u64 6,.int .u64 11,.int .u64 25]),v] w
  fun e w'=>e = .returned (.tuple #[])∧EngAt .u32 w' b o (writeE rn K s R c n bs).1 (writeE rn K s R c n bs).2 (c+n)∧Out b o 137 w w':=by
 have hz:2*Ru.m rn=64:=rfl
 unfold writeE
 rw [hz]
 by_cases h0:c%64=0
 · rw [if_pos h0]
   rcases hv with ⟨xo,rfl,rfl⟩ | ⟨bb,ob,cap,rfl,hbb,hcap,hcell⟩
   · have e:tailE rn K s R 0 bs=(s,R):=by
      show (s,over R 0 0 _)=(s,R)
      rw [over_none]
     rw [e]
     exact write32_nil0 xo s R b o c w hE (by omega) h0
   · exact write32_A K hK s hs R b o c n bb ob cap bs hbs w hE hcub hb3 hbb hcap hcn hcell h0
 · rw [if_neg h0]
   have hmod:(c:Int)%64=((c%64:Nat):Int):=by omega
   by_cases h1:c%64+n<64
   · rw [if_pos h1]
     rcases hv with ⟨xo,rfl,rfl⟩ | ⟨bb,ob,cap,rfl,hbb,hcap,hcell⟩
     · rw [over_none]
       exact write32_nilh xo s R b o c _ w hE (by omega) hmod (by omega) (by omega)
     · exact write32_B s R b o c n bb ob cap _ bs w hE hbb hcn hcell hmod (by omega) h1
   · rw [if_neg h1]
     rcases hv with ⟨xo,rfl,rfl⟩ | ⟨bb,ob,cap,rfl,hbb,hcap,hcell⟩
     · omega
     · exact write32_C K hK s hs R hR b o c n bb ob cap _ bs hbs w hE hcub hb3 hbb hcap hcn hcell hmod (by omega) (by omega) (by omega)
theorem tailE_lt {r:Ru} {K:Nat→Nat} {s:St} {R:Nat→Nat} {n:Nat} {bs:Nat→Nat} (hs:s.lt (2 ^ r.m)) (hR:∀ j,R j<256) (hb:∀ j,bs j<256):(tailE r K s R n bs).1.lt (2 ^ r.m)∧∀ j,(tailE r K s R n bs).2 j<256 :=
 ⟨loopS_lt hs _,over_lt hR (fun _=>hb _)⟩
theorem writeE_lt {r:Ru} {K:Nat→Nat} {s:St} {R:Nat→Nat} {c n:Nat} {bs:Nat→Nat} (hs:s.lt (2 ^ r.m)) (hR:∀ j,R j<256) (hb:∀ j,bs j<256):(writeE r K s R c n bs).1.lt (2 ^ r.m)∧∀ j,(writeE r K s R c n bs).2 j<256:=by
 unfold writeE
 split
 · exact tailE_lt hs hR hb
 · split
   · exact ⟨hs,over_lt hR hb⟩
   · exact tailE_lt addS_lt (over_lt hR hb) (fun _=>hb _)
end Go.Proofs.YtibdhadbflfdpaaDoor
namespace Go.Proofs.YtibdhadbflfdpaaDoor
open Go.RowKit
def padN (r:Ru) (c:Nat):Nat:=1+(4*r.m - 1 - r.m / 4 - c%(2*r.m))%(2*r.m)+r.m / 4
def padG (N c:Nat):Nat→Nat→Nat
 | 0=>upd (fun _=>0) 0 128
 | i+1=>upd (padG N c i) (N - 1 - i) (c*8 / 2 ^ (8*i)%256)
def padF (r:Ru) (c:Nat):Nat→Nat:=padG (padN r c) c 8
set_option maxRecDepth 20000 in
set_option maxHeartbeats 1000000 in
theorem padding32_any (c:Nat) (hc:c<2305843009213693952) (w:World) :
 Calls Tryd.prog 48 #[(.agg #[.int .i64 32,.int .i64 64,.int .u64 7,.int .u64 18,.int .u64 3,.int .u64 17,.int .u64 19,.int .u64 10,.int .u64 2,.int .u64 13,.int .u64 22,.int .u64 6,.int .u64 11,.int .u64 25]),.int .i64 c] w fun e w'=>∃ g,e = .returned (.slice (some ⟨g,0,none⟩) (padN rn c) (padN rn c))∧w.heap.size≤g∧RowAt .u8 w' g 0 (padN rn c) (padF rn c)∧Below w.heap.size w w':=by
 obtain ⟨N,hNe⟩:∃ N,N=padN rn c:=⟨_,rfl⟩
 have HN:Hid (N=padN rn c):=hNe
 have hN0:(1+(119 - (c:Int))%64+8)=(N:Int):=by
  have:N=1+(119 - c%64)%64+8:=hNe
  omega
 have hN1:8+1≤N:=by omega
 have hN2:N≤200:=by omega
 clear hNe
 have hmk:=fun W=>make_bytes W N _ hN0 (by omega)
 clear hN0
 have hz0:=zb_at N 0 (by omega)
 go_enter Tryd.func48,Tryd.ntmps48
 go_wp2_with (go_at_call 46;refine (blockSize32_any _).mono ?_;rintro e w1 ⟨rfl,hb1⟩;simp only [World.size_alloc] at hb1;have hR:Rules32 w1 w.heap.size:=Rules32.of_box hb1;have p0:=hR.1)
 clear hmk p0
 go_loopw [41] (fun i wr=>∃ k:Nat,k≤8∧i = .int .i64 k∧RowAt .u8 wr w1.heap.size 0 N (padG N c k)∧Below w1.heap.size w1 wr) (fun i _=>8 - (intOf i).toNat)
 case atStart =>
  refine ⟨0,by decide,rfl,?_,?_⟩
  · have h1:=(RowAt.fresh (K := .u8) (w:=w1) (cs:=zb N) (t:=5) (n:=N) (X:=fun _=>0) (fun j hj=>zb_at N j hj)).set (i:=0) (by omega) (v:=128) (u:=128) rfl
    rw [Nat.zero_add,World.setCell_alloc_at _ _ _ _ _ rfl] at h1
    exact h1
  · exact (Below.refl _ _).alloc (Nat.le_refl _) _
 case round =>
  obtain ⟨k,hk,rfl,hrow,hbel⟩:=hrel
  by_cases hlt:k<8
  · obtain ⟨r1,r2⟩:=hrow (N - 1 - k) (by omega)
    rw [Nat.zero_add] at r1 r2
    obtain ⟨q,hq⟩:∃ q,q=N - 1 - k:=⟨_,rfl⟩
    rw [←hq] at r1 r2
    have HQ:Hid (q=N - 1 - k):=hq
    have hqi:(N:Int) - 1 - k=(q:Int):=by omega
    have hqn:q<N:=by omega
    clear hq
    go_wp2
    go_roundw
    case rel =>
     have h1:=hrow.set (i:=q) hqn (v:=(c:Int)*8 / 2 ^ (8*k)%256) (u:=c*8 / 2 ^ (8*k)%256) (by simp)
     rw [Nat.zero_add,HQ.out] at h1
     rw [HQ.out]
     exact ⟨k+1,by omega,by go_num,h1,hbel.setCell (Nat.le_refl _) _⟩
    case measure=>simp [intOf];omega
  · have hke:k=8:=by omega
    subst hke
    have hg:w.heap.size≤w1.heap.size:=by have:=hb1.size;simp only [World.size_alloc] at this;omega
    have hbw:Below w.heap.size w wr:=((Below.refl _ _).alloc (Nat.le_refl _) _).trans ((hb1.mono (by omega)).trans (hbel.mono hg))
    have hrow8:RowAt .u8 wr w1.heap.size 0 (padN rn c) (padF rn c):=by
     show RowAt .u8 wr w1.heap.size 0 (padN rn c) (padG (padN rn c) c 8)
     rw [←HN.out];exact hrow
    clear hrow
    go_wp2
    go_ret
    exact ⟨w1.heap.size,by rw [←HN.out];rfl,hg,hrow8,hbw⟩
end Go.Proofs.YtibdhadbflfdpaaDoor
namespace Go.Proofs.YtibdhadbflfdpaaDoor
open Go.RowKit
def endS (r:Ru) (K:Nat→Nat) (s:St) (R:Nat→Nat) (c:Nat):St:=(writeE r K s R c (padN r c) (padF r c)).1
def outB (m:Nat) (s:St) (j:Nat):Nat:=s.at (j / (m / 8)) / 2 ^ (m - 8 - j%(m / 8)*8)%256
def outG (m:Nat) (s:St):Nat→Nat→Nat
 | 0=>fun _=>0
 | k+1=>upd (outG m s k) k (outB m s k)
theorem outG_at (m:Nat) (s:St):∀ k j,j<k→outG m s k j=outB m s j
 | k+1,j,h=>by
  unfold outG upd
  by_cases e:j=k
  · rw [if_pos e,e]
  · rw [if_neg e];exact outG_at m s k j (by omega)
theorem padF_lt (r:Ru) (c:Nat):∀ j,padF r c j<256:=by
 suffices h:∀ N i j,padG N c i j<256 from h _ _
 intro N i
 induction i with
 | zero =>
  intro j;unfold padG upd;split
  · omega
  · exact Nat.zero_lt_succ _
 | succ i ih =>
  intro j;unfold padG upd;split
  · exact Nat.mod_lt _ (by decide)
  · exact ih j
theorem padN32_le (c:Nat):padN rn c≤200:=by
 show 1+(4*32 - 1 - 32 / 4 - c%(2*32))%(2*32)+32 / 4≤200
 omega
set_option maxRecDepth 20000 in
set_option maxHeartbeats 1000000 in
theorem sum32_any (K:Nat→Nat) (hK:∀ j,K j<18446744073709551616) (s:St) (hs:s.lt 4294967296) (R:Nat→Nat) (hR:∀ j,R j<256) (c:Nat) (hc:c<2305843009213693952) (w:World)
 (hcub:∀ j,j<80→w.cell? ⟨2,j,none⟩=some (.int .u64 (K j))) :
 Calls Tryd.prog 36 #[.agg (engVals .u32 s R c).toArray,(.agg #[.int .i64 32,.int .i64 64,.int .u64 7,.int .u64 18,.int .u64 3,.int .u64 17,.int .u64 19,.int .u64 10,.int .u64 2,.int .u64 13,.int .u64 22,.int .u64 6,.int .u64 11,.int .u64 25])] w
  fun e w'=>∃ g,e = .returned (.slice (some ⟨g,0,none⟩) 32 32)∧w.heap.size≤g∧RowAt .u8 w' g 0 32 (outB 32 (endS rn K s R c))∧Below w.heap.size w w':=by
 have h3:2<w.heap.size:=block_lt_of_cell (hcub 0 (by decide))
 obtain ⟨W2,hW2⟩:∃ W2,W2=(w.alloc (.cells (engVals .u32 s R c).toArray 59)).alloc (.cells #[.int .i64 32,.int .i64 64,.int .u64 7,.int .u64 18,.int .u64 3,.int .u64 17,.int .u64 19,.int .u64 10,.int .u64 2,.int .u64 13,.int .u64 22,.int .u64 6,.int .u64 11,.int .u64 25] 63):=⟨_,rfl⟩
 have hE:EngAt .u32 W2 w.heap.size 0 s R c:=by rw [hW2];exact (EngAt.fresh w s R c 59).below ((Below.refl _ _).alloc (Nat.le_refl _) _)
 have hRu:Rules32 W2 (w.heap.size+1):=by
  have:=Rules32.of_box (W:=w.alloc (.cells (engVals .u32 s R c).toArray 59)) (w1:=W2) (by rw [hW2];exact Below.refl _ _)
  rw [World.size_alloc] at this;exact this
 have hcub2:∀ j,j<80→W2.cell? ⟨2,j,none⟩=some (.int .u64 (K j)):=fun j hj=>by
  rw [hW2,World.cell?_alloc_lt _ _ _ (by simp;omega),World.cell?_alloc_lt _ _ _ h3];exact hcub j hj
 have hB2:Below w.heap.size w W2:=by rw [hW2];exact ((Below.refl _ _).alloc (Nat.le_refl _) _).alloc (by simp) _
 have hz2:W2.heap.size=w.heap.size+1+1:=by rw [hW2];simp
 have HW2:Hid (W2=(w.alloc (.cells (engVals .u32 s R c).toArray 59)).alloc (.cells #[.int .i64 32,.int .i64 64,.int .u64 7,.int .u64 18,.int .u64 3,.int .u64 17,.int .u64 19,.int .u64 10,.int .u64 2,.int .u64 13,.int .u64 22,.int .u64 6,.int .u64 11,.int .u64 25] 63)):=hW2
 clear hW2
 go_enter Tryd.func36,Tryd.ntmps36
 go_wp2
 rw [←HW2.out]
 obtain ⟨p0,p1,p2,p3,p4,p5,p6,p7,p8,p9,p10,p11,p12,p13⟩:=id hRu
 have hcn:=hE.cnt
 rw [Nat.zero_add] at hcn
 have hb0:Below W2.heap.size W2 W2.drew:=(Below.refl _ _).drew
 have hpad:=padding32_any c hc W2.drew
 have HZ2:Hid (W2.heap.size=w.heap.size+1+1):=hz2
 clear hz2 hcub
 have hw:∀ (w1:World) (g:Nat),W2.drew.heap.size≤g→RowAt .u8 w1 g 0 (padN rn c) (padF rn c)→Below W2.drew.heap.size W2.drew w1 →
  Rules32 w1 (w.heap.size+1)∧Calls Tryd.prog 35 #[.pointer (some ⟨w.heap.size,0,none⟩),(.agg #[.int .i64 32,.int .i64 64,.int .u64 7,.int .u64 18,.int .u64 3,.int .u64 17,.int .u64 19,.int .u64 10,.int .u64 2,.int .u64 13,.int .u64 22,.int .u64 6,.int .u64 11,.int .u64 25]),.slice (some ⟨g,0,none⟩) (padN rn c) (padN rn c)] w1
   fun e w'=>e = .returned (.tuple #[])∧EngAt .u32 w' w.heap.size 0 (writeE rn K s R c (padN rn c) (padF rn c)).1 (writeE rn K s R c (padN rn c) (padF rn c)).2 (c+padN rn c)∧Rules32 w' (w.heap.size+1)∧Below w.heap.size w w':=fun w1 g hg hrow hb=>by
  have hb':=below_next hb0 hb
  have hz:=HZ2.out
  have hg':w.heap.size+1+1≤g:=by simp only [World.size_drew] at hg;omega
  have hR1:=hRu.below hb' (by omega)
  refine ⟨hR1,(write32_any K hK s hs R hR w.heap.size 0 c (padN rn c) _ (padF rn c) (padF_lt _ _) w1 (hE.below hb') (fun j hj=>(hb'.cell (p:=⟨2,j,none⟩) (by show 2<_;omega)).trans (hcub2 j hj)) (by omega) (.inr ⟨g,0,_,rfl,by omega,Nat.le_refl _,fun j hj=>(hrow j hj).1⟩) (by have:=padN32_le c;omega)).mono ?_⟩
  rintro e w' ⟨rfl,hE',hO'⟩
  have hs':=hb'.size
  exact ⟨rfl,hE',hR1.same (fun q=>hO'.cell' (by omega) (by omega)),hB2.trans ((hb'.mono (by omega)).trans (hO'.below (Nat.le_refl _) (by omega)))⟩
 go_cut [] from 8 (fun wc=>EngAt .u32 wc w.heap.size 0 (writeE rn K s R c (padN rn c) (padF rn c)).1 (writeE rn K s R c (padN rn c) (padF rn c)).2 (c+padN rn c)∧Rules32 wc (w.heap.size+1)∧Below w.heap.size w wc)
 case first =>
  go_region_with (first
   | (go_at_call 48;refine hpad.mono ?_;rintro e w1 ⟨g,rfl,hg,hrow,hb1⟩;obtain ⟨⟨r0,r1,r2,r3,r4,r5,r6,r7,r8,r9,r10,r11,r12,r13⟩,hwc⟩:=hw w1 g hg hrow hb1)
   | (go_at_call 35;refine hwc.mono ?_;rintro e w5 ⟨rfl,hE5,hR5,hB5⟩))
  all_goals
   go_wp2
   go_meet
   case rel=>exact ⟨hE5,hR5,hB5⟩
 case rest =>
  obtain ⟨hE5,hR5,hB5⟩:=hcut
  have hs5:(writeE rn K s R c (padN rn c) (padF rn c)).1.lt 4294967296:=(writeE_lt (r:=rn) hs hR (padF_lt _ _)).1
  have HS5:Hid (endS rn K s R c=(writeE rn K s R c (padN rn c) (padF rn c)).1):=(rfl:endS rn K s R c=(writeE rn K s R c (padN rn c) (padF rn c)).1)
  have hst:=hE5.st
  obtain ⟨x,hx⟩:∃ x,x=(writeE rn K s R c (padN rn c) (padF rn c)).1:=⟨_,rfl⟩
  have HX:Hid (x=(writeE rn K s R c (padN rn c) (padF rn c)).1):=hx
  rw [←hx] at hs5 hst
  clear hx
  have c0:=hR5.1
  have hmk:=fun W=>make_bytes W 32 32 rfl (by decide)
  clear hw hpad hb0 hcn p0 p1 p2 p3 p4 p5 p6 p7 p8 p9 p10 p11 p12 p13 hRu hcub2 hE hB2 HW2 HZ2 hE5
  have hwl:w.heap.size<wc.heap.size:=block_lt_of_cell (hst 0 (by decide)).1
  have hwl1:w.heap.size+1<wc.heap.size:=block_lt_of_cell c0
  go_wp2
  clear hmk
  go_loopw [22] (fun i wr=>∃ k:Nat,k≤32∧i = .int .i64 k∧RowAt .u8 wr wc.heap.size 0 32 (outG 32 x k)∧Below wc.heap.size wc wr) (fun i _=>32 - (intOf i).toNat)
  case atStart=>exact ⟨0,Nat.zero_le _,rfl,RowAt.fresh (fun j hj=>zb_at 32 j hj),(Below.refl _ _).alloc (Nat.le_refl _) _⟩
  case round =>
   obtain ⟨k,hk,rfl,hrow,hbel⟩:=hrel
   by_cases hlt:k<32
   · have rs:wr.cell? ⟨w.heap.size,k / 4,none⟩=some (.int .u32 (x.at (k / 4))):=by
      have:=(hst (k / 4) (by omega)).1
      rw [Nat.zero_add] at this
      exact (hbel.cell (p:=⟨w.heap.size,k / 4,none⟩) hwl).trans this
     have rr:wr.cell? ⟨w.heap.size+1,0,none⟩=some (.int .i64 32):=(hbel.cell (p:=⟨w.heap.size+1,0,none⟩) hwl1).trans c0
     obtain ⟨rg,rf⟩:=hrow k hlt
     rw [Nat.zero_add] at rg rf
     have hq:k / 4<8:=by omega
     go_wp2
     go_region
     go_wp2
     go_roundw
     case rel =>
      have h1:=hrow.set (i:=k) hlt (v:=(x.at (k / 4):Int) / 2 ^ (32 - 8 - k%4*8)%256) (u:=outB 32 x k) (by show _=((x.at (k / (32 / 8)) / 2 ^ (32 - 8 - k%(32 / 8)*8)%256:Nat):Int);simp)
      rw [Nat.zero_add] at h1
      exact ⟨k+1,by omega,by go_num,h1.drew,(hbel.setCell (Nat.le_refl _) _).drew⟩
     case measure=>simp [intOf];omega
   · have hke:k=32:=by omega
     subst hke
     go_wp2
     go_ret
     refine ⟨wc.heap.size,rfl,hB5.size,hrow.cong (fun j hj => ?_),hB5.trans (hbel.mono hB5.size)⟩
     rw [outG_at _ _ _ _ hj,HS5.out,←HX.out]
end Go.Proofs.YtibdhadbflfdpaaDoor
namespace Go.Proofs.YtibdhadbflfdpaaDoor
open Go.RowKit
structure HTab (w:World) (K q:Nat→Nat):Prop where
 cubes:∀ j,j<80→w.cell? ⟨2,j,none⟩=some (.int .u64 (K j))
 squares:∀ j,j<8→w.cell? ⟨1,j,none⟩=some (.int .u64 (q j))
 narrow:Rules32 w 0
 wide:Rules64 w 3
 Klt:∀ j,K j<18446744073709551616
 qlt:∀ j,q j<18446744073709551616
theorem HTab.size {w:World} {K q:Nat→Nat} (h:HTab w K q):3<w.heap.size:=by
 first | exact block_lt_of_cell (h.cubes 0 (by decide)) | exact block_lt_of_cell h.wide.1 | exact block_lt_of_cell h.narrow.1 | exact block_lt_of_cell (h.squares 0 (by decide))
theorem HTab.below {w w':World} {K q:Nat→Nat} (h:HTab w K q) {n:Nat} (hb:Below n w w') (hn:3<n):HTab w' K q :=
 ⟨fun j hj=>(hb.cell (p:=⟨2,j,none⟩) (by show 2<n;omega)).trans (h.cubes j hj),fun j hj=>(hb.cell (p:=⟨1,j,none⟩) (by show 1<n;omega)).trans (h.squares j hj),h.narrow.below hb (by omega),h.wide.below hb (by omega),h.Klt,h.qlt⟩
theorem firstS_lt (r:Ru) (q:Nat→Nat) (hm:r.m≤64) (hq:∀ j,q j<18446744073709551616):(firstS r q).lt (2 ^ r.m):=by
 have h:∀ j,q j / 2 ^ (64 - r.m)<2 ^ r.m:=fun j=>by
  rw [Nat.div_lt_iff_lt_mul (Nat.two_pow_pos _),←Nat.pow_add,show r.m+(64 - r.m)=64 by omega];exact hq j
 exact ⟨h 0,h 1,h 2,h 3,h 4,h 5,h 6,h 7⟩
def hashS (r:Ru) (K q:Nat→Nat) (n:Nat) (bs:Nat→Nat):St:=endS r K (writeE r K (firstS r q) (fun _=>0) 0 n bs).1 (writeE r K (firstS r q) (fun _=>0) 0 n bs).2 n
theorem BytesIn.away {w w':World} {v:Value} {n:Nat} {bs:Nat→Nat} (h:BytesIn w v n bs) (hb:Below w.heap.size w w') {b:Nat} (hn:w.heap.size≤b):Bytes w' b v n bs:=by
 rcases h with h | ⟨bb,ob,cap,rfl,h1,h2,h3⟩
 · exact .inl h
 · exact .inr ⟨bb,ob,cap,rfl,by omega,h2,fun j hj=>(hb.cell (p:=⟨bb,ob+j,none⟩) h1).trans (h3 j hj)⟩
theorem there_new32 (w:World):(w.alloc (.cells zeng32 59)).there w.heap.size 0 137:=(EngAt.fresh (K := .u32) w zSt (fun _=>0) 0 59).there
set_option maxRecDepth 20000 in
set_option maxHeartbeats 1000000 in
theorem Sum256_any (K q:Nat→Nat) (v:Value) (n:Nat) (bs:Nat→Nat) (hbs:∀ j,bs j<256) (w:World) (hT:HTab w K q) (hv:BytesIn w v n bs) (hn:n<2305843009213693952) :
 Calls Tryd.prog 23 #[v] w
  fun e w'=>∃ g,e = .returned (.slice (some ⟨g,0,none⟩) 32 32)∧w.heap.size≤g∧RowAt .u8 w' g 0 32 (outB 32 (hashS rn K q n bs))∧Below w.heap.size w w':=by
 have hz:=zero59
 obtain ⟨p0,p1,p2,p3,p4,p5,p6,p7,p8,p9,p10,p11,p12,p13⟩:=id hT.narrow
 have hst:=start32_any q hT.qlt w hT.squares
 have hi:=isz59 .u32 (firstS rn q) (fun _=>0) 0
 have hone:=all_oneCell_toArray (engVals_one .u32 (firstS rn q) (fun _=>0) 0)
 have hF:(firstS rn q).lt 4294967296:=firstS_lt rn q (by decide) hT.qlt
 have hkey:∀ w1:World,Below w.heap.size w w1→(w1.alloc (.cells zeng32 59)).there w1.heap.size 0 (engVals .u32 (firstS rn q) (fun _=>0) 0).toArray.size∧∀ w2,w2=(w1.alloc (.cells zeng32 59)).setCells w1.heap.size 0 (engVals .u32 (firstS rn q) (fun _=>0) 0)→Rules32 w2 0∧Calls Tryd.prog 35 #[.pointer (some ⟨w1.heap.size,0,none⟩),(.agg #[.int .i64 32,.int .i64 64,.int .u64 7,.int .u64 18,.int .u64 3,.int .u64 17,.int .u64 19,.int .u64 10,.int .u64 2,.int .u64 13,.int .u64 22,.int .u64 6,.int .u64 11,.int .u64 25]),v] w2 fun e w'=>e = .returned (.tuple #[])∧Rules32 w' 0∧EngAt .u32 w' w1.heap.size 0 (writeE rn K (firstS rn q) (fun _=>0) 0 n bs).1 (writeE rn K (firstS rn q) (fun _=>0) 0 n bs).2 n∧Below w.heap.size w w'∧∀ j,j<80→w'.cell? ⟨2,j,none⟩=some (.int .u64 (K j)):=fun w1 hb1=>by
  refine ⟨by simp only [List.size_toArray,engVals_len];exact there_new32 w1,fun w2 hw2 => ?_⟩
  have h3:=hT.size
  have hs1:=hb1.size
  have hE:EngAt .u32 w2 w1.heap.size 0 (firstS rn q) (fun _=>0) 0:=by rw [hw2];exact EngAt.stored (there_new32 w1) _ _ _
  have hb2:Below w1.heap.size w1 w2:=by rw [hw2];exact below_setCells (Nat.le_refl _) _ _ _ ((Below.refl _ _).alloc (Nat.le_refl _) _)
  have hb3:Below w.heap.size w w2:=hb1.trans (hb2.mono hs1)
  have hT2:=hT.below hb3 h3
  refine ⟨hT2.narrow,(write32_any K hT.Klt (firstS rn q) hF (fun _=>0) (fun _=>by decide) w1.heap.size 0 0 n v bs hbs w2 hE hT2.cubes (by omega) (hv.away hb3 hs1) (by omega)).mono ?_⟩
  rintro e w' ⟨rfl,hE',hO'⟩
  have hl:w1.heap.size<w2.heap.size:=block_lt_of_cell hE.cnt
  have hb4:Below w.heap.size w w':=hb3.trans (hO'.below hs1 (by omega))
  have hT3:=hT.below hb4 h3
  rw [Nat.zero_add] at hE'
  exact ⟨rfl,hT3.narrow,hE',hb4,hT3.cubes⟩
 have hX:=writeE_lt (r:=rn) (K:=K) (c:=0) (n:=n) hF (fun _=>(by decide:(0:Nat)<256)) hbs
 obtain ⟨X,hXe⟩:∃ X,X=writeE rn K (firstS rn q) (fun _=>0) 0 n bs:=⟨_,rfl⟩
 have HX:Hid (X=writeE rn K (firstS rn q) (fun _=>0) 0 n bs):=hXe
 rw [←hXe] at hkey hX
 have hsum:=fun w' h=>sum32_any K hT.Klt X.1 hX.1 X.2 hX.2 n hn w' h
 clear hXe hv hT hF
 go_enter Tryd.func23,Tryd.ntmps23
 go_wp2_with (first
  | (go_at_call 34;refine hst.mono ?_;clear hst;rintro e w1 ⟨rfl,hb1⟩;obtain ⟨ht,hk2⟩:=hkey w1 hb1;clear hkey)
  | (refine wpList_store_mid rfl 59 _ _ rfl _ 0 _ rfl rfl ht hi hone ?_;rw [List.toList_toArray];obtain ⟨w2,hw2⟩:∃ w2,w2=(w1.alloc (.cells zeng32 59)).setCells w1.heap.size 0 (engVals .u32 (firstS rn q) (fun _=>0) 0):=⟨_,rfl⟩;obtain ⟨⟨r0,r1,r2,r3,r4,r5,r6,r7,r8,r9,r10,r11,r12,r13⟩,hwr⟩:=hk2 w2 hw2;rw [←hw2];clear hw2 hk2 ht hi hone hz)
  | (go_at_call 35;refine hwr.mono ?_;clear hwr;rintro e w5 ⟨rfl,⟨t0,t1,t2,t3,t4,t5,t6,t7,t8,t9,t10,t11,t12,t13⟩,hE5,hB5,hc5⟩)
  | (refine wpList_load_mid rfl 59 _ rfl _ 0 rfl _ _ hE5.range Tryd.underlying59 rfl (by rw [engVals_len];kernel_rfl) ?_)
  | (go_at_call 36;refine (hsum w5 hc5).mono ?_;rintro e w6 ⟨g,rfl,hg,hrow,hb6⟩))
 go_ret
 have e:hashS rn K q n bs=endS rn K X.1 X.2 n:=by rw [HX.out];rfl
 rw [e]
 exact ⟨g,rfl,Nat.le_trans hB5.size hg,hrow,hB5.trans (hb6.mono hB5.size)⟩
end Go.Proofs.YtibdhadbflfdpaaDoor
namespace Go.Proofs.YtibdhadbflfdpaaDoor
open Go.RowKit
structure Lists32 (w:World) (g0 g1 g2 g3:Nat):Prop where
 a0:w.cell? ⟨g0,0,none⟩=some (.int .i64 7)
 a1:w.cell? ⟨g0,1,none⟩=some (.int .i64 18)
 a2:w.cell? ⟨g0,2,none⟩=some (.int .i64 3)
 b0:w.cell? ⟨g1,0,none⟩=some (.int .i64 17)
 b1:w.cell? ⟨g1,1,none⟩=some (.int .i64 19)
 b2:w.cell? ⟨g1,2,none⟩=some (.int .i64 10)
 c0:w.cell? ⟨g2,0,none⟩=some (.int .i64 2)
 c1:w.cell? ⟨g2,1,none⟩=some (.int .i64 13)
 c2:w.cell? ⟨g2,2,none⟩=some (.int .i64 22)
 d0:w.cell? ⟨g3,0,none⟩=some (.int .i64 6)
 d1:w.cell? ⟨g3,1,none⟩=some (.int .i64 11)
 d2:w.cell? ⟨g3,2,none⟩=some (.int .i64 25)
theorem Lists32.below {w w':World} {g0 g1 g2 g3:Nat} (h:Lists32 w g0 g1 g2 g3) (hb:Below w.heap.size w w'):Lists32 w' g0 g1 g2 g3:=by
 have k:∀ {g j:Nat} {v:Value},w.cell? ⟨g,j,none⟩=some v→w'.cell? ⟨g,j,none⟩=some v:=fun {g j v} e=>(hb.cell (p:=⟨g,j,none⟩) (block_lt_of_cell e)).trans e
 exact ⟨k h.a0,k h.a1,k h.a2,k h.b0,k h.b1,k h.b2,k h.c0,k h.c1,k h.c2,k h.d0,k h.d1,k h.d2⟩
theorem cut32_any (g0 g1 g2 g3 x:Nat) (hx:x<18446744073709551616) (w:World) :
 Calls Tryd.prog 59 #[(.agg #[.int .i64 32,.int .i64 64,.int .i64 64,.slice (some ⟨g0,0,none⟩) 3 3,.slice (some ⟨g1,0,none⟩) 3 3,.slice (some ⟨g2,0,none⟩) 3 3,.slice (some ⟨g3,0,none⟩) 3 3]),.int .u64 x] w fun e w'=>e = .returned (.int .u64 ((x%2 ^ 32:Nat):Int))∧Below w.heap.size w w':=by
 go_enter Tryd.func59,Tryd.ntmps59
 go_wp2
 go_ret
 refine ⟨retInt ?_,(Below.refl _ _).alloc (Nat.le_refl _) _⟩
 have e1:(4294967295:Int)=((4294967295:Nat):Int):=rfl
 rw [e1,u64_and_nat _ _ hx (by decide)]
 have:=Nat.and_two_pow_sub_one_eq_mod x 32
 rw [←this]
theorem rotR_32 (x n:Nat) (hx:x<2 ^ 32):((x / 2 ^ n) ||| (x*2 ^ (32 - n)%18446744073709551616))%2 ^ 32=rot 32 x n:=by
 unfold rot
 rw [Nat.or_mod_two_pow,Nat.mod_eq_of_lt (Nat.lt_of_le_of_lt (Nat.div_le_self _ _) hx),show (18446744073709551616:Nat)=2 ^ 64 from rfl,Nat.mod_mod_of_dvd _ (Nat.pow_dvd_pow 2 (by decide))]
theorem rotL_32 (x n:Nat) (hx:x<2 ^ 32):rot 32 x n<18446744073709551616:=Nat.lt_of_lt_of_le (rot_lt 32 x n hx) (by decide)
theorem rotB_32 (x n:Nat) (hx:x<2 ^ 32):((x / 2 ^ n) ||| (x*2 ^ (32 - n)%18446744073709551616))<18446744073709551616 :=
 Nat.or_lt_two_pow (n:=64) (Nat.lt_of_le_of_lt (Nat.div_le_self _ _) (Nat.lt_of_lt_of_le hx (by decide))) (Nat.mod_lt _ (by decide))
set_option maxHeartbeats 400000 in
theorem rotr32_any (g0 g1 g2 g3 x n:Nat) (hx:x<2 ^ 32) (hn:n≤32) (w:World) :
 Calls Tryd.prog 70 #[(.agg #[.int .i64 32,.int .i64 64,.int .i64 64,.slice (some ⟨g0,0,none⟩) 3 3,.slice (some ⟨g1,0,none⟩) 3 3,.slice (some ⟨g2,0,none⟩) 3 3,.slice (some ⟨g3,0,none⟩) 3 3]),.int .u64 x,.int .i64 n] w fun e w'=>e = .returned (.int .u64 ((rot 32 x n:Nat):Int))∧Below w.heap.size w w':=by
 have hx':x<18446744073709551616:=Nat.lt_of_lt_of_le hx (by decide)
 have hb:=rotB_32 x n hx
 have hc:=fun W=>cut32_any g0 g1 g2 g3 _ hb W
 have e1:bits .or .u64 ((x:Int) / 2 ^ n) ((x:Int)*2 ^ (32 - n)%18446744073709551616)=(((x / 2 ^ n) ||| (x*2 ^ (32 - n)%18446744073709551616):Nat):Int):=by
  have f1:(x:Int) / 2 ^ n=((x / 2 ^ n:Nat):Int):=by simp
  have f2:(x:Int)*2 ^ (32 - n)%18446744073709551616=((x*2 ^ (32 - n)%18446744073709551616:Nat):Int):=by simp
  rw [f1,f2,u64_or_nat _ _ (Nat.lt_of_le_of_lt (Nat.div_le_self _ _) hx') (Nat.mod_lt _ (by decide))]
 rw [rotR_32 x n hx,←e1] at hc
 clear hx hb e1
 go_enter Tryd.func70,Tryd.ntmps70
 go_wp2_with (go_at_call 59;refine (hc _).mono ?_;rintro e w' ⟨rfl,hb⟩)
 go_ret
 exact ⟨rfl,((Below.refl _ _).alloc (Nat.le_refl _) _).trans (hb.mono (by simp))⟩
def ZBox32 (W:World) (B g0 g1 g2 g3:Nat):Prop:=W.cell? ⟨B,0,none⟩=some (.int .i64 32)∧W.cell? ⟨B,1,none⟩=some (.int .i64 64)∧W.cell? ⟨B,2,none⟩=some (.int .i64 64)∧W.cell? ⟨B,3,none⟩=some (.slice (some ⟨g0,0,none⟩) 3 3)∧W.cell? ⟨B,4,none⟩=some (.slice (some ⟨g1,0,none⟩) 3 3)∧W.cell? ⟨B,5,none⟩=some (.slice (some ⟨g2,0,none⟩) 3 3)∧W.cell? ⟨B,6,none⟩=some (.slice (some ⟨g3,0,none⟩) 3 3)
theorem ZBox32.below {w w':World} {B g0 g1 g2 g3:Nat} (h:ZBox32 w B g0 g1 g2 g3) (hb:Below w.heap.size w w'):ZBox32 w' B g0 g1 g2 g3:=by
 have k:∀ {g j:Nat} {v:Value},w.cell? ⟨g,j,none⟩=some v→w'.cell? ⟨g,j,none⟩=some v:=fun {g j v} e=>(hb.cell (p:=⟨g,j,none⟩) (block_lt_of_cell e)).trans e
 obtain ⟨h0,h1,h2,h3,h4,h5,h6⟩:=h
 exact ⟨k h0,k h1,k h2,k h3,k h4,k h5,k h6⟩
theorem zbox32 (w:World) (g0 g1 g2 g3:Nat):ZBox32 (w.alloc (.cells #[.int .i64 32,.int .i64 64,.int .i64 64,.slice (some ⟨g0,0,none⟩) 3 3,.slice (some ⟨g1,0,none⟩) 3 3,.slice (some ⟨g2,0,none⟩) 3 3,.slice (some ⟨g3,0,none⟩) 3 3] 68)) w.heap.size g0 g1 g2 g3:=by simp [ZBox32]
set_option maxHeartbeats 1000000 in
theorem high32_any (g0 g1 g2 g3 g x a b c:Nat) (hx:x<2 ^ 32) (ha:a≤32) (hb:b≤32) (hc:c≤32) (w:World) (h0:w.cell? ⟨g,0,none⟩=some (.int .i64 a)) (h1:w.cell? ⟨g,1,none⟩=some (.int .i64 b)) (h2:w.cell? ⟨g,2,none⟩=some (.int .i64 c)) :
 Calls Tryd.prog 60 #[(.agg #[.int .i64 32,.int .i64 64,.int .i64 64,.slice (some ⟨g0,0,none⟩) 3 3,.slice (some ⟨g1,0,none⟩) 3 3,.slice (some ⟨g2,0,none⟩) 3 3,.slice (some ⟨g3,0,none⟩) 3 3]),.int .u64 x,.slice (some ⟨g,0,none⟩) 3 3] w fun e w'=>e = .returned (.int .u64 ((hi3 32 x (a,b,c):Nat):Int))∧Below w.heap.size w w':=by
 have hg:g<w.heap.size:=block_lt_of_cell h0
 obtain ⟨W,hW⟩:∃ W,W=w.alloc (.cells #[.int .i64 32,.int .i64 64,.int .i64 64,.slice (some ⟨g0,0,none⟩) 3 3,.slice (some ⟨g1,0,none⟩) 3 3,.slice (some ⟨g2,0,none⟩) 3 3,.slice (some ⟨g3,0,none⟩) 3 3] 68):=⟨_,rfl⟩
 have HW:Hid (W=w.alloc (.cells #[.int .i64 32,.int .i64 64,.int .i64 64,.slice (some ⟨g0,0,none⟩) 3 3,.slice (some ⟨g1,0,none⟩) 3 3,.slice (some ⟨g2,0,none⟩) 3 3,.slice (some ⟨g3,0,none⟩) 3 3] 68)):=hW
 obtain ⟨c0,c1,c2,c3,c4,c5,c6⟩:ZBox32 W w.heap.size g0 g1 g2 g3:=by rw [hW];exact zbox32 w g0 g1 g2 g3
 have hbW:Below w.heap.size w W:=by rw [hW];exact (Below.refl _ _).alloc (Nat.le_refl _) _
 have k0:=(hbW.cell (p:=⟨g,0,none⟩) hg).trans h0
 have k1:=(hbW.cell (p:=⟨g,1,none⟩) hg).trans h1
 have k2:=(hbW.cell (p:=⟨g,2,none⟩) hg).trans h2
 have q0:w.heap.size<W.heap.size:=by rw [hW];simp
 have q1:g<W.heap.size:=by omega
 have hS:∀ w':World,Below W.heap.size W w'→∀ b o,b<W.heap.size→w'.cell? ⟨b,o,none⟩=W.cell? ⟨b,o,none⟩:=fun w' h b o hb=>h.cell (p:=⟨b,o,none⟩) hb
 have hb0:Below W.heap.size W W.drew:=(Below.refl _ _).drew
 clear hW
 go_enter Tryd.func60,Tryd.ntmps60
 go_wp2
 rw [←HW.out]
 go_region_held3 (fun w'=>Below W.heap.size W w') (assumption) (first
  | (go_at_call 70;refine (rotr32_any g0 g1 g2 g3 _ _ hx (by assumption) _).mono ?_;rintro e w' ⟨rfl,hb⟩;have hbn:=below_next (W:=W) (by assumption) hb))
 go_wp2
 go_ret
 refine ⟨retInt ?_,hbW.trans (hbn.mono (by omega))⟩
 rw [u64_xor_nat _ _ (rotL_32 x a hx) (rotL_32 x b hx),u64_xor_nat _ _ (Nat.xor_lt_two_pow (n:=64) (rotL_32 x a hx) (rotL_32 x b hx)) (rotL_32 x c hx)]
 rfl
set_option maxHeartbeats 1000000 in
theorem low32_any (g0 g1 g2 g3 g x a b c:Nat) (hx:x<2 ^ 32) (ha:a≤32) (hb:b≤32) (hc:c≤32) (w:World) (h0:w.cell? ⟨g,0,none⟩=some (.int .i64 a)) (h1:w.cell? ⟨g,1,none⟩=some (.int .i64 b)) (h2:w.cell? ⟨g,2,none⟩=some (.int .i64 c)) :
 Calls Tryd.prog 69 #[(.agg #[.int .i64 32,.int .i64 64,.int .i64 64,.slice (some ⟨g0,0,none⟩) 3 3,.slice (some ⟨g1,0,none⟩) 3 3,.slice (some ⟨g2,0,none⟩) 3 3,.slice (some ⟨g3,0,none⟩) 3 3]),.int .u64 x,.slice (some ⟨g,0,none⟩) 3 3] w fun e w'=>e = .returned (.int .u64 ((lo3 32 x (a,b,c):Nat):Int))∧Below w.heap.size w w':=by
 have hcc:IntKind.u64.wrap (c:Int)=(c:Int):=by simp only [IntKind.wrap_u64];omega
 have hxl:x<18446744073709551616:=Nat.lt_of_lt_of_le hx (by decide)
 have hg:g<w.heap.size:=block_lt_of_cell h0
 obtain ⟨W,hW⟩:∃ W,W=w.alloc (.cells #[.int .i64 32,.int .i64 64,.int .i64 64,.slice (some ⟨g0,0,none⟩) 3 3,.slice (some ⟨g1,0,none⟩) 3 3,.slice (some ⟨g2,0,none⟩) 3 3,.slice (some ⟨g3,0,none⟩) 3 3] 68):=⟨_,rfl⟩
 have HW:Hid (W=w.alloc (.cells #[.int .i64 32,.int .i64 64,.int .i64 64,.slice (some ⟨g0,0,none⟩) 3 3,.slice (some ⟨g1,0,none⟩) 3 3,.slice (some ⟨g2,0,none⟩) 3 3,.slice (some ⟨g3,0,none⟩) 3 3] 68)):=hW
 obtain ⟨c0,c1,c2,c3,c4,c5,c6⟩:ZBox32 W w.heap.size g0 g1 g2 g3:=by rw [hW];exact zbox32 w g0 g1 g2 g3
 have hbW:Below w.heap.size w W:=by rw [hW];exact (Below.refl _ _).alloc (Nat.le_refl _) _
 have k0:=(hbW.cell (p:=⟨g,0,none⟩) hg).trans h0
 have k1:=(hbW.cell (p:=⟨g,1,none⟩) hg).trans h1
 have k2:=(hbW.cell (p:=⟨g,2,none⟩) hg).trans h2
 have q0:w.heap.size<W.heap.size:=by rw [hW];simp
 have q1:g<W.heap.size:=by omega
 have hS:∀ w':World,Below W.heap.size W w'→∀ b o,b<W.heap.size→w'.cell? ⟨b,o,none⟩=W.cell? ⟨b,o,none⟩:=fun w' h b o hb=>h.cell (p:=⟨b,o,none⟩) hb
 have hb0:Below W.heap.size W W.drew:=(Below.refl _ _).drew
 clear hW
 go_enter Tryd.func69,Tryd.ntmps69
 go_wp2
 rw [←HW.out]
 go_region_held3 (fun w'=>Below W.heap.size W w') (assumption) (first
  | (go_at_call 70;refine (rotr32_any g0 g1 g2 g3 _ _ hx (by assumption) _).mono ?_;rintro e w' ⟨rfl,hb⟩;have hbn:=below_next (W:=W) (by assumption) hb))
 go_wp2
 go_ret
 refine ⟨retInt ?_,hbW.trans (hbn.mono (by omega))⟩
 have e1:(x:Int) / 2 ^ c=((x / 2 ^ c:Nat):Int):=by simp
 rw [e1,u64_xor_nat _ _ (rotL_32 x a hx) (rotL_32 x b hx),u64_xor_nat _ _ (Nat.xor_lt_two_pow (n:=64) (rotL_32 x a hx) (rotL_32 x b hx)) (Nat.lt_of_le_of_lt (Nat.div_le_self _ _) hxl)]
 rfl
structure Lists64 (w:World) (g0 g1 g2 g3:Nat):Prop where
 a0:w.cell? ⟨g0,0,none⟩=some (.int .i64 1)
 a1:w.cell? ⟨g0,1,none⟩=some (.int .i64 8)
 a2:w.cell? ⟨g0,2,none⟩=some (.int .i64 7)
 b0:w.cell? ⟨g1,0,none⟩=some (.int .i64 19)
 b1:w.cell? ⟨g1,1,none⟩=some (.int .i64 61)
 b2:w.cell? ⟨g1,2,none⟩=some (.int .i64 6)
 c0:w.cell? ⟨g2,0,none⟩=some (.int .i64 28)
 c1:w.cell? ⟨g2,1,none⟩=some (.int .i64 34)
 c2:w.cell? ⟨g2,2,none⟩=some (.int .i64 39)
 d0:w.cell? ⟨g3,0,none⟩=some (.int .i64 14)
 d1:w.cell? ⟨g3,1,none⟩=some (.int .i64 18)
 d2:w.cell? ⟨g3,2,none⟩=some (.int .i64 41)
theorem Lists64.below {w w':World} {g0 g1 g2 g3:Nat} (h:Lists64 w g0 g1 g2 g3) (hb:Below w.heap.size w w'):Lists64 w' g0 g1 g2 g3:=by
 have k:∀ {g j:Nat} {v:Value},w.cell? ⟨g,j,none⟩=some v→w'.cell? ⟨g,j,none⟩=some v:=fun {g j v} e=>(hb.cell (p:=⟨g,j,none⟩) (block_lt_of_cell e)).trans e
 exact ⟨k h.a0,k h.a1,k h.a2,k h.b0,k h.b1,k h.b2,k h.c0,k h.c1,k h.c2,k h.d0,k h.d1,k h.d2⟩
def ZBox64 (W:World) (B g0 g1 g2 g3:Nat):Prop:=W.cell? ⟨B,0,none⟩=some (.int .i64 64)∧W.cell? ⟨B,1,none⟩=some (.int .i64 128)∧W.cell? ⟨B,2,none⟩=some (.int .i64 80)∧W.cell? ⟨B,3,none⟩=some (.slice (some ⟨g0,0,none⟩) 3 3)∧W.cell? ⟨B,4,none⟩=some (.slice (some ⟨g1,0,none⟩) 3 3)∧W.cell? ⟨B,5,none⟩=some (.slice (some ⟨g2,0,none⟩) 3 3)∧W.cell? ⟨B,6,none⟩=some (.slice (some ⟨g3,0,none⟩) 3 3)
theorem ZBox64.below {w w':World} {B g0 g1 g2 g3:Nat} (h:ZBox64 w B g0 g1 g2 g3) (hb:Below w.heap.size w w'):ZBox64 w' B g0 g1 g2 g3:=by
 have k:∀ {g j:Nat} {v:Value},w.cell? ⟨g,j,none⟩=some v→w'.cell? ⟨g,j,none⟩=some v:=fun {g j v} e=>(hb.cell (p:=⟨g,j,none⟩) (block_lt_of_cell e)).trans e
 obtain ⟨h0,h1,h2,h3,h4,h5,h6⟩:=h
 exact ⟨k h0,k h1,k h2,k h3,k h4,k h5,k h6⟩
end Go.Proofs.YtibdhadbflfdpaaDoor
namespace Go.Proofs.YtibdhadbflfdpaaDoor
open Go.RowKit
def wordR (bs:Nat→Nat) (o:Nat):Nat→Nat
 | 0=>0
 | k+1=>(wordR bs o k*256%2 ^ 64) ||| bs (o+k)
theorem step_lt (x b m:Nat) (hx:x<2 ^ m) (hb:b<256):(x*256%2 ^ 64 ||| b)<2 ^ (m+8):=by
 refine Nat.or_lt_two_pow (Nat.lt_of_le_of_lt (Nat.mod_le _ _) ?_) (Nat.lt_of_lt_of_le hb ?_)
 · rw [Nat.pow_add];exact Nat.mul_lt_mul_of_pos_right hx (by decide)
 · rw [Nat.pow_add];exact Nat.le_mul_of_pos_left _ (Nat.two_pow_pos m)
theorem wordR32_lt {bs:Nat→Nat} (hb:∀ j,bs j<256) (o:Nat):wordR bs o 4<2 ^ 32 :=
 step_lt _ _ 24 (step_lt _ _ 16 (step_lt _ _ 8 (step_lt _ _ 0 (by simp [wordR]) (hb _)) (hb _)) (hb _)) (hb _)
theorem Tryd.info78:(Tryd.prog.info? 78).map (fun i=>(i.zero,i.size,i.bytes))=some (some (.int .u64 0),1,8):=by kernel_rfl
theorem sch_succ (r:Ru) (X:Nat→Nat) (k:Nat):sch r X (k+1)=upd (sch r X k) (k+16) (nextW r (sch r X k) k):=rfl
set_option maxRecDepth 20000 in
set_option maxHeartbeats 2000000 in
theorem words32_any (g0 g1 g2 g3 bb ob cap:Nat) (bs:Nat→Nat) (hbs:∀ j,bs j<256) (w:World) (hL:Lists32 w g0 g1 g2 g3) (hcell:∀ j,j<64→w.cell? ⟨bb,ob+j,none⟩=some (.int .u8 (bs j))) :
 Calls Tryd.prog 58 #[(.agg #[.int .i64 32,.int .i64 64,.int .i64 64,.slice (some ⟨g0,0,none⟩) 3 3,.slice (some ⟨g1,0,none⟩) 3 3,.slice (some ⟨g2,0,none⟩) 3 3,.slice (some ⟨g3,0,none⟩) 3 3]),.slice (some ⟨bb,ob,none⟩) 64 cap] w fun e w'=>∃ v,e = .returned v∧w'.ownsRow w.heap.size 78 1 v 64 (ints .u64 64 (sch rn (fun i=>wordR bs (4*i) 4) (64 - 16)))∧Below w.heap.size w w':=by
 obtain ⟨i0,hi,hz0,hz1,hz2⟩:=info_parts Tryd.info78
 have hbb:bb<w.heap.size:=block_lt_of_cell (hcell 0 (by decide))
 go_enter Tryd.func58,Tryd.ntmps58
 go_wp2
 go_loopw [6,7] (fun v i wr=>∃ k:Nat,k≤16∧i = .int .i64 k∧wr.ownsRow (w.heap.size+1) 78 1 v k (ints .u64 k (fun i=>wordR bs (4*i) 4))∧Below (w.heap.size+1) (w.alloc (.cells #[.int .i64 32,.int .i64 64,.int .i64 64,.slice (some ⟨g0,0,none⟩) 3 3,.slice (some ⟨g1,0,none⟩) 3 3,.slice (some ⟨g2,0,none⟩) 3 3,.slice (some ⟨g3,0,none⟩) 3 3] 68)) wr) (fun _ i _=>16 - (intOf i).toNat)
 case atStart=>exact ⟨0,Nat.zero_le _,rfl,World.ownsRow_nil _ _ _ _,Below.refl _ _⟩
 case round =>
  obtain ⟨k,hk,rfl,hown,hbel⟩:=hrel
  by_cases hlt:k<16
  · go_wp2
    go_loop [8,9] (fun x j=>∃ m:Nat,m≤4∧j = .int .i64 m∧x = .int .u64 (wordR bs (4*k) m)) (fun _ j=>4 - (intOf j).toNat)
    case atStart=>exact ⟨0,Nat.zero_le _,rfl,rfl⟩
    case round =>
     obtain ⟨m,hm,rfl,rfl⟩:=hrel
     by_cases hlm:m<4
     · have hc:wr.cell? ⟨bb,ob+(4*k+m),none⟩=some (.int .u8 (bs (4*k+m))):=(hbel.cell (p:=⟨bb,ob+(4*k+m),none⟩) (Nat.lt_succ_of_lt hbb)).trans ((World.cell?_alloc_lt _ _ _ hbb).trans (hcell (4*k+m) (by omega)))
       go_wp2
       go_round
       case rel =>
        refine ⟨m+1,by omega,by go_num,?_⟩
        have e:=or8_64 (wordR bs (4*k) m) (bs (4*k+m)) (hbs _)
        simp only [IntKind.wrap_u64]
        rw [e]
        rfl
       case measure=>simp [intOf];omega
     · have hme:m=4:=by omega
       subst hme
       go_wp2_with (at_builtin;refine wpList_append_lies _ rfl (.tmp 35) (.tmp 37) 84 rfl (w.heap.size+1) 78 i0 (.int .u64 0) 1 8 Tryd.underlying84 hi hz0 hz1 hz2 rfl (by decide) _ _ _ rfl (hown.alloc _) ⟨wr.heap.size,0,none⟩ 1 1 [.int .u64 (wordR bs (4*k) 4)] rfl rfl (one_new _ _ _) (one_cell _ _) (by decide) (by unfold maxLen;omega) (by omega) (by have:=hbel.size;simp only [World.size_alloc] at this ⊢;omega) _ rfl ?_;intro g cap' w1 hown1 hgrow hat hgl)
       go_roundw
       case rel =>
        have hs:=hbel.size
        simp only [World.size_alloc] at hs
        have e:=ints_snoc .u64 k (fun i=>wordR bs (4*i) 4)
        exact ⟨k+1,by omega,by go_num,by rw [←e];exact hown1,below_grown (hbel.alloc hs _) hgrow (hown.alloc _) (Nat.le_refl _) (by simp only [World.size_alloc];omega)⟩
       case measure=>simp [intOf];omega
  · have hke:k=16:=by omega
    subst hke
    have hX:∀ j,(fun i=>wordR bs (4*i) 4) j<2 ^ 32:=fun j=>wordR32_lt hbs (4*j)
    obtain ⟨X,hXe⟩:∃ X:Nat→Nat,X=fun i=>wordR bs (4*i) 4:=⟨_,rfl⟩
    have HX:Hid (X=fun i=>wordR bs (4*i) 4):=hXe
    rw [←hXe] at hown hX
    clear hXe hcell hbb hbs
    go_wp2
    go_loopw [6,10] (fun v t w2=>∃ k:Nat,k≤64 - 16∧t = .int .i64 ((k:Int)+16)∧w2.ownsRow (w.heap.size+1) 78 1 v (k+16) (ints .u64 (k+16) (sch rn X k))∧Below (w.heap.size+1) (w.alloc (.cells #[.int .i64 32,.int .i64 64,.int .i64 64,.slice (some ⟨g0,0,none⟩) 3 3,.slice (some ⟨g1,0,none⟩) 3 3,.slice (some ⟨g2,0,none⟩) 3 3,.slice (some ⟨g3,0,none⟩) 3 3] 68)) w2) (fun _ t _=>64 - (intOf t).toNat)
    case atStart=>exact ⟨0,Nat.zero_le _,rfl,hown,hbel⟩
    case round =>
     clear hown hbel
     obtain ⟨k,hk,rfl,hown,hbel⟩:=hrel
     have hs1:=hbel.size
     simp only [World.size_alloc] at hs1
     have hbw:Below w.heap.size w wr:=((Below.refl _ _).alloc (Nat.le_refl _) _).trans (hbel.mono (by omega))
     have hZ:ZBox32 wr w.heap.size g0 g1 g2 g3:=by
      have hc:∀ j,wr.cell? ⟨w.heap.size,j,none⟩=(w.alloc (.cells #[.int .i64 32,.int .i64 64,.int .i64 64,.slice (some ⟨g0,0,none⟩) 3 3,.slice (some ⟨g1,0,none⟩) 3 3,.slice (some ⟨g2,0,none⟩) 3 3,.slice (some ⟨g3,0,none⟩) 3 3] 68)).cell? ⟨w.heap.size,j,none⟩:=fun j=>hbel.cell (p:=⟨w.heap.size,j,none⟩) (Nat.lt_succ_self _)
      have h:=zbox32 w g0 g1 g2 g3
      unfold ZBox32 at *
      simp only [hc]
      exact h
     by_cases hlt:k<64 - 16
     · obtain ⟨gg,cc,hv,hgb,hgl⟩:=hown.form (by omega)
       subst hv
       have hu:=fun j=>sch_lt (r:=rn) hX k j
       have rr:∀ j,j<k+16→wr.cell? ⟨gg,j,none⟩=some (.int .u64 (sch rn X k j)):=fun j hj=>by
        rw [hown.cellAt j (by omega),ints_at _ _ _ j hj]
       have r14:=rr (k+14) (by omega)
       have r9:=rr (k+9) (by omega)
       have r1:=rr (k+1) (by omega)
       have r0:=rr k (by omega)
       obtain ⟨a14,e14⟩:∃ a,a=sch rn X k (k+14):=⟨_,rfl⟩
       obtain ⟨a9,e9⟩:∃ a,a=sch rn X k (k+9):=⟨_,rfl⟩
       obtain ⟨a1,e1⟩:∃ a,a=sch rn X k (k+1):=⟨_,rfl⟩
       obtain ⟨a0,e0⟩:∃ a,a=sch rn X k k:=⟨_,rfl⟩
       have HN:Hid (nextW rn (sch rn X k) k=(lo3 32 a14 (17,19,10)+a9+lo3 32 a1 (7,18,3)+a0)%2 ^ 32):=(by rw [e14,e9,e1,e0];rfl:nextW rn (sch rn X k) k=(lo3 32 a14 (17,19,10)+a9+lo3 32 a1 (7,18,3)+a0)%2 ^ 32)
       have u14:a14<2 ^ 32:=by rw [e14];exact hu _
       have u1:a1<2 ^ 32:=by rw [e1];exact hu _
       rw [←e14] at r14
       rw [←e9] at r9
       rw [←e1] at r1
       rw [←e0] at r0
       clear rr e14 e9 e1 e0 hu
       obtain ⟨b1,f1⟩:∃ a,a=lo3 32 a14 (17,19,10):=⟨_,rfl⟩
       obtain ⟨b2,f2⟩:∃ a,a=lo3 32 a1 (7,18,3):=⟨_,rfl⟩
       have hS1:∀ w':World,Seen (w.heap.size+1) gg (k+16) wr w'→∀ b o,b<w.heap.size+1→w'.cell? ⟨b,o,none⟩=wr.cell? ⟨b,o,none⟩:=fun w' h=>h.1
       have hS2:∀ w':World,Seen (w.heap.size+1) gg (k+16) wr w'→∀ q,q<k+16→w'.cell? ⟨gg,q,none⟩=wr.cell? ⟨gg,q,none⟩:=fun w' h=>h.2
       have hlow1:∀ W':World,Below wr.heap.size wr W'→Calls Tryd.prog 69 #[(.agg #[.int .i64 32,.int .i64 64,.int .i64 64,.slice (some ⟨g0,0,none⟩) 3 3,.slice (some ⟨g1,0,none⟩) 3 3,.slice (some ⟨g2,0,none⟩) 3 3,.slice (some ⟨g3,0,none⟩) 3 3]),.int .u64 a14,.slice (some ⟨g1,0,none⟩) 3 3] W' fun e w'=>e = .returned (.int .u64 (b1:Int))∧Below W'.heap.size W' w':=fun W' h=>by
        have L:=hL.below (hbw.trans (h.mono (by omega)))
        rw [f1]
        exact low32_any g0 g1 g2 g3 g1 _ 17 19 10 u14 (by decide) (by decide) (by decide) W' L.b0 L.b1 L.b2
       have hlow2:∀ W':World,Below wr.heap.size wr W'→Calls Tryd.prog 69 #[(.agg #[.int .i64 32,.int .i64 64,.int .i64 64,.slice (some ⟨g0,0,none⟩) 3 3,.slice (some ⟨g1,0,none⟩) 3 3,.slice (some ⟨g2,0,none⟩) 3 3,.slice (some ⟨g3,0,none⟩) 3 3]),.int .u64 a1,.slice (some ⟨g0,0,none⟩) 3 3] W' fun e w'=>e = .returned (.int .u64 (b2:Int))∧Below W'.heap.size W' w':=fun W' h=>by
        have L:=hL.below (hbw.trans (h.mono (by omega)))
        rw [f2]
        exact low32_any g0 g1 g2 g3 g0 _ 7 18 3 u1 (by decide) (by decide) (by decide) W' L.a0 L.a1 L.a2
       obtain ⟨nx,hnx⟩:∃ a,a=nextW rn (sch rn X k) k:=⟨_,rfl⟩
       have HNX:Hid (nx=nextW rn (sch rn X k) k):=hnx
       have hcut:∀ W':World,Calls Tryd.prog 59 #[(.agg #[.int .i64 32,.int .i64 64,.int .i64 64,.slice (some ⟨g0,0,none⟩) 3 3,.slice (some ⟨g1,0,none⟩) 3 3,.slice (some ⟨g2,0,none⟩) 3 3,.slice (some ⟨g3,0,none⟩) 3 3]),.int .u64 (IntKind.u64.wrap (IntKind.u64.wrap (IntKind.u64.wrap ((b1:Int)+a9)+b2)+a0))] W' fun e w'=>e = .returned (.int .u64 (nx:Int))∧Below W'.heap.size W' w':=fun W'=>by
        have e1:=sum4_64 b1 a9 b2 a0
        simp only [IntKind.wrap_u64]
        rw [e1]
        have h:=cut32_any g0 g1 g2 g3 ((b1+a9+b2+a0)%2 ^ 64) (Nat.mod_lt _ (by decide)) W'
        rw [Nat.mod_mod_of_dvd _ (Nat.pow_dvd_pow 2 (by decide))] at h
        rw [hnx,HN.out,←f1,←f2]
        exact h
       clear hnx f1 f2 u14 u1 HN hL hX
       have hb0:Below wr.heap.size wr wr.drew:=(Below.refl _ _).drew
       have hki:(k:Int)<64 - 16:=by omega
       have k80:k<64:=by omega
       have x14:IntKind.i64.wrap ((k:Int)+16 - 2)=(k:Int)+14:=by simp only [IntKind.wrap_i64];omega
       have x9:IntKind.i64.wrap ((k:Int)+16 - 7)=(k:Int)+9:=by simp only [IntKind.wrap_i64];omega
       have x1:IntKind.i64.wrap ((k:Int)+16 - 15)=(k:Int)+1:=by simp only [IntKind.wrap_i64];omega
       have x0:IntKind.i64.wrap (k:Int)=(k:Int):=by simp only [IntKind.wrap_i64];omega
       have y14:((k:Int)+14).toNat=k+14:=by omega
       have y9:((k:Int)+9).toNat=k+9:=by omega
       have y1:((k:Int)+1).toNat=k+1:=by omega
       have l14:(0:Int)≤(k:Int)+14∧(k:Int)+14<(k:Int)+16:=by omega
       have l9:(0:Int)≤(k:Int)+9∧(k:Int)+9<(k:Int)+16:=by omega
       have l1:(0:Int)≤(k:Int)+1∧(k:Int)+1<(k:Int)+16:=by omega
       have l0:(0:Int)≤(k:Int)∧(k:Int)<(k:Int)+16:=by omega
       have n0:k<k+16:=by omega
       have hm1:k+16+1≤maxLen:=by unfold maxLen;omega
       have hm2:(k+16+1)*8≤140737488355328:=by omega
       have hm3:∀ W':World,Below wr.heap.size wr W'→∀ ob:Obj,w.heap.size+1≤(W'.alloc ob).heap.size:=fun W' h ob=>by have:=h.size;simp only [World.size_alloc];omega
       obtain ⟨z0,z1,z2,z3,z4,z5,z6⟩:=hZ
       go_wp2
       go_region_held3 (fun w'=>Seen (w.heap.size+1) gg (k+16) wr w') (first | assumption | exact Seen.of_below (by assumption) (by omega) hgl | exact Seen.of_below (Below.alloc (by assumption) (Below.size (by assumption)) _) (by omega) hgl) (first
        | (go_at_call_of 69 a14;refine (hlow1 _ (by assumption)).mono ?_;rintro e w' ⟨rfl,hb⟩;have hbn:=below_next (W:=wr) (by assumption) hb)
        | (go_at_call_of 69 a1;refine (hlow2 _ (by assumption)).mono ?_;rintro e w' ⟨rfl,hb⟩;have hbn:=below_next (W:=wr) (by assumption) hb)
        | (go_at_call 59;refine (hcut _).mono ?_;rintro e w' ⟨rfl,hb⟩;have hbn:=below_next (W:=wr) (by assumption) hb)
        | (refine step_append_keep rfl (.tmp 45) (.tmp 79) 84 rfl (w.heap.size+1) 78 i0 (.int .u64 0) 8 Tryd.underlying84 hi hz0 hz1 hz2 rfl gg cc (k+16) _ rfl ((own_below hown (by assumption)).alloc _) ⟨_,0,none⟩ 1 (.int .u64 nx) rfl (one_new _ _ _) rfl hm1 hm2 (hm3 _ hbn _) ?_;intro g' cap' w1 hown1 hgrow hq;have hseen:Seen (w.heap.size+1) gg (k+16) wr w1:=seen_append (hbn.alloc hbn.size _) hgrow hq hgb hs1 hgl))
       clear hS1 hS2 hlow1 hlow2 hcut hb0 x14 x9 x1 x0 y14 y9 y1 l14 l9 l1 l0 r14 r9 r1 r0 z0 z1 z2 z3 z4 z5 z6 hm1 hm2 hm3 hseen
       go_wp2
       go_roundw
       case rel =>
        have e0:=ints_congr .u64 (k+16) (sch rn X k) (sch rn X (k+1)) (fun j hj=>by rw [sch_succ];unfold upd;rw [if_neg (by omega)])
        have e1:=ints_snoc .u64 (k+16) (sch rn X (k+1))
        have e2:sch rn X (k+1) (k+16)=nx:=by rw [HNX.out,sch_succ];unfold upd;rw [if_pos rfl]
        rw [e2] at e1
        have hfin:w1.ownsRow (w.heap.size+1) 78 1 (.slice (some ⟨g',0,none⟩) (k+16+1) cap') (k+1+16) (ints .u64 (k+1+16) (sch rn X (k+1))):=by
         rw [show k+1+16=k+16+1 by omega,←e1,←e0];exact hown1
        have hbf:Below (w.heap.size+1) (w.alloc (.cells #[.int .i64 32,.int .i64 64,.int .i64 64,.slice (some ⟨g0,0,none⟩) 3 3,.slice (some ⟨g1,0,none⟩) 3 3,.slice (some ⟨g2,0,none⟩) 3 3,.slice (some ⟨g3,0,none⟩) 3 3] 68)) w1:=(hbel.trans ((hbn.alloc hbn.size _).mono hs1)).grown hgrow (by have:=hbn.size;simp only [World.size_alloc];omega) (fun q h=>by cases h;exact hgb)
        repeat apply Exists.intro
        refine ⟨?_,rfl⟩
        exact ⟨k+1,by omega,by go_num,hfin,hbf⟩
       case measure=>simp [intOf];omega
     · have hke:k=64 - 16:=by omega
       subst hke
       obtain ⟨z0,z1,z2,z3,z4,z5,z6⟩:=hZ
       go_wp2
       go_ret
       rw [←HX.out]
       exact ⟨_,rfl,own_base hown (by omega),hbw⟩
end Go.Proofs.YtibdhadbflfdpaaDoor
