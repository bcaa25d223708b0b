/- What the proof stands on: Number, Both, Then, Ones. -/
import Derived.Test.YtibdhadbflfdpaaGreatDoorIRowM
import Derived.Test.YtibdhadbflfdpaaGreatDoorLentM
namespace Go.Proofs.YtibdhadbflfdpaaGreatDoor
open Go.RowKit
theorem behind3 {w w1:World} {A B:Obj} {a b c d:Value} {t:TypeId} (h:Below (((w.alloc A).alloc B).alloc (.cells #[a,b,c,d] t)).heap.size (((w.alloc A).alloc B).alloc (.cells #[a,b,c,d] t)) w1):w1.there (w.heap.size+1+1) 0 4∧Below w.heap.size w w1 ∧
 (w1.cell? ⟨w.heap.size+1+1,0,none⟩=some a∧w1.cell? ⟨w.heap.size+1+1,1,none⟩=some b∧w1.cell? ⟨w.heap.size+1+1,2,none⟩=some c∧w1.cell? ⟨w.heap.size+1+1,3,none⟩=some d)∧∀ j,j<4→w1.frozen? ⟨w.heap.size+1+1,j,none⟩=false:=by
 have hs:((w.alloc A).alloc B).heap.size=w.heap.size+1+1:=by simp
 have:=behind' h
 rw [hs] at this
 obtain ⟨h1,h2,h3,h4⟩:=this
 exact ⟨h1,(((Below.refl w.heap.size w).alloc (Nat.le_refl _) A).alloc (by simp) B).trans (h2.mono (by omega)),h3,h4⟩
theorem numAt_boxes (w:World) (x y:Nat) (C:Obj) (t:TypeId):NumAt (((w.alloc (.cells #[.int .u64 (lw x 0),.int .u64 (lw x 1),.int .u64 (lw x 2),.int .u64 (lw x 3)] t)).alloc (.cells #[.int .u64 (lw y 0),.int .u64 (lw y 1),.int .u64 (lw y 2),.int .u64 (lw y 3)] t)).alloc C) w.heap.size x∧NumAt (((w.alloc (.cells #[.int .u64 (lw x 0),.int .u64 (lw x 1),.int .u64 (lw x 2),.int .u64 (lw x 3)] t)).alloc (.cells #[.int .u64 (lw y 0),.int .u64 (lw y 1),.int .u64 (lw y 2),.int .u64 (lw y 3)] t)).alloc C) (w.heap.size+1) y:=by
 have h1:∀ (u:World) (n:Nat),NumAt (u.alloc (.cells #[.int .u64 (lw n 0),.int .u64 (lw n 1),.int .u64 (lw n 2),.int .u64 (lw n 3)] t)) u.heap.size n:=fun u n=>by constructor <;> simp
 refine ⟨((h1 w x).below ((Below.refl _ _).alloc (Nat.le_refl _) _) (by simp)).below ((Below.refl _ _).alloc (Nat.le_refl _) _) (by simp;omega),?_⟩
 have h2:=h1 (w.alloc (.cells #[.int .u64 (lw x 0),.int .u64 (lw x 1),.int .u64 (lw x 2),.int .u64 (lw x 3)] t)) y
 have hs:(w.alloc (.cells #[.int .u64 (lw x 0),.int .u64 (lw x 1),.int .u64 (lw x 2),.int .u64 (lw x 3)] t)).heap.size=w.heap.size+1:=by simp
 rw [hs] at h2
 exact h2.below ((Below.refl _ _).alloc (Nat.le_refl _) C) (by simp)
set_option maxRecDepth 20000 in
set_option maxHeartbeats 2000000 in
theorem plus_any (x y:Nat) (hx:x<pF) (hy:y<pF) (w:World) :
 Calls Tryz.prog 175 #[numV x,numV y] w fun e w'=>e = .returned (numV ((x+y)%pF))∧Below w.heap.size w w':=by
 obtain ⟨hX,hY⟩:=numAt_boxes w x y (.cells #[.int .u64 0,.int .u64 0,.int .u64 0,.int .u64 0] 75) 75
 have hs:=sum_any w.heap.size (w.heap.size+1) x y hx hy _ hX hY
 obtain ⟨N,hN⟩:∃ N,N=(x+y)%pF:=⟨_,rfl⟩
 rw [←hN] at hs ⊢
 obtain ⟨z0,z1,z2,z3,hz⟩:=numV_ex N
 rw [hz] at hs ⊢
 unfold numV
 clear hX hY hN hz
 go_enter Tryz.func175,Tryz.ntmps175
 go_wp2_with (go_at_call 220;refine hs.mono ?_;clear hs;rintro e w1 ⟨rfl,hb1⟩;(obtain ⟨ht1,hbw,⟨t0,t1,t2,t3⟩,hf⟩:=behind3 hb1);(have f0:=hf 0 (by decide));(have f1:=hf 1 (by decide));(have f2:=hf 2 (by decide));(have f3:=hf 3 (by decide));clear hb1 hf)
 (try simp only [Exit.inBlock,Exit.then])
 exact bodyPost_ret (results_set4 Tryz.results175 _ _ _ _ _ _ _ ht1 rfl Tryz.underlying75 rfl (by kernel_rfl)) rfl ⟨rfl,below_set4 hbw (by omega) _ _ _ _⟩
set_option maxRecDepth 20000 in
set_option maxHeartbeats 2000000 in
theorem minus_any (x y:Nat) (hx:x<pF) (hy:y<pF) (w:World) :
 Calls Tryz.prog 112 #[numV x,numV y] w fun e w'=>e = .returned (numV ((x+pF - y)%pF))∧Below w.heap.size w w':=by
 obtain ⟨hX,hY⟩:=numAt_boxes w x y (.cells #[.int .u64 0,.int .u64 0,.int .u64 0,.int .u64 0] 75) 75
 have hs:=difference_any w.heap.size (w.heap.size+1) x y hx hy _ hX hY
 obtain ⟨N,hN⟩:∃ N,N=(x+pF - y)%pF:=⟨_,rfl⟩
 rw [←hN] at hs ⊢
 obtain ⟨z0,z1,z2,z3,hz⟩:=numV_ex N
 rw [hz] at hs ⊢
 unfold numV
 clear hX hY hN hz
 go_enter Tryz.func112,Tryz.ntmps112
 go_wp2_with (go_at_call 176;refine hs.mono ?_;clear hs;rintro e w1 ⟨rfl,hb1⟩;(obtain ⟨ht1,hbw,⟨t0,t1,t2,t3⟩,hf⟩:=behind3 hb1);(have f0:=hf 0 (by decide));(have f1:=hf 1 (by decide));(have f2:=hf 2 (by decide));(have f3:=hf 3 (by decide));clear hb1 hf)
 (try simp only [Exit.inBlock,Exit.then])
 exact bodyPost_ret (results_set4 Tryz.results112 _ _ _ _ _ _ _ ht1 rfl Tryz.underlying75 rfl (by kernel_rfl)) rfl ⟨rfl,below_set4 hbw (by omega) _ _ _ _⟩
set_option maxRecDepth 20000 in
set_option maxHeartbeats 2000000 in
theorem times_any (x y:Nat) (hx:x<pF) (hy:y<pF) (w:World) :
 Calls Tryz.prog 98 #[numV x,numV y] w fun e w'=>e = .returned (numV (x*y%pF))∧Below w.heap.size w w':=by
 obtain ⟨hX,hY⟩:=numAt_boxes w x y (.cells #[.int .u64 0,.int .u64 0,.int .u64 0,.int .u64 0] 75) 75
 have hs:=product_any w.heap.size (w.heap.size+1) x y hx hy _ hX hY
 obtain ⟨N,hN⟩:∃ N,N=x*y%pF:=⟨_,rfl⟩
 rw [←hN] at hs ⊢
 obtain ⟨z0,z1,z2,z3,hz⟩:=numV_ex N
 rw [hz] at hs ⊢
 unfold numV
 clear hX hY hN hz
 go_enter Tryz.func98,Tryz.ntmps98
 go_wp2_with (go_at_call 161;refine hs.mono ?_;clear hs;rintro e w1 ⟨rfl,hb1⟩;(obtain ⟨ht1,hbw,⟨t0,t1,t2,t3⟩,hf⟩:=behind3 hb1);(have f0:=hf 0 (by decide));(have f1:=hf 1 (by decide));(have f2:=hf 2 (by decide));(have f3:=hf 3 (by decide));clear hb1 hf)
 (try simp only [Exit.inBlock,Exit.then])
 exact bodyPost_ret (results_set4 Tryz.results98 _ _ _ _ _ _ _ ht1 rfl Tryz.underlying75 rfl (by kernel_rfl)) rfl ⟨rfl,below_set4 hbw (by omega) _ _ _ _⟩
set_option maxRecDepth 20000 in
set_option maxHeartbeats 2000000 in
theorem bytes_any (n:Nat) (w:World) :
 Calls Tryz.prog 160 #[numV n] w fun e w'=>∃ g,e = .returned (.slice (some ⟨g,0,none⟩) 32 32)∧w.heap.size≤g∧RowAt .u8 w' g 0 32 (byt n)∧Below w.heap.size w w':=by
 obtain ⟨W,hW⟩:∃ W,W=w.alloc (.cells #[.int .u64 (lw n 0),.int .u64 (lw n 1),.int .u64 (lw n 2),.int .u64 (lw n 3)] 75):=⟨_,rfl⟩
 have hN:NumAt W w.heap.size n:=by rw [hW];constructor <;> simp
 have hWs:W.heap.size=w.heap.size+1:=by rw [hW];simp
 have hbW:Below w.heap.size w W:=by rw [hW];exact (Below.refl _ _).alloc (Nat.le_refl _) _
 have hlw:∀ (wr:World),Below (w.heap.size+1) W wr→∀ a,a<4→wr.cell? ⟨w.heap.size,a,none⟩=some (.int .u64 (lw n a)):=fun wr hb a ha=>by
  have h:=hN.below hb (by omega)
  match a,ha with
  | 0,_=>exact h.c0
  | 1,_=>exact h.c1
  | 2,_=>exact h.c2
  | 3,_=>exact h.c3
 have hmk:=make_bytes W 32 32 rfl (by decide)
 have HW:=Hid.mk' hW
 have hb0:Below (w.heap.size+1) W (W.alloc (.cells (zb 32) 5)):=(Below.refl _ _).alloc (by omega) _
 have hrow0:RowAt .u8 (W.alloc (.cells (zb 32) 5)) (w.heap.size+1) 0 32 (fun _=>0):=by rw [←hWs];exact RowAt.fresh (fun j hj=>zb_at 32 j hj)
 unfold numV
 clear hW hN
 go_enter Tryz.func160,Tryz.ntmps160
 go_wp2_with (rw [←HW.out];rw [hmk])
 go_loopw [8] (fun i wr=>∃ k:Nat,k≤32∧i = .int .i64 k∧RowAt .u8 wr (w.heap.size+1) 0 32 (fun j=>if j<k then byt n j else 0)∧Below (w.heap.size+1) W wr) (fun i _=>32 - (intOf i).toNat)
 case atStart=>exact ⟨0,Nat.zero_le _,rfl,hrow0.congr (fun j _=>by simp),hb0⟩
 case round =>
  clear hrow0 hb0 hmk
  obtain ⟨k,hk,rfl,hrow,hb⟩:=hrel
  by_cases hlt:k<32
  · obtain ⟨rk,rf⟩:=hrow k hlt
    rw [Nat.zero_add] at rk rf
    have hc:=hlw wr hb (k / 8) (by omega)
    have rk0:wr.cell? ⟨w.heap.size+1,k,none⟩=some (.int .u8 0):=by simpa using rk
    clear hlw rk
    go_wp2
    go_roundw
    case rel =>
     have h1:=hrow.set (i:=k) hlt (v:=(lw n (k / 8):Int) / 2 ^ (k%8*8)%256) (u:=byt n k) (word_byte_int n k)
     rw [Nat.zero_add] at h1
     refine ⟨k+1,by omega,by go_num,h1.congr (fun j hj => ?_),hb.setCell (Nat.le_refl _) _⟩
     unfold upd
     by_cases e:j=k
     · rw [if_pos e,if_pos (by omega),e]
     · rw [if_neg e]
       show (if j<k then byt n j else 0)=_
       by_cases e2:j<k
       · rw [if_pos e2,if_pos (by omega)]
       · rw [if_neg e2,if_neg (by omega)]
    case measure=>simp [intOf];omega
  · go_wp2
    go_ret
    exact ⟨w.heap.size+1,rfl,by omega,hrow.congr (fun j hj=>by rw [if_pos (by omega)]),hbW.trans (hb.mono (by omega))⟩
theorem results_cell_tmp {P:Program} {fn:Func} {p q:Tmp} {ty:TypeId} (h:fn.results=#[.cell p ty,.tmp q]) (tmps:Array Value) (w:World) (g o:Nat) (cs:List Value) (d:TypeDesc)
 (hp:tmps.getD p undef = .pointer (some ⟨g,o,none⟩)) (hc:w.rangeAt g o cs)
 (hu:P.underlying ty=some d) (hd:d.isRow=true) (hi:(P.info? ty).map (·.size)=some cs.length) :
 (results fn tmps).run P w = .ok (.tuple #[.agg cs.toArray,tmps.getD q undef]) w:=by
 have hp':tmps[p]?.getD undef = .pointer (some ⟨g,o,none⟩):=by simpa using hp
 simp [results,h,hp',asAddr,run_loadVar_mid w g o ty cs d hc hu hd hi]
theorem numV_zero:numV 0 = .agg #[.int .u64 0,.int .u64 0,.int .u64 0,.int .u64 0]:=by kernel_rfl
set_option maxRecDepth 20000 in
set_option maxHeartbeats 2000000 in
theorem from_other (xo:Option Addr) (n c:Nat) (hn:n≠32) (w:World) :
 Calls Tryz.prog 172 #[.slice xo n c] w fun e w'=>e = .returned (.tuple #[numV 0,.int .i64 1])∧Below w.heap.size w w':=by
 have hni:¬(n:Int)=32:=by omega
 rw [numV_zero]
 go_enter Tryz.func172,Tryz.ntmps172
 go_wp2
 (try simp only [Exit.inBlock,Exit.then])
 exact bodyPost_ret (results_cell_tmp Tryz.results172 _ _ w.heap.size 0 [.int .u64 0,.int .u64 0,.int .u64 0,.int .u64 0] _ rfl (range_fresh4 w _ _ _ _ _) Tryz.underlying75 rfl (by kernel_rfl)) rfl ⟨rfl,(Below.refl _ _).alloc (Nat.le_refl _) _⟩
set_option maxRecDepth 20000 in
set_option maxHeartbeats 2000000 in
theorem from_32 (bb ob c:Nat) (bs:Nat→Nat) (hbs:∀ j,bs j<256) (w:World) (hbl:bb<w.heap.size) (hc:∀ j,j<32→w.cell? ⟨bb,ob+j,none⟩=some (.int .u8 (bs j))) :
 Calls Tryz.prog 172 #[.slice (some ⟨bb,ob,none⟩) 32 c] w fun e w'=>e = .returned (.tuple #[numV (ofB bs 32%pF),.int .i64 0])∧Below w.heap.size w w':=by
 obtain ⟨W,hW⟩:∃ W,W=w.alloc (.cells #[.int .u64 0,.int .u64 0,.int .u64 0,.int .u64 0] 75):=⟨_,rfl⟩
 have hWs:W.heap.size=w.heap.size+1:=by rw [hW];simp
 have hbW:Below w.heap.size w W:=by rw [hW];exact (Below.refl _ _).alloc (Nat.le_refl _) _
 have HW:=Hid.mk' hW
 have hrow0:RowAt .u64 (W.alloc (.cells #[.int .u64 0,.int .u64 0,.int .u64 0,.int .u64 0] 73)) (w.heap.size+1) 0 4 (lw (ofB bs 0)):=by
  rw [←hWs]
  have hz:∀ a,lw (ofB bs 0) a=0:=fun a=>by unfold lw ofB;rw [Nat.zero_div,Nat.zero_mod]
  exact RowAt.fresh (fun j hj=>by rw [hz];exact match j,hj with | 0,_=>rfl | 1,_=>rfl | 2,_=>rfl | 3,_=>rfl)
 have hb0:Below (w.heap.size+1) W (W.alloc (.cells #[.int .u64 0,.int .u64 0,.int .u64 0,.int .u64 0] 73)):=(Below.refl _ _).alloc (by omega) _
 have hset:∀ W',Calls Tryz.prog 211 #[.int .u64 (lw (ofB bs 32) 0),.int .u64 (lw (ofB bs 32) 1),.int .u64 (lw (ofB bs 32) 2),.int .u64 (lw (ofB bs 32) 3),.int .u64 0] W' fun e w'=>e = .returned (numV (ofB bs 32%pF))∧Below W'.heap.size W' w':=fun W'=>by
  have:=settle_any (lw (ofB bs 32) 0) (lw (ofB bs 32) 1) (lw (ofB bs 32) 2) (lw (ofB bs 32) 3) 0 (lw_lt _ _) (lw_lt _ _) (lw_lt _ _) (lw_lt _ _) (by decide) W'
  rw [lw_val _ (ofB_lt bs hbs 32),Nat.mul_zero,Nat.add_zero] at this
  exact this
 obtain ⟨N,hN⟩:∃ N,N=ofB bs 32%pF:=⟨_,rfl⟩
 rw [←hN] at hset ⊢
 obtain ⟨z0,z1,z2,z3,hz⟩:=numV_ex N
 rw [hz] at hset ⊢
 clear hW hN hz
 go_enter Tryz.func172,Tryz.ntmps172
 go_wp2
 rw [←HW.out]
 go_loopw [13] (fun i wr=>∃ k:Nat,k≤32∧i = .int .i64 k∧RowAt .u64 wr (w.heap.size+1) 0 4 (lw (ofB bs k))∧Below (w.heap.size+1) W wr) (fun i _=>32 - (intOf i).toNat)
 case atStart=>exact ⟨0,Nat.zero_le _,rfl,hrow0,hb0⟩
 case round =>
  clear hrow0 hb0
  obtain ⟨k,hk,rfl,hrow,hb⟩:=hrel
  by_cases hlt:k<32
  · obtain ⟨rk,rf⟩:=hrow (k / 8) (by omega)
    rw [Nat.zero_add] at rk rf
    have hck:wr.cell? ⟨bb,ob+k,none⟩=some (.int .u8 (bs k)):=((hbW.trans (hb.mono (by omega))).cell (p:=⟨bb,ob+k,none⟩) hbl).trans (hc k hlt)
    have hor:=or_byte (lw (ofB bs k) (k / 8)) (bs k) k (lw_lt _ _) (hbs k)
    have hbk:=hbs k
    clear hc hset
    go_wp2
    go_roundw
    case rel =>
     have h1:=hrow.set (i:=k / 8) (by omega) (v:=((lw (ofB bs k) (k / 8) ||| bs k*2 ^ (k%8*8):Nat):Int)) rfl
     rw [Nat.zero_add] at h1
     refine ⟨k+1,by omega,by go_num,h1.congr (fun j hj => ?_),hb.setCell (Nat.le_refl _) _⟩
     rw [word_more bs hbs k j]
     unfold upd
     by_cases e:j=k / 8
     · rw [if_pos e,if_pos e,e]
     · rw [if_neg e,if_neg e]
    case measure=>simp [intOf];omega
  · have hke:k=32:=by omega
    rw [hke] at hrow
    have d0:=(hrow 0 (by decide)).1
    have d1:=(hrow 1 (by decide)).1
    have d2:=(hrow 2 (by decide)).1
    have d3:=(hrow 3 (by decide)).1
    rw [Nat.zero_add] at d0 d1 d2 d3
    have hsr:=hset wr
    obtain ⟨v0,hv0⟩:∃ v,v=lw (ofB bs 32) 0:=⟨_,rfl⟩
    obtain ⟨v1,hv1⟩:∃ v,v=lw (ofB bs 32) 1:=⟨_,rfl⟩
    obtain ⟨v2,hv2⟩:∃ v,v=lw (ofB bs 32) 2:=⟨_,rfl⟩
    obtain ⟨v3,hv3⟩:∃ v,v=lw (ofB bs 32) 3:=⟨_,rfl⟩
    rw [←hv0] at d0
    rw [←hv1] at d1
    rw [←hv2] at d2
    rw [←hv3] at d3
    rw [←hv0,←hv1,←hv2,←hv3] at hsr
    clear hset hrow hc hke hv0 hv1 hv2 hv3
    have hbr:Below (w.heap.size+1) (w.alloc (.cells #[.int .u64 0,.int .u64 0,.int .u64 0,.int .u64 0] 75)) wr:=by rw [←HW.out];exact hb
    go_wp2_with (go_at_call 211;refine hsr.mono ?_;clear hsr;rintro e w1 ⟨rfl,hb1⟩;(obtain ⟨ht1,hbw,⟨t0,t1,t2,t3⟩,hf⟩:=behind' (w:=w) (by rw [World.size_alloc];exact hbr.trans (hb1.mono (by have:=hbr.size;rw [World.size_alloc] at this;exact this)));(have f0:=hf 0 (by decide));(have f1:=hf 1 (by decide));(have f2:=hf 2 (by decide));(have f3:=hf 3 (by decide));clear hb1 hf))
    (try simp only [Exit.inBlock,Exit.then])
    exact bodyPost_ret (results_cell_tmp Tryz.results172 _ _ w.heap.size 0 [.int .u64 z0,.int .u64 z1,.int .u64 z2,.int .u64 z3] _ rfl (World.rangeAt_setCells_same w1 w.heap.size 0 [.int .u64 z0,.int .u64 z1,.int .u64 z2,.int .u64 z3] ht1) Tryz.underlying75 rfl (by kernel_rfl)) rfl ⟨rfl,below_set4 hbw (Nat.le_refl _) _ _ _ _⟩
end Go.Proofs.YtibdhadbflfdpaaGreatDoor
namespace Go.Proofs.YtibdhadbflfdpaaGreatDoor
open Go.RowKit
structure FourAt (w:World) (g:Nat) (a b c d:Value):Prop where
 c0:w.cell? ⟨g,0,none⟩=some a
 c1:w.cell? ⟨g,1,none⟩=some b
 c2:w.cell? ⟨g,2,none⟩=some c
 c3:w.cell? ⟨g,3,none⟩=some d
 f0:w.frozen? ⟨g,0,none⟩=false
 f1:w.frozen? ⟨g,1,none⟩=false
 f2:w.frozen? ⟨g,2,none⟩=false
 f3:w.frozen? ⟨g,3,none⟩=false
theorem FourAt.below {w w':World} {g B:Nat} {a b c d:Value} (h:FourAt w g a b c d) (hb:Below B w w') (hB:g<B):FourAt w' g a b c d :=
 ⟨(hb.cell (p:=⟨g,0,none⟩) hB).trans h.c0,(hb.cell (p:=⟨g,1,none⟩) hB).trans h.c1,(hb.cell (p:=⟨g,2,none⟩) hB).trans h.c2,(hb.cell (p:=⟨g,3,none⟩) hB).trans h.c3,(hb.frozen (p:=⟨g,0,none⟩) hB).trans h.f0,(hb.frozen (p:=⟨g,1,none⟩) hB).trans h.f1,(hb.frozen (p:=⟨g,2,none⟩) hB).trans h.f2,(hb.frozen (p:=⟨g,3,none⟩) hB).trans h.f3⟩
theorem FourAt.there {w:World} {g:Nat} {a b c d:Value} (h:FourAt w g a b c d):w.there g 0 4:=fun j hj=>by
 match j,hj with
 | 0,_=>exact ⟨by rw [h.c0];rfl,h.f0⟩
 | 1,_=>exact ⟨by rw [show (0+1:Nat)=1 from rfl,h.c1];rfl,h.f1⟩
 | 2,_=>exact ⟨by rw [show (0+2:Nat)=2 from rfl,h.c2];rfl,h.f2⟩
 | 3,_=>exact ⟨by rw [show (0+3:Nat)=3 from rfl,h.c3];rfl,h.f3⟩
theorem FourAt.range {w:World} {g:Nat} {a b c d:Value} (h:FourAt w g a b c d):w.rangeAt g 0 [a,b,c,d]:=fun j v hv=>by
 match j,hv with
 | 0,hv=>cases hv;exact h.c0
 | 1,hv=>cases hv;exact h.c1
 | 2,hv=>cases hv;exact h.c2
 | 3,hv=>cases hv;exact h.c3
theorem FourAt.drew {w:World} {g:Nat} {a b c d:Value} (h:FourAt w g a b c d):FourAt w.drew g a b c d:=⟨h.c0,h.c1,h.c2,h.c3,h.f0,h.f1,h.f2,h.f3⟩
theorem four_fresh (w:World) (a b c d:Value) (t:TypeId):FourAt (w.alloc (.cells #[a,b,c,d] t)) w.heap.size a b c d:=by constructor <;> simp
def set4 (w:World) (g:Nat) (a b c d:Value):World:=(((w.setCell ⟨g,0,none⟩ a).setCell ⟨g,1,none⟩ b).setCell ⟨g,2,none⟩ c).setCell ⟨g,3,none⟩ d
theorem FourAt.set {w:World} {g:Nat} {a b c d:Value} (h:FourAt w g a b c d) (a' b' c' d':Value):FourAt (set4 w g a' b' c' d') g a' b' c' d':=by
 have hr:=World.rangeAt_setCells_same w g 0 [a',b',c',d'] h.there
 have hf:∀ j,(set4 w g a' b' c' d').frozen? ⟨g,j,none⟩=w.frozen? ⟨g,j,none⟩:=fun j=>World.frozen?_setCells g [a',b',c',d'] 0 w _
 exact ⟨hr 0 _ rfl,hr 1 _ rfl,hr 2 _ rfl,hr 3 _ rfl,(hf 0).trans h.f0,(hf 1).trans h.f1,(hf 2).trans h.f2,(hf 3).trans h.f3⟩
theorem set4_other {w:World} {g k:Nat} (hk:k≠g) (a b c d:Value):(set4 w g a b c d).heap[k]? = w.heap[k]?:=heap_setCells_other g [a,b,c,d] 0 w k hk
theorem FourAt.far {w:World} {g k:Nat} {a b c d:Value} (h:FourAt w g a b c d) (hk:g≠k) (a' b' c' d':Value):FourAt (set4 w k a' b' c' d') g a b c d:=by
 have hc:∀ j,(set4 w k a' b' c' d').cell? ⟨g,j,none⟩=w.cell? ⟨g,j,none⟩:=fun j=>World.cell?_of_block (w:=w) (set4_other hk a' b' c' d')
 have hf:∀ j,(set4 w k a' b' c' d').frozen? ⟨g,j,none⟩=w.frozen? ⟨g,j,none⟩:=fun j=>World.frozen?_of_block (w:=w) (set4_other hk a' b' c' d')
 exact ⟨(hc 0).trans h.c0,(hc 1).trans h.c1,(hc 2).trans h.c2,(hc 3).trans h.c3,(hf 0).trans h.f0,(hf 1).trans h.f1,(hf 2).trans h.f2,(hf 3).trans h.f3⟩
theorem below_set4' {B:Nat} {u w:World} {g:Nat} (h:Below B u w) (hg:B≤g) (a b c d:Value):Below B u (set4 w g a b c d):=below_set4 h hg a b c d
theorem size_set4 (w:World) (g:Nat) (a b c d:Value):(set4 w g a b c d).heap.size=w.heap.size:=(setCells_same g [a,b,c,d] 0 w).2.2.2
def fromN (n:Nat) (bs:Nat→Nat):Nat:=if n=32 then ofB bs 32%pF else 0
def fromE (n:Nat):Nat:=if n=32 then 0 else 1
theorem from_any (v:Value) (n:Nat) (bs:Nat→Nat) (hbs:∀ j,bs j<256) (w:World) (hv:BytesIn w v n bs) :
 Calls Tryz.prog 172 #[v] w fun e w'=>e = .returned (.tuple #[numV (fromN n bs),.int .i64 (fromE n)])∧Below w.heap.size w w':=by
 unfold fromN fromE
 by_cases h:n=32
 · subst h
   rw [if_pos rfl,if_pos rfl]
   rcases hv with ⟨_,_,h0⟩ | ⟨bb,ob,cap,rfl,h1,h2,h3⟩
   · omega
   · exact from_32 bb ob cap bs hbs w h1 h3
 · rw [if_neg h,if_neg h]
   obtain ⟨xo,c,rfl,-⟩:=hv.src
   exact from_other xo n c h w
end Go.Proofs.YtibdhadbflfdpaaGreatDoor
namespace Go.Proofs.YtibdhadbflfdpaaGreatDoor
open Go.RowKit
theorem pF_pos:0<pF:=by decide
def sqN (n k:Nat):Nat:=n ^ (2 ^ k)%pF
theorem sqN_lt (n k:Nat):sqN n k<pF:=Nat.mod_lt _ pF_pos
theorem sqN_zero (n:Nat) (h:n<pF):sqN n 0=n:=by unfold sqN;rw [Nat.pow_zero,Nat.pow_one,Nat.mod_eq_of_lt h]
theorem sqN_step (n k:Nat):sqN n k*sqN n k%pF=sqN n (k+1):=by
 unfold sqN
 rw [←Nat.mul_mod,←Nat.pow_add,Nat.pow_succ,Nat.mul_two]
def NumW (w:World) (g n:Nat):Prop:=FourAt w g (.int .u64 (lw n 0)) (.int .u64 (lw n 1)) (.int .u64 (lw n 2)) (.int .u64 (lw n 3))
theorem NumW.ex {w:World} {g n:Nat} (h:NumW w g n):∃ x0 x1 x2 x3:Nat,numV n = .agg #[.int .u64 x0,.int .u64 x1,.int .u64 x2,.int .u64 x3]∧FourAt w g (.int .u64 x0) (.int .u64 x1) (.int .u64 x2) (.int .u64 x3):=⟨_,_,_,_,rfl,h⟩
set_option maxRecDepth 20000 in
set_option maxHeartbeats 2000000 in
theorem then_any (n m k:Nat) (hn:n<pF) (hm:m<pF) (hk:k<1000) (w:World) :
 Calls Tryz.prog 159 #[numV n,.int .i64 k,.func (.func 98) #[numV m] #[]] w fun e w'=>e = .returned (numV (m*sqN n k%pF))∧Below w.heap.size w w':=by
 have ct:=fun W=>times_any m (sqN n k) hm (sqN_lt n k) W
 obtain ⟨R,hR⟩:∃ R,R=m*sqN n k%pF:=⟨_,rfl⟩
 rw [←hR] at ct ⊢
 obtain ⟨z0,z1,z2,z3,hz⟩:=numV_ex R
 obtain ⟨m0,m1,m2,m3,hmv⟩:=numV_ex m
 rw [hz] at ct ⊢
 rw [hmv] at ct ⊢
 obtain ⟨W,hW⟩:∃ W,W=(w.alloc (.cells #[.int .u64 (lw n 0),.int .u64 (lw n 1),.int .u64 (lw n 2),.int .u64 (lw n 3)] 75)).alloc (.cells #[.int .u64 0,.int .u64 0,.int .u64 0,.int .u64 0] 75):=⟨_,rfl⟩
 have HW:=Hid.mk' hW
 have hWs:W.heap.size=w.heap.size+1+1:=by rw [hW];simp
 have hbW:Below w.heap.size w W:=by rw [hW];exact ((Below.refl _ _).alloc (Nat.le_refl _) _).alloc (by simp) _
 have hA:NumW W w.heap.size (sqN n 0):=by rw [sqN_zero n hn,hW];exact (four_fresh w _ _ _ _ _).below ((Below.refl _ _).alloc (Nat.le_refl _) _) (by simp)
 have hB:FourAt W (w.heap.size+1) (.int .u64 0) (.int .u64 0) (.int .u64 0) (.int .u64 0):=by
  have:=four_fresh (w.alloc (.cells #[.int .u64 (lw n 0),.int .u64 (lw n 1),.int .u64 (lw n 2),.int .u64 (lw n 3)] 75)) (.int .u64 0) (.int .u64 0) (.int .u64 0) (.int .u64 0) 75
  rw [World.size_alloc] at this
  rw [hW];exact this
 unfold numV
 clear hW hR hz hmv
 go_enter Tryz.func159,Tryz.ntmps159
 go_wp2
 rw [←HW.out]
 go_loopw [8] (fun i wr=>∃ q:Nat,q≤k∧i = .int .i64 q∧NumW wr w.heap.size (sqN n q)∧FourAt wr (w.heap.size+1) (.int .u64 0) (.int .u64 0) (.int .u64 0) (.int .u64 0)∧Below w.heap.size w wr∧w.heap.size+1<wr.heap.size) (fun i _=>k - (intOf i).toNat)
 case atStart=>exact ⟨0,Nat.zero_le _,rfl,hA,hB,hbW,by omega⟩
 case round =>
  clear hA hB hbW
  obtain ⟨q,hq,rfl,hA,hB,hb,hs⟩:=hrel
  by_cases hlt:q<k
  · have cs:=times_any (sqN n q) (sqN n q) (sqN_lt n q) (sqN_lt n q) wr
    rw [sqN_step] at cs
    obtain ⟨x0,x1,x2,x3,hx,hA'⟩:=hA.ex
    have hy:∃ y0 y1 y2 y3:Nat,numV (sqN n (q+1)) = .agg #[.int .u64 y0,.int .u64 y1,.int .u64 y2,.int .u64 y3]∧∀ W,FourAt W w.heap.size (.int .u64 y0) (.int .u64 y1) (.int .u64 y2) (.int .u64 y3)→NumW W w.heap.size (sqN n (q+1)):=⟨_,_,_,_,rfl,fun _ h=>h⟩
    obtain ⟨y0,y1,y2,y3,hye,hyn⟩:=hy
    rw [hx,hye] at cs
    obtain ⟨c0,c1,c2,c3,f0,f1,f2,f3⟩:=id hA'
    clear ct hx hye hA
    go_wp2_with (go_at_call 98;refine cs.mono ?_;clear cs;rintro e w1 ⟨rfl,hb1⟩;(have A1:=hA'.below hb1 (by omega));clear c0 c1 c2 c3 f0 f1 f2 f3;obtain ⟨c0,c1,c2,c3,f0,f1,f2,f3⟩:=id A1)
    go_roundw
    case rel =>
     refine ⟨q+1,by omega,by go_num,hyn _ (A1.set _ _ _ _),(hB.below hb1 (by omega)).far (by omega) _ _ _ _,below_set4' (hb.trans (hb1.mono hb.size)) (Nat.le_refl _) _ _ _ _,?_⟩
     show w.heap.size+1<(set4 _ _ _ _ _ _).heap.size
     rw [size_set4];have:=hb1.size;omega
    case measure=>simp [intOf];omega
  · have hqe:q=k:=by omega
    rw [hqe] at hA
    obtain ⟨x0,x1,x2,x3,hx,hA'⟩:=hA.ex
    have ct':=ct wr
    rw [hx] at ct'
    obtain ⟨c0,c1,c2,c3,f0,f1,f2,f3⟩:=id hA'
    clear ct hx hA
    go_wp2_with (go_at_call 98;refine ct'.mono ?_;clear ct';rintro e w1 ⟨rfl,hb1⟩;(have B1:=hB.below hb1 (by omega));(have ht1:=B1.there);clear c0 c1 c2 c3 f0 f1 f2 f3;obtain ⟨c0,c1,c2,c3,f0,f1,f2,f3⟩:=B1)
    (try simp only [Exit.inBlock,Exit.then])
    exact bodyPost_ret (results_set4 Tryz.results159 _ _ _ _ _ _ _ ht1 rfl Tryz.underlying75 rfl (by kernel_rfl)) rfl ⟨rfl,below_set4 (hb.trans (hb1.mono hb.size)) (by omega) _ _ _ _⟩
end Go.Proofs.YtibdhadbflfdpaaGreatDoor
namespace Go.Proofs.YtibdhadbflfdpaaGreatDoor
open Go.RowKit
theorem then_pow (x a b k e:Nat) (he:b+a*2 ^ k=e) (hk:k<1000) (w:World) :
 Calls Tryz.prog 159 #[numV (x ^ a%pF),.int .i64 k,.func (.func 98) #[numV (x ^ b%pF)] #[]] w fun e' w'=>e' = .returned (numV (x ^ e%pF))∧Below w.heap.size w w':=by
 have h:=then_any (x ^ a%pF) (x ^ b%pF) k (Nat.mod_lt _ pF_pos) (Nat.mod_lt _ pF_pos) hk w
 have e1:x ^ b%pF*sqN (x ^ a%pF) k%pF=x ^ e%pF:=by
  unfold sqN
  rw [←Nat.pow_mod,←Nat.mul_mod,←Nat.pow_mul,←Nat.pow_add,he]
 rw [e1] at h
 exact h
set_option maxRecDepth 20000 in
set_option maxHeartbeats 4000000 in
theorem ones250_any (x:Nat) (w:World) :
 Calls Tryz.prog 158 #[numV (x ^ 1%pF)] w fun e w'=>e = .returned (numV (x ^ 1809251394333065553493296640760748560207343510400633813116524750123642650623%pF))∧Below w.heap.size w w':=by
 have cc0:=fun W=>then_pow x 1 1 1 3 (by decide) (by decide) W
 have cc1:=fun W=>then_pow x 3 3 2 15 (by decide) (by decide) W
 have cc2:=fun W=>then_pow x 15 1 1 31 (by decide) (by decide) W
 have cc3:=fun W=>then_pow x 31 31 5 1023 (by decide) (by decide) W
 have cc4:=fun W=>then_pow x 1023 1023 10 1048575 (by decide) (by decide) W
 have cc5:=fun W=>then_pow x 1048575 1048575 20 1099511627775 (by decide) (by decide) W
 have cc6:=fun W=>then_pow x 1099511627775 1023 10 1125899906842623 (by decide) (by decide) W
 have cc7:=fun W=>then_pow x 1125899906842623 1125899906842623 50 1267650600228229401496703205375 (by decide) (by decide) W
 have cc8:=fun W=>then_pow x 1267650600228229401496703205375 1267650600228229401496703205375 100 1606938044258990275541962092341162602522202993782792835301375 (by decide) (by decide) W
 have cc9:=fun W=>then_pow x 1606938044258990275541962092341162602522202993782792835301375 1125899906842623 50 1809251394333065553493296640760748560207343510400633813116524750123642650623 (by decide) (by decide) W
 obtain ⟨va0,va1,va2,va3,hva⟩:=numV_ex (x ^ 1%pF)
 obtain ⟨vb0,vb1,vb2,vb3,hvb⟩:=numV_ex (x ^ 3%pF)
 obtain ⟨vc0,vc1,vc2,vc3,hvc⟩:=numV_ex (x ^ 15%pF)
 obtain ⟨vd0,vd1,vd2,vd3,hvd⟩:=numV_ex (x ^ 31%pF)
 obtain ⟨ve0,ve1,ve2,ve3,hve⟩:=numV_ex (x ^ 1023%pF)
 obtain ⟨vf0,vf1,vf2,vf3,hvf⟩:=numV_ex (x ^ 1048575%pF)
 obtain ⟨vg0,vg1,vg2,vg3,hvg⟩:=numV_ex (x ^ 1099511627775%pF)
 obtain ⟨vh0,vh1,vh2,vh3,hvh⟩:=numV_ex (x ^ 1125899906842623%pF)
 obtain ⟨vi0,vi1,vi2,vi3,hvi⟩:=numV_ex (x ^ 1267650600228229401496703205375%pF)
 obtain ⟨vj0,vj1,vj2,vj3,hvj⟩:=numV_ex (x ^ 1606938044258990275541962092341162602522202993782792835301375%pF)
 obtain ⟨vk0,vk1,vk2,vk3,hvk⟩:=numV_ex (x ^ 1809251394333065553493296640760748560207343510400633813116524750123642650623%pF)
 rw [hva,hvb] at cc0
 rw [hvb,hvc] at cc1
 rw [hvc,hva,hvd] at cc2
 rw [hvd,hve] at cc3
 rw [hve,hvf] at cc4
 rw [hvf,hvg] at cc5
 rw [hvg,hve,hvh] at cc6
 rw [hvh,hvi] at cc7
 rw [hvi,hvj] at cc8
 rw [hvj,hvh,hvk] at cc9
 rw [hva,hvk]
 have dd0:∀ W,Calls Tryz.prog 159 #[.agg #[.int .u64 va0,.int .u64 va1,.int .u64 va2,.int .u64 va3],.int .i64 1,.func (.func 98) #[.agg #[.int .u64 va0,.int .u64 va1,.int .u64 va2,.int .u64 va3]] #[]] W fun e w'=>e = .returned (.agg #[.int .u64 vb0,.int .u64 vb1,.int .u64 vb2,.int .u64 vb3])∧Below W.heap.size W w':=cc0
 have dd1:∀ W,Calls Tryz.prog 159 #[.agg #[.int .u64 vb0,.int .u64 vb1,.int .u64 vb2,.int .u64 vb3],.int .i64 2,.func (.func 98) #[.agg #[.int .u64 vb0,.int .u64 vb1,.int .u64 vb2,.int .u64 vb3]] #[]] W fun e w'=>e = .returned (.agg #[.int .u64 vc0,.int .u64 vc1,.int .u64 vc2,.int .u64 vc3])∧Below W.heap.size W w':=cc1
 have dd2:∀ W,Calls Tryz.prog 159 #[.agg #[.int .u64 vc0,.int .u64 vc1,.int .u64 vc2,.int .u64 vc3],.int .i64 1,.func (.func 98) #[.agg #[.int .u64 va0,.int .u64 va1,.int .u64 va2,.int .u64 va3]] #[]] W fun e w'=>e = .returned (.agg #[.int .u64 vd0,.int .u64 vd1,.int .u64 vd2,.int .u64 vd3])∧Below W.heap.size W w':=cc2
 have dd3:∀ W,Calls Tryz.prog 159 #[.agg #[.int .u64 vd0,.int .u64 vd1,.int .u64 vd2,.int .u64 vd3],.int .i64 5,.func (.func 98) #[.agg #[.int .u64 vd0,.int .u64 vd1,.int .u64 vd2,.int .u64 vd3]] #[]] W fun e w'=>e = .returned (.agg #[.int .u64 ve0,.int .u64 ve1,.int .u64 ve2,.int .u64 ve3])∧Below W.heap.size W w':=cc3
 have dd4:∀ W,Calls Tryz.prog 159 #[.agg #[.int .u64 ve0,.int .u64 ve1,.int .u64 ve2,.int .u64 ve3],.int .i64 10,.func (.func 98) #[.agg #[.int .u64 ve0,.int .u64 ve1,.int .u64 ve2,.int .u64 ve3]] #[]] W fun e w'=>e = .returned (.agg #[.int .u64 vf0,.int .u64 vf1,.int .u64 vf2,.int .u64 vf3])∧Below W.heap.size W w':=cc4
 have dd5:∀ W,Calls Tryz.prog 159 #[.agg #[.int .u64 vf0,.int .u64 vf1,.int .u64 vf2,.int .u64 vf3],.int .i64 20,.func (.func 98) #[.agg #[.int .u64 vf0,.int .u64 vf1,.int .u64 vf2,.int .u64 vf3]] #[]] W fun e w'=>e = .returned (.agg #[.int .u64 vg0,.int .u64 vg1,.int .u64 vg2,.int .u64 vg3])∧Below W.heap.size W w':=cc5
 have dd6:∀ W,Calls Tryz.prog 159 #[.agg #[.int .u64 vg0,.int .u64 vg1,.int .u64 vg2,.int .u64 vg3],.int .i64 10,.func (.func 98) #[.agg #[.int .u64 ve0,.int .u64 ve1,.int .u64 ve2,.int .u64 ve3]] #[]] W fun e w'=>e = .returned (.agg #[.int .u64 vh0,.int .u64 vh1,.int .u64 vh2,.int .u64 vh3])∧Below W.heap.size W w':=cc6
 have dd7:∀ W,Calls Tryz.prog 159 #[.agg #[.int .u64 vh0,.int .u64 vh1,.int .u64 vh2,.int .u64 vh3],.int .i64 50,.func (.func 98) #[.agg #[.int .u64 vh0,.int .u64 vh1,.int .u64 vh2,.int .u64 vh3]] #[]] W fun e w'=>e = .returned (.agg #[.int .u64 vi0,.int .u64 vi1,.int .u64 vi2,.int .u64 vi3])∧Below W.heap.size W w':=cc7
 have dd8:∀ W,Calls Tryz.prog 159 #[.agg #[.int .u64 vi0,.int .u64 vi1,.int .u64 vi2,.int .u64 vi3],.int .i64 100,.func (.func 98) #[.agg #[.int .u64 vi0,.int .u64 vi1,.int .u64 vi2,.int .u64 vi3]] #[]] W fun e w'=>e = .returned (.agg #[.int .u64 vj0,.int .u64 vj1,.int .u64 vj2,.int .u64 vj3])∧Below W.heap.size W w':=cc8
 have dd9:∀ W,Calls Tryz.prog 159 #[.agg #[.int .u64 vj0,.int .u64 vj1,.int .u64 vj2,.int .u64 vj3],.int .i64 50,.func (.func 98) #[.agg #[.int .u64 vh0,.int .u64 vh1,.int .u64 vh2,.int .u64 vh3]] #[]] W fun e w'=>e = .returned (.agg #[.int .u64 vk0,.int .u64 vk1,.int .u64 vk2,.int .u64 vk3])∧Below W.heap.size W w':=cc9
 clear cc0 cc1 cc2 cc3 cc4 cc5 cc6 cc7 cc8 cc9 hva hvb hvc hvd hve hvf hvg hvh hvi hvj hvk
 obtain ⟨W,hW⟩:∃ W,W=(w.alloc (.cells #[.int .u64 va0,.int .u64 va1,.int .u64 va2,.int .u64 va3] 75)).alloc (.cells #[.int .u64 0,.int .u64 0,.int .u64 0,.int .u64 0] 75):=⟨_,rfl⟩
 have HW:=Hid.mk' hW
 have hWs:W.heap.size=w.heap.size+1+1:=by rw [hW];simp
 have hbW:Below w.heap.size w W:=by rw [hW];exact ((Below.refl _ _).alloc (Nat.le_refl _) _).alloc (by simp) _
 have N0:FourAt W w.heap.size (.int .u64 va0) (.int .u64 va1) (.int .u64 va2) (.int .u64 va3):=by rw [hW];exact (four_fresh w _ _ _ _ _).below ((Below.refl _ _).alloc (Nat.le_refl _) _) (by simp)
 have R0:FourAt W (w.heap.size+1) (.int .u64 0) (.int .u64 0) (.int .u64 0) (.int .u64 0):=by
  have:=four_fresh (w.alloc (.cells #[.int .u64 va0,.int .u64 va1,.int .u64 va2,.int .u64 va3] 75)) (.int .u64 0) (.int .u64 0) (.int .u64 0) (.int .u64 0) 75
  rw [World.size_alloc] at this
  rw [hW];exact this
 clear hW
 go_enter Tryz.func158,Tryz.ntmps158
 go_wp2_with (first
  | (go_at_call 159;rw [←HW.out];refine (dd0 _).mono ?_;clear dd0;rintro e w1 ⟨rfl,bel1⟩;(have N1:=N0.below bel1 (by omega));(have R1:=R0.below bel1 (by omega));(have zz1:w.heap.size+1+1≤w1.heap.size:=by have:=bel1.size;omega);(have hw1:Below w.heap.size w w1:=hbW.trans (bel1.mono (by omega))))
  | (go_at_call 159;refine (dd1 _).mono ?_;clear dd1;rintro e w2 ⟨rfl,bel2⟩;(have sz2:w1.heap.size+1≤w2.heap.size:=by have:=bel2.size;rw [World.size_alloc] at this;exact this);(have tb2:Below w1.heap.size w1 w2:=((Below.refl w1.heap.size w1).alloc (Nat.le_refl _) _).trans (bel2.mono (by rw [World.size_alloc];omega)));(have zz2:w.heap.size+1+1≤w2.heap.size:=by omega);(have hw2:Below w.heap.size w w2:=hw1.trans (tb2.mono (by omega)));(have R2:=R1.below tb2 (by omega));(have N2:=N1.below tb2 (by omega));(have q2:w.heap.size<w2.heap.size:=by omega);(obtain ⟨n0,n1,n2,n3,-,-,-,-⟩:=id N2))
  | (go_at_call 159;refine (dd2 _).mono ?_;clear dd2;rintro e w3 ⟨rfl,bel3⟩;(have sz3:w2.heap.size+1≤w3.heap.size:=by have:=bel3.size;rw [World.size_alloc] at this;exact this);(have tb3:Below w2.heap.size w2 w3:=((Below.refl w2.heap.size w2).alloc (Nat.le_refl _) _).trans (bel3.mono (by rw [World.size_alloc];omega)));(have zz3:w.heap.size+1+1≤w3.heap.size:=by omega);(have hw3:Below w.heap.size w w3:=hw2.trans (tb3.mono (by omega)));(have R3:=R2.below tb3 (by omega)))
  | (go_at_call 159;refine (dd3 _).mono ?_;clear dd3;rintro e w4 ⟨rfl,bel4⟩;(have sz4:w3.heap.size+1≤w4.heap.size:=by have:=bel4.size;rw [World.size_alloc] at this;exact this);(have tb4:Below w3.heap.size w3 w4:=((Below.refl w3.heap.size w3).alloc (Nat.le_refl _) _).trans (bel4.mono (by rw [World.size_alloc];omega)));(have zz4:w.heap.size+1+1≤w4.heap.size:=by omega);(have hw4:Below w.heap.size w w4:=hw3.trans (tb4.mono (by omega)));(have R4:=R3.below tb4 (by omega)))
  | (go_at_call 159;refine (dd4 _).mono ?_;clear dd4;rintro e w5 ⟨rfl,bel5⟩;(have sz5:w4.heap.size+1≤w5.heap.size:=by have:=bel5.size;rw [World.size_alloc] at this;exact this);(have tb5:Below w4.heap.size w4 w5:=((Below.refl w4.heap.size w4).alloc (Nat.le_refl _) _).trans (bel5.mono (by rw [World.size_alloc];omega)));(have zz5:w.heap.size+1+1≤w5.heap.size:=by omega);(have hw5:Below w.heap.size w w5:=hw4.trans (tb5.mono (by omega)));(have R5:=R4.below tb5 (by omega));(have T5:=(four_fresh w4 (.int .u64 ve0) (.int .u64 ve1) (.int .u64 ve2) (.int .u64 ve3) 75).below bel5 (by simp));(have q5:w4.heap.size<w5.heap.size:=by omega))
  | (go_at_call 159;refine (dd5 _).mono ?_;clear dd5;rintro e w6 ⟨rfl,bel6⟩;(have sz6:w5.heap.size+1≤w6.heap.size:=by have:=bel6.size;rw [World.size_alloc] at this;exact this);(have tb6:Below w5.heap.size w5 w6:=((Below.refl w5.heap.size w5).alloc (Nat.le_refl _) _).trans (bel6.mono (by rw [World.size_alloc];omega)));(have zz6:w.heap.size+1+1≤w6.heap.size:=by omega);(have hw6:Below w.heap.size w w6:=hw5.trans (tb6.mono (by omega)));(have R6:=R5.below tb6 (by omega));(have T6:=T5.below tb6 (by omega));(have q6:w4.heap.size<w6.heap.size:=by omega);(obtain ⟨m0,m1,m2,m3,-,-,-,-⟩:=id T6))
  | (go_at_call 159;refine (dd6 _).mono ?_;clear dd6;rintro e w7 ⟨rfl,bel7⟩;(have sz7:w6.heap.size+1≤w7.heap.size:=by have:=bel7.size;rw [World.size_alloc] at this;exact this);(have tb7:Below w6.heap.size w6 w7:=((Below.refl w6.heap.size w6).alloc (Nat.le_refl _) _).trans (bel7.mono (by rw [World.size_alloc];omega)));(have zz7:w.heap.size+1+1≤w7.heap.size:=by omega);(have hw7:Below w.heap.size w w7:=hw6.trans (tb7.mono (by omega)));(have R7:=R6.below tb7 (by omega)))
  | (go_at_call 159;refine (dd7 _).mono ?_;clear dd7;rintro e w8 ⟨rfl,bel8⟩;(have sz8:w7.heap.size+1≤w8.heap.size:=by have:=bel8.size;rw [World.size_alloc] at this;exact this);(have tb8:Below w7.heap.size w7 w8:=((Below.refl w7.heap.size w7).alloc (Nat.le_refl _) _).trans (bel8.mono (by rw [World.size_alloc];omega)));(have zz8:w.heap.size+1+1≤w8.heap.size:=by omega);(have hw8:Below w.heap.size w w8:=hw7.trans (tb8.mono (by omega)));(have R8:=R7.below tb8 (by omega));(have F8:=(four_fresh w7 (.int .u64 vh0) (.int .u64 vh1) (.int .u64 vh2) (.int .u64 vh3) 75).below bel8 (by simp));(have q8:w7.heap.size<w8.heap.size:=by omega))
  | (go_at_call 159;refine (dd8 _).mono ?_;clear dd8;rintro e w9 ⟨rfl,bel9⟩;(have sz9:w8.heap.size+1≤w9.heap.size:=by have:=bel9.size;rw [World.size_alloc] at this;exact this);(have tb9:Below w8.heap.size w8 w9:=((Below.refl w8.heap.size w8).alloc (Nat.le_refl _) _).trans (bel9.mono (by rw [World.size_alloc];omega)));(have zz9:w.heap.size+1+1≤w9.heap.size:=by omega);(have hw9:Below w.heap.size w w9:=hw8.trans (tb9.mono (by omega)));(have R9:=R8.below tb9 (by omega));(have F9:=F8.below tb9 (by omega));(have q9:w7.heap.size<w9.heap.size:=by omega);(obtain ⟨p0,p1,p2,p3,-,-,-,-⟩:=id F9))
  | (go_at_call 159;refine (dd9 _).mono ?_;clear dd9;rintro e w10 ⟨rfl,bel10⟩;(have sz10:w9.heap.size+1≤w10.heap.size:=by have:=bel10.size;rw [World.size_alloc] at this;exact this);(have tb10:Below w9.heap.size w9 w10:=((Below.refl w9.heap.size w9).alloc (Nat.le_refl _) _).trans (bel10.mono (by rw [World.size_alloc];omega)));(have zz10:w.heap.size+1+1≤w10.heap.size:=by omega);(have hw10:Below w.heap.size w w10:=hw9.trans (tb10.mono (by omega)));(have R10:=R9.below tb10 (by omega));(have ht:=R10.there);(obtain ⟨r0,r1,r2,r3,f0,f1,f2,f3⟩:=id R10)))
 (try simp only [Exit.inBlock,Exit.then])
 exact bodyPost_ret (results_set4 Tryz.results158 _ _ _ _ _ _ _ ht rfl Tryz.underlying75 rfl (by kernel_rfl)) rfl ⟨rfl,below_set4 hw10 (by omega) _ _ _ _⟩
end Go.Proofs.YtibdhadbflfdpaaGreatDoor
