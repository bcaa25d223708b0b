/- What the proof stands on: HHmac, HBlock, Narrow, RWk, RFn, HExp, HExpand, QApp, QMath, HRefHmac, QRX, Grw, QCC. -/
import Derived.Test.YtcgkajlehdgpoaaGreatDoorBaseM
import Derived.Test.YtcgkajlehdgpoaaGreatDoorHStartM
import Derived.ArgAppend
import Derived.Deep.AppendLies
import Derived.Deep.Cut
import Derived.Deep.RegionLawGrows
import Derived.Deep.RegionWith
import Derived.Deep.Upon
import Derived.Lib.ConvBytes
import Derived.Lib.SlBytesConst
import Derived.LoopIn
import Derived.LoopNIn
import Derived.OwnWalkIn
import Derived.RangeFuncBound
import Derived.RangeFuncCalls
import Derived.RangeFuncLeaves
import Derived.RangeFuncNested
import Derived.Shelf.Abstract
import Derived.Shelf.RegionOpen
import Derived.TacticsInMore
namespace Go.Proofs.YtcgkajlehdgpoaaGreatDoor
open Go.RowKit
def Parts (w:World) (gp cnt m:Nat) (t:Nat→Nat):Prop:=∃ (pvs:Nat→Value) (L:Nat→Nat),L 0=0∧L cnt=m∧∀ i,i<cnt→w.cell? ⟨gp,i,none⟩=some (pvs i)∧L i≤L (i+1)∧L (i+1)≤m∧BytesIn w (pvs i) (L (i+1) - L i) (fun j=>t (L i+j))
theorem Parts.below {w w':World} {gp cnt m:Nat} {t:Nat→Nat} (h:Parts w gp cnt m t) (hb:Below w.heap.size w w'):Parts w' gp cnt m t:=by
 obtain ⟨pvs,L,h0,h1,h2⟩:=h
 exact ⟨pvs,L,h0,h1,fun i hi=>⟨(hb.cell (p:=⟨gp,i,none⟩) (block_lt_of_cell (h2 i hi).1)).trans (h2 i hi).1,(h2 i hi).2.1,(h2 i hi).2.2.1,(h2 i hi).2.2.2.still hb⟩⟩
theorem parts_one (w:World) (v:Value) (n:Nat) (bs:Nat→Nat) (ty:TypeId) (h:BytesIn w v n bs):Parts (w.alloc (.cells #[v] ty)) w.heap.size 1 n bs:=by
 refine ⟨fun _=>v,fun i=>if i=0 then 0 else n,rfl,rfl,fun i hi => ?_⟩
 have:i=0:=by omega
 subst this
 refine ⟨by simp,Nat.zero_le _,Nat.le_refl _,?_⟩
 have:=h.still ((Below.refl _ _).alloc (Nat.le_refl _) (.cells #[v] ty))
 simpa using this
def xorG (kv:Nat→Nat) (p k:Nat):Nat→Nat:=fun j=>if j<k then kv j ^^^ p else kv j
theorem xorG_step (kv:Nat→Nat) (p k j:Nat):upd (xorG kv p k) k (kv k ^^^ p) j=xorG kv p (k+1) j:=by
 unfold upd xorG
 by_cases e:j=k
 · subst e;rw [if_pos rfl,if_pos (by omega)]
 · rw [if_neg e]
   by_cases e2:j<k
   · rw [if_pos e2,if_pos (by omega)]
   · rw [if_neg e2,if_neg (by omega)]
def padH (kv:Nat→Nat) (p m:Nat) (t:Nat→Nat):Nat→Nat:=outB 32 (specS rn cubeK squareK (64+m) (cat 64 (fun j=>kv j ^^^ p) t))
set_option maxRecDepth 20000 in
set_option maxHeartbeats 2000000 in
theorem hpadded_any (kv:Nat→Nat) (hkv:∀ j,kv j<256) (p:Nat) (hp:p<256) (gp cnt cap m:Nat) (t:Nat→Nat) (ht:∀ j,t j<256) (hm:m<2305843009213693000) (w:World) (hT:HTab w cubeK squareK) (hP:Parts w gp cnt m t) (hcnt:cnt<1000000) :
 Calls Tryz.prog 121 #[.agg (ints .u8 64 kv).toArray,.int .u8 p,.slice (some ⟨gp,0,none⟩) cnt cap] w
  fun e w'=>∃ g,e = .returned (.slice (some ⟨g,0,none⟩) 32 32)∧w.heap.size≤g∧RowAt .u8 w' g 0 32 (padH kv p m t)∧Below w.heap.size w w':=by
 have h3:=hT.size
 have hnew:=fun W (h:Below w.heap.size w W)=>newMade256 W (hT.below h h3) (cat 64 (fun j=>kv j ^^^ p) t)
 have hrow0:=row_fresh .u8 w 64 kv 136
 obtain ⟨pvs,L,hL0,hLm,hcell⟩:=hP
 go_enter Tryz.func121,Tryz.ntmps121
 go_wp2
 go_loopw [11] (fun i wr=>∃ k:Nat,k≤64∧i = .int .i64 k∧RowAt .u8 wr w.heap.size 0 64 (xorG kv p k)∧Below w.heap.size w wr) (fun i _=>64 - (intOf i).toNat)
 case atStart=>exact ⟨0,Nat.zero_le _,rfl,hrow0.congr (fun j _=>by simp [xorG]),(Below.refl _ _).alloc (Nat.le_refl _) _⟩
 case round =>
  clear hrow0
  obtain ⟨k,hk,rfl,hrow,hb⟩:=hrel
  by_cases hlt:k<64
  · obtain ⟨rk,rf⟩:=hrow k hlt
    rw [Nat.zero_add] at rk rf
    have ek:xorG kv p k k=kv k:=by simp [xorG]
    rw [ek] at rk
    clear hnew hcell
    go_wp2
    go_roundw
    case rel =>
     have h1:=hrow.set (i:=k) hlt (v:=bits .xor .u8 (kv k:Int) (p:Int)) (u:=kv k ^^^ p) (u8_xor_nat _ _ (hkv k) hp)
     rw [Nat.zero_add] at h1
     exact ⟨k+1,by omega,by go_num,h1.congr (fun j _=>xorG_step kv p k j),hb.setCell (Nat.le_refl _) _⟩
    case measure=>simp [intOf];omega
  · have hke:k=64:=by omega
    rw [hke] at hrow
    clear hke
    have hn:=hnew wr hb
    have hwl:w.heap.size<wr.heap.size:=block_lt_of_cell (hrow 0 (by decide)).1
    clear hnew
    go_wp2_with (first
     | (go_at_call 148;refine hn.mono ?_;clear hn;rintro e w1 ⟨g,rfl,hg,hM,hb1⟩;(have hbw1:Below w.heap.size w w1:=hb.trans (hb1.mono hb.size));have hs1:=hb1.size;have hw1:=hwrite256_any g 0 64 (.slice (some ⟨w.heap.size,0,none⟩) 64 64) _ (fun j=>kv j ^^^ p) (fun j=>Nat.xor_lt_two_pow (n:=8) (hkv j) hp) w1 hM (hT.below hbw1 h3) (by omega) (.inr ⟨w.heap.size,0,64,rfl,by omega,Nat.le_refl _,fun j hj=>by have h:=((hrow.below hb1 hwl) j hj).1;rw [h];simp [xorG,hj]⟩) (by decide))
     | (go_at_call 149;refine hw1.mono ?_;clear hw1;rintro e w2 ⟨rfl,hM2,hO2⟩))
    have hbw2:Below w.heap.size w w2:=hbw1.trans (hO2.below (by omega) (by omega))
    obtain ⟨B,hB⟩:∃ B,B=cat 64 (fun j=>kv j ^^^ p) t:=⟨_,rfl⟩
    have hM3:Made256 w2 g (64+L 0) B:=by
     rw [hL0,hB]
     exact hM2.congr (fun j hj=>by
      rw [show cat 0 (cat 64 (fun j=>kv j ^^^ p) t) (fun j=>kv j ^^^ p) j=kv j ^^^ p by unfold cat;simp]
      rw [cat_left (by omega)])
    have HB:Hid (padH kv p m t=outB 32 (specS rn cubeK squareK (64+m) B)):=(by rw [hB];rfl:padH kv p m t=outB 32 (specS rn cubeK squareK (64+m) B))
    have hBr:∀ j,B (64+j)=t j:=fun j=>by rw [hB];exact cat_right j
    have hd:decide ((k:Int)<64)=false:=decide_eq_false (by omega)
    rw [hd]
    clear hd hM2 hM hO2 hbw1 hb1 hrow hb hlt hk hB
    go_loopw [27] (fun i wq=>∃ q:Nat,q≤cnt∧i = .int .i64 q∧Made256 wq g (64+L q) B∧Below w.heap.size w wq) (fun i _=>cnt - (intOf i).toNat)
    case atStart=>exact ⟨0,Nat.zero_le _,rfl,hM3,hbw2⟩
    case round =>
     clear hM3 hbw2
     obtain ⟨q,hq,rfl,hMq,hbq⟩:=hrel
     have hsq:=hbq.size
     by_cases hlt:q<cnt
     · obtain ⟨c1,c2,c3,c4⟩:=hcell q hlt
       have rq:wr.cell? ⟨gp,q,none⟩=some (pvs q):=(hbq.cell (p:=⟨gp,q,none⟩) (block_lt_of_cell c1)).trans c1
       have hw:=hwrite256_any g (64+L q) (L (q+1) - L q) (pvs q) B (fun j=>t (L q+j)) (fun j=>ht _) wr hMq (hT.below hbq h3) (by omega) (c4.away hbq (by omega)) (by omega)
       have hgl:=hMq.lt
       obtain ⟨pv,hpv⟩:∃ pv,pv=pvs q:=⟨_,rfl⟩
       rw [←hpv] at rq hw
       have hqi:(0:Int)≤(q:Int)∧(q:Int)<cnt:=by omega
       clear hpv hcell
       go_wp2_with (go_at_call 149;refine hw.mono ?_;rintro e w3 ⟨rfl,hM3,hO3⟩)
       go_roundw
       case rel =>
        have hM4:Made256 w3 g (64+L (q+1)) B:=by
         rw [show 64+L (q+1)=64+L q+(L (q+1) - L q) by omega]
         exact hM3.congr (fun j hj=>by
          by_cases e:j<64+L q
          · rw [cat_left e]
          · unfold cat
            rw [if_neg e]
            show t (L q+(j - (64+L q)))=B j
            rw [←hBr]
            congr 1;omega)
        exact ⟨q+1,by omega,by go_num,hM4,hbq.trans (hO3.below (by omega) (by omega))⟩
       case measure=>simp [intOf];omega
     · have hqe:q=cnt:=by omega
       rw [hqe,hLm] at hMq
       clear hqe
       have hsum:=hsum256_any g (64+m) B wr hMq (hT.below hbq h3) (by omega)
       go_wp2_with (go_at_call 150;refine hsum.mono ?_;rintro e w4 ⟨ga,rfl,hga,hrow,hb4⟩)
       go_ret
       rw [HB.out]
       exact ⟨ga,rfl,by omega,hrow,hbq.trans (hb4.mono hbq.size)⟩
theorem padH_lt (kv:Nat→Nat) (p m:Nat) (t:Nat→Nat) (j:Nat):padH kv p m t j<256:=Nat.mod_lt _ (by decide)
theorem info64:(Tryz.prog.info? 136).map (·.size)=some 64:=by kernel_rfl
def tagH (kv:Nat→Nat) (m:Nat) (t:Nat→Nat):Nat→Nat:=padH kv 92 32 (padH kv 54 m t)
theorem tagH_lt (kv:Nat→Nat) (m:Nat) (t:Nat→Nat) (j:Nat):tagH kv m t j<256:=padH_lt _ _ _ _ _
set_option maxRecDepth 20000 in
set_option maxHeartbeats 2000000 in
theorem tag_any (kv:Nat→Nat) (hkv:∀ j,kv j<256) (gp cnt cap m:Nat) (t:Nat→Nat) (ht:∀ j,t j<256) (hm:m<2305843009213693000) (w:World) (hT:HTab w cubeK squareK) (hP:Parts w gp cnt m t) (hcnt:cnt<1000000) :
 Calls Tryz.prog 99 #[.agg (ints .u8 64 kv).toArray,.slice (some ⟨gp,0,none⟩) cnt cap] w
  fun e w'=>∃ g,e = .returned (.slice (some ⟨g,0,none⟩) 32 32)∧w.heap.size≤g∧RowAt .u8 w' g 0 32 (tagH kv m t)∧Below w.heap.size w w':=by
 have h3:=hT.size
 have hrow0:=row_fresh .u8 w 64 kv 136
 have hbw:Below w.heap.size w (w.alloc (.cells (ints .u8 64 kv).toArray 136)):=(Below.refl _ _).alloc (Nat.le_refl _) _
 obtain ⟨W,hW⟩:∃ W,W=w.alloc (.cells (ints .u8 64 kv).toArray 136):=⟨_,rfl⟩
 have HW:Hid (W=w.alloc (.cells (ints .u8 64 kv).toArray 136)):=hW
 have hWs:w.heap.size<W.heap.size:=by rw [hW];simp
 rw [←hW] at hrow0 hbw
 have hd:Below W.heap.size W W.drew:=(Below.refl _ _).drew
 have hbd:Below w.heap.size w W.drew:=hbw.trans (hd.mono (by omega))
 have hr:∀ w':World,Below W.heap.size W w'→w'.rangeAt w.heap.size 0 (ints .u8 64 kv):=fun w' h=>(hrow0.below h hWs).range
 have hi':(Tryz.prog.info? 136).map (·.size)=some (ints .u8 64 kv).length:=by rw [ints_len];exact info64
 have c1:=hpadded_any kv hkv 54 (by decide) gp cnt cap m t ht hm W.drew (hT.below hbd h3) (hP.below hbd) hcnt
 have c2:∀ (W5:World) (ga:Nat),Below W.heap.size W W5→RowAt .u8 W5 ga 0 32 (padH kv 54 m t)→Calls Tryz.prog 121 #[.agg (ints .u8 64 kv).toArray,.int .u8 92,.slice (some ⟨W5.heap.size,0,none⟩) 1 1] (W5.alloc (.cells #[.slice (some ⟨ga,0,none⟩) 32 32] 22)) fun e w'=>∃ g,e = .returned (.slice (some ⟨g,0,none⟩) 32 32)∧(W5.alloc (.cells #[.slice (some ⟨ga,0,none⟩) 32 32] 22)).heap.size≤g∧RowAt .u8 w' g 0 32 (tagH kv m t)∧Below (W5.alloc (.cells #[.slice (some ⟨ga,0,none⟩) 32 32] 22)).heap.size (W5.alloc (.cells #[.slice (some ⟨ga,0,none⟩) 32 32] 22)) w':=fun W5 ga hb hrow=>by
  have hb2:Below w.heap.size w (W5.alloc (.cells #[.slice (some ⟨ga,0,none⟩) 32 32] 22)):=(hbw.trans (hb.mono (by omega))).alloc (by have:=hb.size;omega) _
  exact hpadded_any kv hkv 92 (by decide) W5.heap.size 1 1 32 _ (padH_lt _ _ _ _) (by decide) _ (hT.below hb2 h3) (parts_one W5 _ 32 _ _ (.inr ⟨ga,0,32,rfl,block_lt_of_cell (hrow 0 (by decide)).1,Nat.le_refl _,fun j hj=>(hrow j hj).1⟩)) (by decide)
 obtain ⟨X,hX⟩:∃ X,X=padH kv 54 m t:=⟨_,rfl⟩
 rw [←hX] at c1 c2
 clear hW hX hT hP
 go_enter Tryz.func99,Tryz.ntmps99
 go_wp2
 rw [←HW.out]
 refine wp_region_held_drew (S:=fun w2=>Below W.heap.size W w2) (by kernel_rfl) hd (fun hHeld => ?_)
 refine wpAnyH_take (i:=0) (v := .agg (ints .u8 64 kv).toArray) rfl (by kernel_rfl) (by kernel_rfl) (by kernel_rfl) (fun _ _ _ h=>h) (yieldsIf_load_mid (by rfl) 136 _ rfl w.heap.size 0 rfl _ _ hr Tryz.underlying136 rfl hi') hHeld ?_
 refine wpAnyH_take (i:=1) (v := .agg (ints .u8 64 kv).toArray) rfl (by kernel_rfl) (by kernel_rfl) (by kernel_rfl) (fun _ _ _ h=>h) (yieldsIf_load_mid (by rfl) 136 _ rfl w.heap.size 0 rfl _ _ hr Tryz.underlying136 rfl hi') hHeld ?_
 refine wpAnyH_take (i:=2) (v := .slice (some ⟨gp,0,none⟩) cnt cap) rfl (by kernel_rfl) (by kernel_rfl) (by kernel_rfl) (fun _ _ _ h=>h) (Or.inl ⟨by rfl,fun w2 _=>by go_simp⟩) hHeld ?_
 refine wpAnyH_ready (rs:=[3]) (by kernel_rfl) (by simp) ?_
 refine AllReadyH.cons rfl (fun K hK => ?_) AllReadyH.nil
 go_simp
 go_at_call 121
 refine c1.mono ?_
 rintro e w5 ⟨ga,rfl,hga,hrow,hb5⟩
 have hbn:=below_next hd hb5
 go_simp
 refine hK.out _ _ hbn (fun hHeld2 => ?_)
 clear hK K
 refine wpAnyH_ready (rs:=[4]) (by kernel_rfl) (by simp) ?_
 refine AllReadyH.cons rfl (fun K hK => ?_) AllReadyH.nil
 go_simp
 refine hK.out _ _ (hbn.alloc hbn.size _) (fun hHeld3 => ?_)
 clear hK K
 refine wpAnyH_ready (rs:=[5]) (by kernel_rfl) (by simp) ?_
 refine AllReadyH.cons rfl (fun K hK => ?_) AllReadyH.nil
 go_simp
 go_at_call 121
 refine (c2 w5 ga hbn hrow).mono ?_
 rintro e w6 ⟨gb,rfl,hgb,hrowb,hb6⟩
 have hbm:=below_next (hbn.alloc hbn.size _) hb6
 go_simp
 refine hK.out _ _ hbm (fun hHeld4 => ?_)
 clear hK K
 refine wpAnyH_take (i:=6) (v := .slice (some ⟨gb,0,none⟩) 32 32) rfl (by kernel_rfl) (by kernel_rfl) (by kernel_rfl) (fun _ _ _ h=>h) (Or.inl ⟨by rfl,fun w2 _=>by go_simp⟩) hHeld4 ?_
 refine wpAnyH_done (by kernel_rfl) ?_ _
 go_simp
 go_wp2
 go_ret
 have hz:=hbn.size
 simp only [World.size_alloc] at hgb
 exact ⟨gb,rfl,by omega,hrowb,hbw.trans (hbm.mono (by omega))⟩
theorem zero64 (w:World):Sem.run Tryz.prog (zeroValue 136) w = .ok (.agg (zb 64)) w:=by kernel_rfl
def keyB (n:Nat) (bs:Nat→Nat):Nat→Nat:=fun j=>if n≤64 then (if j<n then bs j else 0) else (if j<32 then outB 32 (specS rn cubeK squareK n bs) j else 0)
theorem keyB_lt {n:Nat} {bs:Nat→Nat} (h:∀ j,bs j<256):∀ j,keyB n bs j<256:=fun j=>by
 unfold keyB
 split
 · split
   · exact h j
   · decide
 · split
   · exact Nat.mod_lt _ (by decide)
   · decide
theorem lay64 (W0:World) (n:Nat) (bs:Nat→Nat) (hn:n≤64) :
 RowAt .u8 ((W0.alloc (.cells (zb 64) 136)).setCells W0.heap.size 0 (ints .u8 n bs)) W0.heap.size 0 64 (fun j=>if j<n then bs j else 0):=by
 have h0:RowAt .u8 (W0.alloc (.cells (zb 64) 136)) W0.heap.size 0 64 (fun _=>0):=RowAt.fresh (fun j hj=>zb_at 64 j hj)
 have h1:=h0.splice 0 n bs (by omega)
 rw [Nat.add_zero] at h1
 refine h1.congr (fun j hj => ?_)
 unfold over
 by_cases e:j<n
 · rw [if_pos ⟨Nat.zero_le _,by omega⟩,if_pos e,Nat.sub_zero]
 · rw [if_neg (by omega),if_neg e]
theorem there64 (W0:World):(W0.alloc (.cells (zb 64) 136)).there W0.heap.size 0 64:=fun j hj=>by
 have h0:RowAt .u8 (W0.alloc (.cells (zb 64) 136)) W0.heap.size 0 64 (fun _=>0):=RowAt.fresh (fun j hj=>zb_at 64 j hj)
 exact ⟨by rw [(h0 j hj).1];rfl,(h0 j hj).2⟩
end Go.Proofs.YtcgkajlehdgpoaaGreatDoor
namespace Go.Proofs.YtcgkajlehdgpoaaGreatDoor
open Go.RowKit
set_option maxRecDepth 20000 in
set_option maxHeartbeats 2000000 in
theorem blockOf_short_any (xo:Option Addr) (n cx:Nat) (bs:Nat→Nat) (w:World) (hv:BytesIn w (.slice xo n cx) n bs) (hn:n≤64) :
 Calls Tryz.prog 98 #[.slice xo n cx] w fun e w'=>e = .returned (.agg (ints .u8 64 (keyB n bs)).toArray)∧Below w.heap.size w w':=by
 have hz:=zero64
 have hi':∀ X:Nat→Nat,(Tryz.prog.info? 136).map (·.size)=some (ints .u8 64 X).length:=fun X=>by rw [ints_len];exact info64
 have hi2:∀ X:Nat→Nat,(Tryz.prog.info? 136).map (·.size)=some (ints .u8 64 X).toArray.size:=fun X=>by rw [List.size_toArray,ints_len];exact info64
 have hone:∀ X:Nat→Nat,(ints .u8 64 X).toArray.all (·.oneCell')=true:=fun X=>all_oneCell_toArray (ints_one _ _ _)
 obtain ⟨W0,hW0⟩:∃ W0,W0=w.alloc (.cells (zb 64) 136):=⟨_,rfl⟩
 have HW0:Hid (W0=w.alloc (.cells (zb 64) 136)):=hW0
 have hWs:w.heap.size<W0.heap.size:=by rw [hW0];simp
 have hWe:w.heap.size+1=W0.heap.size:=by rw [hW0];simp
 have hbw:Below w.heap.size w W0:=by rw [hW0];exact (Below.refl _ _).alloc (Nat.le_refl _) _
 have hres:W0.there w.heap.size 0 64:=by rw [hW0];exact there64 w
 have hkey:∀ j,j<64→(if j<n then bs j else 0)=keyB n bs j:=fun j _=>by unfold keyB;rw [if_pos hn]
 obtain ⟨xo',cx',hve,hxn,-,hsrc⟩:=hv.src
 cases hve
 have src0:Src (W0.alloc (.cells (zb 64) 136)) xo n bs:=hsrc _ (hbw.alloc (by omega) _)
 obtain ⟨W3,hW3⟩:∃ W3,W3=(W0.alloc (.cells (zb 64) 136)).setCells (w.heap.size+1) 0 (ints .u8 n bs):=⟨_,rfl⟩
 have HW3:Hid (W3=(W0.alloc (.cells (zb 64) 136)).setCells (w.heap.size+1) 0 (ints .u8 n bs)):=hW3
 have hrow3:RowAt .u8 W3 (w.heap.size+1) 0 64 (keyB n bs):=by rw [hW3,hWe];exact (lay64 W0 n bs (by omega)).congr hkey
 have hb3:Below W0.heap.size W0 W3:=by rw [hW3,hWe];exact below_setCells (Nat.le_refl _) _ _ _ ((Below.refl _ _).alloc (Nat.le_refl _) _)
 have hres3:W3.there w.heap.size 0 (ints .u8 64 (keyB n bs)).toArray.size:=fun j hj=>by
  rw [List.size_toArray,ints_len] at hj
  rw [hb3.cell (p:=⟨w.heap.size,0+j,none⟩) hWs,hb3.frozen (p:=⟨w.heap.size,0+j,none⟩) hWs]
  exact hres j hj
 have hmin:Hid (n=Nat.min n 64):=(Nat.min_eq_left hn).symm
 have hth:(W0.alloc (.cells (zb 64) 136)).there (w.heap.size+1) 0 64:=by rw [hWe];exact there64 W0
 have hni:¬(64<(n:Int)):=by omega
 clear hW0 hW3 hv hsrc hWe hkey hres
 go_enter Tryz.func98,Tryz.ntmps98
 go_wp2_with (first
  | (refine wpList_load_mid rfl 136 _ rfl _ 0 rfl _ _ hrow3.range Tryz.underlying136 rfl (hi' _) ?_)
  | (refine wpList_store_mid rfl 136 _ _ rfl _ 0 _ rfl rfl hres3 (hi2 _) (hone _) ?_)
  | (rw [←HW0.out];refine wpList_copy_bytes rfl _ _ 22 22 rfl 5 Tryz.underlying22 (by kernel_rfl) (w.heap.size+1) 0 64 64 xo n cx rfl rfl n bs src0 hmin.out hth ?_;rw [←HW3.out]))
 refine bodyPost_ret (results_cell_mid Tryz.results98 _ _ w.heap.size 0 (ints .u8 64 (keyB n bs)) _ rfl (World.rangeAt_setCells_same _ _ _ _ (by rw [List.size_toArray] at hres3;exact hres3)) Tryz.underlying136 rfl (hi' _)) rfl ⟨rfl,?_⟩
 exact below_setCells (Nat.le_refl _) _ _ _ (hbw.trans (hb3.mono (by omega)))
set_option maxRecDepth 20000 in
set_option maxHeartbeats 2000000 in
theorem blockOf_long_any (xo:Option Addr) (n cx:Nat) (bs:Nat→Nat) (hbs:∀ j,bs j<256) (hnb:n<2305843009213693000) (w:World) (hT:HTab w cubeK squareK) (hv:BytesIn w (.slice xo n cx) n bs) (hn:¬n≤64) :
 Calls Tryz.prog 98 #[.slice xo n cx] w fun e w'=>e = .returned (.agg (ints .u8 64 (keyB n bs)).toArray)∧Below w.heap.size w w':=by
 have hz:=zero64
 have hi':∀ X:Nat→Nat,(Tryz.prog.info? 136).map (·.size)=some (ints .u8 64 X).length:=fun X=>by rw [ints_len];exact info64
 have hi2:∀ X:Nat→Nat,(Tryz.prog.info? 136).map (·.size)=some (ints .u8 64 X).toArray.size:=fun X=>by rw [List.size_toArray,ints_len];exact info64
 have hone:∀ X:Nat→Nat,(ints .u8 64 X).toArray.all (·.oneCell')=true:=fun X=>all_oneCell_toArray (ints_one _ _ _)
 have h3:=hT.size
 have hb1:Below w.heap.size w (w.alloc (.cells (zb 64) 136)):=(Below.refl _ _).alloc (Nat.le_refl _) _
 have hs:=Sum256_any cubeK squareK (.slice xo n cx) n bs hbs (w.alloc (.cells (zb 64) 136)) (hT.below hb1 h3) (hv.still hb1) (by omega)
 rw [hashS_spec cubeK squareK n bs (by decide)] at hs
 have hkey:∀ j,j<64→(if j<32 then outB 32 (specS rn cubeK squareK n bs) j else 0)=keyB n bs j:=fun j _=>by unfold keyB;rw [if_neg hn]
 obtain ⟨X,hX⟩:∃ X,X=outB 32 (specS rn cubeK squareK n bs):=⟨_,rfl⟩
 rw [←hX] at hs hkey
 have hk:∀ (W0:World) (ga:Nat),Below (w.alloc (.cells (zb 64) 136)).heap.size (w.alloc (.cells (zb 64) 136)) W0→RowAt .u8 W0 ga 0 32 X→∃ W3,W3=(W0.alloc (.cells (zb 64) 136)).setCells W0.heap.size 0 (ints .u8 32 X)∧RowAt .u8 W3 W0.heap.size 0 64 (keyB n bs)∧Below w.heap.size w W3∧W3.there w.heap.size 0 (ints .u8 64 (keyB n bs)).toArray.size∧(W0.alloc (.cells (zb 64) 136)).there W0.heap.size 0 64∧Src (W0.alloc (.cells (zb 64) 136)) (some ⟨ga,0,none⟩) 32 X:=fun W0 ga hb hra=>by
  have hsz:=hb.size
  simp only [World.size_alloc] at hsz
  have hga:ga<W0.heap.size:=block_lt_of_cell (hra 0 (by decide)).1
  have hb3:Below W0.heap.size W0 ((W0.alloc (.cells (zb 64) 136)).setCells W0.heap.size 0 (ints .u8 32 X)):=below_setCells (Nat.le_refl _) _ _ _ ((Below.refl _ _).alloc (Nat.le_refl _) _)
  refine ⟨_,rfl,(lay64 W0 32 X (by decide)).congr hkey,(hb1.trans (hb.mono (by simp))).trans (hb3.mono (by omega)),fun j hj => ?_,there64 W0,.inr ⟨ga,0,rfl,fun j hj => ?_⟩⟩
  · rw [List.size_toArray,ints_len] at hj
    rw [hb3.cell (p:=⟨w.heap.size,0+j,none⟩) (by show w.heap.size<_;omega),hb3.frozen (p:=⟨w.heap.size,0+j,none⟩) (by show w.heap.size<_;omega),hb.cell (p:=⟨w.heap.size,0+j,none⟩) (by simp),hb.frozen (p:=⟨w.heap.size,0+j,none⟩) (by simp)]
    exact there64 w j hj
  · rw [World.cell?_alloc_lt _ _ _ hga];exact (hra j hj).1
 have hni:64<(n:Int):=by omega
 clear hX hkey hv hT hb1 hn
 go_enter Tryz.func98,Tryz.ntmps98
 go_wp2_with (first
  | (go_at_call 120;refine hs.mono ?_;clear hs;rintro e W0 ⟨ga,rfl,hga,hra,hb⟩;obtain ⟨W3,hW3,hrow3,hb3,hres3,hth,src0⟩:=hk W0 ga hb hra;(have HW3:Hid (W3=(W0.alloc (.cells (zb 64) 136)).setCells W0.heap.size 0 (ints .u8 32 X)):=hW3);clear hk hW3)
  | (refine wpList_load_mid rfl 136 _ rfl _ 0 rfl _ _ hrow3.range Tryz.underlying136 rfl (hi' _) ?_)
  | (refine wpList_store_mid rfl 136 _ _ rfl _ 0 _ rfl rfl hres3 (hi2 _) (hone _) ?_)
  | (refine wpList_copy_bytes rfl _ _ 22 22 rfl 5 Tryz.underlying22 (by kernel_rfl) W0.heap.size 0 64 64 (some ⟨ga,0,none⟩) 32 32 rfl rfl 32 X src0 rfl hth ?_;rw [←HW3.out]))
 refine bodyPost_ret (results_cell_mid Tryz.results98 _ _ w.heap.size 0 (ints .u8 64 (keyB n bs)) _ rfl (World.rangeAt_setCells_same _ _ _ _ (by rw [List.size_toArray] at hres3;exact hres3)) Tryz.underlying136 rfl (hi' _)) rfl ⟨rfl,?_⟩
 exact below_setCells (Nat.le_refl _) _ _ _ hb3
theorem blockOf_any (v:Value) (n:Nat) (bs:Nat→Nat) (hbs:∀ j,bs j<256) (hnb:n<2305843009213693000) (w:World) (hT:HTab w cubeK squareK) (hv:BytesIn w v n bs) :
 Calls Tryz.prog 98 #[v] w fun e w'=>e = .returned (.agg (ints .u8 64 (keyB n bs)).toArray)∧Below w.heap.size w w':=by
 obtain ⟨xo,cx,rfl,_,_,_⟩:=hv.src
 by_cases hn:n≤64
 · exact blockOf_short_any xo n cx bs w hv hn
 · exact blockOf_long_any xo n cx bs hbs hnb w hT hv hn
set_option maxHeartbeats 1000000 in
theorem hmac_any (v tv:Value) (n m:Nat) (bs t:Nat→Nat) (hbs:∀ j,bs j<256) (ht:∀ j,t j<256) (hnb:n<2305843009213693000) (hm:m<2305843009213693000) (w:World) (hT:HTab w cubeK squareK) (hv:BytesIn w v n bs) (htv:BytesIn w tv m t) :
 Calls Tryz.prog 73 #[v,tv] w fun e w'=>∃ g,e = .returned (.slice (some ⟨g,0,none⟩) 32 32)∧w.heap.size≤g∧RowAt .u8 w' g 0 32 (tagH (keyB n bs) m t)∧Below w.heap.size w w':=by
 have h3:=hT.size
 obtain ⟨xt,ct,rfl,_,_,_⟩:=htv.src
 have c1:=blockOf_any v n bs hbs hnb w hT hv
 have c2:∀ W1:World,Below w.heap.size w W1→Calls Tryz.prog 99 #[.agg (ints .u8 64 (keyB n bs)).toArray,.slice (some ⟨W1.heap.size,0,none⟩) 1 1] (W1.alloc (.cells #[.slice xt m ct] 22)) fun e w'=>∃ g,e = .returned (.slice (some ⟨g,0,none⟩) 32 32)∧w.heap.size≤g∧RowAt .u8 w' g 0 32 (tagH (keyB n bs) m t)∧Below w.heap.size w w':=fun W1 hb=>by
  have hb2:=hb.alloc hb.size (.cells #[.slice xt m ct] 22)
  refine (tag_any (keyB n bs) (keyB_lt hbs) W1.heap.size 1 1 m t ht hm _ (hT.below hb2 h3) (parts_one W1 (.slice xt m ct) m t _ (htv.still hb)) (by decide)).mono ?_
  rintro e w' ⟨g,rfl,hg,hr,hb'⟩
  have:=hb2.size
  exact ⟨g,rfl,by omega,hr,hb2.trans (hb'.mono this)⟩
 obtain ⟨X,hX⟩:∃ X,X=tagH (keyB n bs) m t:=⟨_,rfl⟩
 rw [←hX] at c2 ⊢
 clear hX hT hv htv
 go_enter Tryz.func73,Tryz.ntmps73
 go_wp2_with (first
  | (go_at_call 98;refine c1.mono ?_;clear c1;rintro e w1 ⟨rfl,hb1⟩;replace c2:=c2 w1 hb1)
  | (go_at_call 99;refine c2.mono ?_;rintro e w' ⟨g,rfl,hg,hr,hb'⟩))
 go_ret
 exact ⟨g,rfl,hg,hr,hb'⟩
end Go.Proofs.YtcgkajlehdgpoaaGreatDoor
namespace Go.Proofs.YtcgkajlehdgpoaaGreatDoor
open Go.RowKit
theorem wpAnyH_narrow {P:Program} {md:Region.Mode} {ops:Array Oper} {Q:Exit→Act→World→Prop} {S S':World→Prop} (h:∀ w,S' w→S w):∀ (fuel:Nat) (listed:Array Bool) (a:Act) (w:World),wpAnyH P md ops Q S' fuel listed a w→wpAnyH P md ops Q S fuel listed a w
 | 0,_,_,_,H=>H
 | fuel+1,_,_,_,H=>⟨H.1,fun i hi=>wpOp_mono (fun a' w' h'=>⟨h w' h'.1,wpAnyH_narrow h fuel _ a' w' h'.2⟩) (H.2 i hi)⟩
end Go.Proofs.YtcgkajlehdgpoaaGreatDoor
namespace Go.Proofs.YtcgkajlehdgpoaaGreatDoor
open Go.RowKit
structure RW (w:World) (g o:Nat) (cs:List Value):Prop where
 range:w.rangeAt g o cs
 there:w.there g o cs.length
 lt:g<w.heap.size
theorem RW.still {w w':World} {g o:Nat} {cs:List Value} (h:RW w g o cs) (hb:Below w.heap.size w w'):RW w' g o cs :=
 ⟨fun j v hv=>(hb.cell (p:=⟨g,o+j,none⟩) h.lt).trans (h.range j v hv),fun j hj=>by
   rw [hb.cell (p:=⟨g,o+j,none⟩) h.lt,hb.frozen (p:=⟨g,o+j,none⟩) h.lt];exact h.there j hj,Nat.lt_of_lt_of_le h.lt hb.size⟩
theorem RW.below {w w':World} {g o B:Nat} {cs:List Value} (h:RW w g o cs) (hb:Below B w w') (hB:g<B):RW w' g o cs :=
 ⟨fun j v hv=>(hb.cell (p:=⟨g,o+j,none⟩) hB).trans (h.range j v hv),fun j hj=>by
   rw [hb.cell (p:=⟨g,o+j,none⟩) hB,hb.frozen (p:=⟨g,o+j,none⟩) hB];exact h.there j hj,Nat.lt_of_lt_of_le h.lt hb.size⟩
theorem RW.out {w w':World} {g o b p n:Nat} {cs:List Value} (h:RW w g o cs) (hb:Out b p n w w') (hne:g≠b):RW w' g o cs :=
 ⟨fun j v hv=>(hb.cell' h.lt hne).trans (h.range j v hv),fun j hj=>by
   rw [hb.cell' h.lt hne,hb.frozen' h.lt hne];exact h.there j hj,Nat.lt_of_lt_of_le h.lt hb.size⟩
theorem RW.outside {w w':World} {g o p n:Nat} {cs:List Value} (h:RW w g o cs) (hb:Out g p n w w') (hne:o+cs.length≤p∨p+n≤o):RW w' g o cs :=
 ⟨fun j v hv=>(hb.cell _ (by have:=(List.getElem?_eq_some_iff.1 hv).1;omega)).trans (h.range j v hv),fun j hj=>by
   rw [hb.cell _ (by omega),hb.frozen];exact h.there j hj,Nat.lt_of_lt_of_le h.lt hb.size⟩
theorem RW.stored {w:World} {g o:Nat} {cs:List Value} (h:RW w g o cs) (ds:List Value) (hl:ds.length=cs.length):RW (w.setCells g o ds) g o ds :=
 ⟨World.rangeAt_setCells_same _ _ _ _ (by rw [hl];exact h.there),World.there_setCells (by rw [hl];exact h.there) _ _ _,by rw [(setCells_same g ds o w).2.2.2];exact h.lt⟩
theorem RW.far {w:World} {g o:Nat} {cs:List Value} (h:RW w g o cs) (b p:Nat) (ds:List Value) (hap:g≠b∨o+cs.length≤p∨p+ds.length≤o):RW (w.setCells b p ds) g o cs :=
 ⟨World.rangeAt_setCells_apart h.range _ _ _ hap,World.there_setCells h.there _ _ _,by rw [(setCells_same b ds p w).2.2.2];exact h.lt⟩
theorem RW.left {w:World} {g o:Nat} {cs ds:List Value} (h:RW w g o (cs ++ ds)):RW w g o cs :=
 ⟨fun j v hv=>h.range j v (by rw [List.getElem?_append_left (List.getElem?_eq_some_iff.1 hv).1];exact hv),fun j hj=>h.there j (by rw [List.length_append];omega),h.lt⟩
theorem RW.right {w:World} {g o:Nat} {cs ds:List Value} (h:RW w g o (cs ++ ds)):RW w g (o+cs.length) ds :=
 ⟨fun j v hv=>by
   have:=h.range (cs.length+j) v (by rw [List.getElem?_append_right (Nat.le_add_right _ _),Nat.add_sub_cancel_left];exact hv)
   rw [←Nat.add_assoc] at this;exact this,fun j hj=>by
   have:=h.there (cs.length+j) (by rw [List.length_append];omega)
   rw [←Nat.add_assoc] at this;exact this,h.lt⟩
theorem RW.join {w:World} {g o:Nat} {cs ds:List Value} (h:RW w g o cs) (k:RW w g (o+cs.length) ds):RW w g o (cs ++ ds) :=
 ⟨fun j v hv=>by
   by_cases hj:j<cs.length
   · exact h.range j v (by rw [List.getElem?_append_left hj] at hv;exact hv)
   · rw [List.getElem?_append_right (by omega)] at hv
     have:=k.range (j - cs.length) v hv
     rw [show o+cs.length+(j - cs.length)=o+j by omega] at this;exact this,fun j hj=>by
   rw [List.length_append] at hj
   by_cases hj':j<cs.length
   · exact h.there j hj'
   · have:=k.there (j - cs.length) (by omega)
     rw [show o+cs.length+(j - cs.length)=o+j by omega] at this;exact this,h.lt⟩
theorem RW.fresh (w:World) (cs:List Value) (t:TypeId):RW (w.alloc (.cells cs.toArray t)) w.heap.size 0 cs :=
 ⟨fun j v hv=>by rw [Nat.zero_add];simp [hv],fun j hj=>by
   rw [Nat.zero_add];simp [hj],by simp⟩
theorem RW.drew {w:World} {g o:Nat} {cs:List Value} (h:RW w g o cs):RW w.drew g o cs:=h.still ((Below.refl _ _).drew)
end Go.Proofs.YtcgkajlehdgpoaaGreatDoor
namespace Go.Proofs.YtcgkajlehdgpoaaGreatDoor
open Go.RowKit Go.Shelf
attribute [local go_sem] Oper.semAt_some
structure But (bad:Nat→Prop) (W W':World):Prop where
 os:W'.os=W.os
 tape:W'.tape=W.tape
 output:W'.output=W.output
 size:W.heap.size≤W'.heap.size
 block:∀ k,k<W.heap.size→¬bad k→W'.heap[k]? = W.heap[k]?
theorem But.refl (bad:Nat→Prop) (W:World):But bad W W:=⟨rfl,rfl,rfl,Nat.le_refl _,fun _ _ _=>rfl⟩
theorem But.trans {bad:Nat→Prop} {A B C:World} (h:But bad A B) (k:But bad B C):But bad A C:=⟨k.os.trans h.os,k.tape.trans h.tape,k.output.trans h.output,Nat.le_trans h.size k.size,fun i hi hb=>(k.block i (Nat.lt_of_lt_of_le hi h.size) hb).trans (h.block i hi hb)⟩
theorem But.row {bad:Nat→Prop} {W W':World} (h:But bad W W') {K:IntKind} {b o n:Nat} {X:Nat→Nat} (hr:RowAt K W b o n X) (hb:¬bad b):RowAt K W' b o n X:=fun j hj=>by
 have hl:b<W.heap.size:=block_lt_of_cell (hr j hj).1
 exact ⟨(World.cell?_of_block (w:=W) (h.block b hl hb)).trans (hr j hj).1,(World.frozen?_of_block (w:=W) (h.block b hl hb)).trans (hr j hj).2⟩
theorem But.cell {bad:Nat→Prop} {W W':World} (h:But bad W W') {b o:Nat} {v:Value} (hc:W.cell? ⟨b,o,none⟩=some v) (hb:¬bad b):W'.cell? ⟨b,o,none⟩=some v :=
 (World.cell?_of_block (w:=W) (h.block b (block_lt_of_cell hc) hb)).trans hc
theorem wpListIn_load_mid {P:Program} {n:Nat} {ops:Array Oper} {rest:List Oper} {op:Oper} {a:Act} {w:World} {Q:Exit→Act→World→Prop} (hgd:op.guard=none) (ty:TypeId) (x:Operand) (ho:op.op = .load ty x)
 (b o:Nat) (hx:a.eval x = .pointer (some ⟨b,o,none⟩)) (cs:List Value) (d:TypeDesc) (hc:w.rangeAt b o cs)
 (hu:P.underlying ty=some d) (hd:d.isRow=true) (hi:(P.info? ty).map (·.size)=some cs.length)
 (h:wpListIn Fence.wide n P ops Q rest (a.put op.dst (.agg cs.toArray)) w):wpListIn Fence.wide n P ops Q (op :: rest) a w :=
 wpListIn_plain hgd fun _ hK=>⟨fun _ _=>trivial,by
  have hsem:(op.semAt Fence.wide.round a.eval)=execOp a.eval op:=rfl
  rw [hsem]
  unfold execOp
  simp only [ho,hx,Instr.loadAt,Instr.sureAddr,Sem.run_bind,Sem.run_pure,Result.andThen_ok,run_loadVar_mid w b o ty cs d hc hu hd hi]
  exact hK _ _ h⟩
theorem wpListIn_store_mid {P:Program} {n:Nat} {ops:Array Oper} {rest:List Oper} {op:Oper} {a:Act} {w:World} {Q:Exit→Act→World→Prop} (hgd:op.guard=none) (ty:TypeId) (x y:Operand) (ho:op.op = .store ty x y)
 (b o:Nat) (cells:Array Value) (hx:a.eval x = .pointer (some ⟨b,o,none⟩)) (hy:a.eval y = .agg cells) (ht:w.there b o cells.size) (hi:(P.info? ty).map (·.size)=some cells.size) (h1:cells.all (·.oneCell')=true)
 (h:wpListIn Fence.wide n P ops Q rest (a.put op.dst undef) (w.setCells b o cells.toList)):wpListIn Fence.wide n P ops Q (op :: rest) a w :=
 wpListIn_plain hgd fun _ hK=>⟨fun _ _=>trivial,by
  have hsem:(op.semAt Fence.wide.round a.eval)=execOp a.eval op:=rfl
  rw [hsem]
  unfold execOp
  simp only [ho,hx,hy,Instr.storeAt,Instr.sureAddr,Sem.run_bind,Sem.run_pure,Result.andThen_ok,run_storeVar_mid w b o ty cells ht hi h1]
  exact hK _ _ h⟩
theorem But.below {bad:Nat→Prop} {W W':World} (h:But bad W W') {B:Nat} (hB:B≤W.heap.size) (hb:∀ k,bad k→B≤k):Below B W W':=⟨h.os,h.tape,h.output,h.size,fun k hk=>h.block k (by omega) (fun hk'=>by have:=hb k hk';omega)⟩
theorem but_put (W:World) (l:Nat) (o:Obj):But (fun k=>k=l) W (W.putObj l o):=⟨rfl,rfl,rfl,by simp [World.putObj],fun k _ hb=>World.putObj_heap_other (fun e=>hb e)⟩
theorem But.mono {b c:Nat→Prop} {W W':World} (h:But b W W') (hb:∀ k,b k→c k):But c W W':=⟨h.os,h.tape,h.output,h.size,fun k hk hc=>h.block k hk (fun e=>hc (hb k e))⟩
theorem wpIn_range_with {F:Fence} {P:Program} {n:Nat} {g:Operand} {ps:Array Tmp} {assign body:Code} {Q:Exit→Act→World→Prop} {a:Act} {w:World} {gf:Nat} {lb:Array Value} (hro:F.round=none) (hF:∀ f,F.fn f) (hd:F.depth.isSome=true→1≤n) (hg:a.eval g = .func (.func gf) #[] lb) (eg:∀ args w,(callFunc gf args).run P w = .ok (.enter gf args) w)
 (h:∀ r0:Loop,r0.state = .ready→r0.pending=none→r0.tmps=a.tmps→r0.params=ps→r0.assign=assign→r0.body=body →
   CallsIn F (n - 1) P gf (#[.func (.yield (w.heap.size+1)) #[] #[]] ++ lb) ((w.alloc (.deferred (some []))).alloc (.loop r0)) (rangePost F n P (w.heap.size+1) Q { a with defers:=[{ target := .collected w.heap.size,args:=#[] }] ++ a.defers })) :
 (Code.rangeFunc g ps assign body).wpIn F n P Q a w:=by
 refine wpIn_rangeFunc ?_
 intro fn _
 rw [hro]
 obtain ⟨r0,hr0⟩:∃ r0:Loop,r0={ state := .ready,pending:=none,fn,tmps:=a.tmps,params:=ps,assign,body,defers:=w.heap.size }:=⟨_,rfl⟩
 obtain ⟨W1,hW1⟩:∃ W1,(w.alloc (.deferred (some []))).alloc (.loop r0)=W1:=⟨_,rfl⟩
 have hh:=h r0 (by rw [hr0]) (by rw [hr0]) (by rw [hr0]) (by rw [hr0]) (by rw [hr0]) (by rw [hr0])
 rw [hW1] at hh
 clear h
 refine ⟨w.heap.size+1,[{ target := .collected w.heap.size,args:=#[] }],W1,{ target := .fn (.func gf) lb,args:=#[.func (.yield (w.heap.size+1)) #[] #[]] },W1,gf,
  #[.func (.yield (w.heap.size+1)) #[] #[]] ++ lb,W1,?_,?_,?_,?_,hd,?_⟩
 · rw [←hW1,hr0];exact run_enterLoop_outer _ _ _ _ _
 · simp only [resolve,hg]
   simp [go_sem]
 · intro f' _;exact hF f'
 · simp [invoke,go_sem,eg]
 · exact hh
theorem loop_back (r0:Loop) (h1:r0.state = .ready) (h2:r0.pending=none):({ { r0 with state := .busy } with state := .ready,pending:=none }:Loop)=r0:=by
 cases r0
 cases h1
 cases h2
 rfl
theorem yield_round {P:Program} {n l:Nat} {r0:Loop} {args:Array Value} {W:World} {R:Ending→World→Prop} (hl:W.heap[l]? = some (.loop r0)) (hs:args.size=r0.params.size)
 (h:r0.assign.wpIn (Fence.wide.inRound l) n P (Exit.then (fun a₁ w₁=>∃ w₂,(Instr.beginRound l).run P w₁ = .ok () w₂∧r0.body.wpIn (Fence.wide.inRound l) n P (roundPost P l R) a₁ w₂) (fun _ _ _=>False)) { tmps:=(r0.params.zip args).foldl (fun tmps (t,a)=>tmps.setIfInBounds t a) r0.tmps,defers:=[] } W):YieldAt Fence.wide n P l args W R :=
 ⟨r0.fn,_,r0.assign,r0.body,run_yield hl hs,roundIn_of_wpIn trivial h⟩
theorem RW.but {bad:Nat→Prop} {w w':World} {g o:Nat} {cs:List Value} (h:RW w g o cs) (hb:But bad w w') (hne:¬bad g):RW w' g o cs :=
 ⟨fun j v hv=>(World.cell?_of_block (w:=w) (hb.block g h.lt hne)).trans (h.range j v hv),fun j hj=>by
   rw [World.cell?_of_block (w:=w) (hb.block g h.lt hne),World.frozen?_of_block (w:=w) (hb.block g h.lt hne)];exact h.there j hj,Nat.lt_of_lt_of_le h.lt hb.size⟩
theorem Out.but {b o n:Nat} {w w':World} (h:Out b o n w w'):But (fun k=>k=b) w w':=⟨h.os,h.tape,h.output,h.size,fun k hk hne=>h.block k hk hne⟩
theorem BytesIn.but {bad:Nat→Prop} {w w':World} {bb ob n:Nat} {ks:Nat→Nat} (h:∀ j,j<n→w.cell? ⟨bb,ob+j,none⟩=some (.int .u8 (ks j))) (hb:But bad w w') (hne:¬bad bb):∀ j,j<n→w'.cell? ⟨bb,ob+j,none⟩=some (.int .u8 (ks j)):=fun j hj=>hb.cell (h j hj) hne
end Go.Proofs.YtcgkajlehdgpoaaGreatDoor
namespace Go.Proofs.YtcgkajlehdgpoaaGreatDoor
open Go.RowKit Go.Shelf
attribute [local go_sem] Oper.semAt_some
theorem tags_any (x1 x2:Option Addr) (n1 n2 c1 c2:Nat) (w:World):Calls Tryz.prog 72 #[.slice x1 n1 c1,.slice x2 n2 c2] w fun e w'=>e = .returned (.func (.func 97) #[] #[.pointer (some ⟨w.heap.size,0,none⟩),.pointer (some ⟨w.heap.size+1,0,none⟩)])∧w'=(w.alloc (.cells #[.slice x1 n1 c1] 22)).alloc (.cells #[.slice x2 n2 c2] 22):=by
 go_enter Tryz.func72,Tryz.ntmps72
 go_wp2
 go_ret
 exact ⟨rfl,rfl⟩
def tE (kv:Nat→Nat) (m:Nat) (info:Nat→Nat):Nat→Nat→Nat
 | 0=>fun _=>0
 | i+1=>tagH kv ((if i=0 then 0 else 32)+m+1) (cat (if i=0 then 0 else 32) (tE kv m info i) (cat m info (fun _=>i+1)))
theorem tE_lt (kv:Nat→Nat) (m:Nat) (info:Nat→Nat):∀ i j,tE kv m info i j<256
 | 0,_=>Nat.zero_lt_succ _
 | _+1,j=>tagH_lt _ _ _ j
theorem parts_three (w:World) (v0 v1 v2:Value) (a m c:Nat) (b0 b1 b2:Nat→Nat) (ty:TypeId) (h0:BytesIn w v0 a b0) (h1:BytesIn w v1 m b1) (h2:BytesIn w v2 c b2):Parts (w.alloc (.cells #[v0,v1,v2] ty)) w.heap.size 3 (a+m+c) (cat a b0 (cat m b1 b2)):=by
 have hb:Below w.heap.size w (w.alloc (.cells #[v0,v1,v2] ty)):=(Below.refl _ _).alloc (Nat.le_refl _) _
 have key:∀ {v:Value} {n:Nat} {b c:Nat→Nat},BytesIn w v n b→(∀ j,j<n→b j=c j)→BytesIn (w.alloc (.cells #[v0,v1,v2] ty)) v n c:=fun {v n b c} h e=>by
  rcases h.still hb with h | ⟨bb,ob,cap,rfl,g1,g2,g3⟩
  · exact .inl h
  · exact .inr ⟨bb,ob,cap,rfl,g1,g2,fun j hj=>by rw [g3 j hj,e j hj]⟩
 refine ⟨fun i=>if i=0 then v0 else if i=1 then v1 else v2,fun i=>if i=0 then 0 else if i=1 then a else if i=2 then a+m else a+m+c,rfl,rfl,fun i hi => ?_⟩
 match i,hi with
 | 0,_ =>
  refine ⟨by simp,by simp,by simp;omega,?_⟩
  refine key (b:=b0) (by simpa using h0) (fun j hj => ?_)
  simp at hj
  simp [cat,hj]
 | 1,_ =>
  refine ⟨by simp,by simp,by simp,?_⟩
  refine key (b:=b1) (by simpa using h1) (fun j hj => ?_)
  simp at hj
  simp [cat,hj]
  intro h;omega
 | 2,_ =>
  refine ⟨by simp,by simp,by simp,?_⟩
  refine key (b:=b2) (by simpa using h2) (fun j hj => ?_)
  simp [cat]
  rw [if_neg (by omega),if_neg (by omega)]
  congr 1;omega
def LastAt (bad:Nat→Prop) (W:World) (v:Value) (j:Nat) (X:Nat→Nat):Prop:=(j=0∧v = .slice none 0 0)∨(0<j∧∃ g,v = .slice (some ⟨g,0,none⟩) 32 32∧RowAt .u8 W g 0 32 X∧¬bad g)
theorem LastAt.bytes {bad:Nat→Prop} {W:World} {v:Value} {j:Nat} {X:Nat→Nat} (h:LastAt bad W v j X):BytesIn W v (if j=0 then 0 else 32) X:=by
 rcases h with ⟨rfl,rfl⟩ | ⟨hj,g,rfl,hr,_⟩
 · exact .inl ⟨none,rfl,rfl⟩
 · rw [if_neg (by omega)]
   exact .inr ⟨g,0,32,rfl,block_lt_of_cell (hr 0 (by decide)).1,Nat.le_refl _,fun j hj=>(hr j hj).1⟩
set_option maxRecDepth 100000 in
set_option maxHeartbeats 4000000 in
theorem hiter_in (n:Nat) (w0:World) (hT:HTab w0 cubeK squareK) (x1 x2:Option Addr) (n1 n2 c1 c2:Nat) (ks info:Nat→Nat) (hks:∀ j,ks j<256) (hinfo:∀ j,info j<256) (hn1:n1<2305843009213693000) (hn2:n2<2305843009213692000) (hk:BytesIn w0 (.slice x1 n1 c1) n1 ks) (hi:BytesIn w0 (.slice x2 n2 c2) n2 info)
 (l pb ib:Nat) (bad:Nat→Prop) (hbad:∀ k,bad k→w0.heap.size≤k) (hib:¬bad ib) (Inv:Nat→World→Prop) (Fin:World→Prop) (hInv:∀ j W W',Inv j W→Below W.heap.size W W'→Inv j W') (hEnd:∀ W,¬Inv 255 W)
 (W:World) (hbW:Below w0.heap.size w0 W) (hbad2:∀ k,bad k→k<W.heap.size) (hpb:W.cell? ⟨pb,0,none⟩=some (.slice x1 n1 c1)) (hic:W.cell? ⟨ib,0,none⟩=some (.slice x2 n2 c2))
 (hY:∀ j g W1,j<255→Inv j W1→RowAt .u8 W1 g 0 32 (tE (keyB n1 ks) n2 info (j+1))→¬bad g→Below w0.heap.size w0 W1→YieldAt Fence.wide (n - 1) Tryz.prog l #[.slice (some ⟨g,0,none⟩) 32 32] W1 fun e W' =>
   (e = .returned (.bool true)∧Inv (j+1) W'∧But bad W1 W')∨(e = .returned (.bool false)∧Fin W'))
 (h0:Inv 0 W) :
 CallsIn Fence.wide n Tryz.prog 97 #[.func (.yield l) #[] #[],.pointer (some ⟨pb,0,none⟩),.pointer (some ⟨ib,0,none⟩)] W fun e W'=>(∃ v,e = .returned v)∧Fin W':=by
 have h3:=hT.size
 have hz:=zero64
 have cb:=blockOf_any (.slice x1 n1 c1) n1 ks hks hn1 W (hT.below hbW h3) (hk.still hbW)
 refine callsIn_of_wp Tryz.func97 rfl trivial ?_ rfl
 simp only [Tryz.ntmps97,List.size_toArray,List.length_cons,List.length_nil,Nat.reduceAdd,Nat.reduceSub,Array.replicate_succ,Array.replicate_zero,List.push_toArray,List.append_toArray,List.nil_append,List.cons_append]
 obtain ⟨kv,hkv⟩:∃ kv,kv=keyB n1 ks:=⟨_,rfl⟩
 have hkl:∀ j,kv j<256:=by rw [hkv];exact keyB_lt hks
 rw [←hkv] at cb hY
 have hi2:(Tryz.prog.info? 136).map (·.size)=some (ints .u8 64 kv).toArray.size:=by rw [List.size_toArray,ints_len];exact info64
 have hone:(ints .u8 64 kv).toArray.all (·.oneCell')=true:=all_oneCell_toArray (ints_one _ _ _)
 have hlay:∀ w1:World,∃ W2,W2=(w1.alloc (.cells (zb 64) 136)).setCells w1.heap.size 0 (ints .u8 64 kv).toArray.toList∧RowAt .u8 W2 w1.heap.size 0 64 kv∧Below w1.heap.size w1 W2∧(w1.alloc (.cells (zb 64) 136)).there w1.heap.size 0 (ints .u8 64 kv).toArray.size:=fun w1=>by
  refine ⟨_,rfl,?_,?_,?_⟩
  · have h:=(lay64 w1 64 kv (Nat.le_refl _)).congr (Y:=kv) (fun j hj=>by rw [if_pos hj])
    rw [List.toList_toArray]
    exact h
  · exact below_setCells (Nat.le_refl _) _ _ _ ((Below.refl _ _).alloc (Nat.le_refl _) _)
  · have e:(ints .u8 64 kv).toArray.size=64:=by rw [List.size_toArray,ints_len]
    rw [e];exact there64 w1
 clear hkv
 gi_wp2_with (first
  | (refine ⟨trivial,(fun h=>by cases h),?_⟩;gi_at_call 98;refine (callsIn_wide.2 cb).mono ?_;rintro e w1 ⟨rfl,hb1⟩;obtain ⟨W2,hW2,hrk,hb2,hth⟩:=hlay w1;(have HW2:Hid (W2=(w1.alloc (.cells (zb 64) 136)).setCells w1.heap.size 0 (ints .u8 64 kv).toArray.toList):=hW2);clear hW2 hlay)
  | (refine wpListIn_store_mid rfl 136 _ _ rfl w1.heap.size 0 (ints .u8 64 kv).toArray rfl rfl hth hi2 hone ?_;rw [←HW2.out]))
 have hs1:=hb1.size
 have hs2:=hb2.size
 have hbw2:Below w0.heap.size w0 W2:=hbW.trans ((hb1.mono hbW.size).trans (hb2.mono (Nat.le_trans hbW.size hs1)))
 have hWW:Below W.heap.size W W2:=hb1.trans (hb2.mono hs1)
 have hkb:¬bad w1.heap.size:=fun h=>by have:=hbad2 _ h;omega
 have hiW:ib<W.heap.size:=block_lt_of_cell hic
 have hic2:W2.cell? ⟨ib,0,none⟩=some (.slice x2 n2 c2):=(hWW.cell (p:=⟨ib,0,none⟩) hiW).trans hic
 have h02:=hInv 0 W W2 h0 hWW
 have hsz2:W.heap.size≤W2.heap.size:=hWW.size
 clear hth hb1 hb2 cb h0 hic hpb hi2 hone
 gi_loopw [5,6] (fun v i wr=>∃ j:Nat,j≤255∧i = .int .i64 ((j:Int)+1)∧Inv j wr∧Below w0.heap.size w0 wr∧wr.cell? ⟨ib,0,none⟩=some (.slice x2 n2 c2)∧RowAt .u8 wr w1.heap.size 0 64 kv∧LastAt bad wr v j (tE kv n2 info j)∧W.heap.size≤wr.heap.size) (fun _ i _=>256 - (intOf i).toNat)
 case atStart=>exact ⟨0,Nat.zero_le _,by go_num,h02,hbw2,hic2,hrk,.inl ⟨rfl,rfl⟩,hsz2⟩
 case round =>
  clear h02 hbw2 hic2 hrk
  obtain ⟨j,hj,rfl,hIj,hbr,hcr,hrr,hla,hszr⟩:=hrel
  by_cases hlt:j<255
  · obtain ⟨xl,cl,hve,-,-,-⟩:=hla.bytes.src
    obtain ⟨a,ha⟩:∃ a,a=if j=0 then 0 else 32:=⟨_,rfl⟩
    have hlb:=hla.bytes
    rw [←ha] at hve hlb
    subst hve
    have ha32:a≤32:=by rw [ha];split <;> omega
    have hbA:Below wr.heap.size wr (wr.alloc (.cells #[.int .u8 ((j:Int)+1)] 5)):=(Below.refl _ _).alloc (Nat.le_refl _) _
    have hone2:BytesIn (wr.alloc (.cells #[.int .u8 ((j:Int)+1)] 5)) (.slice (some ⟨wr.heap.size,0,none⟩) 1 1) 1 (fun _=>j+1) := .inr ⟨wr.heap.size,0,1,rfl,by simp,Nat.le_refl _,fun q hq=>by
     have:q=0:=by omega
     subst this
     simp⟩
    have hP:=parts_three (wr.alloc (.cells #[.int .u8 ((j:Int)+1)] 5)) (.slice xl a cl) (.slice x2 n2 c2) (.slice (some ⟨wr.heap.size,0,none⟩) 1 1) a n2 1 (tE kv n2 info j) info (fun _=>j+1) 22 (hlb.still hbA) ((hi.still hbr).still hbA) hone2
    have hbB:Below wr.heap.size wr ((wr.alloc (.cells #[.int .u8 ((j:Int)+1)] 5)).alloc (.cells #[.slice xl a cl,.slice x2 n2 c2,.slice (some ⟨wr.heap.size,0,none⟩) 1 1] 22)):=hbA.alloc (by simp) _
    have hbt:=hbr.trans (hbB.mono hbr.size)
    have ct:=tag_any kv hkl _ 3 3 (a+n2+1) _ (cat_lt (tE_lt kv n2 info j) (cat_lt hinfo (fun _=>(by omega:j+1<256)))) (by omega) _ (hT.below hbt h3) hP (by decide)
    have htE:tagH kv (a+n2+1) (cat a (tE kv n2 info j) (cat n2 info (fun _=>j+1)))=tE kv n2 info (j+1):=by rw [ha];rfl
    rw [htE] at ct
    simp only [World.size_alloc] at ct
    have hjm:((j:Int)+1)%256=(j:Int)+1:=by omega
    have hrg:=hrr.range
    have hi':(Tryz.prog.info? 136).map (·.size)=some (ints .u8 64 kv).length:=by rw [ints_len];exact info64
    have hji:(j:Int)+1≤255:=by omega
    have hlr:w1.heap.size<wr.heap.size:=block_lt_of_cell (hrr 0 (by decide)).1
    clear hP hbA hone2 htE ha hk
    gi_wp2_with (first
     | (refine wpListIn_load_mid rfl 136 _ rfl w1.heap.size 0 rfl _ _ hrg Tryz.underlying136 rfl hi' ?_)
     | (refine ⟨trivial,(fun h=>by cases h),?_⟩;gi_at_call 99;refine (callsIn_wide.2 ct).mono ?_;rintro e w3 ⟨g,rfl,hg,hrg3,hb3⟩;(have hw3:Below wr.heap.size wr w3:=hbB.trans (hb3.mono (by omega)));(have hbw3:Below w0.heap.size w0 w3:=hbr.trans (hw3.mono hbr.size));(have hgb:¬bad g:=fun h=>by have:=hbad2 _ h;omega);obtain ⟨fn,tmps,assign,body,hy,hR⟩:=hY j g w3 hlt (hInv j wr w3 hIj hw3) hrg3 hgb hbw3))
    have hcr3:w3.cell? ⟨ib,0,none⟩=some (.slice x2 n2 c2):=(hw3.cell (p:=⟨ib,0,none⟩) (by show ib<_;omega)).trans hcr
    have hrr3:=hrr.below hw3 hlr
    have hsz3:=hw3.size
    clear hbB ct hb3
    refine ⟨(fun h=>by cases h),hR.mono ?_⟩
    rintro e W' (⟨rfl,hI',hbut⟩ | ⟨rfl,hF⟩)
    · gi_wp2
      go_roundw
      case rel =>
       have hsz4:=hbut.size
       exact ⟨j+1,by omega,by go_num,hI',hbw3.trans (hbut.below hbw3.size hbad),hbut.cell hcr3 hib,hbut.row hrr3 hkb,.inr ⟨by omega,g,rfl,hbut.row hrg3 hgb,hgb⟩,by omega⟩
      case measure=>simp [intOf];omega
    · gi_wp2
      refine bodyPost_ret (results_none rfl _ _ _) rfl ?_
      exact ⟨⟨_,rfl⟩,hF⟩
  · obtain rfl:j=255:=by omega
    exact absurd hIj (hEnd _)
end Go.Proofs.YtcgkajlehdgpoaaGreatDoor
namespace Go.Proofs.YtcgkajlehdgpoaaGreatDoor
open Go.RowKit Go.Shelf
attribute [local go_sem] Oper.semAt_some
theorem one_box (w:World) (v:Value) (t:TypeId):(w.alloc (.cells #[v] t)).cell? ⟨w.heap.size,0,none⟩=some v∧(w.alloc (.cells #[v] t)).frozen? ⟨w.heap.size,0,none⟩=false:=by simp
theorem expand_start (w:World) (N:Nat) (v1 v2:Value) (w':World)
 (hw:w'=(((((w.alloc (.cells #[.int .i64 N] 3)).alloc (.cells (zb N) 5)).alloc (.cells #[.slice (some ⟨w.heap.size+1,0,none⟩) N N] 22)).alloc (.cells #[.int .i64 0] 3)).alloc (.cells #[v1] 22)).alloc (.cells #[v2] 22)) :
 w'.heap.size=w.heap.size+6∧Below w.heap.size w w'∧w'.cell? ⟨w.heap.size,0,none⟩=some (.int .i64 N)∧RowAt .u8 w' (w.heap.size+1) 0 N (fun _=>0)∧w'.cell? ⟨w.heap.size+1+1,0,none⟩=some (.slice (some ⟨w.heap.size+1,0,none⟩) N N) ∧
  w'.cell? ⟨w.heap.size+1+1+1,0,none⟩=some (.int .i64 0)∧w'.frozen? ⟨w.heap.size+1+1+1,0,none⟩=false∧w'.cell? ⟨w.heap.size+1+1+1+1,0,none⟩=some v1∧w'.cell? ⟨w.heap.size+1+1+1+1+1,0,none⟩=some v2:=by
 obtain ⟨a1,e1⟩:∃ a,a=w.alloc (.cells #[.int .i64 N] 3):=⟨_,rfl⟩
 obtain ⟨a2,e2⟩:∃ a,a=a1.alloc (.cells (zb N) 5):=⟨_,rfl⟩
 obtain ⟨a3,e3⟩:∃ a,a=a2.alloc (.cells #[.slice (some ⟨w.heap.size+1,0,none⟩) N N] 22):=⟨_,rfl⟩
 obtain ⟨a4,e4⟩:∃ a,a=a3.alloc (.cells #[.int .i64 0] 3):=⟨_,rfl⟩
 obtain ⟨a5,e5⟩:∃ a,a=a4.alloc (.cells #[v1] 22):=⟨_,rfl⟩
 have s1:a1.heap.size=w.heap.size+1:=by rw [e1];simp
 have s2:a2.heap.size=w.heap.size+1+1:=by rw [e2,World.size_alloc,s1]
 have s3:a3.heap.size=w.heap.size+1+1+1:=by rw [e3,World.size_alloc,s2]
 have s4:a4.heap.size=w.heap.size+1+1+1+1:=by rw [e4,World.size_alloc,s3]
 have s5:a5.heap.size=w.heap.size+1+1+1+1+1:=by rw [e5,World.size_alloc,s4]
 have e6:w'=a5.alloc (.cells #[v2] 22):=by rw [hw,e5,e4,e3,e2,e1]
 have b0:Below w.heap.size w a1:=by rw [e1];exact (Below.refl _ _).alloc (Nat.le_refl _) _
 have b1:Below a1.heap.size a1 a2:=by rw [e2];exact (Below.refl _ _).alloc (Nat.le_refl _) _
 have b2:Below a2.heap.size a2 a3:=by rw [e3];exact (Below.refl _ _).alloc (Nat.le_refl _) _
 have b3:Below a3.heap.size a3 a4:=by rw [e4];exact (Below.refl _ _).alloc (Nat.le_refl _) _
 have b4:Below a4.heap.size a4 a5:=by rw [e5];exact (Below.refl _ _).alloc (Nat.le_refl _) _
 have b5:Below a5.heap.size a5 w':=by rw [e6];exact (Below.refl _ _).alloc (Nat.le_refl _) _
 have t4:=b4.trans (b5.mono (by omega))
 have t3:=b3.trans (t4.mono (by omega))
 have t2:=b2.trans (t3.mono (by omega))
 have t1:=b1.trans (t2.mono (by omega))
 have hr:RowAt .u8 a2 a1.heap.size 0 N (fun _=>0):=by rw [e2];exact RowAt.fresh (fun j hj=>zb_at N j hj)
 have c0:=one_box w (.int .i64 N) 3
 have c2:=one_box a2 (.slice (some ⟨w.heap.size+1,0,none⟩) N N) 22
 have c3:=one_box a3 (.int .i64 0) 3
 have c4:=one_box a4 v1 22
 have c5:=one_box a5 v2 22
 rw [←e1] at c0
 rw [←e3,s2] at c2
 rw [←e4,s3] at c3
 rw [←e5,s4] at c4
 rw [←e6,s5] at c5
 refine ⟨by rw [e6,World.size_alloc,s5],b0.trans (t1.mono (by omega)),(t1.cell (p:=⟨w.heap.size,0,none⟩) (by show w.heap.size<_;omega)).trans c0.1,?_,(t3.cell (p:=⟨w.heap.size+1+1,0,none⟩) (by show w.heap.size+1+1<_;omega)).trans c2.1,(t4.cell (p:=⟨w.heap.size+1+1+1,0,none⟩) (by show w.heap.size+1+1+1<_;omega)).trans c3.1,(t4.frozen (p:=⟨w.heap.size+1+1+1,0,none⟩) (by show w.heap.size+1+1+1<_;omega)).trans c3.2,(b5.cell (p:=⟨w.heap.size+1+1+1+1,0,none⟩) (by show w.heap.size+1+1+1+1<_;omega)).trans c4.1,c5.1⟩
 have:=hr.below t2 (by omega)
 rw [s1] at this
 exact this
def outF (kv:Nat→Nat) (m:Nat) (info:Nat→Nat) (a:Nat):Nat→Nat:=fun q=>if q<a then tE kv m info (q / 32+1) (q%32) else 0
structure ExInv (w:World) (l D N:Nat) (rec:Loop) (kv:Nat→Nat) (m:Nat) (info:Nat→Nat) (j:Nat) (W:World):Prop where
 lp:W.heap[l]? = some (.loop rec)
 dfr:W.heap[D]? = some (.deferred (some []))
 nb:W.cell? ⟨w.heap.size,0,none⟩=some (.int .i64 N)
 xb:W.cell? ⟨w.heap.size+1+1,0,none⟩=some (.slice (some ⟨w.heap.size+1,0,none⟩) N N)
 ab:W.cell? ⟨w.heap.size+1+1+1,0,none⟩=some (.int .i64 (32*j:Nat))
 abf:W.frozen? ⟨w.heap.size+1+1+1,0,none⟩=false
 row:RowAt .u8 W (w.heap.size+1) 0 N (outF kv m info (32*j))
 few:j=0∨32*j<N
theorem ExInv.below {w:World} {l D N:Nat} {rec:Loop} {kv:Nat→Nat} {m:Nat} {info:Nat→Nat} {j:Nat} {W W':World} (h:ExInv w l D N rec kv m info j W) (hb:Below W.heap.size W W'):ExInv w l D N rec kv m info j W' :=
 ⟨(hb.block l (Array.getElem?_eq_some_iff.1 h.lp).1).trans h.lp,(hb.block D (Array.getElem?_eq_some_iff.1 h.dfr).1).trans h.dfr,(hb.cell (block_lt_of_cell h.nb)).trans h.nb,(hb.cell (block_lt_of_cell h.xb)).trans h.xb,(hb.cell (block_lt_of_cell h.ab)).trans h.ab,(hb.frozen (block_lt_of_cell h.ab)).trans h.abf,fun q hq=>⟨(hb.cell (block_lt_of_cell (h.row q hq).1)).trans (h.row q hq).1,(hb.frozen (block_lt_of_cell (h.row q hq).1)).trans (h.row q hq).2⟩,h.few⟩
set_option maxRecDepth 100000 in
set_option maxHeartbeats 4000000 in
theorem expand_in (n:Nat) (x1 x2:Option Addr) (n1 n2 c1 c2:Nat) (ks info:Nat→Nat) (hks:∀ j,ks j<256) (hinfo:∀ j,info j<256) (hn1:n1<2305843009213693000) (hn2:n2<2305843009213692000) (w:World) (hT:HTab w cubeK squareK) (hk:BytesIn w (.slice x1 n1 c1) n1 ks) (hi:BytesIn w (.slice x2 n2 c2) n2 info) (N:Nat) (hN:N≤8160) :
 CallsIn Fence.wide n Tryz.prog 50 #[.slice x1 n1 c1,.slice x2 n2 c2,.int .i64 N] w fun e w'=>∃ g,e = .returned (.tuple #[.slice (some ⟨g,0,none⟩) N N,.int .i64 0])∧w.heap.size≤g∧RowAt .u8 w' g 0 N (outF (keyB n1 ks) n2 info N)∧Below w.heap.size w w':=by
 have hmk:=fun W=>make_bytes W N N rfl (by omega)
 have hNi:¬((N:Int)<0):=by omega
 have hNj:¬(8160<(N:Int)):=by omega
 have htags:=fun W=>tags_any x1 x2 n1 n2 c1 c2 W
 refine callsIn_of_wp_marks Tryz.func50 rfl trivial ?_ rfl
 simp only [Tryz.ntmps50,List.size_toArray,List.length_cons,List.length_nil,Nat.reduceAdd,Nat.reduceSub,Array.replicate_succ,Array.replicate_zero,List.push_toArray,List.append_toArray,List.nil_append,List.cons_append]
 gi_wp2_with (first
  | (refine ⟨trivial,(fun h=>by cases h),?_⟩;gi_at_call 72;refine (callsIn_wide.2 (htags _)).mono ?_;rintro e w' ⟨rfl,hw'⟩))
 obtain ⟨s6,hbw,q0,qr,q2,q3,q3f,q4,q5⟩:=expand_start w N _ _ w' hw'
 rw [←hw']
 clear hw' hmk htags
 obtain ⟨kv,hkv⟩:∃ kv,kv=keyB n1 ks:=⟨_,rfl⟩
 refine wpIn_range_with rfl (fun _=>trivial) (fun h=>by cases h) rfl (enters_of Tryz.func97 (by kernel_rfl) rfl) (fun r0 e1 e2 e4 e5 e6 e7 => ?_)
 obtain ⟨W1,hW1⟩:∃ W1,W1=(w'.alloc (.deferred (some []))).alloc (.loop r0):=⟨_,rfl⟩
 obtain ⟨l,hl⟩:∃ l,l=w'.heap.size+1:=⟨_,rfl⟩
 have hb1:Below w'.heap.size w' W1:=by rw [hW1];exact ((Below.refl _ _).alloc (Nat.le_refl _) _).alloc (by simp) _
 have hl1:W1.heap[l]? = some (.loop r0):=by
  rw [hW1,hl];have:=World.alloc_heap_new (w'.alloc (.deferred (some []))) (.loop r0);rwa [World.size_alloc] at this
 have hD1:W1.heap[w'.heap.size]? = some (.deferred (some [])):=by
  rw [hW1];exact (Below.heap_alloc _ _ _ (by simp)).trans (World.alloc_heap_new w' _)
 rw [←hW1,←hl]
 have hs1:W1.heap.size=w'.heap.size+2:=by rw [hW1];simp
 obtain ⟨D,hD⟩:∃ D,D=w'.heap.size:=⟨_,rfl⟩
 have hD6:w.heap.size+5<D:=by omega
 have hDl:D<l:=by omega
 have hlW:l<W1.heap.size:=by omega
 have hqb:∀ {b:Nat} {v:Value},w'.cell? ⟨b,0,none⟩=some v→b<w'.heap.size:=fun h=>block_lt_of_cell h
 have hq6:w.heap.size+1<w'.heap.size:=by omega
 rw [←hD] at hD1 ⊢
 clear hW1 hl hs1 hD s6
 have hbw1:Below w.heap.size w W1:=hbw.trans (hb1.mono (by omega))
 have hI0:ExInv w l D N r0 kv n2 info 0 W1:=⟨hl1,hD1,(hb1.cell (block_lt_of_cell q0)).trans q0,(hb1.cell (block_lt_of_cell q2)).trans q2,(hb1.cell (block_lt_of_cell q3)).trans q3,(hb1.frozen (block_lt_of_cell q3)).trans q3f,fun q hq=>by
  have:=(qr.below hb1 (by omega)) q hq
  simpa [outF] using this,.inl rfl⟩
 obtain ⟨Fin,hFin⟩:∃ Fin:World→Prop,Fin=fun W=>W.heap[l]? = some (.loop { r0 with state := .done,pending:=some (.exit 0) })∧W.heap[D]? = some (.deferred (some []))∧W.cell? ⟨w.heap.size+1+1,0,none⟩=some (.slice (some ⟨w.heap.size+1,0,none⟩) N N)∧RowAt .u8 W (w.heap.size+1) 0 N (outF kv n2 info N)∧Below w.heap.size w W:=⟨_,rfl⟩
 have hY:∀ j g W1,j<255→ExInv w l D N r0 kv n2 info j W1→RowAt .u8 W1 g 0 32 (tE (keyB n1 ks) n2 info (j+1))→¬(g=l∨g=w.heap.size+1∨g=w.heap.size+1+1+1)→Below w.heap.size w W1→YieldAt Fence.wide (n - 1 - 1) Tryz.prog l #[.slice (some ⟨g,0,none⟩) 32 32] W1 fun e W' =>
  (e = .returned (.bool true)∧ExInv w l D N r0 kv n2 info (j+1) W'∧But (fun k=>k=l∨k=w.heap.size+1∨k=w.heap.size+1+1+1) W1 W')∨(e = .returned (.bool false)∧Fin W'):=by
  intro j g V hj hI hrow hgb hbV'
  refine yield_round hI.lp (by rw [e5];rfl) ?_
  rw [e4,e5,e6,e7]
  obtain ⟨V2,hV2⟩:∃ V2,V2=V.putObj l (.loop { r0 with state := .busy }):=⟨_,rfl⟩
  have hbV:But (fun k=>k=l) V V2:=by rw [hV2];exact but_put _ _ _
  have hlV:V2.heap[l]? = some (.loop { r0 with state := .busy }):=by rw [hV2];exact World.putObj_heap_same (Array.getElem?_eq_some_iff.1 hI.lp).1
  have hDV:V2.heap[D]? = some (.deferred (some [])):=(hbV.block _ (Array.getElem?_eq_some_iff.1 hI.dfr).1 (by omega)).trans hI.dfr
  have r0':=hbV.cell hI.nb (by omega)
  have r2':=hbV.cell hI.xb (by omega)
  have r3':=hbV.cell hI.ab (by omega)
  have r3f:V2.frozen? ⟨w.heap.size+1+1+1,0,none⟩=false:=(World.frozen?_of_block (w:=V) (hbV.block _ (block_lt_of_cell hI.ab) (by show ¬w.heap.size+1+1+1=l;omega))).trans hI.abf
  have hrV:=hbV.row hI.row (by omega)
  have hgV:=hbV.row hrow (by omega)
  have hbeg:(Instr.beginRound l).run Tryz.prog V = .ok () V2:=by rw [hV2];exact run_beginRound hI.lp e1
  have hfew:=hI.few
  obtain ⟨A,hA⟩:∃ A,A=32*j:=⟨_,rfl⟩
  rw [←hA] at r3' hrV hfew
  have hAN:A≤N:=by omega
  have hsl:∀ W:World,(Instr.sliceAt 22 (.slice (some ⟨w.heap.size+1,0,none⟩) N N) (some (.int .i64 A)) none none).run Tryz.prog W = .ok (.slice (some ⟨w.heap.size+1,A,none⟩) (N - A) (N - A)) W:=fun W=>by
   have h:=sliceFrom W (w.heap.size+1) 0 N N A hAN
   rw [Nat.zero_add] at h
   have e:(if N=A then 0 else A)=A:=by split <;> omega
   rw [e] at h
   exact h
  have hgd:=hgV
  have hcp:∀ M,M=Nat.min 32 (N - A)→(Builtin.copy_ #[22,22] 3 #[.slice (some ⟨w.heap.size+1,A,none⟩) (N - A) (N - A),.slice (some ⟨g,0,none⟩) 32 32]).run Tryz.prog V2.drew = .ok (goInt M) (V2.drew.setCells (w.heap.size+1) A (ints .u8 M (tE (keyB n1 ks) n2 info (j+1)))):=fun M hM =>
   run_copy_bytes V2.drew 22 22 3 5 (w.heap.size+1) A (N - A) (N - A) (some ⟨g,0,none⟩) 32 32 M _ Tryz.underlying22 (by kernel_rfl) (.inr ⟨g,0,rfl,fun q hq=>(hgV q hq).1⟩) hM (fun q hq=>by
    have h:=hrV (A+q) (by omega)
    rw [Nat.zero_add] at h
    exact ⟨by show (V2.cell? _).isSome=true;rw [h.1];rfl,h.2⟩)
  clear hV2 hI
  obtain ⟨M,hM⟩:∃ M,M=Nat.min 32 (N - A):=⟨_,rfl⟩
  have hcM:=hcp M hM
  have hMl:M≤32∧M≤N - A:=by rw [hM];exact ⟨Nat.min_le_left _ _,Nat.min_le_right _ _⟩
  obtain ⟨V3,hV3⟩:∃ V3,V3=V2.drew.setCells (w.heap.size+1) A (ints .u8 M (tE (keyB n1 ks) n2 info (j+1))):=⟨_,rfl⟩
  rw [←hV3] at hcM
  have hab3:V3.cell? ⟨w.heap.size+1+1+1,0,none⟩=some (.int .i64 A):=by
   rw [hV3]
   exact (World.cell?_of_block (heap_setCells_other _ _ _ _ _ (by show w.heap.size+1+1+1≠w.heap.size+1;omega))).trans r3'
  have hab3f:V3.frozen? ⟨w.heap.size+1+1+1,0,none⟩=false:=by rw [hV3,World.frozen?_setCells];exact r3f
  have HV3:Hid (V3=V2.drew.setCells (w.heap.size+1) A (ints .u8 M (tE (keyB n1 ks) n2 info (j+1)))):=hV3
  have hmix:Tryz.prog.follows .mixedOrders=true:=by kernel_rfl
  have HA:Hid (A=32*j):=hA
  have HM:Hid (M=Nat.min 32 (N - A)):=hM
  clear hV3 hcp hA hM
  obtain ⟨S,hS⟩:∃ S,S=A+M:=⟨_,rfl⟩
  obtain ⟨V4,hV4⟩:∃ V4,V4=V3.setCell ⟨w.heap.size+1+1+1,0,none⟩ (.int .i64 (S:Int)):=⟨_,rfl⟩
  have hbut3:But (fun k=>k=w.heap.size+1) V2 V3:=by
   rw [HV3.out]
   have hsc:=setCells_same (w.heap.size+1) (ints .u8 M (tE (keyB n1 ks) n2 info (j+1))) A V2.drew
   exact ⟨hsc.1,hsc.2.1,hsc.2.2.1,by rw [hsc.2.2.2];exact Nat.le_refl _,fun k _ hk=>heap_setCells_other _ _ _ _ _ hk⟩
  have hbut4:But (fun k=>k=w.heap.size+1∨k=w.heap.size+1+1+1) V2 V4:=by
   refine (hbut3.mono (fun k hk => .inl hk)).trans ?_
   rw [hV4]
   have hsc:=setCells_same (w.heap.size+1+1+1) [.int .i64 (S:Int)] 0 V3
   exact ⟨hsc.1,hsc.2.1,hsc.2.2.1,by simp,fun k _ hk=>Below.heap_setCell V3 ⟨w.heap.size+1+1+1,0,none⟩ _ k (fun e=>hk (.inr e))⟩
  have hrow4:RowAt .u8 V4 (w.heap.size+1) 0 N (outF kv n2 info S):=by
   have h1:RowAt .u8 V3 (w.heap.size+1) 0 N (over (outF kv n2 info A) A M (tE (keyB n1 ks) n2 info (j+1))):=by
    rw [HV3.out]
    have:=RowAt.splice (w:=V2.drew) hrV A M (tE (keyB n1 ks) n2 info (j+1)) (by omega)
    rw [Nat.zero_add] at this
    exact this
   have h2:RowAt .u8 V4 (w.heap.size+1) 0 N (over (outF kv n2 info A) A M (tE (keyB n1 ks) n2 info (j+1))):=fun q hq=>by
    have hb:=Below.heap_setCell V3 ⟨w.heap.size+1+1+1,0,none⟩ (.int .i64 (S:Int)) (w.heap.size+1) (by show w.heap.size+1≠w.heap.size+1+1+1;omega)
    rw [←hV4] at hb
    exact ⟨(World.cell?_of_block (w:=V3) hb).trans (h1 q hq).1,(World.frozen?_of_block (w:=V3) hb).trans (h1 q hq).2⟩
   refine h2.congr (fun q hq => ?_)
   have ha:=HA.out
   unfold over outF
   by_cases h:A≤q∧q<A+M
   · rw [if_pos h,if_pos (by omega),show q / 32+1=j+1 by omega,show q%32=q - A by omega,hkv]
   · rw [if_neg h]
     by_cases h2:q<A
     · rw [if_pos h2,if_pos (by omega)]
     · rw [if_neg h2,if_neg (by omega)]
  have hab4:V4.cell? ⟨w.heap.size+1+1+1,0,none⟩=some (.int .i64 (S:Int)):=by rw [hV4];exact World.cell?_setCell_same _ _ _ hab3
  have hab4f:V4.frozen? ⟨w.heap.size+1+1+1,0,none⟩=false:=by rw [hV4,World.frozen?_setCell];exact hab3f
  have hl4:V4.heap[l]? = some (.loop { r0 with state := .busy }):=(hbut4.block l (Array.getElem?_eq_some_iff.1 hlV).1 (by omega)).trans hlV
  have hD4:V4.heap[D]? = some (.deferred (some [])):=(hbut4.block D (Array.getElem?_eq_some_iff.1 hDV).1 (by omega)).trans hDV
  have hn4:=hbut4.cell r0' (by omega)
  have hx4:=hbut4.cell r2' (by omega)
  have hbutV:But (fun k=>k=l∨k=w.heap.size+1∨k=w.heap.size+1+1+1) V V4:=(hbV.mono (fun k hk => .inl hk)).trans (hbut4.mono (fun k hk => .inr hk))
  have HV4:Hid (V4=V3.setCell ⟨w.heap.size+1+1+1,0,none⟩ (.int .i64 (S:Int))):=hV4
  have hSw:IntKind.i64.wrap ((A:Int)+M)=(S:Int):=by simp only [IntKind.wrap_i64];omega
  have HS:Hid (S=A+M):=hS
  have hnext:S≠N→∃ v W',(Instr.endRound l none).run Tryz.prog V4 = .ok v W'∧(((Ending.returned v = .returned (.bool true)∧ExInv w l D N r0 kv n2 info (j+1) W'∧But (fun k=>k=l∨k=w.heap.size+1∨k=w.heap.size+1+1+1) V W'))∨(Ending.returned v = .returned (.bool false)∧Fin W')):=fun hSN=>by
   have hm:=HM.out
   have ha:=HA.out
   have hs:=HS.out
   have hM32:M=32:=by
    rw [hm]
    refine Nat.min_eq_left ?_
    rcases Nat.le_total 32 (N - A) with h | h
    · exact h
    · have:M=N - A:=by rw [hm];exact Nat.min_eq_right h
      omega
   have hrec:({ { r0 with state := .busy } with state := .ready,pending:=none }:Loop)=r0:=loop_back r0 e1 e2
   have hb5:=but_put V4 l (.loop r0)
   refine ⟨_,_,run_endRound none hl4,.inl ⟨rfl,?_,?_⟩⟩
   · simp only [Option.isNone_none,if_true,hrec]
     refine ⟨World.putObj_heap_same (Array.getElem?_eq_some_iff.1 hl4).1,(hb5.block D (Array.getElem?_eq_some_iff.1 hD4).1 (by omega)).trans hD4,hb5.cell hn4 (by omega),hb5.cell hx4 (by omega),?_,?_,?_,.inr (by omega)⟩
     · rw [show 32*(j+1)=S by omega];exact hb5.cell hab4 (by omega)
     · exact (World.frozen?_of_block (w:=V4) (hb5.block _ (block_lt_of_cell hab4) (by show ¬w.heap.size+1+1+1=l;omega))).trans hab4f
     · rw [show 32*(j+1)=S by omega];exact hb5.row hrow4 (by omega)
   · simp only [Option.isNone_none,if_true,hrec]
     exact hbutV.trans (hb5.mono (fun k hk => .inl hk))
  have hstop:S=N→∃ v W',(Instr.endRound l (some (.exit 0))).run Tryz.prog V4 = .ok v W'∧(((Ending.returned v = .returned (.bool true)∧ExInv w l D N r0 kv n2 info (j+1) W'∧But (fun k=>k=l∨k=w.heap.size+1∨k=w.heap.size+1+1+1) V W'))∨(Ending.returned v = .returned (.bool false)∧Fin W')):=fun hSN=>by
   refine ⟨_,_,run_endRound (some (.exit 0)) hl4,.inr ⟨rfl,?_⟩⟩
   rw [hFin]
   have hb5:=but_put V4 l (.loop { { r0 with state := .busy } with state := .done,pending:=some (.exit 0) })
   rw [←hSN] at hx4 hrow4 ⊢
   exact ⟨World.putObj_heap_same (Array.getElem?_eq_some_iff.1 hl4).1,(hb5.block D (Array.getElem?_eq_some_iff.1 hD4).1 (by omega)).trans hD4,hb5.cell hx4 (by omega),hb5.row hrow4 (by omega),((hbV'.trans (hbutV.below hbV'.size (by omega))).trans (hb5.below (Nat.le_trans hbV'.size hbutV.size) (by omega)))⟩
  have hSi:((S:Int) == (N:Int))=decide (S=N):=by
   by_cases h:S=N
   · simp [h]
   · have h2:¬((S:Int)=(N:Int)):=by omega
     simp [h,h2]
  clear hS hV4 hbut3 hbut4 hrow4 hbutV hFin hkv e4 e5 e6 e7 e1 e2
  rcases Nat.eq_or_lt_of_le hAN with hNA | hNA
  · have hA0:A=0:=by have:=HA.out;omega
    have hM0:M=0:=by omega
    have hS0:S=0:=by have:=HS.out;omega
    subst hA0
    subst hNA
    subst hM0
    subst hS0
    have hr:=hstop rfl
    simp only [Nat.sub_self,Int.ofNat_zero] at hcM hsl
    have HV4':Hid (V4=V3.setCell ⟨w.heap.size+1+1+1,0,none⟩ (.int .i64 0)):=HV4.out
    have hw0:IntKind.i64.wrap 0=0:=by rfl
    clear hstop hnext hSi hSw hfew hMl
    gi_wp2
    try (refine ⟨V2,hbeg,?_⟩;gi_wp2)
    refine wpIn_mono (Q:=fun e a' W'=>e = .normal∧a'={ tmps:=#[.slice x1 n1 c1,.slice x2 n2 c2,.int .i64 0,undef,undef,.pointer (some ⟨w.heap.size,0,none⟩),.slice none 0 0,.int .i64 0,.pointer (some ⟨w.heap.size+1+1,0,none⟩),.pointer (some ⟨w.heap.size+1+1+1,0,none⟩),.slice (some ⟨g,0,none⟩) 32 32,.int .i64 0,.bool false,.bool false,.int .i64 0,.bool false,.bool false,.int .i64 0,.slice (some ⟨w.heap.size+1,0,none⟩) 0 0,.slice x1 n1 c1,.slice x2 n2 c2,.func (.func 97) #[] #[.pointer (some ⟨w.heap.size+1+1+1+1,0,none⟩),.pointer (some ⟨w.heap.size+1+1+1+1+1,0,none⟩)],.slice (some ⟨g,0,none⟩) 32 32,.int .i64 0,.slice (some ⟨w.heap.size+1,0,none⟩) 0 0,.int .i64 0,.slice (some ⟨w.heap.size+1,0,none⟩) 0 0,.slice (some ⟨g,0,none⟩) 32 32,.int .i64 0,.int .i64 0,undef,undef,undef,undef],defers:=[] }∧W'=V4) ?r ?m
    case r =>
     gi_region_with_o (fail)
     all_goals (rw [←HV4'.out];exact ⟨rfl,rfl,rfl⟩)
    case m =>
     rintro e a' W' ⟨rfl,rfl,hW⟩
     rw [hW]
     clear hW
     gi_wp2
     exact hr
  · have hne:¬(N=A):=by omega
    have hAi:(A:Int)≤(N:Int):=by omega
    gi_wp2
    try (refine ⟨V2,hbeg,?_⟩;gi_wp2)
    refine wpIn_mono (Q:=fun e a' W'=>e = .normal∧a'={ tmps:=#[.slice x1 n1 c1,.slice x2 n2 c2,.int .i64 N,undef,undef,.pointer (some ⟨w.heap.size,0,none⟩),.slice none 0 0,.int .i64 0,.pointer (some ⟨w.heap.size+1+1,0,none⟩),.pointer (some ⟨w.heap.size+1+1+1,0,none⟩),.slice (some ⟨g,0,none⟩) 32 32,.int .i64 N,.bool false,.bool false,.int .i64 N,.bool false,.bool false,.int .i64 N,.slice (some ⟨w.heap.size+1,0,none⟩) N N,.slice x1 n1 c1,.slice x2 n2 c2,.func (.func 97) #[] #[.pointer (some ⟨w.heap.size+1+1+1+1,0,none⟩),.pointer (some ⟨w.heap.size+1+1+1+1+1,0,none⟩)],.slice (some ⟨g,0,none⟩) 32 32,.int .i64 A,.slice (some ⟨w.heap.size+1,0,none⟩) N N,.int .i64 A,.slice (some ⟨w.heap.size+1,A,none⟩) (N - A) (N - A),.slice (some ⟨g,0,none⟩) 32 32,.int .i64 M,.int .i64 S,undef,undef,undef,undef],defers:=[] }∧W'=V4) ?r ?m
    case r =>
     gi_region_with_o (fail)
     all_goals (rw [←HV4.out];exact ⟨rfl,rfl,rfl⟩)
    case m =>
     rintro e a' W' ⟨rfl,rfl,hW⟩
     rw [hW]
     clear hW
     by_cases hSN:S=N
     · have hr:=hstop hSN
       clear hstop hnext
       rw [decide_eq_true hSN] at hSi
       gi_wp2
       exact hr
     · have hr:=hnext hSN
       clear hstop hnext
       rw [decide_eq_false hSN] at hSi
       gi_wp2
       exact hr
 refine (hiter_in (n - 1) w hT x1 x2 n1 n2 c1 c2 ks info hks hinfo hn1 hn2 hk hi l (w.heap.size+1+1+1+1) (w.heap.size+1+1+1+1+1) (fun k=>k=l∨k=w.heap.size+1∨k=w.heap.size+1+1+1) (fun k hk=>by omega) (by omega) (ExInv w l D N r0 kv n2 info) Fin (fun j W W' h hb=>h.below hb) (fun W h=>by have:=h.few;omega) W1 hbw1 (fun k hk=>by omega) ((hb1.cell (block_lt_of_cell q4)).trans q4) ((hb1.cell (block_lt_of_cell q5)).trans q5) hY hI0).mono ?_
 rintro e W2 ⟨⟨v,rfl⟩,hF⟩
 rw [hFin] at hF
 obtain ⟨hl2,hD2,hx2,hr2,hb2⟩:=hF
 refine ⟨some (.exit 0),_,run_endLoop hl2 (by simp),?_⟩
 obtain ⟨V,hV⟩:∃ V,V=W2.putObj l (.loop { { r0 with state := .done,pending:=some (.exit 0) } with state := .exhausted }):=⟨_,rfl⟩
 have hbV:But (fun k=>k=l) W2 V:=by rw [hV];exact but_put _ _ _
 have hDV:V.heap[D]? = some (.deferred (some [])):=(hbV.block _ (Array.getElem?_eq_some_iff.1 hD2).1 (by omega)).trans hD2
 have hxV:=hbV.cell hx2 (by omega)
 have hrV:=hbV.row hr2 (by omega)
 have hBV:Below w.heap.size w V:=hb2.trans (hbV.below hb2.size (by omega))
 rw [←hV]
 obtain ⟨V2,hV2⟩:∃ V2,V2=V.putObj D (.deferred none):=⟨_,rfl⟩
 have hbV2:But (fun k=>k=D) V V2:=by rw [hV2];exact but_put _ _ _
 have hfin:RowAt .u8 V2 (w.heap.size+1) 0 N (outF kv n2 info N)∧Below w.heap.size w V2:=⟨hbV2.row hrV (by omega),hBV.trans (hbV2.below hBV.size (by omega))⟩
 clear hV hY hI0 hFin hl2 hD2 hx2 hr2 hb2 hb1 hl1 hD1
 gi_wp2
 refine ⟨by simp,.inl ⟨_,_,rfl,run_takeDeferred hDV,?_⟩⟩
 rw [←hV2,←hkv]
 exact ⟨_,results_tmp2 rfl _ _ _,w.heap.size+1,rfl,by omega,hfin.1,hfin.2⟩
theorem expand_any (x1 x2:Option Addr) (n1 n2 c1 c2:Nat) (ks info:Nat→Nat) (hks:∀ j,ks j<256) (hinfo:∀ j,info j<256) (hn1:n1<2305843009213693000) (hn2:n2<2305843009213692000) (w:World) (hT:HTab w cubeK squareK) (hk:BytesIn w (.slice x1 n1 c1) n1 ks) (hi:BytesIn w (.slice x2 n2 c2) n2 info) (N:Nat) (hN:N≤8160) :
 Calls Tryz.prog 50 #[.slice x1 n1 c1,.slice x2 n2 c2,.int .i64 N] w fun e w'=>∃ g,e = .returned (.tuple #[.slice (some ⟨g,0,none⟩) N N,.int .i64 0])∧w.heap.size≤g∧RowAt .u8 w' g 0 N (outF (keyB n1 ks) n2 info N)∧Below w.heap.size w w' :=
 callsIn_wide.1 (expand_in 9 x1 x2 n1 n2 c1 c2 ks info hks hinfo hn1 hn2 w hT hk hi N hN)
end Go.Proofs.YtcgkajlehdgpoaaGreatDoor
namespace Go.Proofs.YtcgkajlehdgpoaaGreatDoor
open Go.RowKit
def litB (l:List Nat):Nat→Nat:=fun j=>l.getD j 0
def lV1:List Nat:=[72,80,75,69,45,118,49]
def lKem:List Nat:=[75,69,77,0,32]
def lAll:List Nat:=[72,80,75,69,0,32,0,1,0,1]
def litV (l:List Nat):Array Value:=(l.map fun (x:Nat)=>Value.int .u8 (x:Int)).toArray
theorem lit_cell (W:World) (l:List Nat) (t:TypeId) (f:Nat × Nat) (j:Nat) (hj:j<l.length):(W.alloc (.cells (litV l) t f)).cell? ⟨W.heap.size,j,none⟩=some (.int .u8 (litB l j)):=by
 unfold World.cell?
 rw [heap_alloc_new]
 simp [litV,litB,hj]
theorem litB_B:∀ (w:World) (l:List Nat) (f:Nat × Nat),BytesIn (w.alloc (.cells (litV l) 5 f)) (.slice (some ⟨w.heap.size,0,none⟩) l.length l.length) l.length (litB l):=fun w l f =>
 .inr ⟨w.heap.size,0,l.length,rfl,by simp,Nat.le_refl _,fun j hj=>by rw [Nat.zero_add];exact lit_cell w l _ f j hj⟩
theorem convC (W:World) (l:List Nat):(convert 22 22 (.slice (some ⟨W.heap.size,0,none⟩) l.length l.length)).run Tryz.prog (W.alloc (.cells (litV l) 5)) = .ok (.slice (some ⟨W.heap.size,0,none⟩) l.length l.length) (W.alloc (.cells (litV l) 5 (l.length,l.length+1))):=by
 have h:=Lib.run_convert_bytes_const (P:=Tryz.prog) W 22 5 (litV l) l.length l.length Tryz.underlying22 Tryz.underlying5
 rw [h]
 simp [litV]
end Go.Proofs.YtcgkajlehdgpoaaGreatDoor
namespace Go.Proofs.YtcgkajlehdgpoaaGreatDoor
open Go.RowKit
def catL:List (Nat × (Nat→Nat))→Nat→Nat
 | []=>fun _=>0
 | p :: r=>cat p.1 p.2 (catL r)
def lenL:List (Nat × (Nat→Nat))→Nat
 | []=>0
 | p :: r=>p.1+lenL r
theorem catL_lt:∀ (ps:List (Nat × (Nat→Nat))),(∀ p,p∈ps→∀ j,p.2 j<256)→∀ j,catL ps j<256
 | [],_,j=>by show 0<256;decide
 | p :: r,h,j=>cat_lt (h p (List.mem_cons_self ..)) (catL_lt r fun q hq=>h q (List.mem_cons_of_mem _ hq)) j
theorem catL_at:∀ (ps:List (Nat × (Nat→Nat))) (i:Nat) (p:Nat × (Nat→Nat)),ps[i]? = some p→∀ j,j<p.1→catL ps (lenL (ps.take i)+j)=p.2 j
 | [],i,p,h=>by simp at h
 | q :: r,0,p,h=>by
  simp only [List.getElem?_cons_zero,Option.some.injEq] at h
  subst h
  intro j hj
  show cat q.1 q.2 (catL r) (0+j)=q.2 j
  rw [Nat.zero_add]
  exact cat_left hj
 | q :: r,i+1,p,h=>by
  intro j hj
  show cat q.1 q.2 (catL r) ((q.1+lenL (r.take i))+j)=p.2 j
  rw [Nat.add_assoc,cat_right]
  exact catL_at r i p (by simpa using h) j hj
theorem lenL_succ:∀ (ps:List (Nat × (Nat→Nat))) (i:Nat) (p:Nat × (Nat→Nat)),ps[i]? = some p→lenL (ps.take (i+1))=lenL (ps.take i)+p.1
 | [],i,p,h=>by simp at h
 | q :: r,0,p,h=>by
  simp only [List.getElem?_cons_zero,Option.some.injEq] at h
  subst h
  show q.1+0=0+q.1
  omega
 | q :: r,i+1,p,h=>by
  show q.1+lenL (r.take (i+1))=q.1+lenL (r.take i)+p.1
  rw [lenL_succ r i p (by simpa using h),Nat.add_assoc]
theorem lenL_take_le:∀ (ps:List (Nat × (Nat→Nat))) (i:Nat),lenL (ps.take i)≤lenL ps
 | [],i=>by simp
 | q :: r,0=>Nat.zero_le _
 | q :: r,i+1=>Nat.add_le_add_left (lenL_take_le r i) _
theorem BytesIn.cong {w:World} {v:Value} {n:Nat} {a b:Nat→Nat} (h:BytesIn w v n a) (e:∀ j,j<n→a j=b j):BytesIn w v n b:=by
 rcases h with h | ⟨bb,ob,cap,rfl,h1,h2,h3⟩
 · exact .inl h
 · exact .inr ⟨bb,ob,cap,rfl,h1,h2,fun j hj=>by rw [h3 j hj,e j hj]⟩
theorem parts_list (w:World) (ps:List (Value × Nat × (Nat→Nat))) (ty:TypeId) (h:∀ p,p∈ps→BytesIn w p.1 p.2.1 p.2.2) :
 Parts (w.alloc (.cells (ps.map (·.1)).toArray ty)) w.heap.size ps.length (lenL (ps.map (·.2))) (catL (ps.map (·.2))):=by
 refine ⟨fun i=>((ps.map (·.1))[i]?).getD (.bool false),fun i=>lenL ((ps.map (·.2)).take i),rfl,by show lenL (List.take ps.length _)=_;rw [List.take_of_length_le (by simp)],fun i hi => ?_⟩
 have hp:ps[i]? = some ps[i]:=List.getElem?_eq_getElem hi
 have hp2:(ps.map (·.2))[i]? = some ps[i].2:=by simp [hp]
 have hs:=lenL_succ _ i _ hp2
 have hb:=(h ps[i] (List.getElem_mem hi)).keep ((Below.refl _ w).alloc (Nat.le_refl _) (.cells (ps.map (·.1)).toArray ty))
 have hv:((ps.map (·.1))[i]?).getD (.bool false)=ps[i].1:=by simp [hp]
 refine ⟨by simp [hp],?_,lenL_take_le _ _,?_⟩
 · show lenL ((ps.map (·.2)).take i)≤lenL ((ps.map (·.2)).take (i+1))
   rw [hs];exact Nat.le_add_right _ _
 · show BytesIn _ (((ps.map (·.1))[i]?).getD (.bool false)) (lenL ((ps.map (·.2)).take (i+1)) - lenL ((ps.map (·.2)).take i)) _
   rw [hs,Nat.add_sub_cancel_left,hv]
   exact hb.cong fun j hj=>(catL_at _ i _ hp2 j hj).symm
def lxT (suite label:List Nat) (m:Nat) (ikm:Nat→Nat):List (Nat × (Nat→Nat)):=[(7,litB lV1),(suite.length,litB suite),(label.length,litB label),(m,ikm)]
def leT (suite label:List Nat) (m:Nat) (info:Nat→Nat) (N:Nat):List (Nat × (Nat→Nat)):=(2,litB [N / 256%256,N%256]) :: lxT suite label m info
def lxN (suite:List Nat) (sn:Nat) (salt:Nat→Nat) (label:List Nat) (m:Nat) (ikm:Nat→Nat):Nat→Nat:=tagH (keyB sn salt) (lenL (lxT suite label m ikm)) (catL (lxT suite label m ikm))
def leN (suite:List Nat) (pn:Nat) (prk:Nat→Nat) (label:List Nat) (m:Nat) (info:Nat→Nat) (N:Nat):Nat→Nat:=outF (keyB pn prk) (lenL (leT suite label m info N)) (catL (leT suite label m info N)) N
def lDkp:List Nat:=[100,107,112,95,112,114,107]
def lSk:List Nat:=[115,107]
def lEae:List Nat:=[101,97,101,95,112,114,107]
def lSs:List Nat:=[115,104,97,114,101,100,95,115,101,99,114,101,116]
def lPsk:List Nat:=[112,115,107,95,105,100,95,104,97,115,104]
def lInf:List Nat:=[105,110,102,111,95,104,97,115,104]
def lSecr:List Nat:=[115,101,99,114,101,116]
def lKey:List Nat:=[107,101,121]
def lBn:List Nat:=[98,97,115,101,95,110,111,110,99,101]
def lExp:List Nat:=[101,120,112]
def lZ:Nat→Nat:=fun _=>0
def dsN (m:Nat) (ikm:Nat→Nat):Nat→Nat:=leN lKem 32 (lxN lKem 0 lZ lDkp m ikm) lSk 0 lZ 32
def shN2 (dh enc pub:Nat→Nat):Nat→Nat:=leN lKem 32 (lxN lKem 0 lZ lEae 32 dh) lSs 64 (catL [(32,enc),(32,pub)]) 32
def cxN (m:Nat) (info:Nat→Nat):Nat→Nat:=catL [(1,lZ),(32,lxN lAll 0 lZ lPsk 0 lZ),(32,lxN lAll 0 lZ lInf m info)]
def csN (sh:Nat→Nat):Nat→Nat:=lxN lAll 32 sh lSecr 0 lZ
def ckN (label:List Nat) (N:Nat) (sh:Nat→Nat) (m:Nat) (info:Nat→Nat):Nat→Nat:=leN lAll 32 (csN sh) label 65 (cxN m info) N
def ncN (nn:Nat→Nat) (k:Nat):Nat→Nat:=fun j=>if j<4 then nn j else nn j ^^^ (k / 2 ^ (8*(11 - j))%256)
end Go.Proofs.YtcgkajlehdgpoaaGreatDoor
namespace Go.Proofs.YtcgkajlehdgpoaaGreatDoor
open Go.RowKit
theorem Own.stored {base:Nat} {w:World} {g n cap:Nat} {X:Nat→Nat} (h:Own base w (.slice (some ⟨g,0,none⟩) n cap) n X) (i:Nat) (v:Int) (u:Nat) (hu:v=(u:Int)):Own base (w.setCell ⟨g,i,none⟩ (.int .u8 v)) (.slice (some ⟨g,0,none⟩) n cap) n (upd X i u):=by
 have h1:=World.ownsRow.stored h i (.int .u8 v)
 unfold Own
 have e:(ints .u8 n X).set i (.int .u8 v)=ints .u8 n (upd X i u):=by
  apply List.ext_getElem?
  intro j
  by_cases hj:j<n
  · rw [ints_at _ _ _ j hj,List.getElem?_set]
    by_cases e:i=j
    · subst e;simp [ints_len,hj,upd,hu]
    · simp only [e,if_false]
      rw [ints_at _ _ _ j hj]
      simp [upd,show ¬j=i from fun h=>e h.symm]
  · rw [List.getElem?_eq_none (by rw [List.length_set,ints_len];omega),List.getElem?_eq_none (by rw [ints_len];omega)]
 rw [←e]
 exact h1.1
theorem Own.bytesIn {base:Nat} {w:World} {v:Value} {n:Nat} {X:Nat→Nat} (h:Own base w v n X):BytesIn w v n X:=by
 rcases h.form with ⟨rfl,h0⟩ | ⟨g,cap,rfl,_,hg,hc,hr⟩
 · exact .inl ⟨none,rfl,h0⟩
 · exact .inr ⟨g,0,cap,rfl,hg,hc,fun j hj=>(hr j hj).1⟩
end Go.Proofs.YtcgkajlehdgpoaaGreatDoor
namespace Go.Proofs.YtcgkajlehdgpoaaGreatDoor
open Go.RowKit
def strL (l:List Nat):ByteArray:=⟨(l.map UInt8.ofNat).toArray⟩
theorem litB_lt {l:List Nat} (h:∀ x,x∈l→x<256) (j:Nat):litB l j<256:=by
 unfold litB
 by_cases hj:j<l.length
 · rw [List.getD_eq_getElem?_getD,List.getElem?_eq_getElem hj];exact h _ (List.getElem_mem hj)
 · rw [List.getD_eq_getElem?_getD,List.getElem?_eq_none (by omega)];decide
theorem lV1_lt:∀ x,x∈lV1→x<256:=by decide
end Go.Proofs.YtcgkajlehdgpoaaGreatDoor
namespace Go.Proofs.YtcgkajlehdgpoaaGreatDoor
open Go.RowKit
theorem run_append_zeros_nil (w:World) (ty:TypeId) (m:Nat) (h0:0<m) (hm:m≤1000000) :
 (Builtin.append_ #[22,3] ty #[.slice none 0 0,.int .i64 m]).run Tryz.prog w =
  .ok (.slice (some ⟨w.heap.size,0,none⟩) m (grownCap w m 0 5)) (w.drew.alloc (.cells ((ints .u8 m (fun _=>0)).toArray ++ Builtin.zeroCells #[.int .u8 0] (grownCap w m 0 5 - m)) 5)):=by
 obtain ⟨i,hi,hz,hz1,hz2⟩:=info_parts Tryz.info5
 have h63':¬ (9223372036854775807<(m:Int)):=by omega
 have hw:IntKind.i64.wrap (m:Int)=m:=by simp only [IntKind.wrap_i64];omega
 have hl0:¬((m:Int)<0):=by omega
 have h48:¬ (281474976710656<(m:Int)):=by omega
 have hm0:¬(m=0):=by omega
 have hai:∀ W,Sem.run Tryz.prog (asInt (.int .i64 (m:Int))) W = .ok (m:Int) W:=fun _=>rfl
 have hc:(Value.int IntKind.u8 0).cells=#[.int .u8 0]:=rfl
 have hu:=run_underlying (P:=Tryz.prog) Tryz.underlying22
 have hu2:=run_underlying (P:=Tryz.prog) Tryz.underlying3
 have hns:¬ (281474976710656<Builtin.nextslicecap m 0):=by rw [nextslicecap_zero h0];omega
 simp [Builtin.append_,hu,hu2,sizeOf,typeInfo,zeroValue,hi,hz,hai,hw,hl0,h48,hz1,hz2,h63',Question.forced,run_firstCells_none,newRow,grownCap,hc,hm0,hns]
 rw [zeroCells_u8 m]
theorem append_zeros0 (w:World) (ty:TypeId) (m:Nat) (h0:0<m) (hm:m≤1000000) :
 ∃ g cap w',(Builtin.append_ #[22,3] ty #[.slice none 0 0,.int .i64 m]).run Tryz.prog w = .ok (.slice (some ⟨g,0,none⟩) m cap) w'∧m≤cap∧Own w.heap.size w' (.slice (some ⟨g,0,none⟩) 0 cap) 0 (fun _=>0)∧Below w.heap.size w w':=by
 have hge:=grownCap_ge w m 0 5
 have hcm:=grownCap_le_maxLen w m 0 5 (by unfold maxLen;omega)
 refine ⟨_,_,_,run_append_zeros_nil w ty m h0 hm,hge,⟨rfl,.inr ⟨w.heap.size,_,_,rfl,Nat.le_refl _,heap_alloc_new w.drew _,Nat.zero_le _,hcm,?_,rfl⟩⟩,((Below.refl _ _).drew).alloc (Nat.le_refl _) _⟩
 simp only [Array.size_append,List.size_toArray,size_zeroCells,ints_len]
 simp
 omega
theorem wpList_append_zeros0 {w:World} {ops:Array Oper} {rest:List Oper} {o:Oper} {a:Act} {Q:Exit→Act→World→Prop} (hgd:o.guard=none) (s x:Operand)
 (ho:o.op = .call { callee := .builtin .append,args:=#[s,x],argTypes:=#[22,3] }) (hs:a.eval s = .slice none 0 0) (m:Nat) (hx:a.eval x = .int .i64 m) (h0:0<m) (hm:m≤1000000)
 (h:∀ g cap w',m≤cap→Own w.heap.size w' (.slice (some ⟨g,0,none⟩) 0 cap) 0 (fun _=>0)→Below w.heap.size w w'→wpList Tryz.prog ops Q rest (a.put o.dst (.slice (some ⟨g,0,none⟩) m cap)) w'):wpList Tryz.prog ops Q (o :: rest) a w:=by
 refine wpList_plain hgd fun K hK => ?_
 obtain ⟨g,cap,w',h1,h2,h3,h4⟩:=append_zeros0 w o.type m h0 hm
 unfold Oper.wp execOp
 simp only [ho,resolve,invoke,builtin,Sem.run_bind,Sem.run_pure,Result.andThen_ok,List.map_toArray,List.map_cons,List.map_nil,hs,hx,h1]
 exact hK _ _ (h g cap w' h2 h3 h4)
set_option maxRecDepth 20000 in
set_option maxHeartbeats 4000000 in
theorem grow_any (m:Nat) (h0:0<m) (hm:m≤1000000) (w:World) :
 Calls Tryz.prog 86 #[.slice none 0 0,.int .i64 m] w fun e w'=>∃ g cap,e = .returned (.slice (some ⟨g,0,none⟩) 0 cap)∧Own w.heap.size w' (.slice (some ⟨g,0,none⟩) 0 cap) 0 (fun _=>0)∧Below w.heap.size w w':=by
 have e1:¬((m:Int)<0):=by omega
 have e2:(0:Int)<(m:Int):=by omega
 have e3:IntKind.i64.wrap ((m:Int) - 0)=(m:Int):=by simp only [IntKind.wrap_i64];omega
 have e4:IntKind.i64.wrap (m:Int)=(m:Int):=by simp only [IntKind.wrap_i64];omega
 go_enter Tryz.func86,Tryz.ntmps86
 go_wp2_with (at_builtin;refine wpList_append_zeros0 rfl (.tmp 20) (.tmp 21) rfl rfl m rfl h0 hm ?_;intro g cap w1 hcap own hb)
 go_ret
 exact ⟨g,cap,rfl,own,hb⟩
end Go.Proofs.YtcgkajlehdgpoaaGreatDoor
namespace Go.Proofs.YtcgkajlehdgpoaaGreatDoor
open Go.RowKit
set_option maxRecDepth 20000 in
set_option maxHeartbeats 8000000 in
theorem concat_parts (gp cnt m:Nat) (t:Nat→Nat) (w:World) (hP:Parts w gp cnt m t) (hcnt:cnt≤1000) (hsum:m≤1000000) (h0:0<m) :
 Calls Tryz.prog 61 #[.slice (some ⟨gp,0,none⟩) cnt cnt] w fun e w'=>∃ s,e = .returned s∧Own w.heap.size w' s m t∧Below w.heap.size w w':=by
 obtain ⟨pvs,L,p0,p1,p2⟩:=hP
 have P2:=Hid.mk' p2
 clear p2
 have hg:=grow_any m h0 hsum w
 go_enter Tryz.func61,Tryz.ntmps61
 go_wp2
 go_loopw [3,11] (fun s i wr=>∃ q T:Nat,q≤cnt∧i = .int .i64 q∧Hid (T=L q)∧s = .int .i64 T∧w=wr) (fun _ i _=>cnt - (intOf i).toNat)
 case atStart=>exact ⟨0,0,Nat.zero_le _,rfl,Hid.mk' p0.symm,rfl,rfl⟩
 case round =>
  obtain ⟨q,T,hq,rfl,HT,rfl,rfl⟩:=hrel
  by_cases hlt:q<cnt
  · obtain ⟨c1,c2,c3,c4⟩:=P2.out q hlt
    obtain ⟨xp,cp,hpv,hxn,hncp,hsrc⟩:=c4.src
    obtain ⟨n,hn⟩:∃ n,n=L (q+1) - L q:=⟨_,rfl⟩
    have hTn:T+n=L (q+1):=by have:=HT.out;omega
    have hTm:T+n≤1000000:=by omega
    have r0:w.cell? ⟨gp,q,none⟩=some (.slice xp n cp):=by rw [c1,hpv,hn]
    have hqi:(0:Int)≤(q:Int)∧(q:Int)<cnt:=by omega
    have hd:decide ((q:Int)<(cnt:Int))=true:=decide_eq_true (by omega)
    have ew:IntKind.i64.wrap ((T:Int)+(n:Int))=(T:Int)+n:=by simp only [IntKind.wrap_i64];omega
    have en:¬((T:Int)+(n:Int)<0):=by omega
    have HN:Hid (T+n=L (q+1)):=hTn
    clear hn hTn c1 c2 c3 c4 hpv hsrc hg p0 p1
    go_wp2
    go_roundw
    case rel=>exact ⟨q+1,T+n,by omega,by go_num,Hid.mk' HN.out,by simp,by first | rfl | trivial⟩
    case measure=>simp [intOf];omega
  · have hqe:q=cnt:=by omega
    subst hqe
    have hTm:T=m:=by rw [HT.out,p1]
    subst hTm
    go_wp2_with (go_at_call 86;refine hg.mono ?_;clear hg;rintro e w1 ⟨g1,cap1,rfl,own1,hb1⟩)
    have hd0:decide ((q:Int)<(q:Int))=false:=decide_eq_false (by omega)
    try rw [hd0]
    clear hd0 hlt HT
    go_loopw [6,27] (fun ns i wr=>∃ r A:Nat,r≤q∧i = .int .i64 r∧Hid (A=L r)∧Own w.heap.size wr ns A t∧Below w.heap.size w wr) (fun _ i _=>q - (intOf i).toNat)
    case atStart=>exact ⟨0,0,Nat.zero_le _,rfl,Hid.mk' p0.symm,own1.congr (fun j hj=>absurd hj (Nat.not_lt_zero j)),hb1⟩
    case round =>
     clear own1 hb1
     obtain ⟨r,A,hr,rfl,HA,own,hbw⟩:=hrel
     by_cases hlt:r<q
     · obtain ⟨c1,c2,c3,c4⟩:=P2.out r hlt
       obtain ⟨xp,cp,hpv,hxn,hncp,hsrc⟩:=c4.src
       obtain ⟨n,hn⟩:∃ n,n=L (r+1) - L r:=⟨_,rfl⟩
       have hTn:A+n=L (r+1):=by have:=HA.out;omega
       have hTm:A+n≤1000000:=by omega
       have r0:wr.cell? ⟨gp,r,none⟩=some (.slice xp n cp):=by rw [hbw.cell (p:=⟨gp,r,none⟩) (block_lt_of_cell c1),c1,hpv,hn]
       have hcg:∀ z,z<A+n→cat A t (fun j=>t (L r+j)) z=t z:=fun z hz=>by
        have:=HA.out
        unfold cat
        by_cases e:z<A
        · rw [if_pos e]
        · rw [if_neg e]
          show t (L r+(z - A))=t z
          rw [show L r+(z - A)=z by omega]
       have src:=hsrc wr hbw
       rw [←hn] at src
       obtain ⟨Y,hY⟩:∃ Y:Nat→Nat,Y=fun j=>t (L r+j):=⟨_,rfl⟩
       rw [←hY] at src hcg
       have hqi:(0:Int)≤(r:Int)∧(r:Int)<q:=by omega
       have hd:decide ((r:Int)<(q:Int))=true:=decide_eq_true (by omega)
       have hsz:=hbw.size
       have HN:Hid (A+n=L (r+1)):=hTn
       clear hn hTn c1 c2 c3 c4 hpv hsrc p0 p1 hY
       go_wp2_with (at_builtin;refine wpList_append_bytes rfl (.tmp 31) (.tmp 32) rfl w.heap.size u6 A t rfl own xp n cp Y rfl src hxn (by omega) hsz ?_;intro v6 w6 own6 grow6;(have hb6:Below w.heap.size w w6:=Own.grown hbw grow6 own (Nat.le_refl _) hsz))
       go_roundw
       case rel=>exact ⟨r+1,A+n,by omega,by go_num,Hid.mk' HN.out,own6.congr hcg,hb6⟩
       case measure=>simp [intOf];omega
     · have hqe:r=q:=by omega
       subst hqe
       have hA:=HA.out
       rw [p1] at hA
       go_wp2
       go_ret
       exact ⟨_,rfl,by rw [←hA];exact own,hbw⟩
theorem Parts.congr {w:World} {gp cnt m:Nat} {t u:Nat→Nat} (h:Parts w gp cnt m t) (e:∀ j,j<m→t j=u j):Parts w gp cnt m u:=by
 obtain ⟨pvs,L,p0,p1,p2⟩:=h
 refine ⟨pvs,L,p0,p1,fun i hi => ?_⟩
 obtain ⟨c1,c2,c3,c4⟩:=p2 i hi
 exact ⟨c1,c2,c3,c4.cong fun j hj=>e _ (by omega)⟩
theorem Parts.keep {w w':World} {gp cnt m:Nat} {t:Nat→Nat} (h:Parts w gp cnt m t) (hb:Below w.heap.size w w'):Parts w' gp cnt m t:=by
 obtain ⟨pvs,L,p0,p1,p2⟩:=h
 refine ⟨pvs,L,p0,p1,fun i hi => ?_⟩
 obtain ⟨c1,c2,c3,c4⟩:=p2 i hi
 exact ⟨(hb.cell (p:=⟨gp,i,none⟩) (block_lt_of_cell c1)).trans c1,c2,c3,c4.keep hb⟩
def Texts (w:World) (v:Value) (cnt m:Nat) (t:Nat→Nat):Prop:=(v = .slice none 0 0∧cnt=0∧m=0)∨∃ gp,v = .slice (some ⟨gp,0,none⟩) cnt cnt∧Parts w gp cnt m t
theorem Texts.keep {w w':World} {v:Value} {cnt m:Nat} {t:Nat→Nat} (h:Texts w v cnt m t) (hb:Below w.heap.size w w'):Texts w' v cnt m t:=by
 rcases h with h | ⟨gp,hv,hP⟩
 · exact .inl h
 · exact .inr ⟨gp,hv,hP.keep hb⟩
theorem texts_none (w:World) (t:Nat→Nat):Texts w (.slice none 0 0) 0 0 t := .inl ⟨rfl,rfl,rfl⟩
theorem texts_one (w:World) (v:Value) (m:Nat) (t:Nat→Nat) (h:BytesIn w v m t):Texts (w.alloc (.cells #[v] 22)) (.slice (some ⟨w.heap.size,0,none⟩) 1 1) 1 m t :=
 .inr ⟨w.heap.size,rfl,(parts_list w [(v,m,t)] 22 (fun p hp=>by
  simp only [List.mem_cons,List.not_mem_nil,or_false] at hp
  subst hp
  exact h)).congr fun j hj=>by
  show cat m t (fun _=>0) j=t j
  exact cat_left hj⟩
theorem texts_two (w:World) (v u:Value) (n m:Nat) (t s:Nat→Nat) (h1:BytesIn w v n t) (h2:BytesIn w u m s):Texts (w.alloc (.cells #[v,u] 22)) (.slice (some ⟨w.heap.size,0,none⟩) 2 2) 2 (n+m) (catL [(n,t),(m,s)]) :=
 .inr ⟨w.heap.size,rfl,parts_list w [(v,n,t),(u,m,s)] 22 (fun p hp=>by
  simp only [List.mem_cons,List.not_mem_nil,or_false] at hp
  rcases hp with rfl | rfl
  · exact h1
  · exact h2)⟩
end Go.Proofs.YtcgkajlehdgpoaaGreatDoor
