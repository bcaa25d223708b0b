/- What the proof stands on: HHashM, HHmac, HRefPad, HBlock. -/
import Derived.Test.YtkoedfmdhdikaaaDoorHEngM
import Derived.Test.YtkoedfmdhdikaaaDoorHRefSmallM
import Derived.Test.YtkoedfmdhdikaaaDoorHWriteCM
import Derived.Deep.Upon
namespace Go.Proofs.YtkoedfmdhdikaaaDoor
open Go.RowKit
theorem Bytes.below {w w':World} {b:Nat} {v:Value} {n:Nat} {bs:Nat→Nat} (h:Bytes w b v n bs) (hb:Below w.heap.size w w'):Bytes w' b v n bs:=by
 rcases h with h | ⟨bb,ob,cap,rfl,h1,h2,h3⟩
 · exact .inl h
 · refine .inr ⟨bb,ob,cap,rfl,h1,h2,fun j hj => ?_⟩
   have:=h3 j hj
   exact (hb.cell (p:=⟨bb,ob+j,none⟩) (block_lt_of_cell this)).trans this
theorem Out.pre {b o n:Nat} {u v w:World} (h:Below u.heap.size u v) (hb:b<u.heap.size) (k:Out b o n v w):Out b o n u w:=(Out.of_below h hb).trans k
structure Made256 (w:World) (g:Nat) (n:Nat) (bs:Nat→Nat):Prop where
 bits:w.cell? ⟨g,0,none⟩=some (.int .i64 256)
 eng:∃ s R,EngAt .u32 w g 1 s R n∧Holds rn cubeK (firstS rn squareK) n bs s R∧s.lt 4294967296∧∀ j,R j<256
theorem Made256.lt {w:World} {g n:Nat} {bs:Nat→Nat} (h:Made256 w g n bs):g<w.heap.size:=block_lt_of_cell h.bits
theorem Made256.below {w w':World} {g n:Nat} {bs:Nat→Nat} (h:Made256 w g n bs) (hb:Below w.heap.size w w'):Made256 w' g n bs:=by
 obtain ⟨s,R,h1,h2,h3,h4⟩:=h.eng
 exact ⟨(hb.cell (p:=⟨g,0,none⟩) h.lt).trans h.bits,s,R,h1.below hb,h2,h3,h4⟩
theorem Made256.congr {w:World} {g n:Nat} {bs cs:Nat→Nat} (h:Made256 w g n bs) (e:∀ j,j<n→bs j=cs j):Made256 w g n cs:=by
 obtain ⟨s,R,h1,h2,h3,h4⟩:=h.eng
 exact ⟨h.bits,s,R,h1,h2.congr e,h3,h4⟩
theorem Made256.out {b o m:Nat} {w w':World} {g n:Nat} {bs:Nat→Nat} (h:Made256 w g n bs) (hb:Out b o m w w') (hne:g≠b):Made256 w' g n bs:=by
 obtain ⟨s,R,h1,h2,h3,h4⟩:=h.eng
 exact ⟨(hb.cell' h.lt hne).trans h.bits,s,R,⟨hb.row h1.st hne,hb.row h1.rest hne,(hb.cell' h.lt hne).trans h1.cnt,(hb.frozen' h.lt hne).trans h1.cntf⟩,h2,h3,h4⟩
theorem newMade256 (w:World) (hT:HTab w cubeK squareK) (bs:Nat→Nat):Calls Tryd.prog 66 #[.int .i64 256] w fun e w'=>∃ g,e = .returned (.pointer (some ⟨g,0,none⟩))∧w.heap.size≤g∧Made256 w' g 0 bs∧Below w.heap.size w w':=by
 refine (new256_any squareK hT.qlt w hT.squares hT.narrow).mono ?_
 rintro e w' ⟨g,rfl,hg,h1,h2,hb⟩
 exact ⟨g,rfl,hg,⟨h1,_,_,h2,Holds.none _ _ _ _ _,firstS_lt rn squareK (by decide) hT.qlt,fun _=>Nat.zero_lt_succ _⟩,hb⟩
set_option maxRecDepth 20000 in
set_option maxHeartbeats 1000000 in
theorem hwrite256_any (g c n:Nat) (v:Value) (bs b2:Nat→Nat) (hb2:∀ j,b2 j<256) (w:World) (hM:Made256 w g c bs) (hT:HTab w cubeK squareK) (h3:3<g) (hv:Bytes w g v n b2) (hcn:c+n<4611686018427387904) :
 Calls Tryd.prog 67 #[.pointer (some ⟨g,0,none⟩),v] w fun e w'=>e = .returned (.int .i64 0)∧Made256 w' g (c+n) (cat c bs b2)∧Out g 1 137 w w':=by
 obtain ⟨hbits,s,R,hE,hH,hs,hR⟩:=hM
 have hgl:g<w.heap.size:=block_lt_of_cell hbits
 have hd:Below w.heap.size w w.drew:=(Below.refl _ _).drew
 have hTd:=hT.below hd hT.size
 have hw:=write32_any cubeK hT.Klt s hs R hR g 1 c n v b2 hb2 w.drew (hE.below hd) hTd.cubes (by omega) (hv.below hd) hcn
 have hX:=writeE_lt (r:=rn) (K:=cubeK) (c:=c) (n:=n) hs hR hb2
 have hHw:=hH.write (by decide) n b2
 obtain ⟨X,hXe⟩:∃ X,X=writeE rn cubeK s R c n b2:=⟨_,rfl⟩
 rw [←hXe] at hw hX hHw
 have hm:=made_yes g 256 (by decide) w hbits
 obtain ⟨p0,p1,p2,p3,p4,p5,p6,p7,p8,p9,p10,p11,p12,p13⟩:=hT.narrow
 clear hT hTd hv hE hH hXe
 go_enter Tryd.func67,Tryd.ntmps67
 go_wp2_with (go_at_call 78;refine hm.mono ?_;rintro e w' ⟨rfl,hw'⟩;subst hw')
 go_region_with (go_at_call 70;refine hw.mono ?_;rintro e w5 ⟨rfl,hE5,hO5⟩)
 all_goals
  go_wp2
  go_ret
  have hO:Out g 1 137 _ w5:=Out.pre hd hgl hO5
  exact ⟨rfl,⟨(hO.cell 0 (by omega)).trans hbits,X.1,X.2,hE5,hHw,hX.1,hX.2⟩,hO⟩
set_option maxRecDepth 20000 in
set_option maxHeartbeats 1000000 in
theorem hsum256_any (g c:Nat) (bs:Nat→Nat) (w:World) (hM:Made256 w g c bs) (hT:HTab w cubeK squareK) (hc:c<2305843009213693952) :
 Calls Tryd.prog 68 #[.pointer (some ⟨g,0,none⟩)] w fun e w'=>∃ ga,e = .returned (.slice (some ⟨ga,0,none⟩) 32 32)∧w.heap.size≤ga∧RowAt .u8 w' ga 0 32 (outB 32 (specS rn cubeK squareK c bs))∧Below w.heap.size w w':=by
 obtain ⟨hbits,s,R,hE,hH,hs,hR⟩:=hM
 have hgl:g<w.heap.size:=block_lt_of_cell hbits
 have hd:Below w.heap.size w w.drew:=(Below.refl _ _).drew
 have hTd:=hT.below hd hT.size
 have hsum:=sum32_any cubeK hT.Klt s hs R hR c hc w.drew hTd.cubes
 rw [hH.end (by decide)] at hsum
 have hm:=made_yes g 256 (by decide) w hbits
 obtain ⟨p0,p1,p2,p3,p4,p5,p6,p7,p8,p9,p10,p11,p12,p13⟩:=hT.narrow
 have hr:∀ w':World,Below w.heap.size w w'→w'.rangeAt g 1 (engVals .u32 s R c):=fun w' h=>(hE.below h).range
 have hS:∀ w':World,Below w.heap.size w w'→∀ b o,b<w.heap.size→w'.cell? ⟨b,o,none⟩=w.cell? ⟨b,o,none⟩:=fun w' h b o hb=>h.cell (p:=⟨b,o,none⟩) hb
 have h0:0<w.heap.size:=by have:=hT.size;omega
 have hi':(Tryd.prog.info? 107).map (·.size)=some (engVals .u32 s R c).length:=by rw [engVals_len];kernel_rfl
 obtain ⟨Y,hY⟩:∃ Y,Y=specS rn cubeK squareK c bs:=⟨_,rfl⟩
 rw [←hY] at hsum ⊢
 clear hT hTd hE hH hY
 go_enter Tryd.func68,Tryd.ntmps68
 go_wp2_with (go_at_call 78;refine hm.mono ?_;rintro e w' ⟨rfl,hw'⟩;subst hw')
 refine wp_region_held_drew (S:=fun w2=>Below w'.heap.size w' w2) (by kernel_rfl) hd (fun hHeld => ?_)
 refine wpAnyH_take (i:=0) (v := .pointer (some ⟨g,0,none⟩)) rfl (by kernel_rfl) (by kernel_rfl) (by kernel_rfl) (fun _ _ _ h=>h) (Or.inl ⟨by rfl,fun w2 _=>by go_simp⟩) hHeld ?_
 refine wpAnyH_take (i:=1) (v := .pointer (some ⟨g,0,none⟩)) rfl (by kernel_rfl) (by kernel_rfl) (by kernel_rfl) (fun _ _ _ h=>h) (Or.inl ⟨by rfl,fun w2 _=>by go_simp⟩) hHeld ?_
 refine wpAnyH_take (i:=2) (v := .pointer (some ⟨g,1,none⟩)) rfl (by kernel_rfl) (by kernel_rfl) (by kernel_rfl) (fun _ _ _ h=>h) (Or.inl ⟨by rfl,fun w2 _=>by go_simp⟩) hHeld ?_
 refine wpAnyH_take (i:=3) (v := .agg (engVals .u32 s R c).toArray) rfl (by kernel_rfl) (by kernel_rfl) (by kernel_rfl) (fun _ _ _ h=>h) (yieldsIf_load_mid (by rfl) 107 _ rfl g 1 rfl _ _ hr Tryd.underlying107 rfl hi') hHeld ?_
 refine wpAnyH_take (i:=4) (v:=(.agg #[.int .i64 32,.int .i64 64,.int .u64 7,.int .u64 18,.int .u64 3,.int .u64 17,.int .u64 19,.int .u64 10,.int .u64 2,.int .u64 13,.int .u64 22,.int .u64 6,.int .u64 11,.int .u64 25])) rfl (by kernel_rfl) (by kernel_rfl) (by kernel_rfl) (fun _ _ _ h=>h) (Or.inl ⟨by rfl,fun w2 hSw=>by go_simp⟩) hHeld ?_
 refine wpAnyH_ready (rs:=[5]) (by kernel_rfl) (by simp) ?_
 refine AllReadyH.cons rfl (fun K hK => ?_) AllReadyH.nil
 go_simp
 go_at_call 71
 refine hsum.mono ?_
 rintro e w5 ⟨ga,rfl,hga,hrow,hb5⟩
 have hbn:=below_next hd hb5
 go_simp
 refine hK.out _ _ hbn (fun hHeld2 => ?_)
 refine wpAnyH_take (i:=6) (v := .slice (some ⟨ga,0,none⟩) 32 32) rfl (by kernel_rfl) (by kernel_rfl) (by kernel_rfl) (fun _ _ _ h=>h) (Or.inl ⟨by rfl,fun w2 _=>by go_simp⟩) hHeld2 ?_
 refine wpAnyH_done (by kernel_rfl) ?_ _
 go_simp
 go_wp2
 go_ret
 exact ⟨ga,rfl,hga,hrow,hbn⟩
structure Made512 (w:World) (g:Nat) (n:Nat) (bs:Nat→Nat):Prop where
 bits:w.cell? ⟨g,0,none⟩=some (.int .i64 512)
 eng:∃ s R,EngAt .u64 w g 138 s R n∧Holds rw6 cubeK (firstS rw6 squareK) n bs s R∧s.lt 18446744073709551616∧∀ j,R j<256
theorem Made512.lt {w:World} {g n:Nat} {bs:Nat→Nat} (h:Made512 w g n bs):g<w.heap.size:=block_lt_of_cell h.bits
theorem Made512.below {w w':World} {g n:Nat} {bs:Nat→Nat} (h:Made512 w g n bs) (hb:Below w.heap.size w w'):Made512 w' g n bs:=by
 obtain ⟨s,R,h1,h2,h3,h4⟩:=h.eng
 exact ⟨(hb.cell (p:=⟨g,0,none⟩) h.lt).trans h.bits,s,R,h1.below hb,h2,h3,h4⟩
theorem Made512.congr {w:World} {g n:Nat} {bs cs:Nat→Nat} (h:Made512 w g n bs) (e:∀ j,j<n→bs j=cs j):Made512 w g n cs:=by
 obtain ⟨s,R,h1,h2,h3,h4⟩:=h.eng
 exact ⟨h.bits,s,R,h1,h2.congr e,h3,h4⟩
theorem Made512.out {b o m:Nat} {w w':World} {g n:Nat} {bs:Nat→Nat} (h:Made512 w g n bs) (hb:Out b o m w w') (hne:g≠b):Made512 w' g n bs:=by
 obtain ⟨s,R,h1,h2,h3,h4⟩:=h.eng
 exact ⟨(hb.cell' h.lt hne).trans h.bits,s,R,⟨hb.row h1.st hne,hb.row h1.rest hne,(hb.cell' h.lt hne).trans h1.cnt,(hb.frozen' h.lt hne).trans h1.cntf⟩,h2,h3,h4⟩
end Go.Proofs.YtkoedfmdhdikaaaDoor
namespace Go.Proofs.YtkoedfmdhdikaaaDoor
open Go.RowKit
def Parts (w:World) (gp cnt m:Nat) (t:Nat→Nat):Prop:=∃ (pvs:Nat→Value) (L:Nat→Nat),L 0=0∧L cnt=m∧∀ i,i<cnt→w.cell? ⟨gp,i,none⟩=some (pvs i)∧L i≤L (i+1)∧L (i+1)≤m∧BytesIn w (pvs i) (L (i+1) - L i) (fun j=>t (L i+j))
theorem Parts.below {w w':World} {gp cnt m:Nat} {t:Nat→Nat} (h:Parts w gp cnt m t) (hb:Below w.heap.size w w'):Parts w' gp cnt m t:=by
 obtain ⟨pvs,L,h0,h1,h2⟩:=h
 exact ⟨pvs,L,h0,h1,fun i hi=>⟨(hb.cell (p:=⟨gp,i,none⟩) (block_lt_of_cell (h2 i hi).1)).trans (h2 i hi).1,(h2 i hi).2.1,(h2 i hi).2.2.1,(h2 i hi).2.2.2.still hb⟩⟩
theorem parts_one (w:World) (v:Value) (n:Nat) (bs:Nat→Nat) (ty:TypeId) (h:BytesIn w v n bs):Parts (w.alloc (.cells #[v] ty)) w.heap.size 1 n bs:=by
 refine ⟨fun _=>v,fun i=>if i=0 then 0 else n,rfl,rfl,fun i hi => ?_⟩
 have:i=0:=by omega
 subst this
 refine ⟨by simp,Nat.zero_le _,Nat.le_refl _,?_⟩
 have:=h.still ((Below.refl _ _).alloc (Nat.le_refl _) (.cells #[v] ty))
 simpa using this
def xorG (kv:Nat→Nat) (p k:Nat):Nat→Nat:=fun j=>if j<k then kv j ^^^ p else kv j
theorem xorG_step (kv:Nat→Nat) (p k j:Nat):upd (xorG kv p k) k (kv k ^^^ p) j=xorG kv p (k+1) j:=by
 unfold upd xorG
 by_cases e:j=k
 · subst e;rw [if_pos rfl,if_pos (by omega)]
 · rw [if_neg e]
   by_cases e2:j<k
   · rw [if_pos e2,if_pos (by omega)]
   · rw [if_neg e2,if_neg (by omega)]
def padH (kv:Nat→Nat) (p m:Nat) (t:Nat→Nat):Nat→Nat:=outB 32 (specS rn cubeK squareK (64+m) (cat 64 (fun j=>kv j ^^^ p) t))
set_option maxRecDepth 20000 in
set_option maxHeartbeats 2000000 in
theorem hpadded_any (kv:Nat→Nat) (hkv:∀ j,kv j<256) (p:Nat) (hp:p<256) (gp cnt cap m:Nat) (t:Nat→Nat) (ht:∀ j,t j<256) (hm:m<2305843009213693000) (w:World) (hT:HTab w cubeK squareK) (hP:Parts w gp cnt m t) (hcnt:cnt<1000000) :
 Calls Tryd.prog 61 #[.agg (ints .u8 64 kv).toArray,.int .u8 p,.slice (some ⟨gp,0,none⟩) cnt cap] w
  fun e w'=>∃ g,e = .returned (.slice (some ⟨g,0,none⟩) 32 32)∧w.heap.size≤g∧RowAt .u8 w' g 0 32 (padH kv p m t)∧Below w.heap.size w w':=by
 have h3:=hT.size
 have hnew:=fun W (h:Below w.heap.size w W)=>newMade256 W (hT.below h h3) (cat 64 (fun j=>kv j ^^^ p) t)
 have hrow0:=row_fresh .u8 w 64 kv 87
 obtain ⟨pvs,L,hL0,hLm,hcell⟩:=hP
 go_enter Tryd.func61,Tryd.ntmps61
 go_wp2
 go_loopw [11] (fun i wr=>∃ k:Nat,k≤64∧i = .int .i64 k∧RowAt .u8 wr w.heap.size 0 64 (xorG kv p k)∧Below w.heap.size w wr) (fun i _=>64 - (intOf i).toNat)
 case atStart=>exact ⟨0,Nat.zero_le _,rfl,hrow0.congr (fun j _=>by simp [xorG]),(Below.refl _ _).alloc (Nat.le_refl _) _⟩
 case round =>
  clear hrow0
  obtain ⟨k,hk,rfl,hrow,hb⟩:=hrel
  by_cases hlt:k<64
  · obtain ⟨rk,rf⟩:=hrow k hlt
    rw [Nat.zero_add] at rk rf
    have ek:xorG kv p k k=kv k:=by simp [xorG]
    rw [ek] at rk
    clear hnew hcell
    go_wp2
    go_roundw
    case rel =>
     have h1:=hrow.set (i:=k) hlt (v:=bits .xor .u8 (kv k:Int) (p:Int)) (u:=kv k ^^^ p) (u8_xor_nat _ _ (hkv k) hp)
     rw [Nat.zero_add] at h1
     exact ⟨k+1,by omega,by go_num,h1.congr (fun j _=>xorG_step kv p k j),hb.setCell (Nat.le_refl _) _⟩
    case measure=>simp [intOf];omega
  · have hke:k=64:=by omega
    rw [hke] at hrow
    clear hke
    have hn:=hnew wr hb
    have hwl:w.heap.size<wr.heap.size:=block_lt_of_cell (hrow 0 (by decide)).1
    clear hnew
    go_wp2_with (first
     | (go_at_call 66;refine hn.mono ?_;clear hn;rintro e w1 ⟨g,rfl,hg,hM,hb1⟩;(have hbw1:Below w.heap.size w w1:=hb.trans (hb1.mono hb.size));have hs1:=hb1.size;have hw1:=hwrite256_any g 0 64 (.slice (some ⟨w.heap.size,0,none⟩) 64 64) _ (fun j=>kv j ^^^ p) (fun j=>Nat.xor_lt_two_pow (n:=8) (hkv j) hp) w1 hM (hT.below hbw1 h3) (by omega) (.inr ⟨w.heap.size,0,64,rfl,by omega,Nat.le_refl _,fun j hj=>by have h:=((hrow.below hb1 hwl) j hj).1;rw [h];simp [xorG,hj]⟩) (by decide))
     | (go_at_call 67;refine hw1.mono ?_;clear hw1;rintro e w2 ⟨rfl,hM2,hO2⟩))
    have hbw2:Below w.heap.size w w2:=hbw1.trans (hO2.below (by omega) (by omega))
    obtain ⟨B,hB⟩:∃ B,B=cat 64 (fun j=>kv j ^^^ p) t:=⟨_,rfl⟩
    have hM3:Made256 w2 g (64+L 0) B:=by
     rw [hL0,hB]
     exact hM2.congr (fun j hj=>by
      rw [show cat 0 (cat 64 (fun j=>kv j ^^^ p) t) (fun j=>kv j ^^^ p) j=kv j ^^^ p by unfold cat;simp]
      rw [cat_left (by omega)])
    have HB:Hid (padH kv p m t=outB 32 (specS rn cubeK squareK (64+m) B)):=(by rw [hB];rfl:padH kv p m t=outB 32 (specS rn cubeK squareK (64+m) B))
    have hBr:∀ j,B (64+j)=t j:=fun j=>by rw [hB];exact cat_right j
    have hd:decide ((k:Int)<64)=false:=decide_eq_false (by omega)
    rw [hd]
    clear hd hM2 hM hO2 hbw1 hb1 hrow hb hlt hk hB
    go_loopw [27] (fun i wq=>∃ q:Nat,q≤cnt∧i = .int .i64 q∧Made256 wq g (64+L q) B∧Below w.heap.size w wq) (fun i _=>cnt - (intOf i).toNat)
    case atStart=>exact ⟨0,Nat.zero_le _,rfl,hM3,hbw2⟩
    case round =>
     clear hM3 hbw2
     obtain ⟨q,hq,rfl,hMq,hbq⟩:=hrel
     have hsq:=hbq.size
     by_cases hlt:q<cnt
     · obtain ⟨c1,c2,c3,c4⟩:=hcell q hlt
       have rq:wr.cell? ⟨gp,q,none⟩=some (pvs q):=(hbq.cell (p:=⟨gp,q,none⟩) (block_lt_of_cell c1)).trans c1
       have hw:=hwrite256_any g (64+L q) (L (q+1) - L q) (pvs q) B (fun j=>t (L q+j)) (fun j=>ht _) wr hMq (hT.below hbq h3) (by omega) (c4.away hbq (by omega)) (by omega)
       have hgl:=hMq.lt
       obtain ⟨pv,hpv⟩:∃ pv,pv=pvs q:=⟨_,rfl⟩
       rw [←hpv] at rq hw
       have hqi:(0:Int)≤(q:Int)∧(q:Int)<cnt:=by omega
       clear hpv hcell
       go_wp2_with (go_at_call 67;refine hw.mono ?_;rintro e w3 ⟨rfl,hM3,hO3⟩)
       go_roundw
       case rel =>
        have hM4:Made256 w3 g (64+L (q+1)) B:=by
         rw [show 64+L (q+1)=64+L q+(L (q+1) - L q) by omega]
         exact hM3.congr (fun j hj=>by
          by_cases e:j<64+L q
          · rw [cat_left e]
          · unfold cat
            rw [if_neg e]
            show t (L q+(j - (64+L q)))=B j
            rw [←hBr]
            congr 1;omega)
        exact ⟨q+1,by omega,by go_num,hM4,hbq.trans (hO3.below (by omega) (by omega))⟩
       case measure=>simp [intOf];omega
     · have hqe:q=cnt:=by omega
       rw [hqe,hLm] at hMq
       clear hqe
       have hsum:=hsum256_any g (64+m) B wr hMq (hT.below hbq h3) (by omega)
       go_wp2_with (go_at_call 68;refine hsum.mono ?_;rintro e w4 ⟨ga,rfl,hga,hrow,hb4⟩)
       go_ret
       rw [HB.out]
       exact ⟨ga,rfl,by omega,hrow,hbq.trans (hb4.mono hbq.size)⟩
theorem padH_lt (kv:Nat→Nat) (p m:Nat) (t:Nat→Nat) (j:Nat):padH kv p m t j<256:=Nat.mod_lt _ (by decide)
theorem info64:(Tryd.prog.info? 87).map (·.size)=some 64:=by kernel_rfl
def tagH (kv:Nat→Nat) (m:Nat) (t:Nat→Nat):Nat→Nat:=padH kv 92 32 (padH kv 54 m t)
theorem tagH_lt (kv:Nat→Nat) (m:Nat) (t:Nat→Nat) (j:Nat):tagH kv m t j<256:=padH_lt _ _ _ _ _
set_option maxRecDepth 20000 in
set_option maxHeartbeats 2000000 in
theorem tag_any (kv:Nat→Nat) (hkv:∀ j,kv j<256) (gp cnt cap m:Nat) (t:Nat→Nat) (ht:∀ j,t j<256) (hm:m<2305843009213693000) (w:World) (hT:HTab w cubeK squareK) (hP:Parts w gp cnt m t) (hcnt:cnt<1000000) :
 Calls Tryd.prog 51 #[.agg (ints .u8 64 kv).toArray,.slice (some ⟨gp,0,none⟩) cnt cap] w
  fun e w'=>∃ g,e = .returned (.slice (some ⟨g,0,none⟩) 32 32)∧w.heap.size≤g∧RowAt .u8 w' g 0 32 (tagH kv m t)∧Below w.heap.size w w':=by
 have h3:=hT.size
 have hrow0:=row_fresh .u8 w 64 kv 87
 have hbw:Below w.heap.size w (w.alloc (.cells (ints .u8 64 kv).toArray 87)):=(Below.refl _ _).alloc (Nat.le_refl _) _
 obtain ⟨W,hW⟩:∃ W,W=w.alloc (.cells (ints .u8 64 kv).toArray 87):=⟨_,rfl⟩
 have HW:Hid (W=w.alloc (.cells (ints .u8 64 kv).toArray 87)):=hW
 have hWs:w.heap.size<W.heap.size:=by rw [hW];simp
 rw [←hW] at hrow0 hbw
 have hd:Below W.heap.size W W.drew:=(Below.refl _ _).drew
 have hbd:Below w.heap.size w W.drew:=hbw.trans (hd.mono (by omega))
 have hr:∀ w':World,Below W.heap.size W w'→w'.rangeAt w.heap.size 0 (ints .u8 64 kv):=fun w' h=>(hrow0.below h hWs).range
 have hi':(Tryd.prog.info? 87).map (·.size)=some (ints .u8 64 kv).length:=by rw [ints_len];exact info64
 have c1:=hpadded_any kv hkv 54 (by decide) gp cnt cap m t ht hm W.drew (hT.below hbd h3) (hP.below hbd) hcnt
 have c2:∀ (W5:World) (ga:Nat),Below W.heap.size W W5→RowAt .u8 W5 ga 0 32 (padH kv 54 m t)→Calls Tryd.prog 61 #[.agg (ints .u8 64 kv).toArray,.int .u8 92,.slice (some ⟨W5.heap.size,0,none⟩) 1 1] (W5.alloc (.cells #[.slice (some ⟨ga,0,none⟩) 32 32] 24)) fun e w'=>∃ g,e = .returned (.slice (some ⟨g,0,none⟩) 32 32)∧(W5.alloc (.cells #[.slice (some ⟨ga,0,none⟩) 32 32] 24)).heap.size≤g∧RowAt .u8 w' g 0 32 (tagH kv m t)∧Below (W5.alloc (.cells #[.slice (some ⟨ga,0,none⟩) 32 32] 24)).heap.size (W5.alloc (.cells #[.slice (some ⟨ga,0,none⟩) 32 32] 24)) w':=fun W5 ga hb hrow=>by
  have hb2:Below w.heap.size w (W5.alloc (.cells #[.slice (some ⟨ga,0,none⟩) 32 32] 24)):=(hbw.trans (hb.mono (by omega))).alloc (by have:=hb.size;omega) _
  exact hpadded_any kv hkv 92 (by decide) W5.heap.size 1 1 32 _ (padH_lt _ _ _ _) (by decide) _ (hT.below hb2 h3) (parts_one W5 _ 32 _ _ (.inr ⟨ga,0,32,rfl,block_lt_of_cell (hrow 0 (by decide)).1,Nat.le_refl _,fun j hj=>(hrow j hj).1⟩)) (by decide)
 obtain ⟨X,hX⟩:∃ X,X=padH kv 54 m t:=⟨_,rfl⟩
 rw [←hX] at c1 c2
 clear hW hX hT hP
 go_enter Tryd.func51,Tryd.ntmps51
 go_wp2
 rw [←HW.out]
 refine wp_region_held_drew (S:=fun w2=>Below W.heap.size W w2) (by kernel_rfl) hd (fun hHeld => ?_)
 refine wpAnyH_take (i:=0) (v := .agg (ints .u8 64 kv).toArray) rfl (by kernel_rfl) (by kernel_rfl) (by kernel_rfl) (fun _ _ _ h=>h) (yieldsIf_load_mid (by rfl) 87 _ rfl w.heap.size 0 rfl _ _ hr Tryd.underlying87 rfl hi') hHeld ?_
 refine wpAnyH_take (i:=1) (v := .agg (ints .u8 64 kv).toArray) rfl (by kernel_rfl) (by kernel_rfl) (by kernel_rfl) (fun _ _ _ h=>h) (yieldsIf_load_mid (by rfl) 87 _ rfl w.heap.size 0 rfl _ _ hr Tryd.underlying87 rfl hi') hHeld ?_
 refine wpAnyH_take (i:=2) (v := .slice (some ⟨gp,0,none⟩) cnt cap) rfl (by kernel_rfl) (by kernel_rfl) (by kernel_rfl) (fun _ _ _ h=>h) (Or.inl ⟨by rfl,fun w2 _=>by go_simp⟩) hHeld ?_
 refine wpAnyH_ready (rs:=[3]) (by kernel_rfl) (by simp) ?_
 refine AllReadyH.cons rfl (fun K hK => ?_) AllReadyH.nil
 go_simp
 go_at_call 61
 refine c1.mono ?_
 rintro e w5 ⟨ga,rfl,hga,hrow,hb5⟩
 have hbn:=below_next hd hb5
 go_simp
 refine hK.out _ _ hbn (fun hHeld2 => ?_)
 clear hK K
 refine wpAnyH_ready (rs:=[4]) (by kernel_rfl) (by simp) ?_
 refine AllReadyH.cons rfl (fun K hK => ?_) AllReadyH.nil
 go_simp
 refine hK.out _ _ (hbn.alloc hbn.size _) (fun hHeld3 => ?_)
 clear hK K
 refine wpAnyH_ready (rs:=[5]) (by kernel_rfl) (by simp) ?_
 refine AllReadyH.cons rfl (fun K hK => ?_) AllReadyH.nil
 go_simp
 go_at_call 61
 refine (c2 w5 ga hbn hrow).mono ?_
 rintro e w6 ⟨gb,rfl,hgb,hrowb,hb6⟩
 have hbm:=below_next (hbn.alloc hbn.size _) hb6
 go_simp
 refine hK.out _ _ hbm (fun hHeld4 => ?_)
 clear hK K
 refine wpAnyH_take (i:=6) (v := .slice (some ⟨gb,0,none⟩) 32 32) rfl (by kernel_rfl) (by kernel_rfl) (by kernel_rfl) (fun _ _ _ h=>h) (Or.inl ⟨by rfl,fun w2 _=>by go_simp⟩) hHeld4 ?_
 refine wpAnyH_done (by kernel_rfl) ?_ _
 go_simp
 go_wp2
 go_ret
 have hz:=hbn.size
 simp only [World.size_alloc] at hgb
 exact ⟨gb,rfl,by omega,hrowb,hbw.trans (hbm.mono (by omega))⟩
theorem zero64 (w:World):Sem.run Tryd.prog (zeroValue 87) w = .ok (.agg (zb 64)) w:=by kernel_rfl
def keyB (n:Nat) (bs:Nat→Nat):Nat→Nat:=fun j=>if n≤64 then (if j<n then bs j else 0) else (if j<32 then outB 32 (specS rn cubeK squareK n bs) j else 0)
theorem keyB_lt {n:Nat} {bs:Nat→Nat} (h:∀ j,bs j<256):∀ j,keyB n bs j<256:=fun j=>by
 unfold keyB
 split
 · split
   · exact h j
   · decide
 · split
   · exact Nat.mod_lt _ (by decide)
   · decide
theorem lay64 (W0:World) (n:Nat) (bs:Nat→Nat) (hn:n≤64) :
 RowAt .u8 ((W0.alloc (.cells (zb 64) 87)).setCells W0.heap.size 0 (ints .u8 n bs)) W0.heap.size 0 64 (fun j=>if j<n then bs j else 0):=by
 have h0:RowAt .u8 (W0.alloc (.cells (zb 64) 87)) W0.heap.size 0 64 (fun _=>0):=RowAt.fresh (fun j hj=>zb_at 64 j hj)
 have h1:=h0.splice 0 n bs (by omega)
 rw [Nat.add_zero] at h1
 refine h1.congr (fun j hj => ?_)
 unfold over
 by_cases e:j<n
 · rw [if_pos ⟨Nat.zero_le _,by omega⟩,if_pos e,Nat.sub_zero]
 · rw [if_neg (by omega),if_neg e]
theorem there64 (W0:World):(W0.alloc (.cells (zb 64) 87)).there W0.heap.size 0 64:=fun j hj=>by
 have h0:RowAt .u8 (W0.alloc (.cells (zb 64) 87)) W0.heap.size 0 64 (fun _=>0):=RowAt.fresh (fun j hj=>zb_at 64 j hj)
 exact ⟨by rw [(h0 j hj).1];rfl,(h0 j hj).2⟩
end Go.Proofs.YtkoedfmdhdikaaaDoor
namespace Go.Proofs.YtkoedfmdhdikaaaDoor
open Go.RowKit
theorem padG_at (N c:Nat):∀ i j,i≤8→9≤N→j<N→padG N c i j=if N - i≤j then c*8 / 2 ^ (8*(N - 1 - j))%256 else if j=0 then 128 else 0
 | 0,j,_,_,hj=>by
  rw [if_neg (by omega)]
  unfold padG upd
  rfl
 | i+1,j,hi,hN,hj=>by
  unfold padG upd
  by_cases e:j=N - 1 - i
  · rw [if_pos e,if_pos (by omega),show N - 1 - j=i by omega]
  · rw [if_neg e,padG_at N c i j (by omega) hN hj]
    by_cases e2:N - i≤j
    · rw [if_pos e2,if_pos (by omega)]
    · rw [if_neg e2,if_neg (show ¬(N - (i+1)≤j) by omega)]
theorem padN32_ge (c:Nat):9≤padN rn c:=by
 show 9≤1+(4*32 - 1 - 32 / 4 - c%(2*32))%(2*32)+32 / 4
 omega
theorem padF32_first (c:Nat):padF rn c 0=128:=by
 have h:=padN32_ge c
 unfold padF
 rw [padG_at _ c 8 0 (Nat.le_refl _) (by omega) (by omega),if_neg (by omega),if_pos rfl]
theorem padF32_mid (c t:Nat) (h0:0<t) (ht:t+8<padN rn c):padF rn c t=0:=by
 unfold padF
 rw [padG_at _ c 8 t (Nat.le_refl _) (by omega) (by omega),if_neg (by omega),if_neg (by omega)]
theorem padF32_last (c i t:Nat) (hi:i<8) (ht:t+1+i=padN rn c):padF rn c t=c*8 / 2 ^ (8*i)%256:=by
 have h:=padN32_ge c
 unfold padF
 rw [padG_at _ c 8 t (Nat.le_refl _) (by omega) (by omega),if_pos (by omega),show padN rn c - 1 - t=i by omega]
set_option maxRecDepth 20000 in
set_option maxHeartbeats 2000000 in
theorem padded32_any (g0 g1 g2 g3:Nat) (v:Value) (n:Nat) (bs:Nat→Nat) (w:World) (hv:BytesIn w v n bs) (hn:n<140737488355000) :
 Calls Tryd.prog 75 #[(.agg #[.int .i64 32,.int .i64 64,.int .i64 64,.slice (some ⟨g0,0,none⟩) 3 3,.slice (some ⟨g1,0,none⟩) 3 3,.slice (some ⟨g2,0,none⟩) 3 3,.slice (some ⟨g3,0,none⟩) 3 3]),v] w fun e w'=>∃ v',e = .returned v'∧Own w.heap.size w' v' (n+padN rn n) (cat n bs (padF rn n))∧Below w.heap.size w w':=by
 obtain ⟨xo,cx,rfl,hxn,-,hsrc⟩:=hv.src
 clear hv
 obtain ⟨F,hF⟩:∃ F,F=cat n bs (padF rn n):=⟨_,rfl⟩
 have HF:Hid (F=cat n bs (padF rn n)):=hF
 obtain ⟨Z,hZ⟩:∃ Z,Z=(4*32 - 1 - 8 - n%64)%64:=⟨_,rfl⟩
 have hN:padN rn n=1+Z+8:=by rw [hZ];rfl
 have F0:∀ j,j<n→F j=bs j:=fun j hj=>by rw [hF,cat_left hj]
 have F1:F n=128:=by rw [hF];unfold cat;rw [if_neg (by omega),Nat.sub_self];exact padF32_first n
 have F2:∀ k,k<Z→F (n+1+k)=0:=fun k hk=>by rw [hF,Nat.add_assoc,cat_right];exact padF32_mid n _ (by omega) (by omega)
 have F3:∀ k,k+8<8→F (n+1+Z+k)=0:=fun k hk=>by rw [hF,Nat.add_assoc,Nat.add_assoc,cat_right];exact padF32_mid n _ (by omega) (by omega)
 have F4:∀ k i,i<8→k+1+i=8→F (n+1+Z+k)=n*8 / 2 ^ (8*i)%256:=fun k i hi hk=>by rw [hF,Nat.add_assoc,Nat.add_assoc,cat_right];exact padF32_last n i _ hi (by omega)
 rw [hN,←hF]
 have hbZ:Below w.heap.size w (w.alloc (.cells #[.int .i64 32,.int .i64 64,.int .i64 64,.slice (some ⟨g0,0,none⟩) 3 3,.slice (some ⟨g1,0,none⟩) 3 3,.slice (some ⟨g2,0,none⟩) 3 3,.slice (some ⟨g3,0,none⟩) 3 3] 98)):=(Below.refl _ _).alloc (Nat.le_refl _) _
 have hzb:=zbox32 w g0 g1 g2 g3
 obtain ⟨W,hW⟩:∃ W,W=w.alloc (.cells #[.int .i64 32,.int .i64 64,.int .i64 64,.slice (some ⟨g0,0,none⟩) 3 3,.slice (some ⟨g1,0,none⟩) 3 3,.slice (some ⟨g2,0,none⟩) 3 3,.slice (some ⟨g3,0,none⟩) 3 3] 98):=⟨_,rfl⟩
 have HW:Hid (W=w.alloc (.cells #[.int .i64 32,.int .i64 64,.int .i64 64,.slice (some ⟨g0,0,none⟩) 3 3,.slice (some ⟨g1,0,none⟩) 3 3,.slice (some ⟨g2,0,none⟩) 3 3,.slice (some ⟨g3,0,none⟩) 3 3] 98)):=hW
 have hWs:W.heap.size=w.heap.size+1:=by rw [hW];simp
 rw [←hW] at hbZ hzb
 have hW0:w.heap.size+1≤W.heap.size:=by omega
 have src0:Src (W.alloc (.cells #[] 5)) xo n F:=by
  rcases hsrc _ (hbZ.alloc (by omega) (.cells #[] 5)) with h | ⟨bb,ob,h1,h2⟩
  · exact .inl h
  · exact .inr ⟨bb,ob,h1,fun j hj=>by rw [F0 j hj];exact h2 j hj⟩
 clear hF hW hsrc F0
 go_enter Tryd.func75,Tryd.ntmps75
 go_wp2_with (first
  | (at_builtin;rw [←HW.out];go_loud (refine wpList_append_empty rfl (.tmp 8) (.tmp 9) rfl (w.heap.size+1) F (w.heap.size+1) hWs rfl xo n cx rfl src0 hxn (by omega) hW0 ?_);intro v1 w1 own1 hb1;have hs1:=hb1.size;clear src0)
  | (at_builtin;refine wpList_append_next rfl (.tmp 10) (.tmp 11) rfl (w.heap.size+1) v1 n F _ rfl own1 rfl (by rw [F1];rfl) (by omega) (by omega) ?_;intro v2 w2 own2 hb2;replace hb2:=hb1.trans hb2;clear own1 hb1 hs1))
 have hzw:∀ wr,Below (w.heap.size+1) W wr→wr.cell? ⟨w.heap.size,1,none⟩=some (.int .i64 64):=fun wr h=>(h.cell (p:=⟨w.heap.size,1,none⟩) (Nat.lt_succ_self _)).trans hzb.2.1
 go_loopw [5] (fun v wr=>∃ k:Nat,k≤Z∧Own (w.heap.size+1) wr v (n+1+k) F∧Below (w.heap.size+1) W wr) (fun v _=>n+1+Z - lenV v)
 case atStart=>exact ⟨0,Nat.zero_le _,own2,hb2⟩
 case round =>
  clear own2 hb2
  obtain ⟨k,hk,own,hb⟩:=hrel
  obtain ⟨L,hL⟩:∃ L,L=n+1+k:=⟨_,rfl⟩
  have HL:Hid (L=n+1+k):=hL
  rw [←hL] at own
  rcases own.form with ⟨-,h0⟩ | ⟨g,cap,rfl,-,-,-,-⟩
  · omega
  have hs:=hb.size
  have hz1:=hzw _ hb
  have hLb:L<140737488355300:=by omega
  by_cases hlt:k<Z
  · have hc:((L:Int)+8)%64≠0:=by omega
    have hFL:Hid ((0:Int)=(F L:Int)):=(by rw [hL,F2 k hlt];rfl:(0:Int)=(F L:Int))
    clear hL hZ hN
    go_wp2_with (at_builtin;go_loud (refine wpList_append_next rfl (.tmp 23) (.tmp 24) rfl (w.heap.size+1) _ L F _ rfl own rfl hFL.out (by omega) (by omega) ?_);intro v3 w3 own3 hb3)
    rcases own3.form with ⟨-,h0⟩ | ⟨g3,cap3,rfl,-,-,-,-⟩
    · omega
    go_roundw
    case rel=>exact ⟨k+1,by omega,own3.start (by have:=HL.out;omega),hb.trans hb3⟩
    case measure=>have:=HL.out;simp [lenV];omega
  · have hc:((L:Int)+8)%64=0:=by omega
    have hkZ:k=Z:=by omega
    rw [hkZ] at hL
    have HLZ:Hid (L=n+1+Z):=hL
    clear hL hkZ hZ
    go_wp2
    clear hz1 hc
    go_loopw [5,7] (fun v i wq=>∃ k:Nat,k≤8∧i = .int .i64 (8 - 1 - (k:Int))∧Own (w.heap.size+1) wq v (L+k) F∧Below (w.heap.size+1) W wq) (fun v _ _=>L+8 - lenV v)
    case atStart=>exact ⟨0,Nat.zero_le _,by go_num,own,hb⟩
    case round =>
     clear own hb hs hlt hk
     obtain ⟨q,hq,rfl,own,hb⟩:=hrel
     have hs:=hb.size
     rcases own.form with ⟨-,h0⟩ | ⟨g,cap,rfl,-,-,-,-⟩
     · have:=HLZ.out;omega
     by_cases hlt:q<8
     · obtain ⟨i,hi⟩:∃ i:Nat,i=8 - 1 - q:=⟨_,rfl⟩
       have hii:(8 - 1 - (q:Int))=(i:Int):=by omega
       have hi8:i<8:=by omega
       rw [hii]
       have hF8:8≤i→(0:Int)=(F (L+q):Int):=fun h=>by rw [HLZ.out,F3 q (by omega)];rfl
       have hF7:i<8→(((n*8 / 2 ^ (8*i)%256:Nat)):Int)=(F (L+q):Int):=fun h=>by rw [HLZ.out,F4 q i h (by omega)]
       have HI:Hid (i=8 - 1 - q):=hi
       clear hi hii
       by_cases h8:8≤i
       · omega
       · have hF:Hid ((((n*8 / 2 ^ (8*i)%256:Nat)):Int)=(F (L+q):Int)):=hF7 (by omega)
         clear hF7 hF8
         go_wp2_with (at_builtin;go_loud (refine wpList_append_next rfl (.tmp 43) (.tmp 50) rfl (w.heap.size+1) _ (L+q) F _ rfl own rfl (by rw [←hF.out];simp) (by omega) (by omega) ?_);intro v3 w3 own3 hb3)
         rcases own3.form with ⟨-,h0⟩ | ⟨g3,cap3,rfl,-,-,-,-⟩
         · omega
         go_roundw
         case rel=>exact ⟨q+1,by omega,by have:=HI.out;go_num,own3.start (by omega),hb.trans hb3⟩
         case measure=>simp [lenV];omega
     · have hqe:q=8:=by omega
       go_wp2
       go_ret
       refine ⟨_,rfl,?_,?_⟩
       · exact own_base (own.start (by have:=HLZ.out;omega)) (by omega)
       · exact hbZ.trans (hb.mono (by omega))
end Go.Proofs.YtkoedfmdhdikaaaDoor
namespace Go.Proofs.YtkoedfmdhdikaaaDoor
open Go.RowKit
set_option maxRecDepth 20000 in
set_option maxHeartbeats 2000000 in
theorem blockOf_short_any (xo:Option Addr) (n cx:Nat) (bs:Nat→Nat) (w:World) (hv:BytesIn w (.slice xo n cx) n bs) (hn:n≤64) :
 Calls Tryd.prog 52 #[.slice xo n cx] w fun e w'=>e = .returned (.agg (ints .u8 64 (keyB n bs)).toArray)∧Below w.heap.size w w':=by
 have hz:=zero64
 have hi':∀ X:Nat→Nat,(Tryd.prog.info? 87).map (·.size)=some (ints .u8 64 X).length:=fun X=>by rw [ints_len];exact info64
 have hi2:∀ X:Nat→Nat,(Tryd.prog.info? 87).map (·.size)=some (ints .u8 64 X).toArray.size:=fun X=>by rw [List.size_toArray,ints_len];exact info64
 have hone:∀ X:Nat→Nat,(ints .u8 64 X).toArray.all (·.oneCell')=true:=fun X=>all_oneCell_toArray (ints_one _ _ _)
 obtain ⟨W0,hW0⟩:∃ W0,W0=w.alloc (.cells (zb 64) 87):=⟨_,rfl⟩
 have HW0:Hid (W0=w.alloc (.cells (zb 64) 87)):=hW0
 have hWs:w.heap.size<W0.heap.size:=by rw [hW0];simp
 have hWe:w.heap.size+1=W0.heap.size:=by rw [hW0];simp
 have hbw:Below w.heap.size w W0:=by rw [hW0];exact (Below.refl _ _).alloc (Nat.le_refl _) _
 have hres:W0.there w.heap.size 0 64:=by rw [hW0];exact there64 w
 have hkey:∀ j,j<64→(if j<n then bs j else 0)=keyB n bs j:=fun j _=>by unfold keyB;rw [if_pos hn]
 obtain ⟨xo',cx',hve,hxn,-,hsrc⟩:=hv.src
 cases hve
 have src0:Src (W0.alloc (.cells (zb 64) 87)) xo n bs:=hsrc _ (hbw.alloc (by omega) _)
 obtain ⟨W3,hW3⟩:∃ W3,W3=(W0.alloc (.cells (zb 64) 87)).setCells (w.heap.size+1) 0 (ints .u8 n bs):=⟨_,rfl⟩
 have HW3:Hid (W3=(W0.alloc (.cells (zb 64) 87)).setCells (w.heap.size+1) 0 (ints .u8 n bs)):=hW3
 have hrow3:RowAt .u8 W3 (w.heap.size+1) 0 64 (keyB n bs):=by rw [hW3,hWe];exact (lay64 W0 n bs (by omega)).congr hkey
 have hb3:Below W0.heap.size W0 W3:=by rw [hW3,hWe];exact below_setCells (Nat.le_refl _) _ _ _ ((Below.refl _ _).alloc (Nat.le_refl _) _)
 have hres3:W3.there w.heap.size 0 (ints .u8 64 (keyB n bs)).toArray.size:=fun j hj=>by
  rw [List.size_toArray,ints_len] at hj
  rw [hb3.cell (p:=⟨w.heap.size,0+j,none⟩) hWs,hb3.frozen (p:=⟨w.heap.size,0+j,none⟩) hWs]
  exact hres j hj
 have hmin:Hid (n=Nat.min n 64):=(Nat.min_eq_left hn).symm
 have hth:(W0.alloc (.cells (zb 64) 87)).there (w.heap.size+1) 0 64:=by rw [hWe];exact there64 W0
 have hni:¬(64<(n:Int)):=by omega
 clear hW0 hW3 hv hsrc hWe hkey hres
 go_enter Tryd.func52,Tryd.ntmps52
 go_wp2_with (first
  | (refine wpList_load_mid rfl 87 _ rfl _ 0 rfl _ _ hrow3.range Tryd.underlying87 rfl (hi' _) ?_)
  | (refine wpList_store_mid rfl 87 _ _ rfl _ 0 _ rfl rfl hres3 (hi2 _) (hone _) ?_)
  | (rw [←HW0.out];refine wpList_copy_bytes rfl _ _ 24 24 rfl 5 Tryd.underlying24 (by kernel_rfl) (w.heap.size+1) 0 64 64 xo n cx rfl rfl n bs src0 hmin.out hth ?_;rw [←HW3.out]))
 refine bodyPost_ret (results_cell_mid Tryd.results52 _ _ w.heap.size 0 (ints .u8 64 (keyB n bs)) _ rfl (World.rangeAt_setCells_same _ _ _ _ (by rw [List.size_toArray] at hres3;exact hres3)) Tryd.underlying87 rfl (hi' _)) rfl ⟨rfl,?_⟩
 exact below_setCells (Nat.le_refl _) _ _ _ (hbw.trans (hb3.mono (by omega)))
set_option maxRecDepth 20000 in
set_option maxHeartbeats 2000000 in
theorem blockOf_long_any (xo:Option Addr) (n cx:Nat) (bs:Nat→Nat) (hbs:∀ j,bs j<256) (hnb:n<2305843009213693000) (w:World) (hT:HTab w cubeK squareK) (hv:BytesIn w (.slice xo n cx) n bs) (hn:¬n≤64) :
 Calls Tryd.prog 52 #[.slice xo n cx] w fun e w'=>e = .returned (.agg (ints .u8 64 (keyB n bs)).toArray)∧Below w.heap.size w w':=by
 have hz:=zero64
 have hi':∀ X:Nat→Nat,(Tryd.prog.info? 87).map (·.size)=some (ints .u8 64 X).length:=fun X=>by rw [ints_len];exact info64
 have hi2:∀ X:Nat→Nat,(Tryd.prog.info? 87).map (·.size)=some (ints .u8 64 X).toArray.size:=fun X=>by rw [List.size_toArray,ints_len];exact info64
 have hone:∀ X:Nat→Nat,(ints .u8 64 X).toArray.all (·.oneCell')=true:=fun X=>all_oneCell_toArray (ints_one _ _ _)
 have h3:=hT.size
 have hb1:Below w.heap.size w (w.alloc (.cells (zb 64) 87)):=(Below.refl _ _).alloc (Nat.le_refl _) _
 have hs:=Sum256_any cubeK squareK (.slice xo n cx) n bs hbs (w.alloc (.cells (zb 64) 87)) (hT.below hb1 h3) (hv.still hb1) (by omega)
 rw [hashS_spec cubeK squareK n bs (by decide)] at hs
 have hkey:∀ j,j<64→(if j<32 then outB 32 (specS rn cubeK squareK n bs) j else 0)=keyB n bs j:=fun j _=>by unfold keyB;rw [if_neg hn]
 obtain ⟨X,hX⟩:∃ X,X=outB 32 (specS rn cubeK squareK n bs):=⟨_,rfl⟩
 rw [←hX] at hs hkey
 have hk:∀ (W0:World) (ga:Nat),Below (w.alloc (.cells (zb 64) 87)).heap.size (w.alloc (.cells (zb 64) 87)) W0→RowAt .u8 W0 ga 0 32 X→∃ W3,W3=(W0.alloc (.cells (zb 64) 87)).setCells W0.heap.size 0 (ints .u8 32 X)∧RowAt .u8 W3 W0.heap.size 0 64 (keyB n bs)∧Below w.heap.size w W3∧W3.there w.heap.size 0 (ints .u8 64 (keyB n bs)).toArray.size∧(W0.alloc (.cells (zb 64) 87)).there W0.heap.size 0 64∧Src (W0.alloc (.cells (zb 64) 87)) (some ⟨ga,0,none⟩) 32 X:=fun W0 ga hb hra=>by
  have hsz:=hb.size
  simp only [World.size_alloc] at hsz
  have hga:ga<W0.heap.size:=block_lt_of_cell (hra 0 (by decide)).1
  have hb3:Below W0.heap.size W0 ((W0.alloc (.cells (zb 64) 87)).setCells W0.heap.size 0 (ints .u8 32 X)):=below_setCells (Nat.le_refl _) _ _ _ ((Below.refl _ _).alloc (Nat.le_refl _) _)
  refine ⟨_,rfl,(lay64 W0 32 X (by decide)).congr hkey,(hb1.trans (hb.mono (by simp))).trans (hb3.mono (by omega)),fun j hj => ?_,there64 W0,.inr ⟨ga,0,rfl,fun j hj => ?_⟩⟩
  · rw [List.size_toArray,ints_len] at hj
    rw [hb3.cell (p:=⟨w.heap.size,0+j,none⟩) (by show w.heap.size<_;omega),hb3.frozen (p:=⟨w.heap.size,0+j,none⟩) (by show w.heap.size<_;omega),hb.cell (p:=⟨w.heap.size,0+j,none⟩) (by simp),hb.frozen (p:=⟨w.heap.size,0+j,none⟩) (by simp)]
    exact there64 w j hj
  · rw [World.cell?_alloc_lt _ _ _ hga];exact (hra j hj).1
 have hni:64<(n:Int):=by omega
 clear hX hkey hv hT hb1 hn
 go_enter Tryd.func52,Tryd.ntmps52
 go_wp2_with (first
  | (go_at_call 62;refine hs.mono ?_;clear hs;rintro e W0 ⟨ga,rfl,hga,hra,hb⟩;obtain ⟨W3,hW3,hrow3,hb3,hres3,hth,src0⟩:=hk W0 ga hb hra;(have HW3:Hid (W3=(W0.alloc (.cells (zb 64) 87)).setCells W0.heap.size 0 (ints .u8 32 X)):=hW3);clear hk hW3)
  | (refine wpList_load_mid rfl 87 _ rfl _ 0 rfl _ _ hrow3.range Tryd.underlying87 rfl (hi' _) ?_)
  | (refine wpList_store_mid rfl 87 _ _ rfl _ 0 _ rfl rfl hres3 (hi2 _) (hone _) ?_)
  | (refine wpList_copy_bytes rfl _ _ 24 24 rfl 5 Tryd.underlying24 (by kernel_rfl) W0.heap.size 0 64 64 (some ⟨ga,0,none⟩) 32 32 rfl rfl 32 X src0 rfl hth ?_;rw [←HW3.out]))
 refine bodyPost_ret (results_cell_mid Tryd.results52 _ _ w.heap.size 0 (ints .u8 64 (keyB n bs)) _ rfl (World.rangeAt_setCells_same _ _ _ _ (by rw [List.size_toArray] at hres3;exact hres3)) Tryd.underlying87 rfl (hi' _)) rfl ⟨rfl,?_⟩
 exact below_setCells (Nat.le_refl _) _ _ _ hb3
theorem blockOf_any (v:Value) (n:Nat) (bs:Nat→Nat) (hbs:∀ j,bs j<256) (hnb:n<2305843009213693000) (w:World) (hT:HTab w cubeK squareK) (hv:BytesIn w v n bs) :
 Calls Tryd.prog 52 #[v] w fun e w'=>e = .returned (.agg (ints .u8 64 (keyB n bs)).toArray)∧Below w.heap.size w w':=by
 obtain ⟨xo,cx,rfl,_,_,_⟩:=hv.src
 by_cases hn:n≤64
 · exact blockOf_short_any xo n cx bs w hv hn
 · exact blockOf_long_any xo n cx bs hbs hnb w hT hv hn
set_option maxHeartbeats 1000000 in
theorem hmac_any (v tv:Value) (n m:Nat) (bs t:Nat→Nat) (hbs:∀ j,bs j<256) (ht:∀ j,t j<256) (hnb:n<2305843009213693000) (hm:m<2305843009213693000) (w:World) (hT:HTab w cubeK squareK) (hv:BytesIn w v n bs) (htv:BytesIn w tv m t) :
 Calls Tryd.prog 35 #[v,tv] w fun e w'=>∃ g,e = .returned (.slice (some ⟨g,0,none⟩) 32 32)∧w.heap.size≤g∧RowAt .u8 w' g 0 32 (tagH (keyB n bs) m t)∧Below w.heap.size w w':=by
 have h3:=hT.size
 obtain ⟨xt,ct,rfl,_,_,_⟩:=htv.src
 have c1:=blockOf_any v n bs hbs hnb w hT hv
 have c2:∀ W1:World,Below w.heap.size w W1→Calls Tryd.prog 51 #[.agg (ints .u8 64 (keyB n bs)).toArray,.slice (some ⟨W1.heap.size,0,none⟩) 1 1] (W1.alloc (.cells #[.slice xt m ct] 24)) fun e w'=>∃ g,e = .returned (.slice (some ⟨g,0,none⟩) 32 32)∧w.heap.size≤g∧RowAt .u8 w' g 0 32 (tagH (keyB n bs) m t)∧Below w.heap.size w w':=fun W1 hb=>by
  have hb2:=hb.alloc hb.size (.cells #[.slice xt m ct] 24)
  refine (tag_any (keyB n bs) (keyB_lt hbs) W1.heap.size 1 1 m t ht hm _ (hT.below hb2 h3) (parts_one W1 (.slice xt m ct) m t _ (htv.still hb)) (by decide)).mono ?_
  rintro e w' ⟨g,rfl,hg,hr,hb'⟩
  have:=hb2.size
  exact ⟨g,rfl,by omega,hr,hb2.trans (hb'.mono this)⟩
 obtain ⟨X,hX⟩:∃ X,X=tagH (keyB n bs) m t:=⟨_,rfl⟩
 rw [←hX] at c2 ⊢
 clear hX hT hv htv
 go_enter Tryd.func35,Tryd.ntmps35
 go_wp2_with (first
  | (go_at_call 52;refine c1.mono ?_;clear c1;rintro e w1 ⟨rfl,hb1⟩;replace c2:=c2 w1 hb1)
  | (go_at_call 51;refine c2.mono ?_;rintro e w' ⟨g,rfl,hg,hr,hb'⟩))
 go_ret
 exact ⟨g,rfl,hg,hr,hb'⟩
end Go.Proofs.YtkoedfmdhdikaaaDoor
