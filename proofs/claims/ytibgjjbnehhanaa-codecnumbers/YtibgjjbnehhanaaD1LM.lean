/- The law CodecNumbers. -/
import Derived.Test.YtibgjjbnehhanaaD1CDM
namespace Go.Proofs.Ytibgjjbnehhanaa
open Go.RowKit
structure Row3 (base:Nat) (w:World) (b wv sv:Value) (c:Nat) (sz wn:Nat→Nat):Prop where
 bytes:Own base w b (rowT sz wn c) (rowB sz wn c)
 want:OwnI base w wv c (fun i=>(wn i:Int))
 sizes:OwnI base w sv c (fun i=>(sz i:Int))
 apt:Apt wv sv
 ok:∀ k,k<c→eOk (sz k) (wn k)
theorem Row3.below {base:Nat} {w w':World} {b wv sv:Value} {c:Nat} {sz wn:Nat→Nat} (h:Row3 base w b wv sv c sz wn) (hb:Below w.heap.size w w'):Row3 base w' b wv sv c sz wn :=
 ⟨h.bytes.below hb,own_below h.want hb,own_below h.sizes hb,h.apt,h.ok⟩
theorem int_ne:(3:Nat)≠5:=by decide
theorem allB_cong {pn qn:Nat→Nat} {pb qb:Nat→Nat→Nat}:∀ {n},(∀ k,k<n→pn k=qn k∧pb k=qb k)→sumN pn n=sumN qn n∧allB pn pb n=allB qn qb n
 | 0,_=>⟨rfl,rfl⟩
 | n+1,h=>by
  obtain ⟨h1,h2⟩:=allB_cong (n:=n) fun k hk=>h k (by omega)
  obtain ⟨h3,h4⟩:=h n (Nat.lt_succ_self _)
  exact ⟨by show sumN pn n+pn n=sumN qn n+qn n;rw [h1,h3],by show cat (sumN pn n) (allB pn pb n) (pb n)=cat (sumN qn n) (allB qn qb n) (qb n);rw [h1,h2,h4]⟩
theorem row_next (sz wn:Nat→Nat) (c s a:Nat):rowT (upd sz c s) (upd wn c a) (c+1)=rowT sz wn c+eL s a∧rowB (upd sz c s) (upd wn c a) (c+1)=cat (rowT sz wn c) (rowB sz wn c) (eB s a):=by
 have h:=allB_cong (n:=c) (pn:=fun k=>eL (upd sz c s k) (upd wn c a k)) (qn:=fun k=>eL (sz k) (wn k)) (pb:=fun k=>eB (upd sz c s k) (upd wn c a k)) (qb:=fun k=>eB (sz k) (wn k)) fun k hk=>by
  have e1:upd sz c s k=sz k:=by unfold upd;rw [if_neg (by omega)]
  have e2:upd wn c a k=wn k:=by unfold upd;rw [if_neg (by omega)]
  rw [e1,e2]
  exact ⟨rfl,rfl⟩
 have e1:upd sz c s c=s:=by unfold upd;rw [if_pos rfl]
 have e2:upd wn c a c=a:=by unfold upd;rw [if_pos rfl]
 refine ⟨?_,?_⟩
 · show sumN (fun k=>eL (upd sz c s k) (upd wn c a k)) c+eL (upd sz c s c) (upd wn c a c)=_
   rw [h.1,e1,e2]
   rfl
 · show cat (sumN (fun k=>eL (upd sz c s k) (upd wn c a k)) c) (allB (fun k=>eL (upd sz c s k) (upd wn c a k)) (fun k=>eB (upd sz c s k) (upd wn c a k)) c) (eB (upd sz c s c) (upd wn c a c))=_
   rw [h.1,h.2,e1,e2]
   rfl
theorem Row3.want2 {base:Nat} {w w':World} {b wv sv:Value} {c:Nat} {sz wn:Nat→Nat} (h:Row3 base w b wv sv c sz wn) (hg:w.grownBy w' b.ownBlock) (a:Nat):OwnI base w' wv c (fun i=>(upd wn c a i:Int)) :=
 OwnI.congr (World.ownsRow.kept h.want hg (rows_apart h.want h.bytes int_ne)) fun i hi=>by unfold upd;rw [if_neg (by omega)]
theorem Row3.sizes3 {base:Nat} {w w2 w3:World} {b wv sv:Value} {c:Nat} {sz wn:Nat→Nat} (h:Row3 base w b wv sv c sz wn) (hg:w.grownBy w2 b.ownBlock) {o:Obj} (hg3:(w2.alloc o).grownBy w3 wv.ownBlock) (s:Nat):OwnI base w3 sv c (fun i=>(upd sz c s i:Int)) :=
 OwnI.congr (World.ownsRow.kept (World.ownsRow.alloc (World.ownsRow.kept h.sizes hg (rows_apart h.sizes h.bytes int_ne)) o) hg3 h.apt.symm.or) fun i hi=>by unfold upd;rw [if_neg (by omega)]
theorem Row3.next {base:Nat} {w w2 w3 w4:World} {b b' wv wv' sv sv':Value} {c:Nat} {sz wn:Nat→Nat} (h:Row3 base w b wv sv c sz wn) {s a:Nat} (hok:eOk s a) (own2:Own base w2 b' (rowT sz wn c+eL s a) (cat (rowT sz wn c) (rowB sz wn c) (eB s a))) (g2:w.grownBy w2 b.ownBlock)
 (own3:OwnI base w3 wv' (c+1) (fun i=>(upd wn c a i:Int))) {o3 o4:Obj} (g3:(w2.alloc o3).grownBy w3 wv.ownBlock) (b3:wv'.ownBlock=wv.ownBlock∨wv'.ownBlock=some (w2.heap.size+1))
 (own4:OwnI base w4 sv' (c+1) (fun i=>(upd sz c s i:Int))) (g4:(w3.alloc o4).grownBy w4 sv.ownBlock) (b4:sv'.ownBlock=sv.ownBlock∨sv'.ownBlock=some (w3.heap.size+1)):Row3 base w4 b' wv' sv' (c+1) (upd sz c s) (upd wn c a):=by
 obtain ⟨r1,r2⟩:=row_next sz wn c s a
 have s2:=World.ownsRow.kept h.sizes g2 (rows_apart h.sizes h.bytes int_ne)
 have w2':=World.ownsRow.kept h.want g2 (rows_apart h.want h.bytes int_ne)
 have y3:Own base w3 b' _ _:=World.ownsRow.kept (own2.alloc o3) g3 (rows_apart (own2.alloc o3) (World.ownsRow.alloc w2' o3) int_ne.symm)
 have a3:Apt wv' sv:=apt_next h.apt s2 b3
 have s3:=World.ownsRow.kept (World.ownsRow.alloc s2 o3) g3 h.apt.symm.or
 have y4:Own base w4 b' _ _:=World.ownsRow.kept (y3.alloc o4) g4 (rows_apart (y3.alloc o4) (World.ownsRow.alloc s3 o4) int_ne.symm)
 have x4:OwnI base w4 wv' _ _:=World.ownsRow.kept (World.ownsRow.alloc own3 o4) g4 a3.or
 have a4:Apt wv' sv':=(apt_next a3.symm own3 b4).symm
 refine ⟨by rw [r1,r2];exact y4,x4,own4,a4,fun k hk => ?_⟩
 unfold upd
 by_cases e:k=c
 · rw [if_pos e,if_pos e];exact hok
 · rw [if_neg e,if_neg e];exact h.ok k (by omega)
theorem size_val (k:Int):∃ s:Nat,(s=1∨s=2∨s=4∨s=8∨s=16)∧wrap64 (2 ^ min (IntKind.u64.wrap ((wrap64 (k.tmod 5+5)).tmod 5)).toNat 64)=(s:Int):=by
 have h1:=Int.tmod_lt_of_pos k (show (0:Int)<5 by decide)
 have h2:=Int.lt_tmod_of_pos k (show (0:Int)<5 by decide)
 have e1:wrap64 (k.tmod 5+5)=k.tmod 5+5:=by unfold wrap64;omega
 rw [e1]
 have h3:=Int.tmod_nonneg 5 (show 0≤Int.tmod k 5+5 by omega)
 have h4:=Int.tmod_lt_of_pos (Int.tmod k 5+5) (show (0:Int)<5 by decide)
 obtain ⟨t,ht⟩:∃ t:Nat,Int.tmod (Int.tmod k 5+5) 5=(t:Int):=⟨(Int.tmod (Int.tmod k 5+5) 5).toNat,by omega⟩
 rw [ht]
 rw [ht] at h4
 rcases (show t=0∨t=1∨t=2∨t=3∨t=4 by omega) with rfl | rfl | rfl | rfl | rfl
 · exact ⟨1,by omega,by kernel_rfl⟩
 · exact ⟨2,by omega,by kernel_rfl⟩
 · exact ⟨4,by omega,by kernel_rfl⟩
 · exact ⟨8,by omega,by kernel_rfl⟩
 · exact ⟨16,by omega,by kernel_rfl⟩
set_option maxRecDepth 20000 in
set_option maxHeartbeats 8000000 in
theorem codecNumbers_any (xo:Option Addr) (cnt cap:Nat) (kd nn:Nat→Int) (_hcnt:cnt<140737488355000) (w:World) (ho:Ops2 w xo cnt kd nn) :
 Calls Try.prog 9 #[.slice xo cnt cap] w fun e w'=>e = .returned (.bool true)∧Below w.heap.size w w':=by
 have HO:=Hid.mk' ho
 clear ho
 go_enter Try.func9,Try.ntmps9
 go_wp2
 go_loopw [3,4,5,6] (fun b wv sv i wr=>∃ (q c:Nat) (sz wn:Nat→Nat),q≤cnt∧q≤50∧c≤q∧i = .int .i64 q∧(∃ T xb cb xw cw xs cs,T=rowT sz wn c∧b = .slice xb T cb∧wv = .slice xw c cw∧sv = .slice xs c cs)∧Row3 w.heap.size wr b wv sv c sz wn∧Below w.heap.size w wr) (fun _ _ _ i _=>50 - (intOf i).toNat)
 case atStart=>exact ⟨0,0,fun _=>0,fun _=>0,Nat.zero_le _,Nat.zero_le _,Nat.le_refl _,rfl,⟨0,none,0,none,0,none,0,rfl,rfl,rfl,rfl⟩,⟨Own.nil _ _ _,OwnI.nil _ _ _,OwnI.nil _ _ _,fun k h=>(by cases h),fun k hk=>absurd hk (Nat.not_lt_zero _)⟩,Below.refl _ _⟩
 case round =>
  obtain ⟨q,c,sz,wn,hq,hq5,hcq,rfl,⟨T,xb,cb,xw,cw,xs,cs,hT,rfl,rfl,rfl⟩,hR,hb⟩:=hrel
  have hTl:=rowT_le c hR.ok
  rw [←hT] at hTl
  by_cases hlt:q<cnt∧q<50
  · obtain ⟨lb,lo,rfl,hll,f0,f1⟩:=(HO.out.keep hb).cells q hlt.1
    have t0:(q:Int)<(cnt:Int):=by omega
    have t1:(q:Int)<50:=by omega
    have t2:(0:Int)≤(q:Int)∧(q:Int)<(cnt:Int):=by omega
    obtain ⟨s,hs,hsv⟩:=size_val (kd q)
    obtain ⟨kq,hkq⟩:∃ x,x=kd q:=⟨_,rfl⟩
    obtain ⟨nq,hnq⟩:∃ x,x=nn q:=⟨_,rfl⟩
    rw [←hkq] at f0 hsv
    rw [←hnq] at f1
    have hbs:=hb.size
    have hlw:lb<w.heap.size:=by
     obtain ⟨lb',lo',e,h,-,-⟩:=HO.out.cells q hlt.1
     cases e
     exact h
    clear hkq hnq
    go_upto_region 10 with (fail)
    rw [hsv]
    have HT:=Hid.mk' hT
    clear hsv f0 hT
    by_cases h16:s=16
    · subst h16
      by_cases hn:nq<0∨1073741824≤nq
      · have hc:=cLen11_range nq hn wr
        clear hn
        go_wp2_with (first
         | (go_at_call 13;refine hc.mono ?_;clear hc;rintro e w1 ⟨rfl,b1⟩)
         | (go_at_call 17;refine (num11_any _ _).mono ?_;rintro e wn9 ⟨rfl,hwn⟩;subst hwn))
        go_roundw
        case rel=>exact ⟨q+1,c,sz,wn,hlt.1,hlt.2,by omega,by go_num,⟨T,xb,cb,xw,cw,xs,cs,HT.out,rfl,rfl,rfl⟩,hR.below b1,below_next hb b1⟩
        case measure=>simp [intOf];omega
      · obtain ⟨a,rfl⟩:∃ a:Nat,nq=(a:Int):=⟨nq.toNat,by omega⟩
        have hok:eOk 16 a := .inl ⟨rfl,by omega⟩
        have hc:=cLen11_good a (by omega) wr
        have E1:lnS a=eL 16 a:=by unfold eL;rw [if_pos rfl]
        have E2:lnB a=eB 16 a:=by unfold eB;rw [if_pos rfl]
        rw [E1,E2] at hc
        have f1x:∀ W,Below w.heap.size w W→W.cell? ⟨lb,lo+q*2+1,none⟩=some (.int .i64 (a:Int)):=fun W hW=>(hW.cell (p:=⟨lb,lo+q*2+1,none⟩) hlw).trans ((hb.cell (p:=⟨lb,lo+q*2+1,none⟩) hlw).symm.trans f1)
        have hel:=eL_le hok
        clear hn E1 E2
        generalize hM:eL 16 a=m at *
        generalize hG:eB 16 a=G at *
        have HM:=Hid.mk' hM
        have HG:=Hid.mk' hG
        clear hM hG
        go_wp2_with (first
         | (go_at_call 13;refine hc.mono ?_;clear hc;rintro e w1 ⟨v1,rfl,hv1,b1⟩;(obtain ⟨x1,c1,e1,hxn1,-,hsrc1⟩:=hv1.src);subst e1;(have hR1:=hR.below b1);(have hsrc:=hsrc1 w1 (Below.refl _ _));(have bw1:=below_next hb b1);(have ob:=hR1.bytes);rw [←HT.out] at ob;clear hR hsrc1 hv1;(have f1':=(b1.cell (p:=⟨lb,lo+q*2+1,none⟩) hll).trans f1))
         | (go_at_call 17;refine (num11_any _ _).mono ?_;rintro e wn9 ⟨rfl,hwn⟩;subst hwn)
         | (at_builtin;refine wpList_append_bytes rfl (.tmp 57) (.tmp 58) rfl w.heap.size _ T _ rfl ob x1 m c1 G rfl hsrc hxn1 (by omega) bw1.size ?_;intro v2 w2 own2 grow2;(have bw2:=Own.grown bw1 grow2 ob (Nat.le_refl _) bw1.size);(have wn2:=hR1.want2 grow2 a);(obtain ⟨x2,c2,e2⟩:=own2.slice);subst e2;(have f2':w2.cell? ⟨lb,lo+q*2+1,none⟩=some (.int .i64 (a:Int)):=(f1x w2 bw2)))
         | (at_builtin;refine wpList_append_int rfl (.tmp 60) (.tmp 66) rfl w.heap.size _ c _ _ rfl wn2 rfl (by unfold upd;rw [if_pos rfl]) (by omega) bw2.size ?_;intro v3 w3 own3 grow3 blk3;(have sz3:=hR1.sizes3 grow2 grow3 16);(have bw3:Below w.heap.size w w3:=below_grown (bw2.alloc bw2.size _) grow3 (World.ownsRow.alloc wn2 _) (Nat.le_refl _) (Nat.le_trans bw2.size (by simp)));(obtain ⟨x3,c3,e3⟩:=own3.slice);subst e3)
         | (at_builtin;refine wpList_append_int rfl (.tmp 68) (.tmp 70) rfl w.heap.size _ c _ _ rfl sz3 rfl (by unfold upd;rw [if_pos rfl];rfl) (by omega) bw3.size ?_;intro v4 w4 own4 grow4 blk4;(have bw4:Below w.heap.size w w4:=below_grown (bw3.alloc bw3.size _) grow4 (World.ownsRow.alloc sz3 _) (Nat.le_refl _) (Nat.le_trans bw3.size (by simp)));(obtain ⟨x4,c4,e4⟩:=own4.slice);subst e4))
        rw [←HM.out,←HG.out,HT.out] at own2
        have hR4:=hR1.next hok own2 grow2 own3 grow3 blk3 own4 grow4 blk4
        rw [←HT.out,HM.out] at hR4
        go_roundw
        case rel=>exact ⟨q+1,c+1,_,_,hlt.1,hlt.2,by omega,by go_num,⟨T+m,x2,c2,x3,c3,x4,c4,by rw [(row_next sz wn c _ a).1,←HT.out,HM.out],rfl,rfl,rfl⟩,hR4,bw4⟩
        case measure=>simp [intOf];omega
    · have hz:szB (s:Int)=true:=by
       rcases hs with rfl | rfl | rfl | rfl | rfl
       · rfl
       · rfl
       · rfl
       · rfl
       · exact absurd rfl h16
      have h16':¬(s:Int)=16:=by omega
      by_cases hn:nq<0∨(mstN s:Int)≤nq
      · have hc:=cNum11_range nq s hz hn wr
        clear hn
        go_wp2_with (first
         | (go_at_call 11;refine hc.mono ?_;clear hc;rintro e w1 ⟨rfl,b1⟩)
         | (go_at_call 17;refine (num11_any _ _).mono ?_;rintro e wn9 ⟨rfl,hwn⟩;subst hwn))
        go_roundw
        case rel=>exact ⟨q+1,c,sz,wn,hlt.1,hlt.2,by omega,by go_num,⟨T,xb,cb,xw,cw,xs,cs,HT.out,rfl,rfl,rfl⟩,hR.below b1,below_next hb b1⟩
        case measure=>simp [intOf];omega
      · obtain ⟨a,rfl⟩:∃ a:Nat,nq=(a:Int):=⟨nq.toNat,by omega⟩
        have hok:eOk s a := .inr ⟨by omega,by omega⟩
        have hc:=cNum11_good a s hz (by omega) wr
        have E1:s=eL s a:=by unfold eL;rw [if_neg h16]
        have E2:beN a s=eB s a:=by unfold eB;rw [if_neg h16]
        have E3:∀ v W,BytesIn W v s (beN a s)→BytesIn W v (eL s a) (eB s a):=fun v W h=>by rw [←E1,←E2];exact h
        replace hc:=hc.mono fun e W (h:∃ v,e = .returned (.tuple #[v,.int .i64 0])∧BytesIn W v s (beN a s)∧Below wr.heap.size wr W)=>(show ∃ v,e = .returned (.tuple #[v,.int .i64 0])∧BytesIn W v (eL s a) (eB s a)∧Below wr.heap.size wr W from h.elim fun v h=>⟨v,h.1,E3 v W h.2.1,h.2.2⟩)
        clear E3
        have f1x:∀ W,Below w.heap.size w W→W.cell? ⟨lb,lo+q*2+1,none⟩=some (.int .i64 (a:Int)):=fun W hW=>(hW.cell (p:=⟨lb,lo+q*2+1,none⟩) hlw).trans ((hb.cell (p:=⟨lb,lo+q*2+1,none⟩) hlw).symm.trans f1)
        have hel:=eL_le hok
        clear hn E1 E2
        generalize hM:eL s a=m at *
        generalize hG:eB s a=G at *
        have HM:=Hid.mk' hM
        have HG:=Hid.mk' hG
        clear hM hG
        go_wp2_with (first
         | (go_at_call 11;refine hc.mono ?_;clear hc;rintro e w1 ⟨v1,rfl,hv1,b1⟩;(obtain ⟨x1,c1,e1,hxn1,-,hsrc1⟩:=hv1.src);subst e1;(have hR1:=hR.below b1);(have hsrc:=hsrc1 w1 (Below.refl _ _));(have bw1:=below_next hb b1);(have ob:=hR1.bytes);rw [←HT.out] at ob;clear hR hsrc1 hv1;(have f1':=(b1.cell (p:=⟨lb,lo+q*2+1,none⟩) hll).trans f1))
         | (go_at_call 17;refine (num11_any _ _).mono ?_;rintro e wn9 ⟨rfl,hwn⟩;subst hwn)
         | (at_builtin;refine wpList_append_bytes rfl (.tmp 57) (.tmp 58) rfl w.heap.size _ T _ rfl ob x1 m c1 G rfl hsrc hxn1 (by omega) bw1.size ?_;intro v2 w2 own2 grow2;(have bw2:=Own.grown bw1 grow2 ob (Nat.le_refl _) bw1.size);(have wn2:=hR1.want2 grow2 a);(obtain ⟨x2,c2,e2⟩:=own2.slice);subst e2;(have f2':w2.cell? ⟨lb,lo+q*2+1,none⟩=some (.int .i64 (a:Int)):=(f1x w2 bw2)))
         | (at_builtin;refine wpList_append_int rfl (.tmp 60) (.tmp 66) rfl w.heap.size _ c _ _ rfl wn2 rfl (by unfold upd;rw [if_pos rfl]) (by omega) bw2.size ?_;intro v3 w3 own3 grow3 blk3;(have sz3:=hR1.sizes3 grow2 grow3 s);(have bw3:Below w.heap.size w w3:=below_grown (bw2.alloc bw2.size _) grow3 (World.ownsRow.alloc wn2 _) (Nat.le_refl _) (Nat.le_trans bw2.size (by simp)));(obtain ⟨x3,c3,e3⟩:=own3.slice);subst e3)
         | (at_builtin;refine wpList_append_int rfl (.tmp 68) (.tmp 70) rfl w.heap.size _ c _ _ rfl sz3 rfl (by unfold upd;rw [if_pos rfl]) (by omega) bw3.size ?_;intro v4 w4 own4 grow4 blk4;(have bw4:Below w.heap.size w w4:=below_grown (bw3.alloc bw3.size _) grow4 (World.ownsRow.alloc sz3 _) (Nat.le_refl _) (Nat.le_trans bw3.size (by simp)));(obtain ⟨x4,c4,e4⟩:=own4.slice);subst e4))
        rw [←HM.out,←HG.out,HT.out] at own2
        have hR4:=hR1.next hok own2 grow2 own3 grow3 blk3 own4 grow4 blk4
        rw [←HT.out,HM.out] at hR4
        go_roundw
        case rel=>exact ⟨q+1,c+1,_,_,hlt.1,hlt.2,by omega,by go_num,⟨T+m,x2,c2,x3,c3,x4,c4,by rw [(row_next sz wn c _ a).1,←HT.out,HM.out],rfl,rfl,rfl⟩,hR4,bw4⟩
        case measure=>simp [intOf];omega
  · by_cases hl1:q<cnt
    · have t0:(q:Int)<(cnt:Int):=by omega
      have t1:¬(q:Int)<50:=by omega
      obtain ⟨w0,hw0⟩:∃ w0:World,w0=wr:=⟨_,rfl⟩
      subst hw0
      have cN:=cNew_any _ _ _ (show rowT sz wn c<140737488355000 by omega) w0 (BytesIn.of_own hR.bytes)
      have hok:=hR.ok
      have HW:=Hid.mk' hR.want
      have HS:=Hid.mk' hR.sizes
      have HK:=Hid.mk' (fun k hk=>row_back (sz:=sz) (wn:=wn) (cnt:=c) k hk (hok k hk))
      have lB:=rowB_lt sz wn c
      have HE:Hid (endD T ⟨rowT sz wn c,0⟩=0):=by
       rw [hT]
       show (if (0:Int)=0∧rowT sz wn c<rowT sz wn c then (21:Int) else 0)=0
       rw [if_neg (fun e=>Nat.lt_irrefl _ e.2)]
      rw [←hT] at cN HK
      generalize rowB sz wn c=B at *
      clear hR hok hT
      go_wp2_with (go_at_call 22;refine cN.mono ?_;clear cN;rintro e w1 ⟨g,rfl,hr1,b1⟩)
      have hgl:=hr1.lt
      have hge:=hr1.ge
      go_loopw [11] (fun i W=>∃ k:Nat,k≤c∧i = .int .i64 k∧RdC w0.heap.size w1.heap.size W g T B ⟨rowT sz wn k,0⟩∧Below w0.heap.size w0 W) (fun i _=>c - (intOf i).toNat)
      case atStart=>exact ⟨0,Nat.zero_le _,rfl,hr1,b1⟩
      case round =>
       clear hr1 b1
       obtain ⟨k,hk,rfl,hr,hbW⟩:=hrel
       by_cases hkc:k<c
       · obtain ⟨gw,ew,hgw,hcw⟩:=HW.out.at_ hkc
         obtain ⟨gs,es,hgs,hcs⟩:=HS.out.at_ hkc
         subst ew
         subst es
         obtain ⟨K1,K2⟩:=HK.out k hkc
         have u0:(k:Int)<(c:Int):=by omega
         have u1:(0:Int)≤(k:Int)∧(k:Int)<(c:Int):=by omega
         have p1:=(hbW.cell (p:=⟨gs,k,none⟩) hgs).trans hcs
         have p2:∀ W',Below w0.heap.size w0 W'→W'.cell? ⟨gw,k,none⟩=some (.int .i64 (wn k:Int)):=fun W' h=>(h.cell (p:=⟨gw,k,none⟩) hgw).trans hcw
         by_cases hs16:sz k=16
         · have cL:=cLenR_any _ _ g T B lB _ _ hr
           rw [K1 hs16] at cL
           rw [hs16] at p1
           rw [show (((16:Nat):Int))=16 from rfl] at p1
           obtain ⟨y,hy⟩:∃ y:Int,y=((wn k:Nat):Int):=⟨_,rfl⟩
           dsimp only at cL
           rw [←hy] at cL p2
           clear hy K1 K2 hr hcw hcs
           go_wp2_with (go_at_call 26;refine cL.mono ?_;clear cL;rintro e w3 ⟨rfl,hr3,o3⟩;(have b3:Below w0.heap.size w0 w3:=hbW.trans (o3.below hge hbW.size));(have p3:=p2 w3 b3))
           go_roundw
           case rel=>exact ⟨k+1,hkc,by go_num,hr3,b3⟩
           case measure=>simp [intOf];omega
         · have cL:=cNumR_any _ _ g T B lB _ (sz k:Int) _ hr
           rw [K2 hs16] at cL
           have hs16':¬((sz k:Nat):Int)=16:=by omega
           obtain ⟨y,hy⟩:∃ y:Int,y=((wn k:Nat):Int):=⟨_,rfl⟩
           obtain ⟨z,hz⟩:∃ z:Int,z=((sz k:Nat):Int):=⟨_,rfl⟩
           dsimp only at cL
           rw [←hy,←hz] at cL
           rw [←hy] at p2
           rw [←hz] at p1 hs16'
           clear hy hz K1 K2 hr hcw hcs hs16
           go_wp2_with (go_at_call 24;refine cL.mono ?_;clear cL;rintro e w3 ⟨rfl,hr3,o3⟩;(have b3:Below w0.heap.size w0 w3:=hbW.trans (o3.below hge hbW.size));(have p3:=p2 w3 b3))
           go_roundw
           case rel=>exact ⟨k+1,hkc,by go_num,hr3,b3⟩
           case measure=>simp [intOf];omega
       · obtain rfl:k=c:=by omega
         have u0:¬(k:Int)<(k:Int):=by omega
         have cE:=cEnd_any _ _ g T B _ _ hr
         rw [HE.out] at cE
         clear hr
         go_wp2_with (first
          | (go_at_call 35;refine cE.mono ?_;clear cE;rintro e w3 ⟨rfl,hw⟩;obtain rfl:=hw.symm)
          | (go_at_call 17;refine (num11_any _ _).mono ?_;rintro e wn9 ⟨rfl,hwn⟩;subst hwn)
          | (go_at_call 19;refine (knows11 _).mono ?_;rintro e w9 ⟨rfl,b9⟩))
         go_ret
         exact ⟨rfl,below_next hb (below_next hbW b9)⟩
    · have t0:¬(q:Int)<(cnt:Int):=by omega
      obtain ⟨w0,hw0⟩:∃ w0:World,w0=wr:=⟨_,rfl⟩
      subst hw0
      have cN:=cNew_any _ _ _ (show rowT sz wn c<140737488355000 by omega) w0 (BytesIn.of_own hR.bytes)
      have hok:=hR.ok
      have HW:=Hid.mk' hR.want
      have HS:=Hid.mk' hR.sizes
      have HK:=Hid.mk' (fun k hk=>row_back (sz:=sz) (wn:=wn) (cnt:=c) k hk (hok k hk))
      have lB:=rowB_lt sz wn c
      have HE:Hid (endD T ⟨rowT sz wn c,0⟩=0):=by
       rw [hT]
       show (if (0:Int)=0∧rowT sz wn c<rowT sz wn c then (21:Int) else 0)=0
       rw [if_neg (fun e=>Nat.lt_irrefl _ e.2)]
      rw [←hT] at cN HK
      generalize rowB sz wn c=B at *
      clear hR hok hT
      go_wp2_with (go_at_call 22;refine cN.mono ?_;clear cN;rintro e w1 ⟨g,rfl,hr1,b1⟩)
      have hgl:=hr1.lt
      have hge:=hr1.ge
      go_loopw [11] (fun i W=>∃ k:Nat,k≤c∧i = .int .i64 k∧RdC w0.heap.size w1.heap.size W g T B ⟨rowT sz wn k,0⟩∧Below w0.heap.size w0 W) (fun i _=>c - (intOf i).toNat)
      case atStart=>exact ⟨0,Nat.zero_le _,rfl,hr1,b1⟩
      case round =>
       clear hr1 b1
       obtain ⟨k,hk,rfl,hr,hbW⟩:=hrel
       by_cases hkc:k<c
       · obtain ⟨gw,ew,hgw,hcw⟩:=HW.out.at_ hkc
         obtain ⟨gs,es,hgs,hcs⟩:=HS.out.at_ hkc
         subst ew
         subst es
         obtain ⟨K1,K2⟩:=HK.out k hkc
         have u0:(k:Int)<(c:Int):=by omega
         have u1:(0:Int)≤(k:Int)∧(k:Int)<(c:Int):=by omega
         have p1:=(hbW.cell (p:=⟨gs,k,none⟩) hgs).trans hcs
         have p2:∀ W',Below w0.heap.size w0 W'→W'.cell? ⟨gw,k,none⟩=some (.int .i64 (wn k:Int)):=fun W' h=>(h.cell (p:=⟨gw,k,none⟩) hgw).trans hcw
         by_cases hs16:sz k=16
         · have cL:=cLenR_any _ _ g T B lB _ _ hr
           rw [K1 hs16] at cL
           rw [hs16] at p1
           rw [show (((16:Nat):Int))=16 from rfl] at p1
           obtain ⟨y,hy⟩:∃ y:Int,y=((wn k:Nat):Int):=⟨_,rfl⟩
           dsimp only at cL
           rw [←hy] at cL p2
           clear hy K1 K2 hr hcw hcs
           go_wp2_with (go_at_call 26;refine cL.mono ?_;clear cL;rintro e w3 ⟨rfl,hr3,o3⟩;(have b3:Below w0.heap.size w0 w3:=hbW.trans (o3.below hge hbW.size));(have p3:=p2 w3 b3))
           go_roundw
           case rel=>exact ⟨k+1,hkc,by go_num,hr3,b3⟩
           case measure=>simp [intOf];omega
         · have cL:=cNumR_any _ _ g T B lB _ (sz k:Int) _ hr
           rw [K2 hs16] at cL
           have hs16':¬((sz k:Nat):Int)=16:=by omega
           obtain ⟨y,hy⟩:∃ y:Int,y=((wn k:Nat):Int):=⟨_,rfl⟩
           obtain ⟨z,hz⟩:∃ z:Int,z=((sz k:Nat):Int):=⟨_,rfl⟩
           dsimp only at cL
           rw [←hy,←hz] at cL
           rw [←hy] at p2
           rw [←hz] at p1 hs16'
           clear hy hz K1 K2 hr hcw hcs hs16
           go_wp2_with (go_at_call 24;refine cL.mono ?_;clear cL;rintro e w3 ⟨rfl,hr3,o3⟩;(have b3:Below w0.heap.size w0 w3:=hbW.trans (o3.below hge hbW.size));(have p3:=p2 w3 b3))
           go_roundw
           case rel=>exact ⟨k+1,hkc,by go_num,hr3,b3⟩
           case measure=>simp [intOf];omega
       · obtain rfl:k=c:=by omega
         have u0:¬(k:Int)<(k:Int):=by omega
         have cE:=cEnd_any _ _ g T B _ _ hr
         rw [HE.out] at cE
         clear hr
         go_wp2_with (first
          | (go_at_call 35;refine cE.mono ?_;clear cE;rintro e w3 ⟨rfl,hw⟩;obtain rfl:=hw.symm)
          | (go_at_call 17;refine (num11_any _ _).mono ?_;rintro e wn9 ⟨rfl,hwn⟩;subst hwn)
          | (go_at_call 19;refine (knows11 _).mono ?_;rintro e w9 ⟨rfl,b9⟩))
         go_ret
         exact ⟨rfl,below_next hb (below_next hbW b9)⟩
end Go.Proofs.Ytibgjjbnehhanaa
