/- What the proof stands on: G9M, G9Kn, G9Ans, QRO, QCO. -/
import Derived.Test.YtcgkajlehdgpoaaGreatDoorA8RBlkM
import Derived.Test.YtcgkajlehdgpoaaGreatDoorG9HM
import Derived.Test.YtcgkajlehdgpoaaGreatDoorQCNM
import Derived.Test.YtcgkajlehdgpoaaGreatDoorZFM
namespace Go.Proofs.YtcgkajlehdgpoaaGreatDoor
open Go.RowKit
set_option maxRecDepth 20000 in
set_option maxHeartbeats 2000000 in
theorem open_bad (v u m t:Value) (a b ml n:Nat) (ks nn M X:Nat→Nat) (w:World) (hv:BytesIn w v a ks) (hu:BytesIn w u b nn) (hm:BytesIn w m ml M) (ht:BytesIn w t n X) (h:¬(a=16∧b=12)) :
 Calls Tryz.prog 47 #[v,u,m,t] w fun e w'=>e = .returned (.tuple #[.slice none 0 0,.int .i64 1])∧Below w.heap.size w w':=by
 have c1:=lockOf_bad v u a b ks nn w hv hu h
 have hz:=zeroL
 have hth:=fun W=>lock_there W (fun _=>0)
 have hi2:=infoLA (fun _=>0)
 have ho:=oneU 32 (fun _=>0)
 obtain ⟨xv,cv,rfl,-,-,-⟩:=hv.src
 obtain ⟨xu,cu,rfl,-,-,-⟩:=hu.src
 obtain ⟨xm,cm,rfl,-,-,-⟩:=hm.src
 obtain ⟨xt,ct,rfl,-,-,-⟩:=ht.src
 clear hv hu hm ht h
 go_enter Tryz.func47,Tryz.ntmps47
 go_wp2_with (first
  | (go_at_call 66;refine c1.mono ?_;clear c1;rintro e w1 ⟨rfl,b1⟩;have hth1:=hth w1;clear hth)
  | (with_reducible (refine id (?_:wpList _ _ _ _ _ _));refine wpList_store_mid rfl 97 _ _ rfl w1.heap.size 0 (ints .u8 32 (fun _=>0)).toArray rfl rfl hth1 hi2 ho ?_;clear hth1))
 go_ret2
 exact ⟨rfl,below_next b1 (lock_var w1 _ _ rfl).2⟩
set_option maxRecDepth 20000 in
set_option maxHeartbeats 2000000 in
theorem open_size (v u m t:Value) (ml n:Nat) (ks nn M X:Nat→Nat) (w:World) (hv:BytesIn w v 16 ks) (hu:BytesIn w u 12 nn) (hm:BytesIn w m ml M) (ht:BytesIn w t n X) (h:¬(ml≤65536∧n≤65552)) :
 Calls Tryz.prog 47 #[v,u,m,t] w fun e w'=>e = .returned (.tuple #[.slice none 0 0,.int .i64 6])∧Below w.heap.size w w':=by
 have c1:=lockOf_good v u ks nn w hv hu
 unfold lkV at c1
 have hz:=zeroL
 have hth:=fun W=>lock_there W (lkN ks nn)
 have hi2:=infoLA (lkN ks nn)
 have ho:=oneU 32 (lkN ks nn)
 generalize lkN ks nn=L at *
 obtain ⟨xv,cv,rfl,-,-,-⟩:=hv.src
 obtain ⟨xu,cu,rfl,-,-,-⟩:=hu.src
 obtain ⟨xm,cm,rfl,-,-,-⟩:=hm.src
 obtain ⟨xt,ct,rfl,-,-,-⟩:=ht.src
 clear hv hu hm ht
 have hcase:((65536:Int)<(ml:Int))∨(¬(65536:Int)<(ml:Int)∧(65552:Int)<(n:Int)):=by omega
 clear h
 rcases hcase with h1 | ⟨h1,h2⟩
 all_goals
  go_enter Tryz.func47,Tryz.ntmps47
  go_wp2_with (first
   | (go_at_call 66;refine c1.mono ?_;clear c1;rintro e w1 ⟨rfl,b1⟩;have hth1:=hth w1;clear hth)
   | (with_reducible (refine id (?_:wpList _ _ _ _ _ _));refine wpList_store_mid rfl 97 _ _ rfl w1.heap.size 0 (ints .u8 32 L).toArray rfl rfl hth1 hi2 ho ?_;clear hth1))
  go_ret2
  exact ⟨rfl,below_next b1 (lock_var w1 _ _ rfl).2⟩
set_option maxRecDepth 20000 in
set_option maxHeartbeats 2000000 in
theorem open_short (v u m t:Value) (ml n:Nat) (ks nn M X:Nat→Nat) (w:World) (hv:BytesIn w v 16 ks) (hu:BytesIn w u 12 nn) (hm:BytesIn w m ml M) (ht:BytesIn w t n X) (hml:ml≤65536) (hn:n<16) :
 Calls Tryz.prog 47 #[v,u,m,t] w fun e w'=>e = .returned (.tuple #[.slice none 0 0,.int .i64 32])∧Below w.heap.size w w':=by
 have c1:=lockOf_good v u ks nn w hv hu
 unfold lkV at c1
 have hz:=zeroL
 have hth:=fun W=>lock_there W (lkN ks nn)
 have hi2:=infoLA (lkN ks nn)
 have ho:=oneU 32 (lkN ks nn)
 generalize lkN ks nn=L at *
 obtain ⟨xv,cv,rfl,-,-,-⟩:=hv.src
 obtain ⟨xu,cu,rfl,-,-,-⟩:=hu.src
 obtain ⟨xm,cm,rfl,-,-,-⟩:=hm.src
 obtain ⟨xt,ct,rfl,-,-,-⟩:=ht.src
 clear hv hu hm ht
 have h1:¬(65536:Int)<(ml:Int):=by omega
 have h2:¬(65552:Int)<(n:Int):=by omega
 have h3:(n:Int)<16:=by omega
 go_enter Tryz.func47,Tryz.ntmps47
 go_wp2_with (first
  | (go_at_call 66;refine c1.mono ?_;clear c1;rintro e w1 ⟨rfl,b1⟩;have hth1:=hth w1;clear hth)
  | (with_reducible (refine id (?_:wpList _ _ _ _ _ _));refine wpList_store_mid rfl 97 _ _ rfl w1.heap.size 0 (ints .u8 32 L).toArray rfl rfl hth1 hi2 ho ?_;clear hth1))
 go_ret2
 exact ⟨rfl,below_next b1 (lock_var w1 _ _ rfl).2⟩
set_option maxRecDepth 20000 in
set_option maxHeartbeats 4000000 in
theorem open_long (v u m t:Value) (ml k:Nat) (ks nn M X:Nat→Nat) (hml:ml≤65536) (hk:k≤65536) (hks:∀ j,ks j<256) (hnn:∀ j,nn j<256) (hM:∀ j,M j<256) (hX:∀ j,X j<256) (w:World) (hv:BytesIn w v 16 ks) (hu:BytesIn w u 12 nn) (hm:BytesIn w m ml M) (ht:BytesIn w t (k+16) X) :
 Calls Tryz.prog 47 #[v,u,m,t] w fun e w'=>(S16 (tgN ks nn ml M k X) (fun j=>X (k+j))→∃ s,e = .returned (.tuple #[s,.int .i64 0])∧Own w.heap.size w' s k (trN ks nn X))∧(¬S16 (tgN ks nn ml M k X) (fun j=>X (k+j))→e = .returned (.tuple #[.slice none 0 0,.int .i64 32]))∧Below w.heap.size w w':=by
 obtain ⟨bb,ob,ct,rfl,hbb,hct,hcell⟩:=ht.resolve_left (fun ⟨_,_,h⟩=>by omega)
 have hd:BytesIn w (.slice (some ⟨bb,ob,none⟩) k ct) k X := .inr ⟨bb,ob,ct,rfl,hbb,by omega,fun j hj=>hcell j (by omega)⟩
 have hg:BytesIn w (.slice (some ⟨bb,ob+k,none⟩) 16 (ct - k)) 16 (fun j=>X (k+j)) := .inr ⟨bb,ob+k,ct - k,rfl,hbb,by omega,fun j hj=>by
  have:=hcell (k+j) (by omega)
  rwa [←Nat.add_assoc] at this⟩
 have c1:=lockOf_good v u ks nn w hv hu
 have c2:=fun W h=>gblockOf_any _ 16 _ (Nat.le_refl _) (fun j=>hX _) W (hg.keep h)
 rw [padN_16] at c2
 have c3:=fun W h=>gtag_any ks nn M X ml k (by omega) (by omega) hks hnn hM hX m _ W (hm.keep h) (hd.keep h)
 have c4:=fun W=>gsame_any (toV (tgN ks nn ml M k X)) (toV (fun j=>X (k+j))) W
 have c5:=fun W h=>crossed_any ks nn X k (by omega) hks hnn hX _ W (hd.keep h)
 have hsame:S16 (tgN ks nn ml M k X) (fun j=>X (k+j))↔toV (tgN ks nn ml M k X)=toV (fun j=>X (k+j)):=⟨toV_S,toV_inj (tgN_B hks hnn ml k) (fun j _=>hX _)⟩
 obtain ⟨T,hT⟩:∃ T,T=decide (toV (tgN ks nn ml M k X)=toV (fun j=>X (k+j))):=⟨_,rfl⟩
 rw [←hT] at c4
 have hTt:S16 (tgN ks nn ml M k X) (fun j=>X (k+j))↔T=true:=by rw [hsame,hT,decide_eq_true_iff]
 rw [hTt]
 clear hsame hT hTt
 unfold blV at *
 generalize wd (toV (tgN ks nn ml M k X)) 0=g0 at *
 generalize wd (toV (tgN ks nn ml M k X)) 64=g1 at *
 generalize wd (toV (fun j=>X (k+j))) 0=t0 at *
 generalize wd (toV (fun j=>X (k+j))) 64=t1 at *
 generalize trN ks nn X=Tr at *
 unfold lkV at *
 have hz:=zeroL
 have hth:=fun W=>lock_there W (lkN ks nn)
 have hi1:=infoL (lkN ks nn)
 have hi2:=infoLA (lkN ks nn)
 have ho:=oneU 32 (lkN ks nn)
 generalize lkN ks nn=L at *
 obtain ⟨xv,cv,rfl,-,-,-⟩:=hv.src
 obtain ⟨xu,cu,rfl,-,-,-⟩:=hu.src
 obtain ⟨xm,cm,rfl,-,-,-⟩:=hm.src
 obtain ⟨n,hn⟩:∃ n,n=k+16:=⟨_,rfl⟩
 rw [←hn]
 have ha':¬(65536:Int)<(ml:Int):=by omega
 have hb':¬(65552:Int)<(n:Int):=by omega
 have hb2':¬(n:Int)<16:=by omega
 have hc':(n:Int) - 16=(k:Int):=by omega
 have hd':IntKind.i64.wrap ((n:Int) - 16)=(k:Int):=by simp only [IntKind.wrap_i64];omega
 have i1:(0:Int)≤(k:Int)∧(k:Int)≤(n:Int):=by omega
 have i2:(k:Int)≤(ct:Int):=by omega
 have i3:n - k=16:=by omega
 have i5:(n:Int)≤(ct:Int):=by omega
 have i6:(n:Int) - (k:Int)=16:=by omega
 have i7:¬ct=k:=by omega
 have i8:IntKind.i64.wrap (k:Int)=(k:Int):=by simp only [IntKind.wrap_i64];omega
 clear hv hu hm ht hks hnn hM hX hd hg hcell hn hct
 go_enter Tryz.func47,Tryz.ntmps47
 go_upto_region 8 with (first
  | (go_at_call 66;refine c1.mono ?_;clear c1;rintro e w1 ⟨rfl,b1⟩;(have hth1:=hth w1);(obtain ⟨V,hV⟩:∃ V,V=(w1.alloc (.cells (zb 32) 97)).setCells w1.heap.size 0 (ints .u8 32 L):=⟨_,rfl⟩);(obtain ⟨rL,bV⟩:=lock_var w1 L V hV);(have HV:=Hid.mk' hV);(replace b1:=below_next b1 bV);clear hth hV bV)
  | (with_reducible (refine id (?_:wpList _ _ _ _ _ _));refine wpList_store_mid rfl 97 _ _ rfl w1.heap.size 0 (ints .u8 32 L).toArray rfl rfl hth1 hi2 ho ?_;rw [List.toList_toArray,←HV.out];clear hth1 HV))
 have hdr:Below V.heap.size V V.drew:=(Below.refl _ _).drew
 replace rL:=rL.still hdr
 replace b1:=below_next b1 hdr
 refine wp_last 13 (S:=fun u=>Below V.drew.heap.size V.drew u) (by kernel_rfl) (by kernel_rfl) (by kernel_rfl) (by kernel_rfl) (Below.refl _ _) (fun hS => ?_)
 generalize V.drew=V2 at *
 refine tg 0 hS ?_
 (try simp only [pS])
 refine tg 1 hS ?_
 (try simp only [pS])
 refine tg 2 hS ?_
 (try simp only [pS])
 refine tg 3 hS ?_
 (try simp only [pS])
 refine tg 4 hS ?_
 (try simp only [pS])
 refine tg 5 hS ?_
 (try simp only [pS])
 refine tg 6 hS ?_
 (try simp only [pS])
 refine tg 7 hS ?_
 (try simp only [pS])
 refine tg 8 hS ?_
 (try simp only [pS])
 refine tg 9 hS ?_
 (try simp only [pS])
 refine wpAnyH_ready (rs:=[10,11]) (by kernel_rfl) (by simp) (cR (c2 V2 b1) ?_ (gR (fun g=>pA g 0) (b2 0 0) 101 (fun u hu=>hu) ?_ AllReadyH.nil))
 · rintro e V3 ⟨rfl,hb3⟩
   refine ⟨_,rfl,hb3,?_⟩
   (try simp only [pS])
   refine wpAnyH_ready (rs:=[11]) (by kernel_rfl) (by simp) (gR (fun g=>pA g 0) (b2 0 0) 101 (fun u hu=>below_next hb3 hu) ?_ AllReadyH.nil)
   intro V4 g hg hb4 rG
   have hb3a:=hb3
   replace hb3:=below_next hb3 hb4
   (try simp only [pS])
   have hgl:V2.heap.size≤g:=Nat.le_trans (Nat.le_trans (Nat.le_refl _) hb3a.size) hg
   refine tg 12 hb3 ?_
   (try simp only [pS])
   refine wpAnyH_done (by kernel_rfl) ?_ _
   refine lastRow 13 101 13 44 (b2 t0 t1) rG rfl (info2a t0 t1) (one2 t0 t1) (fun rG' => ?_)
   refine NoPanic.normal ?_
   dsimp only [Act.put]
   have hwg:w1.heap.size≠g:=Nat.ne_of_lt (Nat.lt_of_lt_of_le rL.lt hgl)
   have rL5:=(rL.still hb3).far g 0 (b2 t0 t1) (.inl hwg)
   have b5:=below_setCells (Nat.le_trans b1.size hgl) (b2 t0 t1) 0 _ (below_next b1 hb3)
   generalize V4.setCells g 0 (b2 t0 t1)=V5 at *
   clear rG hb3 hS c2
   go_upto_region 9 with (fail)
   have hdr5:Below V5.heap.size V5 V5.drew:=(Below.refl _ _).drew
   replace rL5:=rL5.still hdr5
   replace rG':=rG'.still hdr5
   replace b5:=below_next b5 hdr5
   refine wp_region_noPanic ?_
   refine wp_region_held_drew (S:=fun u=>Below V5.drew.heap.size V5.drew u) (by kernel_rfl) (Below.refl _ _) (fun hS => ?_)
   generalize V5.drew=V6 at *
   refine tlS 0 (fun u hu=>rL5.still hu) hS 97 Tryz.underlying97 hi1 ?_
   (try simp only [pS])
   refine tg 1 hS ?_
   (try simp only [pS])
   refine tg 2 hS ?_
   (try simp only [pS])
   refine tlS 4 (fun u hu=>rG'.still hu) hS 101 Tryz.underlying101 info2 ?_
   (try simp only [pS])
   refine cl 3 (c3 V6 b5) ?_
   rintro e V7 ⟨rfl,hb7⟩
   refine ⟨_,rfl,hb7,?_⟩
   (try simp only [pS])
   refine cl 5 (c4 V7) ?_
   rintro e V8 ⟨rfl,hb8⟩
   replace hb7:=below_next hb7 hb8
   refine ⟨_,rfl,hb7,?_⟩
   (try simp only [pS])
   refine tg 6 hb7 ?_
   (try simp only [pS])
   refine wpAnyH_done (by kernel_rfl) ?_ _
   refine NoPanic.normal ?_
   have rL8:=rL5.still hb7
   have b8:=below_next b5 hb7
   have rLr:=rL8.range
   have c5':=c5 V8 b8
   clear c5 c3 c4 rL5 rG' hb7 hb8 hS b5
   cases T with
   | false =>
    go_wp2
    go_ret2
    exact ⟨(fun h=>Bool.noConfusion h),fun _=>rfl,b8⟩
   | true =>
    go_wp2_with (first
     | (refine wpList_load_mid rfl 97 _ rfl w1.heap.size 0 rfl (ints .u8 32 L) _ rLr Tryz.underlying97 rfl hi1 ?_)
     | (go_at_call 67;refine c5'.mono ?_;clear c5';rintro e w9 ⟨gh,rfl,own9,b9⟩))
    go_ret2
    exact ⟨⟨_,rfl,own_down own9 b8.size⟩,below_next b8 b9⟩
 · intro V3 g hg hb3 rG
   (try simp only [pS])
   refine cl 10 (c2 V3 (below_next b1 hb3)) ?_
   rintro e V4 ⟨rfl,hb4⟩
   replace rG:=rG.still hb4
   replace hb3:=below_next hb3 hb4
   refine ⟨_,rfl,hb3,?_⟩
   (try simp only [pS])
   have hgl:V2.heap.size≤g:=hg
   refine tg 12 hb3 ?_
   (try simp only [pS])
   refine wpAnyH_done (by kernel_rfl) ?_ _
   refine lastRow 13 101 13 44 (b2 t0 t1) rG rfl (info2a t0 t1) (one2 t0 t1) (fun rG' => ?_)
   refine NoPanic.normal ?_
   dsimp only [Act.put]
   have hwg:w1.heap.size≠g:=Nat.ne_of_lt (Nat.lt_of_lt_of_le rL.lt hgl)
   have rL5:=(rL.still hb3).far g 0 (b2 t0 t1) (.inl hwg)
   have b5:=below_setCells (Nat.le_trans b1.size hgl) (b2 t0 t1) 0 _ (below_next b1 hb3)
   generalize V4.setCells g 0 (b2 t0 t1)=V5 at *
   clear rG hb3 hS c2
   go_upto_region 9 with (fail)
   have hdr5:Below V5.heap.size V5 V5.drew:=(Below.refl _ _).drew
   replace rL5:=rL5.still hdr5
   replace rG':=rG'.still hdr5
   replace b5:=below_next b5 hdr5
   refine wp_region_noPanic ?_
   refine wp_region_held_drew (S:=fun u=>Below V5.drew.heap.size V5.drew u) (by kernel_rfl) (Below.refl _ _) (fun hS => ?_)
   generalize V5.drew=V6 at *
   refine tlS 0 (fun u hu=>rL5.still hu) hS 97 Tryz.underlying97 hi1 ?_
   (try simp only [pS])
   refine tg 1 hS ?_
   (try simp only [pS])
   refine tg 2 hS ?_
   (try simp only [pS])
   refine tlS 4 (fun u hu=>rG'.still hu) hS 101 Tryz.underlying101 info2 ?_
   (try simp only [pS])
   refine cl 3 (c3 V6 b5) ?_
   rintro e V7 ⟨rfl,hb7⟩
   refine ⟨_,rfl,hb7,?_⟩
   (try simp only [pS])
   refine cl 5 (c4 V7) ?_
   rintro e V8 ⟨rfl,hb8⟩
   replace hb7:=below_next hb7 hb8
   refine ⟨_,rfl,hb7,?_⟩
   (try simp only [pS])
   refine tg 6 hb7 ?_
   (try simp only [pS])
   refine wpAnyH_done (by kernel_rfl) ?_ _
   refine NoPanic.normal ?_
   have rL8:=rL5.still hb7
   have b8:=below_next b5 hb7
   have rLr:=rL8.range
   have c5':=c5 V8 b8
   clear c5 c3 c4 rL5 rG' hb7 hb8 hS b5
   cases T with
   | false =>
    go_wp2
    go_ret2
    exact ⟨(fun h=>Bool.noConfusion h),fun _=>rfl,b8⟩
   | true =>
    go_wp2_with (first
     | (refine wpList_load_mid rfl 97 _ rfl w1.heap.size 0 rfl (ints .u8 32 L) _ rLr Tryz.underlying97 rfl hi1 ?_)
     | (go_at_call 67;refine c5'.mono ?_;clear c5';rintro e w9 ⟨gh,rfl,own9,b9⟩))
    go_ret2
    exact ⟨⟨_,rfl,own_down own9 b8.size⟩,below_next b8 b9⟩
end Go.Proofs.YtcgkajlehdgpoaaGreatDoor
namespace Go.Proofs.YtcgkajlehdgpoaaGreatDoor
open Go.RowKit
abbrev z0:Nat→Nat:=fun _=>0
theorem hz0:∀ j,z0 j<256:=fun _=>(by decide:0<256)
end Go.Proofs.YtcgkajlehdgpoaaGreatDoor
namespace Go.Proofs.YtcgkajlehdgpoaaGreatDoor
open Go.RowKit
abbrev AnsC (f:FuncId) (args:Array Value) (w:World) (N:Nat) (Z:Nat→Nat) (E:Int):Prop :=
 Calls Tryz.prog f args w fun e w'=>∃ s,e = .returned (.tuple #[s,.int .i64 E])∧BytesIn w' s N Z∧Below w.heap.size w w'
theorem RowF.bytes {base:Nat} {w:World} {s:Value} {X:Nat→Nat} (h:RowF base w s 16 X):BytesIn w s 16 X:=by
 obtain ⟨g,cap,rfl,-,hc,hr⟩:=h
 exact .inr ⟨g,0,cap,rfl,block_lt_of_cell (hr 0 (by decide)).1,hc,fun j hj=>(hr j hj).1⟩
theorem ans_nil {f:FuncId} {args:Array Value} {w:World} {E:Int} (c:Calls Tryz.prog f args w fun e w'=>e = .returned (.tuple #[.slice none 0 0,.int .i64 E])∧Below w.heap.size w w'):AnsC f args w 0 z0 E :=
 c.mono fun _ _ ⟨he,hb⟩=>⟨_,he,.inl ⟨none,rfl,rfl⟩,hb⟩
theorem same_below {f:FuncId} {args:Array Value} {w:World} {v:Ending} (c:Calls Tryz.prog f args w fun e w'=>e=v∧w'=w):Calls Tryz.prog f args w fun e w'=>e=v∧Below w.heap.size w w' :=
 c.mono fun _ _ ⟨he,hw⟩=>⟨he,by rw [hw];exact Below.refl _ _⟩
def slB (ks nn:Nat→Nat) (ml:Nat) (M:Nat→Nat) (n:Nat) (X:Nat→Nat) (j:Nat):Nat:=slN ks nn ml M n X j%256
theorem slN_lt {ks nn M X:Nat→Nat} (hks:∀ j,ks j<256) (hnn:∀ j,nn j<256) (hX:∀ j,X j<256) (ml n j:Nat) (hj:j<n+16):slN ks nn ml M n X j<256:=by
 unfold slN cat
 split
 · exact trN_lt hks hnn hX j
 · exact tgN_B hks hnn ml n _ (by omega)
theorem seal_bothE (a b ml n:Nat) (ks nn M X:Nat→Nat) (hks:∀ j,ks j<256) (hnn:∀ j,nn j<256) (hM:∀ j,M j<256) (hX:∀ j,X j<256):∃ N Z E,(∀ j,Z j<256)∧(∀ v u m t w,BytesIn w v a ks→BytesIn w u b nn→BytesIn w m ml M→BytesIn w t n X→AnsC 46 #[v,u,m,t] w N Z E)∧(∀ v u m t w,BytesIn w v a ks→BytesIn w u b nn→BytesIn w m ml M→BytesIn w t n X→AnsC 62 #[v,u,m,t] w N Z E)∧(E=0∨N=0):=by
 by_cases h:a=16∧b=12
 · obtain ⟨rfl,rfl⟩:=h
   by_cases h2:ml≤65536∧n≤65536
   · have hl:∀ j,j<n+16→slN ks nn ml M n X j=slB ks nn ml M n X j:=fun j hj=>(Nat.mod_eq_of_lt (slN_lt hks hnn hX ml n j hj)).symm
     exact ⟨n+16,slB ks nn ml M n X,0,fun j=>Nat.mod_lt _ (by decide),fun v u m t w hv hu hm ht=>(seal_good v u m t ml n ks nn M X h2.1 h2.2 hks hnn hM hX w hv hu hm ht).mono fun _ _ ⟨s,he,ho,hw⟩=>⟨s,he,(ho.congr hl).bytesOf,hw⟩,
      fun v u m t w hv hu hm ht=>(rSeal_good v u m t ml n ks nn M X h2.1 h2.2 hks hnn hM hX w hv hu hm ht).mono fun _ _ ⟨s,he,ho,hw⟩=>⟨s,he,(ho.congr hl).bytesOf,hw⟩,.inl rfl⟩
   · exact ⟨0,z0,6,hz0,fun v u m t w hv hu hm ht=>ans_nil (seal_size v u m t ml n ks nn M X w hv hu hm ht h2),fun v u m t w hv hu hm ht=>ans_nil (same_below (rSeal_size v u m t ml n ks nn M X w hv hu hm ht h2)),.inr rfl⟩
 · exact ⟨0,z0,1,hz0,fun v u m t w hv hu hm ht=>ans_nil (seal_bad v u m t a b ml n ks nn M X w hv hu hm ht h),fun v u m t w hv hu hm ht=>ans_nil (same_below (rSeal_bad v u m t a b ml n ks nn M X w hv hu hm ht h)),.inr rfl⟩
theorem open_bothE (a b ml n:Nat) (ks nn M X:Nat→Nat) (hks:∀ j,ks j<256) (hnn:∀ j,nn j<256) (hM:∀ j,M j<256) (hX:∀ j,X j<256):∃ N Z E,(∀ j,Z j<256)∧(∀ v u m t w,BytesIn w v a ks→BytesIn w u b nn→BytesIn w m ml M→BytesIn w t n X→AnsC 47 #[v,u,m,t] w N Z E)∧(∀ v u m t w,BytesIn w v a ks→BytesIn w u b nn→BytesIn w m ml M→BytesIn w t n X→AnsC 64 #[v,u,m,t] w N Z E)∧(E=0∨N=0):=by
 by_cases h:a=16∧b=12
 · obtain ⟨rfl,rfl⟩:=h
   by_cases h2:ml≤65536∧n≤65552
   · by_cases h3:n<16
     · exact ⟨0,z0,32,hz0,fun v u m t w hv hu hm ht=>ans_nil (open_short v u m t ml n ks nn M X w hv hu hm ht h2.1 h3),fun v u m t w hv hu hm ht=>ans_nil (rOpen_short v u m t ml n ks nn M X w hv hu hm ht h2.1 h3),.inr rfl⟩
     · obtain ⟨k,rfl⟩:∃ k,n=k+16:=⟨n - 16,by omega⟩
       by_cases h4:S16 (tgN ks nn ml M k X) (fun j=>X (k+j))
       · exact ⟨k,trN ks nn X,0,trN_lt hks hnn hX,fun v u m t w hv hu hm ht=>(open_long v u m t ml k ks nn M X h2.1 (by omega) hks hnn hM hX w hv hu hm ht).mono fun _ _ ⟨h,_,hw⟩=>by
          obtain ⟨s,he,ho⟩:=h h4
          exact ⟨s,he,ho.bytesOf,hw⟩,fun v u m t w hv hu hm ht=>(rOpen_long v u m t ml k ks nn M X h2.1 (by omega) hks hnn hM hX w hv hu hm ht).mono fun _ _ ⟨h,_,hw⟩=>by
          obtain ⟨s,he,ho⟩:=h h4
          exact ⟨s,he,ho.bytesOf,hw⟩,.inl rfl⟩
       · exact ⟨0,z0,32,hz0,fun v u m t w hv hu hm ht=>ans_nil ((open_long v u m t ml k ks nn M X h2.1 (by omega) hks hnn hM hX w hv hu hm ht).mono fun _ _ ⟨_,h,hw⟩=>⟨h h4,hw⟩),
          fun v u m t w hv hu hm ht=>ans_nil ((rOpen_long v u m t ml k ks nn M X h2.1 (by omega) hks hnn hM hX w hv hu hm ht).mono fun _ _ ⟨_,h,hw⟩=>⟨h h4,hw⟩),.inr rfl⟩
   · exact ⟨0,z0,6,hz0,fun v u m t w hv hu hm ht=>ans_nil (open_size v u m t ml n ks nn M X w hv hu hm ht h2),fun v u m t w hv hu hm ht=>ans_nil (same_below (rOpen_size v u m t ml n ks nn M X w hv hu hm ht h2)),.inr rfl⟩
 · exact ⟨0,z0,1,hz0,fun v u m t w hv hu hm ht=>ans_nil (open_bad v u m t a b ml n ks nn M X w hv hu hm ht h),fun v u m t w hv hu hm ht=>ans_nil (same_below (rOpen_bad v u m t a b ml n ks nn M X w hv hu hm ht h)),.inr rfl⟩
end Go.Proofs.YtcgkajlehdgpoaaGreatDoor
namespace Go.Proofs.YtcgkajlehdgpoaaGreatDoor
open Go.RowKit
theorem BytesIn.set_i64 {w:World} {v:Value} {n g o:Nat} {X:Nat→Nat} {z:Int} (h:BytesIn w v n X) (hc:w.cell? ⟨g,o,none⟩=some (.int .i64 z)) (u:Value):BytesIn (w.setCell ⟨g,o,none⟩ u) v n X:=by
 rcases h with h | ⟨bb,ob,cap,rfl,h1,h2,h3⟩
 · exact .inl h
 · refine .inr ⟨bb,ob,cap,rfl,by rw [World.size_setCell];exact h1,h2,fun j hj => ?_⟩
   have hne:(⟨g,o,none⟩:Addr)≠⟨bb,ob+j,none⟩:=fun e=>by
    rw [e,h3 j hj] at hc
    cases hc
   rw [World.cell?_setCell_other _ _ _ _ hne]
   exact h3 j hj
theorem RW.set3 {w:World} {g:Nat} {a b c d:Value} (r:RW w g 0 [a,b,c,d]) (y:Value):RW (w.setCell ⟨g,3,none⟩ y) g 0 [a,b,c,y]:=by
 have h:=fun j (hj:j<4)=>r.there j (by simpa using hj)
 refine ⟨fun j v hv => ?_,fun j hj => ?_,by rw [World.size_setCell];exact r.lt⟩
 · by_cases e:j=3
   · subst e
     simp only [List.getElem?_cons_succ,List.getElem?_cons_zero,Option.some.injEq] at hv
     subst hv
     exact World.cell?_setCell_same _ _ _ (r.range 3 d rfl)
   · have hne:(⟨g,3,none⟩:Addr)≠⟨g,0+j,none⟩:=fun e'=>by injection e';omega
     rw [World.cell?_setCell_other _ _ _ _ hne]
     refine r.range j v ?_
     rw [←hv]
     match j,e with
     | 0,_=>rfl
     | 1,_=>rfl
     | 2,_=>rfl
     | j+4,_=>rfl
 · rw [World.frozen?_setCell]
   refine ⟨?_,(r.there j (by simpa using hj)).2⟩
   by_cases e:j=3
   · subst e
     rw [World.cell?_setCell_same _ _ _ (r.range 3 d rfl)];rfl
   · have hne:(⟨g,3,none⟩:Addr)≠⟨g,0+j,none⟩:=fun e'=>by injection e';omega
     rw [World.cell?_setCell_other _ _ _ _ hne]
     exact (r.there j (by simpa using hj)).1
set_option maxRecDepth 20000 in
set_option maxHeartbeats 2000000 in
theorem rctxSeal (gc n:Nat) (K N X:Nat→Nat) (hN:∀ j,N j<256) (mv tv:Value) (L:Nat) (Z:Nat→Nat) (E:Int) (hn:n+1<9223372036854775808) (w:World) (h:RCtx w gc K N X n) (ha:∀ kv nv W,Below w.heap.size w W→BytesIn W kv 16 K→BytesIn W nv 12 (ncN N n)→AnsC 62 #[kv,nv,mv,tv] W L Z E) :
 Calls Tryz.prog 42 #[.pointer (some ⟨gc,0,none⟩),mv,tv] w fun e w'=>∃ s,e = .returned (.tuple #[s,.int .i64 E])∧BytesIn w' s L Z∧RCtx w' gc K N X (if E=0 then n+1 else n)∧Out gc 3 1 w w':=by
 have bd:Below w.heap.size w w.drew:=(Below.refl _ _).drew
 have hc:=h.keep bd
 have cn:=rnonce_any gc n K N X hN w.drew hc
 obtain ⟨kv,uv,xv,r,hk,hu,hx⟩:=hc
 have f0:w.drew.cell? ⟨gc,0,none⟩=some kv:=r.range 0 _ rfl
 have gl:gc<w.heap.size:=r.lt
 go_enter Tryz.func42,Tryz.ntmps42
 go_upto_region 1 with (fail)
 refine wp_region_held_drew (S:=fun u=>Below w.drew.heap.size w.drew u) (by kernel_rfl) (Below.refl _ _) (fun hS => ?_)
 refine tg 0 hS ?_
 (try simp only [pS])
 refine tg 1 hS ?_
 (try simp only [pS])
 refine tg 2 hS ?_
 (try simp only [pS])
 refine tc 3 hS (fun u hu=>(hu.cell (p:=⟨gc,0,none⟩) gl).trans f0) ?_
 (try simp only [pS])
 refine tg 4 hS ?_
 (try simp only [pS])
 refine tg 6 hS ?_
 (try simp only [pS])
 refine tg 7 hS ?_
 (try simp only [pS])
 refine cl 5 cn ?_
 rintro e w1 ⟨s1,rfl,o1,b1⟩
 refine ⟨_,rfl,b1,?_⟩
 (try simp only [pS])
 refine cl 8 (ha kv s1 w1 (below_next bd b1) (hk.keep b1) o1) ?_
 rintro e w2 ⟨s2,rfl,o2,hb2⟩
 have b2:=below_next b1 hb2
 refine ⟨_,rfl,b2,?_⟩
 (try simp only [pS])
 refine tg 9 b2 ?_
 (try simp only [pS])
 refine tg 10 b2 ?_
 (try simp only [pS])
 refine tg 11 b2 ?_
 (try simp only [pS])
 refine tg 12 b2 ?_
 (try simp only [pS])
 refine tg 13 b2 ?_
 (try simp only [pS])
 refine wpAnyH_done (by kernel_rfl) ?_ _
 replace r:=r.still b2
 have hk2:=hk.keep b2
 have hu2:=hu.keep b2
 have hx2:=hx.keep b2
 have bw:=below_next bd b2
 have f3:w2.cell? ⟨gc,3,none⟩=some (.int .i64 (n:Int)):=r.range 3 _ rfl
 have z3:w2.frozen? ⟨gc,3,none⟩=false:=(r.there 3 (by show 3<4;decide)).2
 clear ha hk hu hx h b1 b2 hS o1 hb2 cn
 by_cases h0:E=0
 · subst h0
   have hw:(n:Int)+1=((n+1:Nat):Int):=by omega
   have hw':wrap64 ((n:Int)+1)=((n+1:Nat):Int):=by unfold wrap64;omega
   obtain ⟨n1,hn1⟩:∃ n1,n1=n+1:=⟨_,rfl⟩
   rw [←hn1] at hw hw'
   have HN:=Hid.mk' hn1
   clear hn1
   go_wp2
   go_ret2
   refine ⟨_,rfl,o2.set_i64 f3 _,?_,(Out.of_below bw gl).trans (Out.setCell w2 _ (Nat.le_refl _) (by decide))⟩
   rw [←HN.out]
   exact ⟨_,_,_,r.set3 _,hk2.set_i64 f3 _,hu2.set_i64 f3 _,hx2.set_i64 f3 _⟩
 · go_wp2
   go_ret2
   exact ⟨_,rfl,o2,⟨_,_,_,r,hk2,hu2,hx2⟩,Out.of_below bw gl⟩
set_option maxRecDepth 20000 in
set_option maxHeartbeats 2000000 in
theorem rctxOpen (gc n:Nat) (K N X:Nat→Nat) (hN:∀ j,N j<256) (mv tv:Value) (L:Nat) (Z:Nat→Nat) (E:Int) (hn:n+1<9223372036854775808) (w:World) (h:RCtx w gc K N X n) (ha:∀ kv nv W,Below w.heap.size w W→BytesIn W kv 16 K→BytesIn W nv 12 (ncN N n)→AnsC 64 #[kv,nv,mv,tv] W L Z E) :
 Calls Tryz.prog 43 #[.pointer (some ⟨gc,0,none⟩),mv,tv] w fun e w'=>∃ s,e = .returned (.tuple #[s,.int .i64 E])∧BytesIn w' s L Z∧RCtx w' gc K N X (if E=0 then n+1 else n)∧Out gc 3 1 w w':=by
 have bd:Below w.heap.size w w.drew:=(Below.refl _ _).drew
 have hc:=h.keep bd
 have cn:=rnonce_any gc n K N X hN w.drew hc
 obtain ⟨kv,uv,xv,r,hk,hu,hx⟩:=hc
 have f0:w.drew.cell? ⟨gc,0,none⟩=some kv:=r.range 0 _ rfl
 have gl:gc<w.heap.size:=r.lt
 go_enter Tryz.func43,Tryz.ntmps43
 go_upto_region 1 with (fail)
 refine wp_region_held_drew (S:=fun u=>Below w.drew.heap.size w.drew u) (by kernel_rfl) (Below.refl _ _) (fun hS => ?_)
 refine tg 0 hS ?_
 (try simp only [pS])
 refine tg 1 hS ?_
 (try simp only [pS])
 refine tg 2 hS ?_
 (try simp only [pS])
 refine tc 3 hS (fun u hu=>(hu.cell (p:=⟨gc,0,none⟩) gl).trans f0) ?_
 (try simp only [pS])
 refine tg 4 hS ?_
 (try simp only [pS])
 refine tg 6 hS ?_
 (try simp only [pS])
 refine tg 7 hS ?_
 (try simp only [pS])
 refine cl 5 cn ?_
 rintro e w1 ⟨s1,rfl,o1,b1⟩
 refine ⟨_,rfl,b1,?_⟩
 (try simp only [pS])
 refine cl 8 (ha kv s1 w1 (below_next bd b1) (hk.keep b1) o1) ?_
 rintro e w2 ⟨s2,rfl,o2,hb2⟩
 have b2:=below_next b1 hb2
 refine ⟨_,rfl,b2,?_⟩
 (try simp only [pS])
 refine tg 9 b2 ?_
 (try simp only [pS])
 refine tg 10 b2 ?_
 (try simp only [pS])
 refine tg 11 b2 ?_
 (try simp only [pS])
 refine tg 12 b2 ?_
 (try simp only [pS])
 refine tg 13 b2 ?_
 (try simp only [pS])
 refine wpAnyH_done (by kernel_rfl) ?_ _
 replace r:=r.still b2
 have hk2:=hk.keep b2
 have hu2:=hu.keep b2
 have hx2:=hx.keep b2
 have bw:=below_next bd b2
 have f3:w2.cell? ⟨gc,3,none⟩=some (.int .i64 (n:Int)):=r.range 3 _ rfl
 have z3:w2.frozen? ⟨gc,3,none⟩=false:=(r.there 3 (by show 3<4;decide)).2
 clear ha hk hu hx h b1 b2 hS o1 hb2 cn
 by_cases h0:E=0
 · subst h0
   have hw:(n:Int)+1=((n+1:Nat):Int):=by omega
   have hw':wrap64 ((n:Int)+1)=((n+1:Nat):Int):=by unfold wrap64;omega
   obtain ⟨n1,hn1⟩:∃ n1,n1=n+1:=⟨_,rfl⟩
   rw [←hn1] at hw hw'
   have HN:=Hid.mk' hn1
   clear hn1
   go_wp2
   go_ret2
   refine ⟨_,rfl,o2.set_i64 f3 _,?_,(Out.of_below bw gl).trans (Out.setCell w2 _ (Nat.le_refl _) (by decide))⟩
   rw [←HN.out]
   exact ⟨_,_,_,r.set3 _,hk2.set_i64 f3 _,hu2.set_i64 f3 _,hx2.set_i64 f3 _⟩
 · go_wp2
   go_ret2
   exact ⟨_,rfl,o2,⟨_,_,_,r,hk2,hu2,hx2⟩,Out.of_below bw gl⟩
end Go.Proofs.YtcgkajlehdgpoaaGreatDoor
namespace Go.Proofs.YtcgkajlehdgpoaaGreatDoor
open Go.RowKit
theorem made_len (gc:Nat) (x:Option Addr) (l c:Nat) (w:World) (h:w.cell? ⟨gc,0,none⟩=some (.slice x l c)):Calls Tryz.prog 48 #[.pointer (some ⟨gc,0,none⟩)] w fun e w'=>e = .returned (.bool ((l:Int) != 0))∧w'=w:=by
 go_enter Tryz.func48,Tryz.ntmps48
 go_wp2
 go_ret
 exact ⟨rfl,rfl⟩
theorem RowAt.set_u64 {w:World} {g o n b q:Nat} {X:Nat→Nat} {z:Int} (h:RowAt .u8 w g o n X) (hc:w.cell? ⟨b,q,none⟩=some (.int .u64 z)) (u:Value):RowAt .u8 (w.setCell ⟨b,q,none⟩ u) g o n X:=fun j hj=>by
 have hne:(⟨b,q,none⟩:Addr)≠⟨g,o+j,none⟩:=fun e=>by
  rw [e,(h j hj).1] at hc
  cases hc
 rw [World.cell?_setCell_other _ _ _ _ hne,World.frozen?_setCell]
 exact h j hj
theorem BytesIn.set_u64 {w:World} {v:Value} {n g o:Nat} {X:Nat→Nat} {z:Int} (h:BytesIn w v n X) (hc:w.cell? ⟨g,o,none⟩=some (.int .u64 z)) (u:Value):BytesIn (w.setCell ⟨g,o,none⟩ u) v n X:=by
 rcases h with h | ⟨bb,ob,cap,rfl,h1,h2,h3⟩
 · exact .inl h
 · refine .inr ⟨bb,ob,cap,rfl,by rw [World.size_setCell];exact h1,h2,fun j hj => ?_⟩
   have hne:(⟨g,o,none⟩:Addr)≠⟨bb,ob+j,none⟩:=fun e=>by
    rw [e,h3 j hj] at hc
    cases hc
   rw [World.cell?_setCell_other _ _ _ _ hne]
   exact h3 j hj
theorem CCtx.lt {w:World} {g:Nat} {K N X:Nat→Nat} {n:Nat} (h:CCtx w g K N X n):g<w.heap.size:=by
 obtain ⟨_,_,_,r,_⟩:=h
 exact r.lt
theorem CCtx.num {w:World} {g:Nat} {K N X:Nat→Nat} {n:Nat} (h:CCtx w g K N X n):w.cell? ⟨g,3,none⟩=some (.int .u64 (n:Int)):=by
 obtain ⟨_,_,_,r,_⟩:=h
 exact r.range 3 _ rfl
theorem cmade {w:World} {g:Nat} {K N X:Nat→Nat} {n:Nat} (h:CCtx w g K N X n):Calls Tryz.prog 48 #[.pointer (some ⟨g,0,none⟩)] w fun e w'=>e = .returned (.bool true)∧w'=w:=by
 obtain ⟨_,_,_,r,_⟩:=h
 exact made_len g _ 16 16 w (r.range 0 _ rfl)
theorem CCtx.next {w:World} {g:Nat} {K N X:Nat→Nat} {n:Nat} (h:CCtx w g K N X n) (m:Nat):CCtx (w.setCell ⟨g,3,none⟩ (.int .u64 (m:Int))) g K N X m:=by
 have hc:=h.num
 obtain ⟨gk,gu,gx,r,h1,h2,h3⟩:=h
 exact ⟨gk,gu,gx,r.set3 _,h1.set_u64 hc _,h2.set_u64 hc _,h3.set_u64 hc _⟩
set_option maxRecDepth 20000 in
set_option maxHeartbeats 4000000 in
theorem cnextSeal (gc n:Nat) (K N X:Nat→Nat) (hN:∀ j,N j<256) (mv tv:Value) (L:Nat) (Z:Nat→Nat) (E:Int) (hE:E=0∨L=0) (hn:n+1<9223372036854775808) (w:World) (h:CCtx w gc K N X n) (ha:∀ kv nv W,Below w.heap.size w W→BytesIn W kv 16 K→BytesIn W nv 12 (ncN N n)→AnsC 46 #[kv,nv,mv,tv] W L Z E) :
 Calls Tryz.prog 45 #[.pointer (some ⟨gc,0,none⟩),.func (.func 46) #[] #[],mv,tv] w fun e w'=>∃ s,e = .returned (.tuple #[s,.int .i64 E])∧BytesIn w' s L Z∧CCtx w' gc K N X (if E=0 then n+1 else n)∧Out gc 3 1 w w':=by
 have bd:Below w.heap.size w w.drew:=(Below.refl _ _).drew
 have cm:=cmade h
 have hc:=h.keep bd
 have hc':=hc
 obtain ⟨gk,gu,gx,r,hk,hu,hx⟩:=hc
 have cn:=cnonce_any gk gu gx n N hN w.drew hu
 have f0:w.drew.cell? ⟨gc,0,none⟩=some (.slice (some ⟨gk,0,none⟩) 16 16):=r.range 0 _ rfl
 have f3:w.drew.cell? ⟨gc,3,none⟩=some (.int .u64 (n:Int)):=r.range 3 _ rfl
 have r3:RW w.drew gc 0 [.slice (some ⟨gk,0,none⟩) 16 16,.slice (some ⟨gu,0,none⟩) 12 12,.slice (some ⟨gx,0,none⟩) 32 32]:=RW.left (ds:=[.int .u64 (n:Int)]) r
 have gl:gc<w.heap.size:=r.lt
 replace hk:=row_bytes (by decide) hk
 clear hu hx r
 go_enter Tryz.func45,Tryz.ntmps45
 go_upto_region 3 with (go_at_call 48;refine cm.mono ?_;clear cm;rintro e w0 ⟨rfl,hw0⟩;obtain rfl:=hw0.symm)
 refine wp_region_held_drew (S:=fun u=>Below w.drew.heap.size w.drew u) (by kernel_rfl) (Below.refl _ _) (fun hS => ?_)
 refine tg 0 hS ?_
 (try simp only [pS])
 refine tg 1 hS ?_
 (try simp only [pS])
 refine tg 2 hS ?_
 (try simp only [pS])
 refine tg 3 hS ?_
 (try simp only [pS])
 refine tg 4 hS ?_
 (try simp only [pS])
 refine tc 5 hS (fun u hu=>(hu.cell (p:=⟨gc,0,none⟩) gl).trans f0) ?_
 (try simp only [pS])
 refine tg 6 hS ?_
 (try simp only [pS])
 refine tg 7 hS ?_
 (try simp only [pS])
 refine tg 8 hS ?_
 (try simp only [pS])
 refine tl 9 r3 hS 52 Tryz.underlying52 (infoKl _ _ _) ?_
 (try simp only [pS])
 refine tg 10 hS ?_
 (try simp only [pS])
 refine tg 11 hS ?_
 (try simp only [pS])
 refine tg 12 hS ?_
 (try simp only [pS])
 refine tc 13 hS (fun u hu=>(hu.cell (p:=⟨gc,3,none⟩) gl).trans f3) ?_
 (try simp only [pS])
 refine tg 15 hS ?_
 (try simp only [pS])
 refine tg 16 hS ?_
 (try simp only [pS])
 refine cl 14 cn ?_
 rintro e w1 ⟨s1,rfl,o1,b1⟩
 refine ⟨_,rfl,b1,?_⟩
 (try simp only [pS])
 refine cl 17 (ha _ s1 w1 (below_next bd b1) (hk.keep b1) o1) ?_
 rintro e w2 ⟨s2,rfl,o2,hb2⟩
 have b2:=below_next b1 hb2
 refine ⟨_,rfl,b2,?_⟩
 (try simp only [pS])
 refine tg 18 b2 ?_
 (try simp only [pS])
 refine tg 19 b2 ?_
 (try simp only [pS])
 refine tg 20 b2 ?_
 (try simp only [pS])
 refine tg 21 b2 ?_
 (try simp only [pS])
 refine tg 22 b2 ?_
 (try simp only [pS])
 refine wpAnyH_done (by kernel_rfl) ?_ _
 replace hc':=hc'.keep b2
 have bw:=below_next bd b2
 have f3:=hc'.num
 have z3:w2.frozen? ⟨gc,3,none⟩=false:=by
  obtain ⟨_,_,_,r,_⟩:=hc'
  exact (r.there 3 (by show 3<4;decide)).2
 clear ha hk h b1 b2 hS o1 hb2 cn r3 f0
 by_cases h0:E=0
 · subst h0
   have hw:(n:Int)+1=((n+1:Nat):Int):=by omega
   have hw':IntKind.u64.wrap ((n:Int)+1)=((n+1:Nat):Int):=by show ((n:Int)+1)%18446744073709551616=_;omega
   have hx:=hc'.next (n+1)
   obtain ⟨n1,hn1⟩:∃ n1,n1=n+1:=⟨_,rfl⟩
   rw [←hn1] at hw hw' hx
   have HN:=Hid.mk' hn1
   clear hn1 hE
   go_wp2
   go_ret2
   refine ⟨_,rfl,o2.set_u64 f3 _,?_,(Out.of_below bw gl).trans (Out.setCell w2 _ (Nat.le_refl _) (by decide))⟩
   rw [←HN.out]
   exact hx
 · have hL:=hE.resolve_left h0
   subst hL
   clear hE
   go_wp2
   go_ret2
   exact ⟨_,rfl,.inl ⟨none,rfl,rfl⟩,hc',Out.of_below bw gl⟩
set_option maxRecDepth 20000 in
set_option maxHeartbeats 2000000 in
theorem cSeal (gc n:Nat) (K N X:Nat→Nat) (hN:∀ j,N j<256) (mv tv:Value) (L:Nat) (Z:Nat→Nat) (E:Int) (hE:E=0∨L=0) (hn:n+1<9223372036854775808) (w:World) (h:CCtx w gc K N X n) (ha:∀ kv nv W,Below w.heap.size w W→BytesIn W kv 16 K→BytesIn W nv 12 (ncN N n)→AnsC 46 #[kv,nv,mv,tv] W L Z E) :
 Calls Tryz.prog 21 #[.pointer (some ⟨gc,0,none⟩),mv,tv] w fun e w'=>∃ s,e = .returned (.tuple #[s,.int .i64 E])∧BytesIn w' s L Z∧CCtx w' gc K N X (if E=0 then n+1 else n)∧Out gc 3 1 w w':=by
 have cx:=cnextSeal gc n K N X hN mv tv L Z E hE hn w h ha
 generalize (if E=0 then n+1 else n)=q at cx ⊢
 clear h ha
 go_enter Tryz.func21,Tryz.ntmps21
 go_wp2_with (go_at_call 45;refine cx.mono ?_;clear cx;rintro e w1 ⟨s1,rfl,o1,c1,u1⟩)
 go_ret2
 exact ⟨_,rfl,o1,c1,u1⟩
set_option maxRecDepth 20000 in
set_option maxHeartbeats 4000000 in
theorem cnextOpen (gc n:Nat) (K N X:Nat→Nat) (hN:∀ j,N j<256) (mv tv:Value) (L:Nat) (Z:Nat→Nat) (E:Int) (hE:E=0∨L=0) (hn:n+1<9223372036854775808) (w:World) (h:CCtx w gc K N X n) (ha:∀ kv nv W,Below w.heap.size w W→BytesIn W kv 16 K→BytesIn W nv 12 (ncN N n)→AnsC 47 #[kv,nv,mv,tv] W L Z E) :
 Calls Tryz.prog 45 #[.pointer (some ⟨gc,0,none⟩),.func (.func 47) #[] #[],mv,tv] w fun e w'=>∃ s,e = .returned (.tuple #[s,.int .i64 E])∧BytesIn w' s L Z∧CCtx w' gc K N X (if E=0 then n+1 else n)∧Out gc 3 1 w w':=by
 have bd:Below w.heap.size w w.drew:=(Below.refl _ _).drew
 have cm:=cmade h
 have hc:=h.keep bd
 have hc':=hc
 obtain ⟨gk,gu,gx,r,hk,hu,hx⟩:=hc
 have cn:=cnonce_any gk gu gx n N hN w.drew hu
 have f0:w.drew.cell? ⟨gc,0,none⟩=some (.slice (some ⟨gk,0,none⟩) 16 16):=r.range 0 _ rfl
 have f3:w.drew.cell? ⟨gc,3,none⟩=some (.int .u64 (n:Int)):=r.range 3 _ rfl
 have r3:RW w.drew gc 0 [.slice (some ⟨gk,0,none⟩) 16 16,.slice (some ⟨gu,0,none⟩) 12 12,.slice (some ⟨gx,0,none⟩) 32 32]:=RW.left (ds:=[.int .u64 (n:Int)]) r
 have gl:gc<w.heap.size:=r.lt
 replace hk:=row_bytes (by decide) hk
 clear hu hx r
 go_enter Tryz.func45,Tryz.ntmps45
 go_upto_region 3 with (go_at_call 48;refine cm.mono ?_;clear cm;rintro e w0 ⟨rfl,hw0⟩;obtain rfl:=hw0.symm)
 refine wp_region_held_drew (S:=fun u=>Below w.drew.heap.size w.drew u) (by kernel_rfl) (Below.refl _ _) (fun hS => ?_)
 refine tg 0 hS ?_
 (try simp only [pS])
 refine tg 1 hS ?_
 (try simp only [pS])
 refine tg 2 hS ?_
 (try simp only [pS])
 refine tg 3 hS ?_
 (try simp only [pS])
 refine tg 4 hS ?_
 (try simp only [pS])
 refine tc 5 hS (fun u hu=>(hu.cell (p:=⟨gc,0,none⟩) gl).trans f0) ?_
 (try simp only [pS])
 refine tg 6 hS ?_
 (try simp only [pS])
 refine tg 7 hS ?_
 (try simp only [pS])
 refine tg 8 hS ?_
 (try simp only [pS])
 refine tl 9 r3 hS 52 Tryz.underlying52 (infoKl _ _ _) ?_
 (try simp only [pS])
 refine tg 10 hS ?_
 (try simp only [pS])
 refine tg 11 hS ?_
 (try simp only [pS])
 refine tg 12 hS ?_
 (try simp only [pS])
 refine tc 13 hS (fun u hu=>(hu.cell (p:=⟨gc,3,none⟩) gl).trans f3) ?_
 (try simp only [pS])
 refine tg 15 hS ?_
 (try simp only [pS])
 refine tg 16 hS ?_
 (try simp only [pS])
 refine cl 14 cn ?_
 rintro e w1 ⟨s1,rfl,o1,b1⟩
 refine ⟨_,rfl,b1,?_⟩
 (try simp only [pS])
 refine cl 17 (ha _ s1 w1 (below_next bd b1) (hk.keep b1) o1) ?_
 rintro e w2 ⟨s2,rfl,o2,hb2⟩
 have b2:=below_next b1 hb2
 refine ⟨_,rfl,b2,?_⟩
 (try simp only [pS])
 refine tg 18 b2 ?_
 (try simp only [pS])
 refine tg 19 b2 ?_
 (try simp only [pS])
 refine tg 20 b2 ?_
 (try simp only [pS])
 refine tg 21 b2 ?_
 (try simp only [pS])
 refine tg 22 b2 ?_
 (try simp only [pS])
 refine wpAnyH_done (by kernel_rfl) ?_ _
 replace hc':=hc'.keep b2
 have bw:=below_next bd b2
 have f3:=hc'.num
 have z3:w2.frozen? ⟨gc,3,none⟩=false:=by
  obtain ⟨_,_,_,r,_⟩:=hc'
  exact (r.there 3 (by show 3<4;decide)).2
 clear ha hk h b1 b2 hS o1 hb2 cn r3 f0
 by_cases h0:E=0
 · subst h0
   have hw:(n:Int)+1=((n+1:Nat):Int):=by omega
   have hw':IntKind.u64.wrap ((n:Int)+1)=((n+1:Nat):Int):=by show ((n:Int)+1)%18446744073709551616=_;omega
   have hx:=hc'.next (n+1)
   obtain ⟨n1,hn1⟩:∃ n1,n1=n+1:=⟨_,rfl⟩
   rw [←hn1] at hw hw' hx
   have HN:=Hid.mk' hn1
   clear hn1 hE
   go_wp2
   go_ret2
   refine ⟨_,rfl,o2.set_u64 f3 _,?_,(Out.of_below bw gl).trans (Out.setCell w2 _ (Nat.le_refl _) (by decide))⟩
   rw [←HN.out]
   exact hx
 · have hL:=hE.resolve_left h0
   subst hL
   clear hE
   go_wp2
   go_ret2
   exact ⟨_,rfl,.inl ⟨none,rfl,rfl⟩,hc',Out.of_below bw gl⟩
set_option maxRecDepth 20000 in
set_option maxHeartbeats 2000000 in
theorem cOpen (gc n:Nat) (K N X:Nat→Nat) (hN:∀ j,N j<256) (mv tv:Value) (L:Nat) (Z:Nat→Nat) (E:Int) (hE:E=0∨L=0) (hn:n+1<9223372036854775808) (w:World) (h:CCtx w gc K N X n) (ha:∀ kv nv W,Below w.heap.size w W→BytesIn W kv 16 K→BytesIn W nv 12 (ncN N n)→AnsC 47 #[kv,nv,mv,tv] W L Z E) :
 Calls Tryz.prog 22 #[.pointer (some ⟨gc,0,none⟩),mv,tv] w fun e w'=>∃ s,e = .returned (.tuple #[s,.int .i64 E])∧BytesIn w' s L Z∧CCtx w' gc K N X (if E=0 then n+1 else n)∧Out gc 3 1 w w':=by
 have cx:=cnextOpen gc n K N X hN mv tv L Z E hE hn w h ha
 generalize (if E=0 then n+1 else n)=q at cx ⊢
 clear h ha
 go_enter Tryz.func22,Tryz.ntmps22
 go_wp2_with (go_at_call 45;refine cx.mono ?_;clear cx;rintro e w1 ⟨s1,rfl,o1,c1,u1⟩)
 go_ret2
 exact ⟨_,rfl,o1,c1,u1⟩
end Go.Proofs.YtcgkajlehdgpoaaGreatDoor
