/- What the proof stands on: G9M, G9Str, G9RO, G9Num, G9Aes, G9Kn, G9Ans, G9LP, G9LS, Kit, G9Op. -/
import Derived.Test.YtalgabgofpmebaaA8Op3M
import Derived.Test.YtalgabgofpmebaaA8OpsM
import Derived.Test.YtalgabgofpmebaaA8RKM
import Derived.Test.YtalgabgofpmebaaBaseM
import Derived.Test.YtalgabgofpmebaaG9JM
import Derived.ChangeOld
import Derived.ChangeSlices
import Derived.Deep.DeepHandedRow
import Derived.Lib.LaidTab
import Derived.Lib.SmallJoins
import Derived.OpenShut
import Derived.ProofKit
import Derived.SizedLaws
import Derived.WalkKit
namespace Go.Proofs.Ytalgabgofpmebaa
open Go.RowKit
set_option maxRecDepth 20000 in
set_option maxHeartbeats 2000000 in
theorem open_bad (v u m t:Value) (a b ml n:Nat) (ks nn M X:Nat→Nat) (w:World) (hv:BytesIn w v a ks) (hu:BytesIn w u b nn) (hm:BytesIn w m ml M) (ht:BytesIn w t n X) (h:¬(a=16∧b=12)) :
 Calls Try.prog 20 #[v,u,m,t] w fun e w'=>e = .returned (.tuple #[.slice none 0 0,.int .i64 1])∧Below w.heap.size w w':=by
 have c1:=lockOf_bad v u a b ks nn w hv hu h
 have hz:=zeroL
 have hth:=fun W=>lock_there W (fun _=>0)
 have hi2:=infoLA (fun _=>0)
 have ho:=oneU 32 (fun _=>0)
 obtain ⟨xv,cv,rfl,-,-,-⟩:=hv.src
 obtain ⟨xu,cu,rfl,-,-,-⟩:=hu.src
 obtain ⟨xm,cm,rfl,-,-,-⟩:=hm.src
 obtain ⟨xt,ct,rfl,-,-,-⟩:=ht.src
 clear hv hu hm ht h
 go_enter Try.func20,Try.ntmps20
 go_wp2_with (first
  | (go_at_call 30;refine c1.mono ?_;clear c1;rintro e w1 ⟨rfl,b1⟩;have hth1:=hth w1;clear hth)
  | (with_reducible (refine id (?_:wpList _ _ _ _ _ _));refine wpList_store_mid rfl 54 _ _ rfl w1.heap.size 0 (ints .u8 32 (fun _=>0)).toArray rfl rfl hth1 hi2 ho ?_;clear hth1))
 go_ret2
 exact ⟨rfl,below_next b1 (lock_var w1 _ _ rfl).2⟩
set_option maxRecDepth 20000 in
set_option maxHeartbeats 2000000 in
theorem open_size (v u m t:Value) (ml n:Nat) (ks nn M X:Nat→Nat) (w:World) (hv:BytesIn w v 16 ks) (hu:BytesIn w u 12 nn) (hm:BytesIn w m ml M) (ht:BytesIn w t n X) (h:¬(ml≤65536∧n≤65552)) :
 Calls Try.prog 20 #[v,u,m,t] w fun e w'=>e = .returned (.tuple #[.slice none 0 0,.int .i64 6])∧Below w.heap.size w w':=by
 have c1:=lockOf_good v u ks nn w hv hu
 unfold lkV at c1
 have hz:=zeroL
 have hth:=fun W=>lock_there W (lkN ks nn)
 have hi2:=infoLA (lkN ks nn)
 have ho:=oneU 32 (lkN ks nn)
 generalize lkN ks nn=L at *
 obtain ⟨xv,cv,rfl,-,-,-⟩:=hv.src
 obtain ⟨xu,cu,rfl,-,-,-⟩:=hu.src
 obtain ⟨xm,cm,rfl,-,-,-⟩:=hm.src
 obtain ⟨xt,ct,rfl,-,-,-⟩:=ht.src
 clear hv hu hm ht
 have hcase:((65536:Int)<(ml:Int))∨(¬(65536:Int)<(ml:Int)∧(65552:Int)<(n:Int)):=by omega
 clear h
 rcases hcase with h1 | ⟨h1,h2⟩
 all_goals
  go_enter Try.func20,Try.ntmps20
  go_wp2_with (first
   | (go_at_call 30;refine c1.mono ?_;clear c1;rintro e w1 ⟨rfl,b1⟩;have hth1:=hth w1;clear hth)
   | (with_reducible (refine id (?_:wpList _ _ _ _ _ _));refine wpList_store_mid rfl 54 _ _ rfl w1.heap.size 0 (ints .u8 32 L).toArray rfl rfl hth1 hi2 ho ?_;clear hth1))
  go_ret2
  exact ⟨rfl,below_next b1 (lock_var w1 _ _ rfl).2⟩
set_option maxRecDepth 20000 in
set_option maxHeartbeats 2000000 in
theorem open_short (v u m t:Value) (ml n:Nat) (ks nn M X:Nat→Nat) (w:World) (hv:BytesIn w v 16 ks) (hu:BytesIn w u 12 nn) (hm:BytesIn w m ml M) (ht:BytesIn w t n X) (hml:ml≤65536) (hn:n<16) :
 Calls Try.prog 20 #[v,u,m,t] w fun e w'=>e = .returned (.tuple #[.slice none 0 0,.int .i64 32])∧Below w.heap.size w w':=by
 have c1:=lockOf_good v u ks nn w hv hu
 unfold lkV at c1
 have hz:=zeroL
 have hth:=fun W=>lock_there W (lkN ks nn)
 have hi2:=infoLA (lkN ks nn)
 have ho:=oneU 32 (lkN ks nn)
 generalize lkN ks nn=L at *
 obtain ⟨xv,cv,rfl,-,-,-⟩:=hv.src
 obtain ⟨xu,cu,rfl,-,-,-⟩:=hu.src
 obtain ⟨xm,cm,rfl,-,-,-⟩:=hm.src
 obtain ⟨xt,ct,rfl,-,-,-⟩:=ht.src
 clear hv hu hm ht
 have h1:¬(65536:Int)<(ml:Int):=by omega
 have h2:¬(65552:Int)<(n:Int):=by omega
 have h3:(n:Int)<16:=by omega
 go_enter Try.func20,Try.ntmps20
 go_wp2_with (first
  | (go_at_call 30;refine c1.mono ?_;clear c1;rintro e w1 ⟨rfl,b1⟩;have hth1:=hth w1;clear hth)
  | (with_reducible (refine id (?_:wpList _ _ _ _ _ _));refine wpList_store_mid rfl 54 _ _ rfl w1.heap.size 0 (ints .u8 32 L).toArray rfl rfl hth1 hi2 ho ?_;clear hth1))
 go_ret2
 exact ⟨rfl,below_next b1 (lock_var w1 _ _ rfl).2⟩
set_option maxRecDepth 20000 in
set_option maxHeartbeats 4000000 in
theorem open_long (v u m t:Value) (ml k:Nat) (ks nn M X:Nat→Nat) (hml:ml≤65536) (hk:k≤65536) (hks:∀ j,ks j<256) (hnn:∀ j,nn j<256) (hM:∀ j,M j<256) (hX:∀ j,X j<256) (w:World) (hv:BytesIn w v 16 ks) (hu:BytesIn w u 12 nn) (hm:BytesIn w m ml M) (ht:BytesIn w t (k+16) X) :
 Calls Try.prog 20 #[v,u,m,t] w fun e w'=>(S16 (tgN ks nn ml M k X) (fun j=>X (k+j))→∃ s,e = .returned (.tuple #[s,.int .i64 0])∧Own w.heap.size w' s k (trN ks nn X))∧(¬S16 (tgN ks nn ml M k X) (fun j=>X (k+j))→e = .returned (.tuple #[.slice none 0 0,.int .i64 32]))∧Below w.heap.size w w':=by
 obtain ⟨bb,ob,ct,rfl,hbb,hct,hcell⟩:=ht.resolve_left (fun ⟨_,_,h⟩=>by omega)
 have hd:BytesIn w (.slice (some ⟨bb,ob,none⟩) k ct) k X := .inr ⟨bb,ob,ct,rfl,hbb,by omega,fun j hj=>hcell j (by omega)⟩
 have hg:BytesIn w (.slice (some ⟨bb,ob+k,none⟩) 16 (ct - k)) 16 (fun j=>X (k+j)) := .inr ⟨bb,ob+k,ct - k,rfl,hbb,by omega,fun j hj=>by
  have:=hcell (k+j) (by omega)
  rwa [←Nat.add_assoc] at this⟩
 have c1:=lockOf_good v u ks nn w hv hu
 have c2:=fun W h=>blockOf_any _ 16 _ (Nat.le_refl _) (fun j=>hX _) W (hg.keep h)
 rw [padN_16] at c2
 have c3:=fun W h=>tag_any ks nn M X ml k (by omega) (by omega) hks hnn hM hX m _ W (hm.keep h) (hd.keep h)
 have c4:=fun W=>gsame_any (toV (tgN ks nn ml M k X)) (toV (fun j=>X (k+j))) W
 have c5:=fun W h=>crossed_any ks nn X k (by omega) hks hnn hX _ W (hd.keep h)
 have hsame:S16 (tgN ks nn ml M k X) (fun j=>X (k+j))↔toV (tgN ks nn ml M k X)=toV (fun j=>X (k+j)):=⟨toV_S,toV_inj (tgN_B hks hnn ml k) (fun j _=>hX _)⟩
 obtain ⟨T,hT⟩:∃ T,T=decide (toV (tgN ks nn ml M k X)=toV (fun j=>X (k+j))):=⟨_,rfl⟩
 rw [←hT] at c4
 have hTt:S16 (tgN ks nn ml M k X) (fun j=>X (k+j))↔T=true:=by rw [hsame,hT,decide_eq_true_iff]
 rw [hTt]
 clear hsame hT hTt
 unfold blV at *
 generalize wd (toV (tgN ks nn ml M k X)) 0=g0 at *
 generalize wd (toV (tgN ks nn ml M k X)) 64=g1 at *
 generalize wd (toV (fun j=>X (k+j))) 0=t0 at *
 generalize wd (toV (fun j=>X (k+j))) 64=t1 at *
 generalize trN ks nn X=Tr at *
 unfold lkV at *
 have hz:=zeroL
 have hth:=fun W=>lock_there W (lkN ks nn)
 have hi1:=infoL (lkN ks nn)
 have hi2:=infoLA (lkN ks nn)
 have ho:=oneU 32 (lkN ks nn)
 generalize lkN ks nn=L at *
 obtain ⟨xv,cv,rfl,-,-,-⟩:=hv.src
 obtain ⟨xu,cu,rfl,-,-,-⟩:=hu.src
 obtain ⟨xm,cm,rfl,-,-,-⟩:=hm.src
 obtain ⟨n,hn⟩:∃ n,n=k+16:=⟨_,rfl⟩
 rw [←hn]
 have ha':¬(65536:Int)<(ml:Int):=by omega
 have hb':¬(65552:Int)<(n:Int):=by omega
 have hb2':¬(n:Int)<16:=by omega
 have hc':(n:Int) - 16=(k:Int):=by omega
 have hd':IntKind.i64.wrap ((n:Int) - 16)=(k:Int):=by simp only [IntKind.wrap_i64];omega
 have i1:(0:Int)≤(k:Int)∧(k:Int)≤(n:Int):=by omega
 have i2:(k:Int)≤(ct:Int):=by omega
 have i3:n - k=16:=by omega
 have i5:(n:Int)≤(ct:Int):=by omega
 have i6:(n:Int) - (k:Int)=16:=by omega
 have i7:¬ct=k:=by omega
 have i8:IntKind.i64.wrap (k:Int)=(k:Int):=by simp only [IntKind.wrap_i64];omega
 clear hv hu hm ht hks hnn hM hX hd hg hcell hn hct
 go_enter Try.func20,Try.ntmps20
 go_upto_region 8 with (first
  | (go_at_call 30;refine c1.mono ?_;clear c1;rintro e w1 ⟨rfl,b1⟩;(have hth1:=hth w1);(obtain ⟨V,hV⟩:∃ V,V=(w1.alloc (.cells (zb 32) 54)).setCells w1.heap.size 0 (ints .u8 32 L):=⟨_,rfl⟩);(obtain ⟨rL,bV⟩:=lock_var w1 L V hV);(have HV:=Hid.mk' hV);(replace b1:=below_next b1 bV);clear hth hV bV)
  | (with_reducible (refine id (?_:wpList _ _ _ _ _ _));refine wpList_store_mid rfl 54 _ _ rfl w1.heap.size 0 (ints .u8 32 L).toArray rfl rfl hth1 hi2 ho ?_;rw [List.toList_toArray,←HV.out];clear hth1 HV))
 have hdr:Below V.heap.size V V.drew:=(Below.refl _ _).drew
 replace rL:=rL.still hdr
 replace b1:=below_next b1 hdr
 refine wp_last 13 (S:=fun u=>Below V.drew.heap.size V.drew u) (by kernel_rfl) (by kernel_rfl) (by kernel_rfl) (by kernel_rfl) (Below.refl _ _) (fun hS => ?_)
 generalize V.drew=V2 at *
 refine tg 0 hS ?_
 (try simp only [pS])
 refine tg 1 hS ?_
 (try simp only [pS])
 refine tg 2 hS ?_
 (try simp only [pS])
 refine tg 3 hS ?_
 (try simp only [pS])
 refine tg 4 hS ?_
 (try simp only [pS])
 refine tg 5 hS ?_
 (try simp only [pS])
 refine tg 6 hS ?_
 (try simp only [pS])
 refine tg 7 hS ?_
 (try simp only [pS])
 refine tg 8 hS ?_
 (try simp only [pS])
 refine tg 9 hS ?_
 (try simp only [pS])
 refine wpAnyH_ready (rs:=[10,11]) (by kernel_rfl) (by simp) (cR (c2 V2 b1) ?_ (gR (fun g=>pA g 0) (b2 0 0) 43 (fun u hu=>hu) ?_ AllReadyH.nil))
 · rintro e V3 ⟨rfl,hb3⟩
   refine ⟨_,rfl,hb3,?_⟩
   (try simp only [pS])
   refine wpAnyH_ready (rs:=[11]) (by kernel_rfl) (by simp) (gR (fun g=>pA g 0) (b2 0 0) 43 (fun u hu=>below_next hb3 hu) ?_ AllReadyH.nil)
   intro V4 g hg hb4 rG
   have hb3a:=hb3
   replace hb3:=below_next hb3 hb4
   (try simp only [pS])
   have hgl:V2.heap.size≤g:=Nat.le_trans (Nat.le_trans (Nat.le_refl _) hb3a.size) hg
   refine tg 12 hb3 ?_
   (try simp only [pS])
   refine wpAnyH_done (by kernel_rfl) ?_ _
   refine lastRow 13 43 13 44 (b2 t0 t1) rG rfl (info2a t0 t1) (one2 t0 t1) (fun rG' => ?_)
   refine NoPanic.normal ?_
   dsimp only [Act.put]
   have hwg:w1.heap.size≠g:=Nat.ne_of_lt (Nat.lt_of_lt_of_le rL.lt hgl)
   have rL5:=(rL.still hb3).far g 0 (b2 t0 t1) (.inl hwg)
   have b5:=below_setCells (Nat.le_trans b1.size hgl) (b2 t0 t1) 0 _ (below_next b1 hb3)
   generalize V4.setCells g 0 (b2 t0 t1)=V5 at *
   clear rG hb3 hS c2
   go_upto_region 9 with (fail)
   have hdr5:Below V5.heap.size V5 V5.drew:=(Below.refl _ _).drew
   replace rL5:=rL5.still hdr5
   replace rG':=rG'.still hdr5
   replace b5:=below_next b5 hdr5
   refine wp_region_noPanic ?_
   refine wp_region_held_drew (S:=fun u=>Below V5.drew.heap.size V5.drew u) (by kernel_rfl) (Below.refl _ _) (fun hS => ?_)
   generalize V5.drew=V6 at *
   refine tlS 0 (fun u hu=>rL5.still hu) hS 54 Try.underlying54 hi1 ?_
   (try simp only [pS])
   refine tg 1 hS ?_
   (try simp only [pS])
   refine tg 2 hS ?_
   (try simp only [pS])
   refine tlS 4 (fun u hu=>rG'.still hu) hS 43 Try.underlying43 info2 ?_
   (try simp only [pS])
   refine cl 3 (c3 V6 b5) ?_
   rintro e V7 ⟨rfl,hb7⟩
   refine ⟨_,rfl,hb7,?_⟩
   (try simp only [pS])
   refine cl 5 (c4 V7) ?_
   rintro e V8 ⟨rfl,hb8⟩
   replace hb7:=below_next hb7 hb8
   refine ⟨_,rfl,hb7,?_⟩
   (try simp only [pS])
   refine tg 6 hb7 ?_
   (try simp only [pS])
   refine wpAnyH_done (by kernel_rfl) ?_ _
   refine NoPanic.normal ?_
   have rL8:=rL5.still hb7
   have b8:=below_next b5 hb7
   have rLr:=rL8.range
   have c5':=c5 V8 b8
   clear c5 c3 c4 rL5 rG' hb7 hb8 hS b5
   cases T with
   | false =>
    go_wp2
    go_ret2
    exact ⟨(fun h=>Bool.noConfusion h),fun _=>rfl,b8⟩
   | true =>
    go_wp2_with (first
     | (refine wpList_load_mid rfl 54 _ rfl w1.heap.size 0 rfl (ints .u8 32 L) _ rLr Try.underlying54 rfl hi1 ?_)
     | (go_at_call 31;refine c5'.mono ?_;clear c5';rintro e w9 ⟨gh,rfl,own9,b9⟩))
    go_ret2
    exact ⟨⟨_,rfl,own_down own9 b8.size⟩,below_next b8 b9⟩
 · intro V3 g hg hb3 rG
   (try simp only [pS])
   refine cl 10 (c2 V3 (below_next b1 hb3)) ?_
   rintro e V4 ⟨rfl,hb4⟩
   replace rG:=rG.still hb4
   replace hb3:=below_next hb3 hb4
   refine ⟨_,rfl,hb3,?_⟩
   (try simp only [pS])
   have hgl:V2.heap.size≤g:=hg
   refine tg 12 hb3 ?_
   (try simp only [pS])
   refine wpAnyH_done (by kernel_rfl) ?_ _
   refine lastRow 13 43 13 44 (b2 t0 t1) rG rfl (info2a t0 t1) (one2 t0 t1) (fun rG' => ?_)
   refine NoPanic.normal ?_
   dsimp only [Act.put]
   have hwg:w1.heap.size≠g:=Nat.ne_of_lt (Nat.lt_of_lt_of_le rL.lt hgl)
   have rL5:=(rL.still hb3).far g 0 (b2 t0 t1) (.inl hwg)
   have b5:=below_setCells (Nat.le_trans b1.size hgl) (b2 t0 t1) 0 _ (below_next b1 hb3)
   generalize V4.setCells g 0 (b2 t0 t1)=V5 at *
   clear rG hb3 hS c2
   go_upto_region 9 with (fail)
   have hdr5:Below V5.heap.size V5 V5.drew:=(Below.refl _ _).drew
   replace rL5:=rL5.still hdr5
   replace rG':=rG'.still hdr5
   replace b5:=below_next b5 hdr5
   refine wp_region_noPanic ?_
   refine wp_region_held_drew (S:=fun u=>Below V5.drew.heap.size V5.drew u) (by kernel_rfl) (Below.refl _ _) (fun hS => ?_)
   generalize V5.drew=V6 at *
   refine tlS 0 (fun u hu=>rL5.still hu) hS 54 Try.underlying54 hi1 ?_
   (try simp only [pS])
   refine tg 1 hS ?_
   (try simp only [pS])
   refine tg 2 hS ?_
   (try simp only [pS])
   refine tlS 4 (fun u hu=>rG'.still hu) hS 43 Try.underlying43 info2 ?_
   (try simp only [pS])
   refine cl 3 (c3 V6 b5) ?_
   rintro e V7 ⟨rfl,hb7⟩
   refine ⟨_,rfl,hb7,?_⟩
   (try simp only [pS])
   refine cl 5 (c4 V7) ?_
   rintro e V8 ⟨rfl,hb8⟩
   replace hb7:=below_next hb7 hb8
   refine ⟨_,rfl,hb7,?_⟩
   (try simp only [pS])
   refine tg 6 hb7 ?_
   (try simp only [pS])
   refine wpAnyH_done (by kernel_rfl) ?_ _
   refine NoPanic.normal ?_
   have rL8:=rL5.still hb7
   have b8:=below_next b5 hb7
   have rLr:=rL8.range
   have c5':=c5 V8 b8
   clear c5 c3 c4 rL5 rG' hb7 hb8 hS b5
   cases T with
   | false =>
    go_wp2
    go_ret2
    exact ⟨(fun h=>Bool.noConfusion h),fun _=>rfl,b8⟩
   | true =>
    go_wp2_with (first
     | (refine wpList_load_mid rfl 54 _ rfl w1.heap.size 0 rfl (ints .u8 32 L) _ rLr Try.underlying54 rfl hi1 ?_)
     | (go_at_call 31;refine c5'.mono ?_;clear c5';rintro e w9 ⟨gh,rfl,own9,b9⟩))
    go_ret2
    exact ⟨⟨_,rfl,own_down own9 b8.size⟩,below_next b8 b9⟩
end Go.Proofs.Ytalgabgofpmebaa
namespace Go.Proofs.Ytalgabgofpmebaa
open Go.RowKit
theorem strB16g {X Y:Nat→Nat} (hX:B16 X) (hY:B16 Y) (h:strB 16 X=strB 16 Y):S16 X Y:=fun j hj=>by
 have e:∀ Z:Nat→Nat,B16 Z→strB 16 Z=strB 16 (fun j=>Z j%256):=fun Z hZ=>strB_congr (fun j hj=>(Nat.mod_eq_of_lt (hZ j hj)).symm)
 rw [e X hX,e Y hY,strB_eq (fun _=>Nat.mod_lt _ (by decide)) (fun _=>Nat.mod_lt _ (by decide))] at h
 have h2:=h.2 j hj
 rwa [Nat.mod_eq_of_lt (hX j hj),Nat.mod_eq_of_lt (hY j hj)] at h2
theorem conv16g {W:World} {g:Nat} {X:Nat→Nat} (h:RowAt .u8 W g 0 16 X) (hX:B16 X) {W':World} (hb:Below W.heap.size W W') (c:Nat):(convert 22 9 (.slice (some ⟨g,0,none⟩) 16 c)).run Try.prog W' = .ok (.string (strB 16 X)) W':=by
 have e:strB 16 X=strB 16 (fun j=>X j%256):=strB_congr (fun j hj=>(Nat.mod_eq_of_lt (hX j hj)).symm)
 rw [e]
 exact conv_bytes W' g 0 16 c (fun j=>X j%256) (fun j=>Nat.mod_lt _ (by decide)) (fun j hj=>by
  rw [Nat.mod_eq_of_lt (hX j hj)]
  exact ((h.still hb) j hj).1)
end Go.Proofs.Ytalgabgofpmebaa
namespace Go.Proofs.Ytalgabgofpmebaa
open Go.RowKit
set_option maxHeartbeats 2000000 in
theorem rSeal_bad (v u m t:Value) (a b ml n:Nat) (ks nn M X:Nat→Nat) (w:World) (hv:BytesIn w v a ks) (hu:BytesIn w u b nn) (hm:BytesIn w m ml M) (ht:BytesIn w t n X) (h:¬(a=16∧b=12)) :
 Calls Try.prog 19 #[v,u,m,t] w fun e w'=>e = .returned (.tuple #[.slice none 0 0,.int .i64 1])∧w'=w:=by
 obtain ⟨xv,cv,rfl,-,-,-⟩:=hv.src
 obtain ⟨xu,cu,rfl,-,-,-⟩:=hu.src
 obtain ⟨xm,cm,rfl,-,-,-⟩:=hm.src
 obtain ⟨xt,ct,rfl,-,-,-⟩:=ht.src
 clear hv hu hm ht
 by_cases ha:a=16
 · subst ha
   have hb':¬(b:Int)=12:=by omega
   clear h
   go_enter Try.func19,Try.ntmps19
   go_wp2
   go_ret2
   exact ⟨rfl,rfl⟩
 · have ha':¬(a:Int)=16:=by omega
   clear h ha
   go_enter Try.func19,Try.ntmps19
   go_wp2
   go_ret2
   exact ⟨rfl,rfl⟩
set_option maxHeartbeats 2000000 in
theorem rSeal_size (v u m t:Value) (ml n:Nat) (ks nn M X:Nat→Nat) (w:World) (hv:BytesIn w v 16 ks) (hu:BytesIn w u 12 nn) (hm:BytesIn w m ml M) (ht:BytesIn w t n X) (h:¬(ml≤65536∧n≤65536)) :
 Calls Try.prog 19 #[v,u,m,t] w fun e w'=>e = .returned (.tuple #[.slice none 0 0,.int .i64 6])∧w'=w:=by
 obtain ⟨xv,cv,rfl,-,-,-⟩:=hv.src
 obtain ⟨xu,cu,rfl,-,-,-⟩:=hu.src
 obtain ⟨xm,cm,rfl,-,-,-⟩:=hm.src
 obtain ⟨xt,ct,rfl,-,-,-⟩:=ht.src
 clear hv hu hm ht
 by_cases ha:ml≤65536
 · have ha':¬(65536:Int)<(ml:Int):=by omega
   have hb':(65536:Int)<(n:Int):=by omega
   clear h ha
   go_enter Try.func19,Try.ntmps19
   go_wp2
   go_ret2
   exact ⟨rfl,rfl⟩
 · have ha':(65536:Int)<(ml:Int):=by omega
   clear h ha
   go_enter Try.func19,Try.ntmps19
   go_wp2
   go_ret2
   exact ⟨rfl,rfl⟩
set_option maxHeartbeats 2000000 in
theorem rOpen_bad (v u m t:Value) (a b ml n:Nat) (ks nn M X:Nat→Nat) (w:World) (hv:BytesIn w v a ks) (hu:BytesIn w u b nn) (hm:BytesIn w m ml M) (ht:BytesIn w t n X) (h:¬(a=16∧b=12)) :
 Calls Try.prog 21 #[v,u,m,t] w fun e w'=>e = .returned (.tuple #[.slice none 0 0,.int .i64 1])∧w'=w:=by
 obtain ⟨xv,cv,rfl,-,-,-⟩:=hv.src
 obtain ⟨xu,cu,rfl,-,-,-⟩:=hu.src
 obtain ⟨xm,cm,rfl,-,-,-⟩:=hm.src
 obtain ⟨xt,ct,rfl,-,-,-⟩:=ht.src
 clear hv hu hm ht
 by_cases ha:a=16
 · subst ha
   have hb':¬(b:Int)=12:=by omega
   clear h
   go_enter Try.func21,Try.ntmps21
   go_wp2
   go_ret2
   exact ⟨rfl,rfl⟩
 · have ha':¬(a:Int)=16:=by omega
   clear h ha
   go_enter Try.func21,Try.ntmps21
   go_wp2
   go_ret2
   exact ⟨rfl,rfl⟩
set_option maxHeartbeats 2000000 in
theorem rOpen_size (v u m t:Value) (ml n:Nat) (ks nn M X:Nat→Nat) (w:World) (hv:BytesIn w v 16 ks) (hu:BytesIn w u 12 nn) (hm:BytesIn w m ml M) (ht:BytesIn w t n X) (h:¬(ml≤65536∧n≤65552)) :
 Calls Try.prog 21 #[v,u,m,t] w fun e w'=>e = .returned (.tuple #[.slice none 0 0,.int .i64 6])∧w'=w:=by
 obtain ⟨xv,cv,rfl,-,-,-⟩:=hv.src
 obtain ⟨xu,cu,rfl,-,-,-⟩:=hu.src
 obtain ⟨xm,cm,rfl,-,-,-⟩:=hm.src
 obtain ⟨xt,ct,rfl,-,-,-⟩:=ht.src
 clear hv hu hm ht
 by_cases ha:ml≤65536
 · have ha':¬(65536:Int)<(ml:Int):=by omega
   have hb':(65552:Int)<(n:Int):=by omega
   clear h ha
   go_enter Try.func21,Try.ntmps21
   go_wp2
   go_ret2
   exact ⟨rfl,rfl⟩
 · have ha':(65536:Int)<(ml:Int):=by omega
   clear h ha
   go_enter Try.func21,Try.ntmps21
   go_wp2
   go_ret2
   exact ⟨rfl,rfl⟩
set_option maxHeartbeats 2000000 in
theorem rOpen_short (v u m t:Value) (ml n:Nat) (ks nn M X:Nat→Nat) (w:World) (hv:BytesIn w v 16 ks) (hu:BytesIn w u 12 nn) (hm:BytesIn w m ml M) (ht:BytesIn w t n X) (hml:ml≤65536) (hn:n<16) :
 Calls Try.prog 21 #[v,u,m,t] w fun e w'=>e = .returned (.tuple #[.slice none 0 0,.int .i64 32])∧Below w.heap.size w w':=by
 obtain ⟨xv,cv,rfl,-,-,-⟩:=hv.src
 obtain ⟨xu,cu,rfl,-,-,-⟩:=hu.src
 obtain ⟨xm,cm,rfl,-,-,-⟩:=hm.src
 obtain ⟨xt,ct,rfl,-,-,-⟩:=ht.src
 have ha':¬(65536:Int)<(ml:Int):=by omega
 have hb':¬(65552:Int)<(n:Int):=by omega
 have hc':(n:Int) - 16<0:=by omega
 have hd':IntKind.i64.wrap ((n:Int) - 16)=(n:Int) - 16:=by simp only [IntKind.wrap_i64];omega
 have b0:Below w.heap.size w w.drew:=(Below.refl _ _).drew
 clear hv hu hm ht
 go_enter Try.func21,Try.ntmps21
 go_wp2
 go_region
 go_wp2
 go_ret2
 exact ⟨rfl,b0⟩
theorem own_downR {base base':Nat} {w:World} {v:Value} {n:Nat} {X:Nat→Nat} (h:Own base w v n X) (hb:base'≤base):Own base' w v n X :=
 ⟨h.1,h.2.imp id fun ⟨g,cap,cur,e,h1,h2⟩=>⟨g,cap,cur,e,Nat.le_trans hb h1,h2⟩⟩
set_option maxRecDepth 20000 in
set_option maxHeartbeats 8000000 in
theorem rOpen_long (v u m t:Value) (ml k:Nat) (ks nn M X:Nat→Nat) (hml:ml≤65536) (hk:k≤65536) (hks:∀ j,ks j<256) (hnn:∀ j,nn j<256) (hM:∀ j,M j<256) (hX:∀ j,X j<256) (w:World) (hv:BytesIn w v 16 ks) (hu:BytesIn w u 12 nn) (hm:BytesIn w m ml M) (ht:BytesIn w t (k+16) X) :
 Calls Try.prog 21 #[v,u,m,t] w fun e w'=>(S16 (tgN ks nn ml M k X) (fun j=>X (k+j))→∃ s,e = .returned (.tuple #[s,.int .i64 0])∧Own w.heap.size w' s k (trN ks nn X))∧(¬S16 (tgN ks nn ml M k X) (fun j=>X (k+j))→e = .returned (.tuple #[.slice none 0 0,.int .i64 32]))∧Below w.heap.size w w':=by
 obtain ⟨bb,ob,ct,rfl,hbb,hct,hcell⟩:=ht.resolve_left (fun ⟨_,_,h⟩=>by omega)
 have hd:BytesIn w (.slice (some ⟨bb,ob,none⟩) k ct) k X := .inr ⟨bb,ob,ct,rfl,hbb,by omega,fun j hj=>hcell j (by omega)⟩
 have c2:=fun W hb=>rtag_any v u m (.slice (some ⟨bb,ob,none⟩) k ct) ml k ks nn M X (by omega) (by omega) hks hnn hM hX W (hv.keep hb) (hu.keep hb) (hm.keep hb) (hd.keep hb)
 have c3:=fun W hb=>turned_r v u (.slice (some ⟨bb,ob,none⟩) k ct) k ks nn X (by omega) hks hnn hX W (hv.keep hb) (hu.keep hb) (hd.keep hb)
 have hTB:B16 (tgN ks nn ml M k X):=fun j hj=>xor_byte (ctB_B hks hnn 1 j hj) (hsN_lt _ _ _ j)
 have cv2:∀ W,Below w.heap.size w W→∀ c,(convert 22 9 (.slice (some ⟨bb,ob+k,none⟩) 16 c)).run Try.prog W = .ok (.string (strB 16 (fun j=>X (k+j)))) W:=fun W hb c=>conv_bytes W bb (ob+k) 16 c _ (fun j=>hX _) (fun j hj=>by
  have:=(hb.cell (p:=⟨bb,ob+(k+j),none⟩) hbb).trans (hcell (k+j) (by omega))
  rwa [←Nat.add_assoc] at this)
 have hiff:S16 (tgN ks nn ml M k X) (fun j=>X (k+j))↔((strB 16 (tgN ks nn ml M k X)).toList == (strB 16 (fun j=>X (k+j))).toList)=true:=by
  refine ⟨fun h => ?_,fun h => ?_⟩
  · rw [strB_congr h];simp
  · exact strB16g hTB (fun _ _=>hX _) (WideShapes.bytes_inj (by simpa [ByteArray.toList_eq] using h))
 rw [hiff]
 have cv1:=fun W g (h:RowAt .u8 W g 0 16 (tgN ks nn ml M k X)) W' hb c=>conv16g h hTB (W':=W') hb c
 generalize tgN ks nn ml M k X=T at *
 generalize trN ks nn X=Tr at *
 obtain ⟨B,hB⟩:∃ B,B=((strB 16 T).toList == (strB 16 (fun j=>X (k+j))).toList):=⟨_,rfl⟩
 rw [←hB]
 have hB':=hB.symm
 generalize strB 16 T=S1 at *
 generalize strB 16 (fun j=>X (k+j))=S2 at *
 obtain ⟨xv,cv,rfl,-,-,-⟩:=hv.src
 obtain ⟨xu,cu,rfl,-,-,-⟩:=hu.src
 obtain ⟨xm,cm,rfl,-,-,-⟩:=hm.src
 obtain ⟨n,hn⟩:∃ n,n=k+16:=⟨_,rfl⟩
 rw [←hn]
 have ha':¬(65536:Int)<(ml:Int):=by omega
 have hb':¬(65552:Int)<(n:Int):=by omega
 have hc':(n:Int) - 16=(k:Int):=by omega
 have hd':IntKind.i64.wrap ((n:Int) - 16)=(k:Int):=by simp only [IntKind.wrap_i64];omega
 have i1:(0:Int)≤(k:Int)∧(k:Int)≤(n:Int):=by omega
 have i2:(k:Int)≤(ct:Int):=by omega
 have i3:n - k=16:=by omega
 have i5:(n:Int)≤(ct:Int):=by omega
 have i6:(n:Int) - (k:Int)=16:=by omega
 have i7:¬ct=k:=by omega
 have i8:decide ((k:Int)<0)=false:=decide_eq_false (by omega)
 have b0:Below w.heap.size w w.drew:=(Below.refl _ _).drew
 have c2':=c2 w.drew b0
 clear hv hu hm ht hks hnn hM hX hd hTB hcell c2 hn hct hB hiff
 go_enter Try.func21,Try.ntmps21
 go_upto_region 6 with (fail)
 refine wp_region_noPanic ?_
 refine wp_region_held_drew (S:=fun u=>Below w.drew.heap.size w.drew u) (by kernel_rfl) (Below.refl _ _) (fun hS => ?_)
 generalize w.drew=V at *
 refine tg 0 hS ?_
 (try simp only [pS])
 refine tg 1 hS ?_
 (try simp only [pS])
 refine tg 2 hS ?_
 (try simp only [pS])
 refine tg 3 hS ?_
 (try simp only [pS])
 refine tg 4 hS ?_
 (try simp only [pS])
 refine tg 5 hS ?_
 (try simp only [pS])
 refine tg 6 hS ?_
 (try simp only [pS])
 refine tg 7 hS ?_
 (try simp only [pS])
 refine tg 8 hS ?_
 (try simp only [pS])
 refine tg 11 hS ?_
 (try simp only [pS])
 refine tg 12 hS ?_
 (try simp only [pS])
 refine tg 13 hS ?_
 (try simp only [pS])
 refine tg 14 hS (v := .string S2) ?_ (hy:=fun u hu=>by
  have hq:=cv2 u (below_next b0 hu)
  go_simp)
 (try simp only [pS])
 refine cn 9 c2' ?_
 rintro e V2 ⟨s2,rfl,⟨g2,k2,hs2,hg2,hk2,r2⟩,hb2⟩
 subst hs2
 refine ⟨_,rfl,hb2,?_⟩
 have b2:=below_next b0 hb2
 have hS2:Below V2.heap.size V2 V2:=Below.refl _ _
 (try simp only [pS])
 refine tg 10 hS2 (v := .string S1) ?_ (hy:=fun u hu=>by
  have hq:=cv1 V2 g2 r2 u hu k2
  go_simp)
 (try simp only [pS])
 refine tg 15 hS2 (v := .bool (!B)) ?_
 (try simp only [pS])
 refine tg 16 hS2 (v := .bool (!B)) ?_
 (try simp only [pS])
 refine wpAnyH_done (by kernel_rfl) ?_ _
 refine NoPanic.normal ?_
 have c3':=c3 V2 b2
 clear c3 cv1 cv2 r2 hS hS2 hb2 hB'
 cases B with
 | false =>
  go_wp2
  go_ret2
  exact ⟨rfl,b2⟩
 | true =>
  go_wp2_with (go_at_call 33;refine c3'.mono ?_;clear c3';rintro e w9 ⟨s9,rfl,own9,b9⟩)
  go_ret2
  exact ⟨⟨_,rfl,own_downR own9 b2.size⟩,below_next b2 b9⟩
end Go.Proofs.Ytalgabgofpmebaa
namespace Go.Proofs.Ytalgabgofpmebaa
open Go.RowKit
theorem num9_any (x:Int) (w:World):Calls Try.prog 13 #[.int .i64 x] w fun e w'=>e = .returned (.int .i64 x)∧w'=w:=by
 go_enter Try.func13,Try.ntmps13
 go_wp2
 go_ret
 exact ⟨rfl,rfl⟩
end Go.Proofs.Ytalgabgofpmebaa
namespace Go.Proofs.Ytalgabgofpmebaa
open Go.RowKit
def k0L:List Nat:=[0,0,0,0,0,0,0,0,0,0,0,0,0,0,0,0,98,99,99,99,98,99,99,99,98,99,99,99,98,99,99,99,155,152,152,201,249,251,251,170,155,152,152,201,249,251,251,170,144,151,52,80,105,108,207,250,242,244,87,51,11,15,172,153,238,6,218,123,135,106,21,129,117,158,66,178,126,145,238,43,127,46,43,136,248,68,62,9,141,218,124,187,243,75,146,144,236,97,75,133,20,37,117,140,153,255,9,55,106,180,155,167,33,117,23,135,53,80,98,11,172,175,107,60,198,27,240,155,14,249,3,51,59,169,97,56,151,6,10,4,81,29,250,159,177,212,216,226,138,125,185,218,29,123,179,222,76,102,73,65,180,239,91,203,62,146,226,17,35,233,81,207,111,143,24,142]
def k0N (j:Nat):Nat:=k0L.getD j 0
def s0L:List Nat:=[0,0,0,0,0,0,0,0,0,0,0,0,0,0,0,1,30,31,33,62,1,0,0,0,1,0,0,0,1,0,0,0,218,234,234,153,117,86,239,81,88,93,195,21,90,218,36,75,107,120,64,75,68,221,91,251,137,115,23,228,120,135,219,170,20,71,112,136,49,23,38,231,31,3,241,64,146,108,39,163,48,221,102,216,232,254,86,127,35,221,233,210,104,84,147,4,222,216,197,211,220,57,47,229,84,30,4,241,188,21,162,105,38,184,247,169,232,26,72,30,120,21,53,10,27,34,38,25,68,36,6,182,217,81,56,157,64,77,99,196,149,251,52,133,131,247,93,208,136,243,141,226,47,131,137,25,89,53,127,54]
def s0N (r j:Nat):Nat:=s0L.getD (16*r+j) 0
set_option maxRecDepth 100000 in
theorem k0_ok:((List.range 16).all fun j=>k0N j == 0)=true∧((List.range 40).all fun n=>(List.range 4).all fun i=>kyT k0N (n+4) i == k0N (4*(n+4)+i))=true:=⟨by kernel_rfl,by kernel_rfl⟩
set_option maxRecDepth 100000 in
theorem s0_ok:((List.range 9).all fun r=>(List.range 16).all fun j=>addN k0N (r+1) (colN mT (rowN 1 (thrN boxN (s0N r)))) j == s0N (r+1) j)=true:=by kernel_rfl
theorem k0_all:∀ n,n≤40→∀ j,j<4*(n+4)→kyS (fun _=>0) n j=k0N j
 | 0,_,j,hj=>by
  have h:=all_below k0_ok.1 j (by omega)
  simp only [beq_iff_eq] at h
  exact h.symm
 | n+1,hn,j,hj=>by
  have ih:=k0_all n (by omega)
  show cat (4*(n+4)) (kyS (fun _=>0) n) (kyT (kyS (fun _=>0) n) (n+4)) j=k0N j
  unfold cat
  by_cases h:j<4*(n+4)
  · rw [if_pos h];exact ih j h
  · rw [if_neg h]
    have hc:=all_below (all_below k0_ok.2 n (by omega)) (j - 4*(n+4)) (by omega)
    simp only [beq_iff_eq] at hc
    rw [show 4*(n+4)+(j - 4*(n+4))=j by omega] at hc
    rw [←hc]
    generalize hi:j - 4*(n+4)=i at *
    unfold kyT
    rw [ih _ (by omega),ih _ (by omega),ih _ (by omega),ih (4*(n+4) - 4+i) (by omega)]
theorem ky0 (j:Nat) (hj:j<176):kyN (fun _=>0) j=k0N j:=k0_all 40 (Nat.le_refl _) j hj
theorem c1_ok:((List.range 16).all fun j=>(ctN (fun _=>0) 1 j ^^^ k0N (16*0+j)) == s0N 0 j)=true:=by kernel_rfl
theorem s0_all:∀ r,r≤9→S16 (blkS (kyN (fun _=>0)) (ctN (fun _=>0) 1) r) (s0N r)
 | 0,_=>fun j hj=>by
  have h:=all_below c1_ok j hj
  simp only [beq_iff_eq] at h
  show ctN (fun _=>0) 1 j ^^^ kyN (fun _=>0) (16*0+j)=s0N 0 j
  rw [ky0 _ (by omega)]
  exact h
 | r+1,hr=>fun j hj=>by
  have ih:=s0_all r (by omega)
  have h:=all_below (all_below s0_ok r (by omega)) j hj
  simp only [beq_iff_eq] at h
  show colN mT (rowN 1 (thrN boxN (blkS (kyN (fun _=>0)) (ctN (fun _=>0) 1) r))) j ^^^ kyN (fun _=>0) (16*(r+1)+j)=s0N (r+1) j
  rw [ky0 _ (by omega),←h]
  show _=colN mT (rowN 1 (thrN boxN (s0N r))) j ^^^ k0N (16*(r+1)+j)
  rw [colN_S (rowN_S (thrN_S ih boxN) 1) mT j hj]
theorem b0_all (j:Nat) (hj:j<16):ctB (fun _=>0) (fun _=>0) 1 j=addN k0N 10 (rowN 1 (thrN boxN (s0N 9))) j:=by
 show rowN 1 (thrN boxN (blkS (kyN (fun _=>0)) (ctN (fun _=>0) 1) 9)) j ^^^ kyN (fun _=>0) (16*10+j)=rowN 1 (thrN boxN (s0N 9)) j ^^^ k0N (16*10+j)
 rw [ky0 _ (by omega),rowN_S (thrN_S (s0_all 9 (Nat.le_refl _)) boxN) 1 j hj]
set_option maxRecDepth 100000 in
theorem c1_first:ctB (fun _=>0) (fun _=>0) 1 0=88∧ctB (fun _=>0) (fun _=>0) 1 1=226∧ctB (fun _=>0) (fun _=>0) 1 2=252∧ctB (fun _=>0) (fun _=>0) 1 3=206:=by
 rw [b0_all 0 (by decide),b0_all 1 (by decide),b0_all 2 (by decide),b0_all 3 (by decide)]
 exact ⟨by kernel_rfl,by kernel_rfl,by kernel_rfl,by kernel_rfl⟩
end Go.Proofs.Ytalgabgofpmebaa
namespace Go.Proofs.Ytalgabgofpmebaa
open Go.RowKit
abbrev z0:Nat→Nat:=fun _=>0
theorem hz0:∀ j,z0 j<256:=fun _=>(by decide:0<256)
theorem au0:((List.range 16).all fun j=>((0:Nat) ^^^ padN 16 (auN 0 z0 0 z0) (16*0+j)) == 0)=true:=by kernel_rfl
theorem zrow {W:World} {g n:Nat} (r:RW W g 0 (zb n).toList):BytesIn W (.slice (some ⟨g,0,none⟩) n n) n z0 := .inr ⟨g,0,n,rfl,r.lt,Nat.le_refl _,fun j hj=>by
 exact r.range j _ (by rw [Array.getElem?_toList];exact zb_at n j hj)⟩
theorem BytesIn.none0 (w:World) (X:Nat→Nat):BytesIn w (.slice none 0 0) 0 X := .inl ⟨none,rfl,rfl⟩
theorem tag0:tgN z0 z0 0 z0 0 z0 0=88∧tgN z0 z0 0 z0 0 z0 1=226∧tgN z0 z0 0 z0 0 z0 2=252∧tgN z0 z0 0 z0 0 z0 3=206:=by
 have e:∀ j,tgN z0 z0 0 z0 0 z0 j=ctB z0 z0 1 j:=fun j=>by
  have h0:hsN (h0N z0) (pad 0+pad 0+16) (auN 0 z0 0 z0) j=0:=by
   show tmN (fun j=>(0:Nat) ^^^ padN 16 (auN 0 z0 0 z0) (16*0+j)) (h0N z0) j=0
   have ez:toV (fun j=>(0:Nat) ^^^ padN 16 (auN 0 z0 0 z0) (16*0+j))=vZ:=by
    rw [←toV_zero]
    exact toV_S fun j hj=>by
     have h:=all_below au0 j hj
     simp only [beq_iff_eq] at h
     exact h
   unfold tmN
   rw [ez]
   show byV (gT (toV (h0N z0)) 128 vZ) j=0
   rw [gT_zero]
   apply Nat.eq_of_testBit_eq
   intro t
   unfold byV
   rw [byB_bit]
   simp
  unfold tgN
  rw [h0,Nat.xor_zero]
 rw [e,e,e,e]
 exact c1_first
theorem knows_seal (v u:Value) (w:World) (hv:BytesIn w v 16 z0) (hu:BytesIn w u 12 z0):Calls Try.prog 18 #[v,u,.slice none 0 0,.slice none 0 0] w fun e w'=>∃ s,e = .returned (.tuple #[s,.int .i64 0])∧Own w.heap.size w' s 16 (slN z0 z0 0 z0 0 z0)∧Below w.heap.size w w' :=
 seal_good v u _ _ 0 0 z0 z0 z0 z0 (by decide) (by decide) hz0 hz0 hz0 hz0 w hv hu (BytesIn.none0 _ _) (BytesIn.none0 _ _)
theorem knows_open (v u t:Value) (w:World) (hv:BytesIn w v 16 z0) (hu:BytesIn w u 12 z0) (ht:BytesIn w t 16 z0):Calls Try.prog 20 #[v,u,.slice none 0 0,t] w fun e w'=>e = .returned (.tuple #[.slice none 0 0,.int .i64 32])∧Below w.heap.size w w' :=
 (open_long v u _ t 0 0 z0 z0 z0 z0 (by decide) (by decide) hz0 hz0 hz0 hz0 w hv hu (BytesIn.none0 _ _) ht).mono fun _ _ ⟨_,h,hb⟩=>⟨h fun hs=>by
  have:=hs 0 (by decide)
  rw [tag0.1] at this
  exact absurd this (by decide),hb⟩
set_option maxRecDepth 20000 in
set_option maxHeartbeats 4000000 in
theorem knows9 (w:World):Calls Try.prog 15 #[] w fun e w'=>e = .returned (.bool true)∧Below w.heap.size w w':=by
 have hnum:=num9_any
 have hstr:∀ W g c X,RowAt .u8 W g 0 16 X→(∀ j,X j<256)→X 0=88→X 1=226→X 2=252→X 3=206→(convert 22 9 (.slice (some ⟨g,0,none⟩) 4 c)).run Try.prog W = .ok (.string { data:=#[88,226,252,206] }) W:=fun W g c X r hX e0 e1 e2 e3=>by
  rw [conv_bytes W g 0 4 c X hX (fun j hj=>(r j (by omega)).1)]
  congr 2
  unfold strB
  simp [List.range_succ,e0,e1,e2,e3]
 go_enter Try.func15,Try.ntmps15
 go_upto_region 1 with (fail)
 go_cut [1,2] from 5 (fun s1 s2 wc=>s2 = .int .i64 0∧Own w.heap.size wc s1 16 (slN z0 z0 0 z0 0 z0)∧Below w.heap.size w wc)
 case first =>
  refine wp_region_noPanic ?_
  refine wp_region_held_drew (S:=fun u=>Below w.drew.heap.size w.drew u) (by kernel_rfl) (Below.refl _ _) (fun hS => ?_)
  have bd:Below w.heap.size w w.drew:=(Below.refl _ _).drew
  generalize w.drew=V at *
  refine wpAnyH_ready (rs:=[0,1]) (by kernel_rfl) (by simp) (gR (fun g => .slice (some ⟨g,0,none⟩) 16 16) (zb 16).toList 5 (fun u hu=>below_next hS hu) ?_ (gR (fun g => .slice (some ⟨g,0,none⟩) 12 12) (zb 12).toList 5 (fun u hu=>below_next hS hu) ?_ AllReadyH.nil))
  · intro U0 g0 hg0 hu0 r0
    have b0:=below_next hS hu0
    (try simp only [pS])
    refine wpAnyH_ready (rs:=[1]) (by kernel_rfl) (by simp) (gR (fun g => .slice (some ⟨g,0,none⟩) 12 12) (zb 12).toList 5 (fun u hu=>below_next b0 hu) ?_ AllReadyH.nil)
    · intro U1 g1 hg1 hu1 r1
      replace r0:=r0.still hu1
      have b1:=below_next b0 hu1
      (try simp only [pS])
      refine cl 2 (knows_seal _ _ U1 (zrow r0) (zrow r1)) ?_
      rintro e U2 ⟨s,rfl,own,hb⟩
      refine ⟨_,rfl,below_next b1 hb,?_⟩
      (try simp only [pS])
      have b2:=below_next b1 hb
      refine tg 3 b2 ?_
      (try simp only [pS])
      refine tg 4 b2 ?_
      (try simp only [pS])
      refine tg 5 b2 ?_
      (try simp only [pS])
      refine tg 6 b2 ?_
      (try simp only [pS])
      refine tg 7 b2 ?_
      (try simp only [pS])
      refine wpAnyH_done (by kernel_rfl) ?_ _
      refine NoPanic.normal ?_
      go_wp2
      go_meet
      case rel=>exact ⟨rfl,own_down own (below_next bd b1).size,below_next bd b2⟩
  · intro U0 g1 hg0 hu0 r1
    have b0:=below_next hS hu0
    (try simp only [pS])
    refine wpAnyH_ready (rs:=[0]) (by kernel_rfl) (by simp) (gR (fun g => .slice (some ⟨g,0,none⟩) 16 16) (zb 16).toList 5 (fun u hu=>below_next b0 hu) ?_ AllReadyH.nil)
    · intro U1 g0 hg1 hu1 r0
      replace r1:=r1.still hu1
      have b1:=below_next b0 hu1
      (try simp only [pS])
      refine cl 2 (knows_seal _ _ U1 (zrow r0) (zrow r1)) ?_
      rintro e U2 ⟨s,rfl,own,hb⟩
      refine ⟨_,rfl,below_next b1 hb,?_⟩
      (try simp only [pS])
      have b2:=below_next b1 hb
      refine tg 3 b2 ?_
      (try simp only [pS])
      refine tg 4 b2 ?_
      (try simp only [pS])
      refine tg 5 b2 ?_
      (try simp only [pS])
      refine tg 6 b2 ?_
      (try simp only [pS])
      refine tg 7 b2 ?_
      (try simp only [pS])
      refine wpAnyH_done (by kernel_rfl) ?_ _
      refine NoPanic.normal ?_
      go_wp2
      go_meet
      case rel=>exact ⟨rfl,own_down own (below_next bd b1).size,below_next bd b2⟩
 case rest =>
  obtain ⟨rfl,own,bw⟩:=hcut
  obtain ⟨gb,cb,rfl,-,-,hcb,rB⟩:=own.form.resolve_left (fun h=>by omega)
  obtain ⟨W1,hW1⟩:∃ W,W=wc:=⟨_,rfl⟩
  subst hW1
  have hcb':(16:Int)≤(cb:Int):=by omega
  have hcb4:(4:Int)≤(cb:Int):=by omega
  clear own
  go_upto_region 2 with (fail)
  go_cut [3,4] from 5 (fun s3 s4 wc=>s4 = .int .i64 32∧RowAt .u8 wc gb 0 16 (slN z0 z0 0 z0 0 z0)∧Below w.heap.size w wc)
  case first =>
   refine wp_region_noPanic ?_
   refine wp_region_held_drew (S:=fun u=>Below W1.drew.heap.size W1.drew u) (by kernel_rfl) (Below.refl _ _) (fun hS => ?_)
   have bd:Below W1.heap.size W1 W1.drew:=(Below.refl _ _).drew
   generalize W1.drew=V at *
   refine wpAnyH_ready (rs:=[0,1,2]) (by kernel_rfl) (by simp) (gR (fun g => .slice (some ⟨g,0,none⟩) 16 16) (zb 16).toList 5 (fun u hu=>below_next hS hu) ?_ (gR (fun g => .slice (some ⟨g,0,none⟩) 12 12) (zb 12).toList 5 (fun u hu=>below_next hS hu) ?_ (gR (fun g => .slice (some ⟨g,0,none⟩) 16 16) (zb 16).toList 5 (fun u hu=>below_next hS hu) ?_ AllReadyH.nil)))
   · intro U0 g0 hg0 hu0 r0
     have b0:=below_next hS hu0
     (try simp only [pS])
     refine wpAnyH_ready (rs:=[1,2]) (by kernel_rfl) (by simp) (gR (fun g => .slice (some ⟨g,0,none⟩) 12 12) (zb 12).toList 5 (fun u hu=>below_next b0 hu) ?_ (gR (fun g => .slice (some ⟨g,0,none⟩) 16 16) (zb 16).toList 5 (fun u hu=>below_next b0 hu) ?_ AllReadyH.nil))
     · intro U1 g1 hg1 hu1 r1
       replace r0:=r0.still hu1
       have b1:=below_next b0 hu1
       (try simp only [pS])
       refine wpAnyH_ready (rs:=[2]) (by kernel_rfl) (by simp) (gR (fun g => .slice (some ⟨g,0,none⟩) 16 16) (zb 16).toList 5 (fun u hu=>below_next b1 hu) ?_ AllReadyH.nil)
       · intro U2 g2 hg2 hu2 r2
         replace r0:=r0.still hu2
         replace r1:=r1.still hu2
         have b2:=below_next b1 hu2
         (try simp only [pS])
         refine cl 3 (knows_open _ _ _ U2 (zrow r0) (zrow r1) (zrow r2)) ?_
         rintro e U9 ⟨rfl,hb⟩
         refine ⟨_,rfl,below_next b2 hb,?_⟩
         (try simp only [pS])
         have b9:=below_next b2 hb
         refine tg 4 b9 ?_
         (try simp only [pS])
         refine tg 5 b9 ?_
         (try simp only [pS])
         refine tg 6 b9 ?_
         (try simp only [pS])
         refine tg 7 b9 ?_
         (try simp only [pS])
         refine tg 8 b9 ?_
         (try simp only [pS])
         refine wpAnyH_done (by kernel_rfl) ?_ _
         refine NoPanic.normal ?_
         go_wp2
         go_meet
         case rel=>exact ⟨rfl,rB.still (below_next bd b9),below_next bw (below_next bd b9)⟩
     · intro U1 g2 hg1 hu1 r2
       replace r0:=r0.still hu1
       have b1:=below_next b0 hu1
       (try simp only [pS])
       refine wpAnyH_ready (rs:=[1]) (by kernel_rfl) (by simp) (gR (fun g => .slice (some ⟨g,0,none⟩) 12 12) (zb 12).toList 5 (fun u hu=>below_next b1 hu) ?_ AllReadyH.nil)
       · intro U2 g1 hg2 hu2 r1
         replace r0:=r0.still hu2
         replace r2:=r2.still hu2
         have b2:=below_next b1 hu2
         (try simp only [pS])
         refine cl 3 (knows_open _ _ _ U2 (zrow r0) (zrow r1) (zrow r2)) ?_
         rintro e U9 ⟨rfl,hb⟩
         refine ⟨_,rfl,below_next b2 hb,?_⟩
         (try simp only [pS])
         have b9:=below_next b2 hb
         refine tg 4 b9 ?_
         (try simp only [pS])
         refine tg 5 b9 ?_
         (try simp only [pS])
         refine tg 6 b9 ?_
         (try simp only [pS])
         refine tg 7 b9 ?_
         (try simp only [pS])
         refine tg 8 b9 ?_
         (try simp only [pS])
         refine wpAnyH_done (by kernel_rfl) ?_ _
         refine NoPanic.normal ?_
         go_wp2
         go_meet
         case rel=>exact ⟨rfl,rB.still (below_next bd b9),below_next bw (below_next bd b9)⟩
   · intro U0 g1 hg0 hu0 r1
     have b0:=below_next hS hu0
     (try simp only [pS])
     refine wpAnyH_ready (rs:=[0,2]) (by kernel_rfl) (by simp) (gR (fun g => .slice (some ⟨g,0,none⟩) 16 16) (zb 16).toList 5 (fun u hu=>below_next b0 hu) ?_ (gR (fun g => .slice (some ⟨g,0,none⟩) 16 16) (zb 16).toList 5 (fun u hu=>below_next b0 hu) ?_ AllReadyH.nil))
     · intro U1 g0 hg1 hu1 r0
       replace r1:=r1.still hu1
       have b1:=below_next b0 hu1
       (try simp only [pS])
       refine wpAnyH_ready (rs:=[2]) (by kernel_rfl) (by simp) (gR (fun g => .slice (some ⟨g,0,none⟩) 16 16) (zb 16).toList 5 (fun u hu=>below_next b1 hu) ?_ AllReadyH.nil)
       · intro U2 g2 hg2 hu2 r2
         replace r1:=r1.still hu2
         replace r0:=r0.still hu2
         have b2:=below_next b1 hu2
         (try simp only [pS])
         refine cl 3 (knows_open _ _ _ U2 (zrow r0) (zrow r1) (zrow r2)) ?_
         rintro e U9 ⟨rfl,hb⟩
         refine ⟨_,rfl,below_next b2 hb,?_⟩
         (try simp only [pS])
         have b9:=below_next b2 hb
         refine tg 4 b9 ?_
         (try simp only [pS])
         refine tg 5 b9 ?_
         (try simp only [pS])
         refine tg 6 b9 ?_
         (try simp only [pS])
         refine tg 7 b9 ?_
         (try simp only [pS])
         refine tg 8 b9 ?_
         (try simp only [pS])
         refine wpAnyH_done (by kernel_rfl) ?_ _
         refine NoPanic.normal ?_
         go_wp2
         go_meet
         case rel=>exact ⟨rfl,rB.still (below_next bd b9),below_next bw (below_next bd b9)⟩
     · intro U1 g2 hg1 hu1 r2
       replace r1:=r1.still hu1
       have b1:=below_next b0 hu1
       (try simp only [pS])
       refine wpAnyH_ready (rs:=[0]) (by kernel_rfl) (by simp) (gR (fun g => .slice (some ⟨g,0,none⟩) 16 16) (zb 16).toList 5 (fun u hu=>below_next b1 hu) ?_ AllReadyH.nil)
       · intro U2 g0 hg2 hu2 r0
         replace r1:=r1.still hu2
         replace r2:=r2.still hu2
         have b2:=below_next b1 hu2
         (try simp only [pS])
         refine cl 3 (knows_open _ _ _ U2 (zrow r0) (zrow r1) (zrow r2)) ?_
         rintro e U9 ⟨rfl,hb⟩
         refine ⟨_,rfl,below_next b2 hb,?_⟩
         (try simp only [pS])
         have b9:=below_next b2 hb
         refine tg 4 b9 ?_
         (try simp only [pS])
         refine tg 5 b9 ?_
         (try simp only [pS])
         refine tg 6 b9 ?_
         (try simp only [pS])
         refine tg 7 b9 ?_
         (try simp only [pS])
         refine tg 8 b9 ?_
         (try simp only [pS])
         refine wpAnyH_done (by kernel_rfl) ?_ _
         refine NoPanic.normal ?_
         go_wp2
         go_meet
         case rel=>exact ⟨rfl,rB.still (below_next bd b9),below_next bw (below_next bd b9)⟩
   · intro U0 g2 hg0 hu0 r2
     have b0:=below_next hS hu0
     (try simp only [pS])
     refine wpAnyH_ready (rs:=[0,1]) (by kernel_rfl) (by simp) (gR (fun g => .slice (some ⟨g,0,none⟩) 16 16) (zb 16).toList 5 (fun u hu=>below_next b0 hu) ?_ (gR (fun g => .slice (some ⟨g,0,none⟩) 12 12) (zb 12).toList 5 (fun u hu=>below_next b0 hu) ?_ AllReadyH.nil))
     · intro U1 g0 hg1 hu1 r0
       replace r2:=r2.still hu1
       have b1:=below_next b0 hu1
       (try simp only [pS])
       refine wpAnyH_ready (rs:=[1]) (by kernel_rfl) (by simp) (gR (fun g => .slice (some ⟨g,0,none⟩) 12 12) (zb 12).toList 5 (fun u hu=>below_next b1 hu) ?_ AllReadyH.nil)
       · intro U2 g1 hg2 hu2 r1
         replace r2:=r2.still hu2
         replace r0:=r0.still hu2
         have b2:=below_next b1 hu2
         (try simp only [pS])
         refine cl 3 (knows_open _ _ _ U2 (zrow r0) (zrow r1) (zrow r2)) ?_
         rintro e U9 ⟨rfl,hb⟩
         refine ⟨_,rfl,below_next b2 hb,?_⟩
         (try simp only [pS])
         have b9:=below_next b2 hb
         refine tg 4 b9 ?_
         (try simp only [pS])
         refine tg 5 b9 ?_
         (try simp only [pS])
         refine tg 6 b9 ?_
         (try simp only [pS])
         refine tg 7 b9 ?_
         (try simp only [pS])
         refine tg 8 b9 ?_
         (try simp only [pS])
         refine wpAnyH_done (by kernel_rfl) ?_ _
         refine NoPanic.normal ?_
         go_wp2
         go_meet
         case rel=>exact ⟨rfl,rB.still (below_next bd b9),below_next bw (below_next bd b9)⟩
     · intro U1 g1 hg1 hu1 r1
       replace r2:=r2.still hu1
       have b1:=below_next b0 hu1
       (try simp only [pS])
       refine wpAnyH_ready (rs:=[0]) (by kernel_rfl) (by simp) (gR (fun g => .slice (some ⟨g,0,none⟩) 16 16) (zb 16).toList 5 (fun u hu=>below_next b1 hu) ?_ AllReadyH.nil)
       · intro U2 g0 hg2 hu2 r0
         replace r2:=r2.still hu2
         replace r1:=r1.still hu2
         have b2:=below_next b1 hu2
         (try simp only [pS])
         refine cl 3 (knows_open _ _ _ U2 (zrow r0) (zrow r1) (zrow r2)) ?_
         rintro e U9 ⟨rfl,hb⟩
         refine ⟨_,rfl,below_next b2 hb,?_⟩
         (try simp only [pS])
         have b9:=below_next b2 hb
         refine tg 4 b9 ?_
         (try simp only [pS])
         refine tg 5 b9 ?_
         (try simp only [pS])
         refine tg 6 b9 ?_
         (try simp only [pS])
         refine tg 7 b9 ?_
         (try simp only [pS])
         refine tg 8 b9 ?_
         (try simp only [pS])
         refine wpAnyH_done (by kernel_rfl) ?_ _
         refine NoPanic.normal ?_
         go_wp2
         go_meet
         case rel=>exact ⟨rfl,rB.still (below_next bd b9),below_next bw (below_next bd b9)⟩
  case rest =>
   obtain ⟨rfl,rC,bw2⟩:=hcut
   have hX:∀ j,slN z0 z0 0 z0 0 z0 j%256<256:=fun j=>Nat.mod_lt _ (by decide)
   have hB:∀ j,j<16→slN z0 z0 0 z0 0 z0 j<256:=fun j hj=>by
    show cat 0 (trN z0 z0 z0) (tgN z0 z0 0 z0 0 (trN z0 z0 z0)) j<256
    unfold cat
    rw [if_neg (by omega)]
    exact tgN_B hz0 hz0 0 0 _ (by omega)
   have e4:∀ j,slN z0 z0 0 z0 0 z0 j=tgN z0 z0 0 (z0) 0 (trN z0 z0 z0) j:=fun j=>by
    show cat 0 (trN z0 z0 z0) (tgN z0 z0 0 z0 0 (trN z0 z0 z0)) j=_
    unfold cat
    rw [if_neg (by omega),Nat.sub_zero]
   have e5:tgN z0 z0 0 z0 0 (trN z0 z0 z0)=tgN z0 z0 0 z0 0 z0:=by
    have ea:auN 0 z0 0 (trN z0 z0 z0)=auN 0 z0 0 z0:=by
     funext j
     unfold auN cat padN pad
     rfl
    unfold tgN
    rw [ea]
   have hs4:=fun c=>hstr wc gb c (fun j=>slN z0 z0 0 z0 0 z0 j%256) (rC.congr (fun j hj=>(Nat.mod_eq_of_lt (hB j hj)).symm)) hX (by rw [e4,e5,tag0.1]) (by rw [e4,e5,tag0.2.1]) (by rw [e4,e5,tag0.2.2.1]) (by rw [e4,e5,tag0.2.2.2])
   clear hstr e4 e5 hB hX rB rC
   go_wp2_with (first
    | rw [hs4]
    | (go_at_call 13;refine (hnum _ _).mono ?_;rintro e wn ⟨rfl,hwn⟩;subst hwn))
   go_ret
   exact ⟨rfl,bw2⟩
end Go.Proofs.Ytalgabgofpmebaa
namespace Go.Proofs.Ytalgabgofpmebaa
open Go.RowKit
abbrev AnsC (f:FuncId) (args:Array Value) (w:World) (N:Nat) (Z:Nat→Nat) (E:Int):Prop :=
 Calls Try.prog f args w fun e w'=>∃ s,e = .returned (.tuple #[s,.int .i64 E])∧BytesIn w' s N Z∧Below w.heap.size w w'
theorem RowF.bytes {base:Nat} {w:World} {s:Value} {X:Nat→Nat} (h:RowF base w s 16 X):BytesIn w s 16 X:=by
 obtain ⟨g,cap,rfl,-,hc,hr⟩:=h
 exact .inr ⟨g,0,cap,rfl,block_lt_of_cell (hr 0 (by decide)).1,hc,fun j hj=>(hr j hj).1⟩
theorem ans_nil {f:FuncId} {args:Array Value} {w:World} {E:Int} (c:Calls Try.prog f args w fun e w'=>e = .returned (.tuple #[.slice none 0 0,.int .i64 E])∧Below w.heap.size w w'):AnsC f args w 0 z0 E :=
 c.mono fun _ _ ⟨he,hb⟩=>⟨_,he,.inl ⟨none,rfl,rfl⟩,hb⟩
theorem same_below {f:FuncId} {args:Array Value} {w:World} {v:Ending} (c:Calls Try.prog f args w fun e w'=>e=v∧w'=w):Calls Try.prog f args w fun e w'=>e=v∧Below w.heap.size w w' :=
 c.mono fun _ _ ⟨he,hw⟩=>⟨he,by rw [hw];exact Below.refl _ _⟩
def slB (ks nn:Nat→Nat) (ml:Nat) (M:Nat→Nat) (n:Nat) (X:Nat→Nat) (j:Nat):Nat:=slN ks nn ml M n X j%256
theorem slN_lt {ks nn M X:Nat→Nat} (hks:∀ j,ks j<256) (hnn:∀ j,nn j<256) (hX:∀ j,X j<256) (ml n j:Nat) (hj:j<n+16):slN ks nn ml M n X j<256:=by
 unfold slN cat
 split
 · exact trN_lt hks hnn hX j
 · exact tgN_B hks hnn ml n _ (by omega)
theorem seal_both (a b ml n:Nat) (ks nn M X:Nat→Nat) (hks:∀ j,ks j<256) (hnn:∀ j,nn j<256) (hM:∀ j,M j<256) (hX:∀ j,X j<256):∃ N Z E,(∀ j,Z j<256)∧(∀ v u m t w,BytesIn w v a ks→BytesIn w u b nn→BytesIn w m ml M→BytesIn w t n X→AnsC 18 #[v,u,m,t] w N Z E)∧(∀ v u m t w,BytesIn w v a ks→BytesIn w u b nn→BytesIn w m ml M→BytesIn w t n X→AnsC 19 #[v,u,m,t] w N Z E):=by
 by_cases h:a=16∧b=12
 · obtain ⟨rfl,rfl⟩:=h
   by_cases h2:ml≤65536∧n≤65536
   · have hl:∀ j,j<n+16→slN ks nn ml M n X j=slB ks nn ml M n X j:=fun j hj=>(Nat.mod_eq_of_lt (slN_lt hks hnn hX ml n j hj)).symm
     exact ⟨n+16,slB ks nn ml M n X,0,fun j=>Nat.mod_lt _ (by decide),fun v u m t w hv hu hm ht=>(seal_good v u m t ml n ks nn M X h2.1 h2.2 hks hnn hM hX w hv hu hm ht).mono fun _ _ ⟨s,he,ho,hw⟩=>⟨s,he,(ho.congr hl).bytesOf,hw⟩,
      fun v u m t w hv hu hm ht=>(rSeal_good v u m t ml n ks nn M X h2.1 h2.2 hks hnn hM hX w hv hu hm ht).mono fun _ _ ⟨s,he,ho,hw⟩=>⟨s,he,(ho.congr hl).bytesOf,hw⟩⟩
   · exact ⟨0,z0,6,hz0,fun v u m t w hv hu hm ht=>ans_nil (seal_size v u m t ml n ks nn M X w hv hu hm ht h2),fun v u m t w hv hu hm ht=>ans_nil (same_below (rSeal_size v u m t ml n ks nn M X w hv hu hm ht h2))⟩
 · exact ⟨0,z0,1,hz0,fun v u m t w hv hu hm ht=>ans_nil (seal_bad v u m t a b ml n ks nn M X w hv hu hm ht h),fun v u m t w hv hu hm ht=>ans_nil (same_below (rSeal_bad v u m t a b ml n ks nn M X w hv hu hm ht h))⟩
theorem open_both (a b ml n:Nat) (ks nn M X:Nat→Nat) (hks:∀ j,ks j<256) (hnn:∀ j,nn j<256) (hM:∀ j,M j<256) (hX:∀ j,X j<256):∃ N Z E,(∀ j,Z j<256)∧(∀ v u m t w,BytesIn w v a ks→BytesIn w u b nn→BytesIn w m ml M→BytesIn w t n X→AnsC 20 #[v,u,m,t] w N Z E)∧(∀ v u m t w,BytesIn w v a ks→BytesIn w u b nn→BytesIn w m ml M→BytesIn w t n X→AnsC 21 #[v,u,m,t] w N Z E):=by
 by_cases h:a=16∧b=12
 · obtain ⟨rfl,rfl⟩:=h
   by_cases h2:ml≤65536∧n≤65552
   · by_cases h3:n<16
     · exact ⟨0,z0,32,hz0,fun v u m t w hv hu hm ht=>ans_nil (open_short v u m t ml n ks nn M X w hv hu hm ht h2.1 h3),fun v u m t w hv hu hm ht=>ans_nil (rOpen_short v u m t ml n ks nn M X w hv hu hm ht h2.1 h3)⟩
     · obtain ⟨k,rfl⟩:∃ k,n=k+16:=⟨n - 16,by omega⟩
       by_cases h4:S16 (tgN ks nn ml M k X) (fun j=>X (k+j))
       · exact ⟨k,trN ks nn X,0,trN_lt hks hnn hX,fun v u m t w hv hu hm ht=>(open_long v u m t ml k ks nn M X h2.1 (by omega) hks hnn hM hX w hv hu hm ht).mono fun _ _ ⟨h,_,hw⟩=>by
          obtain ⟨s,he,ho⟩:=h h4
          exact ⟨s,he,ho.bytesOf,hw⟩,fun v u m t w hv hu hm ht=>(rOpen_long v u m t ml k ks nn M X h2.1 (by omega) hks hnn hM hX w hv hu hm ht).mono fun _ _ ⟨h,_,hw⟩=>by
          obtain ⟨s,he,ho⟩:=h h4
          exact ⟨s,he,ho.bytesOf,hw⟩⟩
       · exact ⟨0,z0,32,hz0,fun v u m t w hv hu hm ht=>ans_nil ((open_long v u m t ml k ks nn M X h2.1 (by omega) hks hnn hM hX w hv hu hm ht).mono fun _ _ ⟨_,h,hw⟩=>⟨h h4,hw⟩),
          fun v u m t w hv hu hm ht=>ans_nil ((rOpen_long v u m t ml k ks nn M X h2.1 (by omega) hks hnn hM hX w hv hu hm ht).mono fun _ _ ⟨_,h,hw⟩=>⟨h h4,hw⟩)⟩
   · exact ⟨0,z0,6,hz0,fun v u m t w hv hu hm ht=>ans_nil (open_size v u m t ml n ks nn M X w hv hu hm ht h2),fun v u m t w hv hu hm ht=>ans_nil (same_below (rOpen_size v u m t ml n ks nn M X w hv hu hm ht h2))⟩
 · exact ⟨0,z0,1,hz0,fun v u m t w hv hu hm ht=>ans_nil (open_bad v u m t a b ml n ks nn M X w hv hu hm ht h),fun v u m t w hv hu hm ht=>ans_nil (same_below (rOpen_bad v u m t a b ml n ks nn M X w hv hu hm ht h))⟩
end Go.Proofs.Ytalgabgofpmebaa
namespace Go.Proofs.Ytalgabgofpmebaa
open Go.RowKit
theorem lentG {w:World} {g n cap:Nat} {bs:Nat→Nat} (h:RowAt .u8 w g 0 (n+2) (cat n bs room)) (hc:n+2≤cap):BytesIn w (.slice (some ⟨g,0,none⟩) n cap) n bs :=
 .inr ⟨g,0,cap,rfl,block_lt_of_cell (h 0 (by omega)).1,by omega,fun j hj=>by have:=(h j (by omega)).1;rwa [cat_left hj] at this⟩
end Go.Proofs.Ytalgabgofpmebaa
namespace Go.Proofs.Ytalgabgofpmebaa
open Go.RowKit
theorem box4 {W:World} {g:Nat} {v0 v1 v2 v3:Value} (r:RW W g 0 [v0,v1,v2,v3]):W.cell? ⟨g,0,none⟩=some v0∧W.cell? ⟨g,1,none⟩=some v1∧W.cell? ⟨g,2,none⟩=some v2∧W.cell? ⟨g,3,none⟩=some v3:=⟨r.range 0 v0 rfl,r.range 1 v1 rfl,r.range 2 v2 rfl,r.range 3 v3 rfl⟩
set_option maxRecDepth 20000 in
set_option maxHeartbeats 8000000 in
theorem gcmSeals_any (v0 v1 v2 v3:Value) (n0 n1 n2 n3:Nat) (b0 b1 b2 b3:Nat→Nat) (l0:∀ j,b0 j<256) (l1:∀ j,b1 j<256) (l2:∀ j,b2 j<256) (l3:∀ j,b3 j<256) (w:World) (h0:BytesIn w v0 n0 b0) (h1:BytesIn w v1 n1 b1) (h2:BytesIn w v2 n2 b2) (h3:BytesIn w v3 n3 b3) (k0:n0<140737488355000) (k1:n1<140737488355000) (k2:n2<140737488355000) (k3:n3<140737488355000) :
 Calls Try.prog 5 #[.agg #[v0,v1,v2,v3]] w fun e w'=>e = .returned (.bool true)∧Below w.heap.size w w':=by
 obtain ⟨N,Z,E,hZ,cS,cR⟩:=seal_both n0 n1 n2 n3 b0 b1 b2 b3 l0 l1 l2 l3
 have cl0:=fun W hb=>lent_any v0 n0 b0 W (h0.keep hb) k0
 have cl1:=fun W hb=>lent_any v1 n1 b1 W (h1.keep hb) k1
 have cl2:=fun W hb=>lent_any v2 n2 b2 W (h2.keep hb) k2
 have cl3:=fun W hb=>lent_any v3 n3 b3 W (h3.keep hb) k3
 have cs3:=fun g cap W hc hr hb=>stays_any g cap n3 v3 b3 l3 W k3 hc hr (h3.keep hb)
 have cs2:=fun g cap W hc hr hb=>stays_any g cap n2 v2 b2 l2 W k2 hc hr (h2.keep hb)
 have cR1:=fun W hb=>cR v0 v1 v2 v3 W (h0.keep hb) (h1.keep hb) (h2.keep hb) (h3.keep hb)
 have ck:=knows9
 obtain ⟨S,hS⟩:∃ S,S=strB N Z:=⟨_,rfl⟩
 have cv:=fun (W W':World) (s:Value) (h:BytesIn W s N Z) (hb:Below W.heap.size W W')=>h.conv hZ W' hb
 rw [←hS] at cv
 obtain ⟨x0,c0,rfl,-,-,-⟩:=h0.src
 obtain ⟨x1,c1,rfl,-,-,-⟩:=h1.src
 obtain ⟨x2,c2,rfl,-,-,-⟩:=h2.src
 obtain ⟨x3,c3,rfl,-,-,-⟩:=h3.src
 obtain ⟨V,hV⟩:∃ V,V=w.alloc (.cells #[.slice x0 n0 c0,.slice x1 n1 c1,.slice x2 n2 c2,.slice x3 n3 c3] 33):=⟨_,rfl⟩
 have rX:RW V w.heap.size 0 [.slice x0 n0 c0,.slice x1 n1 c1,.slice x2 n2 c2,.slice x3 n3 c3]:=by rw [hV];exact RW.fresh w [_,_,_,_] _
 have b:Below w.heap.size w V:=by rw [hV];exact (Below.refl _ _).alloc (Nat.le_refl _) _
 have HV:=Hid.mk' hV
 obtain ⟨f0,f1,f2,f3⟩:=box4 rX
 have cl3:=cl3 V b
 clear h0 h1 h2 h3 l0 l1 l2 l3 hZ hS cR hV
 go_enter Try.func5,Try.ntmps5
 go_upto_region 3 with (first
  | (go_at_call 10;rw [←HV.out];refine cl3.mono ?_;clear cl3 HV;rintro e w1 ⟨g3,k3',rfl,hk3,-,r3,bb⟩;(replace rX:=rX.still bb);(replace b:=below_next b bb);(obtain ⟨f0,f1,f2,f3⟩:=box4 rX);(have cl2:=cl2 w1 b);clear bb)
  | (go_at_call 10;refine cl2.mono ?_;clear cl2;rintro e w2 ⟨g2,k2',rfl,hk2,-,r2,bb⟩;(replace rX:=rX.still bb);(replace r3:=r3.still bb);(replace b:=below_next b bb);(obtain ⟨f0,f1,f2,f3⟩:=box4 rX);clear bb))
 have hdr:Below w2.heap.size w2 w2.drew:=(Below.refl _ _).drew
 replace rX:=rX.still hdr
 replace r3:=r3.still hdr
 replace r2:=r2.still hdr
 replace b:=below_next b hdr
 clear f0 f1 f2 f3
 refine wp_region_noPanic ?_
 refine wp_region_held_drew (S:=fun u=>Below w2.drew.heap.size w2.drew u) (by kernel_rfl) (Below.refl _ _) (fun hS => ?_)
 generalize w2.drew=V at *
 refine tg 0 hS ?_
 (try simp only [pS])
 refine tc 1 hS (fun u hu=>(box4 (rX.still hu)).1) ?_
 (try simp only [pS])
 refine tg 3 hS ?_
 (try simp only [pS])
 refine tc 4 hS (fun u hu=>(box4 (rX.still hu)).2.1) ?_
 (try simp only [pS])
 refine tg 6 hS ?_
 (try simp only [pS])
 refine tg 7 hS ?_
 (try simp only [pS])
 have bV:=b
 refine cl 2 (cl0 V bV) ?_
 rintro e U0 ⟨q0,z0,rfl,hz0,-,s0,bb0⟩
 replace r3:=r3.still bb0
 replace r2:=r2.still bb0
 have bS:=bb0
 replace bV:=below_next bV bb0
 refine ⟨_,rfl,bS,?_⟩
 (try simp only [pS])
 refine cl 5 (cl1 U0 bV) ?_
 rintro e U1 ⟨q1,z1,rfl,hz1,-,s1,bb1⟩
 replace r3:=r3.still bb1
 replace r2:=r2.still bb1
 replace s0:=s0.still bb1
 replace bS:=below_next bS bb1
 replace bV:=below_next bV bb1
 refine ⟨_,rfl,bS,?_⟩
 (try simp only [pS])
 refine cl 8 (cS _ _ _ _ U1 (lentG s0 hz0) (lentG s1 hz1) (lentG r2 hk2) (lentG r3 hk3)) ?_
 rintro e W5 ⟨s5,rfl,i5,bb5⟩
 obtain ⟨x5,y5,hs5,-,-,-⟩:=i5.src
 subst hs5
 replace r3:=r3.still bb5
 replace r2:=r2.still bb5
 replace bS:=below_next bS bb5
 replace bV:=below_next bV bb5
 refine ⟨_,rfl,bS,?_⟩
 (try simp only [pS])
 refine tg 9 bS ?_
 (try simp only [pS])
 refine tg 10 bS ?_
 (try simp only [pS])
 refine tg 11 bS ?_
 (try simp only [pS])
 refine tg 12 bS ?_
 (try simp only [pS])
 refine tg 13 bS ?_
 (try simp only [pS])
 refine wpAnyH_done (by kernel_rfl) ?_ _
 refine NoPanic.normal ?_
 replace rX:=rX.still bS
 obtain ⟨f0,f1,f2,f3⟩:=box4 rX
 have cR2:=cR1 W5 bV
 clear cl0 cl1 cS cR1 hS bS bb5
 go_wp2_with (first
  | (go_at_call 19;refine cR2.mono ?_;clear cR2;rintro e w6 ⟨s6,rfl,i6,bb6⟩;(obtain ⟨x6,y6,hs6,-,-,-⟩:=i6.src);subst hs6;(replace r3:=r3.still bb6);(replace r2:=r2.still bb6);(replace rX:=rX.still bb6);(obtain ⟨f0,f1,f2,f3⟩:=box4 rX);(replace bV:=below_next bV bb6);(have q5:=cv W5 w6 _ i5 bb6);(have q6:=cv w6 w6 _ i6 (Below.refl _ _));(have cs3:=cs3 g3 k3' w6 hk3 r3 bV);clear cv i5 i6 bb6)
  | rw [q5]
  | rw [q6]
  | (go_at_call 13;refine (num9_any _ _).mono ?_;rintro e wn ⟨rfl,hwn⟩;subst hwn)
  | (go_at_call 14;refine cs3.mono ?_;clear cs3;rintro e w7 ⟨rfl,bb7⟩;(replace rX:=rX.still bb7);(obtain ⟨f0,f1,f2,f3⟩:=box4 rX);(replace r2:=r2.still bb7);(replace bV:=below_next bV bb7);(have cs2:=cs2 g2 k2' w7 hk2 r2 bV);clear bb7)
  | (go_at_call 14;refine cs2.mono ?_;clear cs2;rintro e w8 ⟨rfl,bb8⟩;(replace bV:=below_next bV bb8);clear bb8)
  | (go_at_call 15;refine (ck _).mono ?_;clear ck;rintro e w9 ⟨rfl,bb9⟩))
 go_ret
 exact ⟨rfl,below_next bV bb9⟩
set_option maxRecDepth 20000 in
set_option maxHeartbeats 8000000 in
theorem gcmOpens_any (v0 v1 v2 v3:Value) (n0 n1 n2 n3:Nat) (b0 b1 b2 b3:Nat→Nat) (l0:∀ j,b0 j<256) (l1:∀ j,b1 j<256) (l2:∀ j,b2 j<256) (l3:∀ j,b3 j<256) (w:World) (h0:BytesIn w v0 n0 b0) (h1:BytesIn w v1 n1 b1) (h2:BytesIn w v2 n2 b2) (h3:BytesIn w v3 n3 b3) (k0:n0<140737488355000) (k1:n1<140737488355000) (k2:n2<140737488355000) (k3:n3<140737488355000) :
 Calls Try.prog 6 #[.agg #[v0,v1,v2,v3]] w fun e w'=>e = .returned (.bool true)∧Below w.heap.size w w':=by
 obtain ⟨N,Z,E,hZ,cS,cR⟩:=open_both n0 n1 n2 n3 b0 b1 b2 b3 l0 l1 l2 l3
 have cl0:=fun W hb=>lent_any v0 n0 b0 W (h0.keep hb) k0
 have cl1:=fun W hb=>lent_any v1 n1 b1 W (h1.keep hb) k1
 have cl2:=fun W hb=>lent_any v2 n2 b2 W (h2.keep hb) k2
 have cl3:=fun W hb=>lent_any v3 n3 b3 W (h3.keep hb) k3
 have cs3:=fun g cap W hc hr hb=>stays_any g cap n3 v3 b3 l3 W k3 hc hr (h3.keep hb)
 have cs2:=fun g cap W hc hr hb=>stays_any g cap n2 v2 b2 l2 W k2 hc hr (h2.keep hb)
 have cR1:=fun W hb=>cR v0 v1 v2 v3 W (h0.keep hb) (h1.keep hb) (h2.keep hb) (h3.keep hb)
 have ck:=knows9
 obtain ⟨S,hS⟩:∃ S,S=strB N Z:=⟨_,rfl⟩
 have cv:=fun (W W':World) (s:Value) (h:BytesIn W s N Z) (hb:Below W.heap.size W W')=>h.conv hZ W' hb
 rw [←hS] at cv
 obtain ⟨x0,c0,rfl,-,-,-⟩:=h0.src
 obtain ⟨x1,c1,rfl,-,-,-⟩:=h1.src
 obtain ⟨x2,c2,rfl,-,-,-⟩:=h2.src
 obtain ⟨x3,c3,rfl,-,-,-⟩:=h3.src
 obtain ⟨V,hV⟩:∃ V,V=w.alloc (.cells #[.slice x0 n0 c0,.slice x1 n1 c1,.slice x2 n2 c2,.slice x3 n3 c3] 33):=⟨_,rfl⟩
 have rX:RW V w.heap.size 0 [.slice x0 n0 c0,.slice x1 n1 c1,.slice x2 n2 c2,.slice x3 n3 c3]:=by rw [hV];exact RW.fresh w [_,_,_,_] _
 have b:Below w.heap.size w V:=by rw [hV];exact (Below.refl _ _).alloc (Nat.le_refl _) _
 have HV:=Hid.mk' hV
 obtain ⟨f0,f1,f2,f3⟩:=box4 rX
 have cl3:=cl3 V b
 clear h0 h1 h2 h3 l0 l1 l2 l3 hZ hS cR hV
 go_enter Try.func6,Try.ntmps6
 go_upto_region 2 with ((go_at_call 10;rw [←HV.out];refine cl3.mono ?_;clear cl3 HV;rintro e w1 ⟨g3,k3',rfl,hk3,-,r3,bb⟩;(replace rX:=rX.still bb);(replace b:=below_next b bb);(obtain ⟨f0,f1,f2,f3⟩:=box4 rX);clear bb))
 have hdr:Below w1.heap.size w1 w1.drew:=(Below.refl _ _).drew
 replace rX:=rX.still hdr
 replace r3:=r3.still hdr
 replace b:=below_next b hdr
 clear f0 f1 f2 f3
 refine wp_region_noPanic ?_
 refine wp_region_held_drew (S:=fun u=>Below w1.drew.heap.size w1.drew u) (by kernel_rfl) (Below.refl _ _) (fun hS => ?_)
 generalize w1.drew=V at *
 refine tg 0 hS ?_
 (try simp only [pS])
 refine tc 1 hS (fun u hu=>(box4 (rX.still hu)).1) ?_
 (try simp only [pS])
 refine tg 3 hS ?_
 (try simp only [pS])
 refine tc 4 hS (fun u hu=>(box4 (rX.still hu)).2.1) ?_
 (try simp only [pS])
 refine tg 6 hS ?_
 (try simp only [pS])
 refine tc 7 hS (fun u hu=>(box4 (rX.still hu)).2.2.1) ?_
 (try simp only [pS])
 refine tg 9 hS ?_
 (try simp only [pS])
 have bV:=b
 refine cl 2 (cl0 V bV) ?_
 rintro e U0 ⟨q0,z0,rfl,hz0,-,s0,bb0⟩
 replace r3:=r3.still bb0
 have bS:=bb0
 replace bV:=below_next bV bb0
 refine ⟨_,rfl,bS,?_⟩
 (try simp only [pS])
 refine cl 5 (cl1 U0 bV) ?_
 rintro e U1 ⟨q1,z1,rfl,hz1,-,s1,bb1⟩
 replace r3:=r3.still bb1
 replace s0:=s0.still bb1
 replace bS:=below_next bS bb1
 replace bV:=below_next bV bb1
 refine ⟨_,rfl,bS,?_⟩
 (try simp only [pS])
 refine cl 8 (cl2 U1 bV) ?_
 rintro e U2 ⟨q2,z2,rfl,hz2,-,s2,bb2⟩
 replace r3:=r3.still bb2
 replace s0:=s0.still bb2
 replace s1:=s1.still bb2
 replace bS:=below_next bS bb2
 replace bV:=below_next bV bb2
 refine ⟨_,rfl,bS,?_⟩
 (try simp only [pS])
 refine cl 10 (cS _ _ _ _ U2 (lentG s0 hz0) (lentG s1 hz1) (lentG s2 hz2) (lentG r3 hk3)) ?_
 rintro e W5 ⟨s5,rfl,i5,bb5⟩
 obtain ⟨x5,y5,hs5,-,-,-⟩:=i5.src
 subst hs5
 replace r3:=r3.still bb5
 replace bS:=below_next bS bb5
 replace bV:=below_next bV bb5
 refine ⟨_,rfl,bS,?_⟩
 (try simp only [pS])
 refine tg 11 bS ?_
 (try simp only [pS])
 refine tg 12 bS ?_
 (try simp only [pS])
 refine tg 13 bS ?_
 (try simp only [pS])
 refine tg 14 bS ?_
 (try simp only [pS])
 refine tg 15 bS ?_
 (try simp only [pS])
 refine wpAnyH_done (by kernel_rfl) ?_ _
 refine NoPanic.normal ?_
 replace rX:=rX.still bS
 obtain ⟨f0,f1,f2,f3⟩:=box4 rX
 have cR2:=cR1 W5 bV
 clear cl0 cl1 cl2 cS cR1 hS bS bb5
 go_wp2_with (first
  | (go_at_call 21;refine cR2.mono ?_;clear cR2;rintro e w6 ⟨s6,rfl,i6,bb6⟩;(obtain ⟨x6,y6,hs6,-,-,-⟩:=i6.src);subst hs6;(replace r3:=r3.still bb6);(replace rX:=rX.still bb6);(obtain ⟨f0,f1,f2,f3⟩:=box4 rX);(replace bV:=below_next bV bb6);(have q5:=cv W5 w6 _ i5 bb6);(have q6:=cv w6 w6 _ i6 (Below.refl _ _));(have cs3:=cs3 g3 k3' w6 hk3 r3 bV);clear cv i5 i6 bb6)
  | rw [q5]
  | rw [q6]
  | (go_at_call 13;refine (num9_any _ _).mono ?_;rintro e wn ⟨rfl,hwn⟩;subst hwn)
  | (go_at_call 14;refine cs3.mono ?_;clear cs3;rintro e w7 ⟨rfl,bb7⟩;(replace rX:=rX.still bb7);(obtain ⟨f0,f1,f2,f3⟩:=box4 rX);(replace bV:=below_next bV bb7);clear bb7)
  | (go_at_call 15;refine (ck _).mono ?_;clear ck;rintro e w9 ⟨rfl,bb9⟩))
 go_ret
 exact ⟨rfl,below_next bV bb9⟩
end Go.Proofs.Ytalgabgofpmebaa
namespace Go.Proofs.Ytalgabgofpmebaa
open Go.ChangeShapes Go.WideShapes Go.ChangeAt Go.RowKit
theorem ownKnobs:ownKnob Try.prog.godebug=none:=by kernel_rfl
theorem laidOut:laidOutB Try.prog=true:=by kernel_rfl
theorem cellsOfByte:Try.prog.cellsOf 5=1:=by kernel_rfl
theorem bytesOfByte:Try.prog.bytesOf 5=1:=by kernel_rfl
set_option maxRecDepth 20000 in
theorem open_bytes {H:Type} {enc:TypeId × Value→H} {W:World} {base:Nat} {v:Value} {d:DataW H} {ps:List MemPlace} (hval:Value.okWide Try.prog W .any base 22 v) (h:DataW.Trod enc Try.prog W 0 (fun _=>true) true 22 v d ps) :
 ∃ n bs,BytesIn W v n bs∧(∀ j,bs j<256)∧(n=0∨∃ elems spare,d = .slice elems spare∧elems.length=n):=by
 obtain ⟨a0,len,cap,rfl⟩:=okWide_slice Try.underlying22 hval
 obtain ⟨fuel,hf⟩:=h
 have hc:Cell.ok Try.prog W .any base 22 (.slice a0 len cap):=by
  unfold Value.okWide Cell.okWide at hval
  simp only [Try.underlying22] at hval
  exact hval
 rcases open_ints Try.underlying22 Try.underlying5 cellsOfByte hf with ⟨hcs,hx⟩ | ⟨a,len',cap',zs,hcs,_,hl,hm,hz,hx,hcell,hwz⟩
 · simp [Value.cells] at hcs
   obtain ⟨rfl,rfl,rfl⟩:=hcs
   exact ⟨0,fun _=>0,.inl ⟨none,rfl,rfl⟩,fun _=>Nat.zero_lt_succ _,.inl rfl⟩
 · simp [Value.cells] at hcs
   obtain ⟨rfl,rfl,rfl⟩:=hcs
   simp only [Prod.mk.injEq] at hx
   obtain ⟨rfl,rfl⟩:=hx
   simp only [if_true] at hz
   unfold Cell.ok at hc
   simp only [Try.underlying22] at hc
   obtain ⟨_,_,_,hs,row,cells,hsh,_⟩:=hc
   obtain ⟨b,off,spot⟩:=a
   subst hs
   have hbl:b<W.heap.size:=by
    rcases Nat.lt_or_ge b W.heap.size with h | h
    · exact h
    · unfold World.shape? at hsh
      rw [Array.getElem?_eq_none h] at hsh
      cases hsh
   have hn:∀ j,0≤zs.getD j 0∧zs.getD j 0<256:=fun j=>by
    rw [List.getD_eq_getElem?_getD]
    cases h:zs[j]? with
    | none=>simp
    | some x =>
     have:=hwz x (List.mem_of_getElem? h)
     have h0:(0:Int)≤x∧x≤255:=by simpa [Lit.wf,IntKind.min,IntKind.max,IntKind.signed,IntKind.bits] using this
     show 0≤x∧x<256
     omega
   refine ⟨len,fun j=>(zs.getD j 0).toNat,.inr ⟨b,off,cap,rfl,hbl,hl,fun j hj => ?_⟩,fun j => ?_,.inr ⟨_,_,rfl,?_⟩⟩
   · have h:=hcell j (by omega)
     rw [Addr.add_mid] at h
     rw [h,Int.toNat_of_nonneg (hn j).1]
   · have:=hn j
     show (zs.getD j 0).toNat<256
     omega
   · simp [lits];omega
theorem bytes_reach {H:Type} {ts:List TypeId} {ds:List (DataW H)} (hR:(DataW.weightsEach Try.prog ts ds).all (·≤reachBytes)=true) {j n:Nat} {d:DataW H} (ht:ts[j]? = some 22) (hd:ds[j]? = some d) (h:n=0∨∃ elems spare,d = .slice elems spare∧elems.length=n):n<140737488355000:=by
 rcases h with h | ⟨elems,spare,rfl,rfl⟩
 · omega
 · have:=sized_slice hR ht hd Try.underlying22
   rw [bytesOfByte] at this
   unfold reachBytes at this
   omega
end Go.Proofs.Ytalgabgofpmebaa
namespace Go.Proofs.Ytalgabgofpmebaa
open Go.ChangeShapes Go.WideShapes Go.ChangeAt Go.RowKit Go.Joins Go.Deep
theorem plain_cell {w:World} {b o:Nat} {sp:Option Nat} {v:Value} (h:w.cell? ((⟨b,o,sp⟩:Addr).add 0)=some v):sp=none:=by
 cases sp with
 | none=>rfl
 | some k =>
  exfalso
  unfold World.cell? Addr.add at h
  simp at h
  split at h <;> simp at h
theorem bytes_in_cell {H:Type} {enc:TypeId × Value→H} {W:World} {fuel:Nat} {v:Value} {x:DataW H × List MemPlace} (h:DataW.trod enc Try.prog W 0 (fun _=>true) true fuel 22 [v]=some x):∃ n bs,BytesIn W v n bs∧(∀ j,bs j<256)∧(n=0∨∃ elems spare,x.1 = .slice elems spare∧elems.length=n):=by
 rcases open_ints Try.underlying22 Try.underlying5 cellsOfByte h with ⟨hcs,hx⟩ | ⟨a,len,cap,zs,hcs,_,hl,hm,hz,hx,hcell,hwz⟩
 · obtain rfl:v = .slice none 0 0:=by simpa using hcs
   exact ⟨0,fun _=>0,.inl ⟨none,rfl,rfl⟩,fun _=>Nat.zero_lt_succ _,.inl rfl⟩
 · obtain rfl:v = .slice (some a) len cap:=by simpa using hcs
   simp only [if_true] at hz
   have hn:∀ j,0≤zs.getD j 0∧zs.getD j 0<256:=fun j=>by
    rw [List.getD_eq_getElem?_getD]
    cases h:zs[j]? with
    | none=>simp
    | some x =>
     have:=hwz x (List.mem_of_getElem? h)
     have h0:(0:Int)≤x∧x≤255:=by simpa [Lit.wf,IntKind.min,IntKind.max,IntKind.signed,IntKind.bits] using this
     show 0≤x∧x<256
     omega
   refine ⟨len,fun j=>(zs.getD j 0).toNat,?_,fun j=>by have:=hn j;show (zs.getD j 0).toNat<256;omega,.inr ⟨_,_,by rw [hx],?_⟩⟩
   · by_cases hC:cap=0
     · exact .inl ⟨some a,by rw [hC,show len=0 by omega],by omega⟩
     · obtain ⟨b,o,sp⟩:=a
       have hc0:=hcell 0 (by omega)
       obtain rfl:=plain_cell hc0
       rw [Addr.add_mid] at hc0
       refine .inr ⟨b,o,cap,rfl,block_lt_of_cell hc0,hl,fun j hj => ?_⟩
       have h:=hcell j (by omega)
       rw [Addr.add_mid] at h
       rw [h,Int.toNat_of_nonneg (hn j).1]
   · simp [lits]
     omega
theorem cellsOfCase:Try.prog.cellsOf 33=4:=by kernel_rfl
theorem under_case:∃ f0 f1 f2 f3:Field,Try.prog.underlying 33=some (.struct #[f0,f1,f2,f3])∧oneCellFields Try.prog #[f0,f1,f2,f3]=true∧f0.type=22∧f1.type=22∧f2.type=22∧f3.type=22:=⟨_,_,_,_,Try.underlying33,by kernel_rfl,rfl,rfl,rfl,rfl⟩
theorem open_case {H:Type} {enc:TypeId × Value→H} {W:World} {base:Nat} {v:Value} {d:DataW H} {ps:List MemPlace} {ts:List TypeId} {ds:List (DataW H)} (hval:Value.okWide Try.prog W .any base 33 v) (h:DataW.Trod enc Try.prog W 0 (fun _=>true) true 33 v d ps)
 (hR:(DataW.weightsEach Try.prog ts ds).all (·≤reachBytes)=true) {j:Nat} (ht:ts[j]? = some 33) (hd:ds[j]? = some d) :
 ∃ v0 v1 v2 v3 n0 n1 n2 n3 b0 b1 b2 b3,v = .agg #[v0,v1,v2,v3]∧(BytesIn W v0 n0 b0∧(∀ j,b0 j<256)∧n0<140737488355000)∧(BytesIn W v1 n1 b1∧(∀ j,b1 j<256)∧n1<140737488355000)∧(BytesIn W v2 n2 b2∧(∀ j,b2 j<256)∧n2<140737488355000)∧(BytesIn W v3 n3 b3∧(∀ j,b3 j<256)∧n3<140737488355000):=by
 obtain ⟨f0,f1,f2,f3,hu,hone,t0,t1,t2,t3⟩:=under_case
 obtain ⟨v0,v1,v2,v3,y0,y1,y2,y3,n,rfl,rfl,rfl,g0,g1,g2,g3⟩:=open_agg4 hu hone cellsOfCase hval h
 rw [t0] at g0
 rw [t1] at g1
 rw [t2] at g2
 rw [t3] at g3
 obtain ⟨n0,b0,i0,l0,d0⟩:=bytes_in_cell g0
 obtain ⟨n1,b1,i1,l1,d1⟩:=bytes_in_cell g1
 obtain ⟨n2,b2,i2,l2,d2⟩:=bytes_in_cell g2
 obtain ⟨n3,b3,i3,l3,d3⟩:=bytes_in_cell g3
 have hR':(DataW.weightsEach Try.prog [22,22,22,22] [y0.1,y1.1,y2.1,y3.1]).all (·≤reachBytes)=true:=by
  refine List.all_eq_true.2 fun x hx=>List.all_eq_true.1 hR x (DataW.weights_mem_each ht hd x ?_)
  simp only [DataW.weights,hu,List.map_cons,List.map_nil,t0,t1,t2,t3]
  exact hx
 exact ⟨v0,v1,v2,v3,n0,n1,n2,n3,b0,b1,b2,b3,rfl,⟨i0,l0,bytes_reach hR' (j:=0) rfl rfl d0⟩,⟨i1,l1,bytes_reach hR' (j:=1) rfl rfl d1⟩,⟨i2,l2,bytes_reach hR' (j:=2) rfl rfl d2⟩,⟨i3,l3,bytes_reach hR' (j:=3) rfl rfl d3⟩⟩
end Go.Proofs.Ytalgabgofpmebaa
