/- What the proof stands on: G9M, G9Kn, G9Ans. -/
import Derived.Test.YtibdhadbflfdpaaGreatDoorA8MathM
import Derived.Test.YtibdhadbflfdpaaGreatDoorG9HM
import Derived.Test.YtibdhadbflfdpaaGreatDoorG9MathM
import Derived.Test.YtibdhadbflfdpaaGreatDoorZFM
namespace Go.Proofs.YtibdhadbflfdpaaGreatDoor
open Go.RowKit
set_option maxRecDepth 20000 in
set_option maxHeartbeats 2000000 in
theorem open_bad (v u m t:Value) (a b ml n:Nat) (ks nn M X:Nat→Nat) (w:World) (hv:BytesIn w v a ks) (hu:BytesIn w u b nn) (hm:BytesIn w m ml M) (ht:BytesIn w t n X) (h:¬(a=16∧b=12)) :
 Calls Tryz.prog 148 #[v,u,m,t] w fun e w'=>e = .returned (.tuple #[.slice none 0 0,.int .i64 1])∧Below w.heap.size w w':=by
 have c1:=lockOf_bad v u a b ks nn w hv hu h
 have hz:=zeroL
 have hth:=fun W=>lock_there W (fun _=>0)
 have hi2:=infoLA (fun _=>0)
 have ho:=oneU 32 (fun _=>0)
 obtain ⟨xv,cv,rfl,-,-,-⟩:=hv.src
 obtain ⟨xu,cu,rfl,-,-,-⟩:=hu.src
 obtain ⟨xm,cm,rfl,-,-,-⟩:=hm.src
 obtain ⟨xt,ct,rfl,-,-,-⟩:=ht.src
 clear hv hu hm ht h
 go_enter Tryz.func148,Tryz.ntmps148
 go_wp2_with (first
  | (go_at_call 197;refine c1.mono ?_;clear c1;rintro e w1 ⟨rfl,b1⟩;have hth1:=hth w1;clear hth)
  | (with_reducible (refine id (?_:wpList _ _ _ _ _ _));refine wpList_store_mid rfl 224 _ _ rfl w1.heap.size 0 (ints .u8 32 (fun _=>0)).toArray rfl rfl hth1 hi2 ho ?_;clear hth1))
 go_ret2
 exact ⟨rfl,below_next b1 (lock_var w1 _ _ rfl).2⟩
set_option maxRecDepth 20000 in
set_option maxHeartbeats 2000000 in
theorem open_size (v u m t:Value) (ml n:Nat) (ks nn M X:Nat→Nat) (w:World) (hv:BytesIn w v 16 ks) (hu:BytesIn w u 12 nn) (hm:BytesIn w m ml M) (ht:BytesIn w t n X) (h:¬(ml≤65536∧n≤65552)) :
 Calls Tryz.prog 148 #[v,u,m,t] w fun e w'=>e = .returned (.tuple #[.slice none 0 0,.int .i64 6])∧Below w.heap.size w w':=by
 have c1:=lockOf_good v u ks nn w hv hu
 unfold lkV at c1
 have hz:=zeroL
 have hth:=fun W=>lock_there W (lkN ks nn)
 have hi2:=infoLA (lkN ks nn)
 have ho:=oneU 32 (lkN ks nn)
 generalize lkN ks nn=L at *
 obtain ⟨xv,cv,rfl,-,-,-⟩:=hv.src
 obtain ⟨xu,cu,rfl,-,-,-⟩:=hu.src
 obtain ⟨xm,cm,rfl,-,-,-⟩:=hm.src
 obtain ⟨xt,ct,rfl,-,-,-⟩:=ht.src
 clear hv hu hm ht
 have hcase:((65536:Int)<(ml:Int))∨(¬(65536:Int)<(ml:Int)∧(65552:Int)<(n:Int)):=by omega
 clear h
 rcases hcase with h1 | ⟨h1,h2⟩
 all_goals
  go_enter Tryz.func148,Tryz.ntmps148
  go_wp2_with (first
   | (go_at_call 197;refine c1.mono ?_;clear c1;rintro e w1 ⟨rfl,b1⟩;have hth1:=hth w1;clear hth)
   | (with_reducible (refine id (?_:wpList _ _ _ _ _ _));refine wpList_store_mid rfl 224 _ _ rfl w1.heap.size 0 (ints .u8 32 L).toArray rfl rfl hth1 hi2 ho ?_;clear hth1))
  go_ret2
  exact ⟨rfl,below_next b1 (lock_var w1 _ _ rfl).2⟩
set_option maxRecDepth 20000 in
set_option maxHeartbeats 2000000 in
theorem open_short (v u m t:Value) (ml n:Nat) (ks nn M X:Nat→Nat) (w:World) (hv:BytesIn w v 16 ks) (hu:BytesIn w u 12 nn) (hm:BytesIn w m ml M) (ht:BytesIn w t n X) (hml:ml≤65536) (hn:n<16) :
 Calls Tryz.prog 148 #[v,u,m,t] w fun e w'=>e = .returned (.tuple #[.slice none 0 0,.int .i64 32])∧Below w.heap.size w w':=by
 have c1:=lockOf_good v u ks nn w hv hu
 unfold lkV at c1
 have hz:=zeroL
 have hth:=fun W=>lock_there W (lkN ks nn)
 have hi2:=infoLA (lkN ks nn)
 have ho:=oneU 32 (lkN ks nn)
 generalize lkN ks nn=L at *
 obtain ⟨xv,cv,rfl,-,-,-⟩:=hv.src
 obtain ⟨xu,cu,rfl,-,-,-⟩:=hu.src
 obtain ⟨xm,cm,rfl,-,-,-⟩:=hm.src
 obtain ⟨xt,ct,rfl,-,-,-⟩:=ht.src
 clear hv hu hm ht
 have h1:¬(65536:Int)<(ml:Int):=by omega
 have h2:¬(65552:Int)<(n:Int):=by omega
 have h3:(n:Int)<16:=by omega
 go_enter Tryz.func148,Tryz.ntmps148
 go_wp2_with (first
  | (go_at_call 197;refine c1.mono ?_;clear c1;rintro e w1 ⟨rfl,b1⟩;have hth1:=hth w1;clear hth)
  | (with_reducible (refine id (?_:wpList _ _ _ _ _ _));refine wpList_store_mid rfl 224 _ _ rfl w1.heap.size 0 (ints .u8 32 L).toArray rfl rfl hth1 hi2 ho ?_;clear hth1))
 go_ret2
 exact ⟨rfl,below_next b1 (lock_var w1 _ _ rfl).2⟩
set_option maxRecDepth 20000 in
set_option maxHeartbeats 4000000 in
theorem open_long (v u m t:Value) (ml k:Nat) (ks nn M X:Nat→Nat) (hml:ml≤65536) (hk:k≤65536) (hks:∀ j,ks j<256) (hnn:∀ j,nn j<256) (hM:∀ j,M j<256) (hX:∀ j,X j<256) (w:World) (hv:BytesIn w v 16 ks) (hu:BytesIn w u 12 nn) (hm:BytesIn w m ml M) (ht:BytesIn w t (k+16) X) :
 Calls Tryz.prog 148 #[v,u,m,t] w fun e w'=>(S16 (tgN ks nn ml M k X) (fun j=>X (k+j))→∃ s,e = .returned (.tuple #[s,.int .i64 0])∧Own w.heap.size w' s k (trN ks nn X))∧(¬S16 (tgN ks nn ml M k X) (fun j=>X (k+j))→e = .returned (.tuple #[.slice none 0 0,.int .i64 32]))∧Below w.heap.size w w':=by
 obtain ⟨bb,ob,ct,rfl,hbb,hct,hcell⟩:=ht.resolve_left (fun ⟨_,_,h⟩=>by omega)
 have hd:BytesIn w (.slice (some ⟨bb,ob,none⟩) k ct) k X := .inr ⟨bb,ob,ct,rfl,hbb,by omega,fun j hj=>hcell j (by omega)⟩
 have hg:BytesIn w (.slice (some ⟨bb,ob+k,none⟩) 16 (ct - k)) 16 (fun j=>X (k+j)) := .inr ⟨bb,ob+k,ct - k,rfl,hbb,by omega,fun j hj=>by
  have:=hcell (k+j) (by omega)
  rwa [←Nat.add_assoc] at this⟩
 have c1:=lockOf_good v u ks nn w hv hu
 have c2:=fun W h=>gblockOf_any _ 16 _ (Nat.le_refl _) (fun j=>hX _) W (hg.keep h)
 rw [padN_16] at c2
 have c3:=fun W h=>gtag_any ks nn M X ml k (by omega) (by omega) hks hnn hM hX m _ W (hm.keep h) (hd.keep h)
 have c4:=fun W=>gsame_any (toV (tgN ks nn ml M k X)) (toV (fun j=>X (k+j))) W
 have c5:=fun W h=>crossed_any ks nn X k (by omega) hks hnn hX _ W (hd.keep h)
 have hsame:S16 (tgN ks nn ml M k X) (fun j=>X (k+j))↔toV (tgN ks nn ml M k X)=toV (fun j=>X (k+j)):=⟨toV_S,toV_inj (tgN_B hks hnn ml k) (fun j _=>hX _)⟩
 obtain ⟨T,hT⟩:∃ T,T=decide (toV (tgN ks nn ml M k X)=toV (fun j=>X (k+j))):=⟨_,rfl⟩
 rw [←hT] at c4
 have hTt:S16 (tgN ks nn ml M k X) (fun j=>X (k+j))↔T=true:=by rw [hsame,hT,decide_eq_true_iff]
 rw [hTt]
 clear hsame hT hTt
 unfold blV at *
 generalize wd (toV (tgN ks nn ml M k X)) 0=g0 at *
 generalize wd (toV (tgN ks nn ml M k X)) 64=g1 at *
 generalize wd (toV (fun j=>X (k+j))) 0=t0 at *
 generalize wd (toV (fun j=>X (k+j))) 64=t1 at *
 generalize trN ks nn X=Tr at *
 unfold lkV at *
 have hz:=zeroL
 have hth:=fun W=>lock_there W (lkN ks nn)
 have hi1:=infoL (lkN ks nn)
 have hi2:=infoLA (lkN ks nn)
 have ho:=oneU 32 (lkN ks nn)
 generalize lkN ks nn=L at *
 obtain ⟨xv,cv,rfl,-,-,-⟩:=hv.src
 obtain ⟨xu,cu,rfl,-,-,-⟩:=hu.src
 obtain ⟨xm,cm,rfl,-,-,-⟩:=hm.src
 obtain ⟨n,hn⟩:∃ n,n=k+16:=⟨_,rfl⟩
 rw [←hn]
 have ha':¬(65536:Int)<(ml:Int):=by omega
 have hb':¬(65552:Int)<(n:Int):=by omega
 have hb2':¬(n:Int)<16:=by omega
 have hc':(n:Int) - 16=(k:Int):=by omega
 have hd':IntKind.i64.wrap ((n:Int) - 16)=(k:Int):=by simp only [IntKind.wrap_i64];omega
 have i1:(0:Int)≤(k:Int)∧(k:Int)≤(n:Int):=by omega
 have i2:(k:Int)≤(ct:Int):=by omega
 have i3:n - k=16:=by omega
 have i5:(n:Int)≤(ct:Int):=by omega
 have i6:(n:Int) - (k:Int)=16:=by omega
 have i7:¬ct=k:=by omega
 have i8:IntKind.i64.wrap (k:Int)=(k:Int):=by simp only [IntKind.wrap_i64];omega
 clear hv hu hm ht hks hnn hM hX hd hg hcell hn hct
 go_enter Tryz.func148,Tryz.ntmps148
 go_upto_region 8 with (first
  | (go_at_call 197;refine c1.mono ?_;clear c1;rintro e w1 ⟨rfl,b1⟩;(have hth1:=hth w1);(obtain ⟨V,hV⟩:∃ V,V=(w1.alloc (.cells (zb 32) 224)).setCells w1.heap.size 0 (ints .u8 32 L):=⟨_,rfl⟩);(obtain ⟨rL,bV⟩:=lock_var w1 L V hV);(have HV:=Hid.mk' hV);(replace b1:=below_next b1 bV);clear hth hV bV)
  | (with_reducible (refine id (?_:wpList _ _ _ _ _ _));refine wpList_store_mid rfl 224 _ _ rfl w1.heap.size 0 (ints .u8 32 L).toArray rfl rfl hth1 hi2 ho ?_;rw [List.toList_toArray,←HV.out];clear hth1 HV))
 have hdr:Below V.heap.size V V.drew:=(Below.refl _ _).drew
 replace rL:=rL.still hdr
 replace b1:=below_next b1 hdr
 refine wp_last 13 (S:=fun u=>Below V.drew.heap.size V.drew u) (by kernel_rfl) (by kernel_rfl) (by kernel_rfl) (by kernel_rfl) (Below.refl _ _) (fun hS => ?_)
 generalize V.drew=V2 at *
 refine tg 0 hS ?_
 (try simp only [pS])
 refine tg 1 hS ?_
 (try simp only [pS])
 refine tg 2 hS ?_
 (try simp only [pS])
 refine tg 3 hS ?_
 (try simp only [pS])
 refine tg 4 hS ?_
 (try simp only [pS])
 refine tg 5 hS ?_
 (try simp only [pS])
 refine tg 6 hS ?_
 (try simp only [pS])
 refine tg 7 hS ?_
 (try simp only [pS])
 refine tg 8 hS ?_
 (try simp only [pS])
 refine tg 9 hS ?_
 (try simp only [pS])
 refine wpAnyH_ready (rs:=[10,11]) (by kernel_rfl) (by simp) (cR (c2 V2 b1) ?_ (gR (fun g=>pA g 0) (b2 0 0) 228 (fun u hu=>hu) ?_ AllReadyH.nil))
 · rintro e V3 ⟨rfl,hb3⟩
   refine ⟨_,rfl,hb3,?_⟩
   (try simp only [pS])
   refine wpAnyH_ready (rs:=[11]) (by kernel_rfl) (by simp) (gR (fun g=>pA g 0) (b2 0 0) 228 (fun u hu=>below_next hb3 hu) ?_ AllReadyH.nil)
   intro V4 g hg hb4 rG
   have hb3a:=hb3
   replace hb3:=below_next hb3 hb4
   (try simp only [pS])
   have hgl:V2.heap.size≤g:=Nat.le_trans (Nat.le_trans (Nat.le_refl _) hb3a.size) hg
   refine tg 12 hb3 ?_
   (try simp only [pS])
   refine wpAnyH_done (by kernel_rfl) ?_ _
   refine lastRow 13 228 13 44 (b2 t0 t1) rG rfl (info2a t0 t1) (one2 t0 t1) (fun rG' => ?_)
   refine NoPanic.normal ?_
   dsimp only [Act.put]
   have hwg:w1.heap.size≠g:=Nat.ne_of_lt (Nat.lt_of_lt_of_le rL.lt hgl)
   have rL5:=(rL.still hb3).far g 0 (b2 t0 t1) (.inl hwg)
   have b5:=below_setCells (Nat.le_trans b1.size hgl) (b2 t0 t1) 0 _ (below_next b1 hb3)
   generalize V4.setCells g 0 (b2 t0 t1)=V5 at *
   clear rG hb3 hS c2
   go_upto_region 9 with (fail)
   have hdr5:Below V5.heap.size V5 V5.drew:=(Below.refl _ _).drew
   replace rL5:=rL5.still hdr5
   replace rG':=rG'.still hdr5
   replace b5:=below_next b5 hdr5
   refine wp_region_noPanic ?_
   refine wp_region_held_drew (S:=fun u=>Below V5.drew.heap.size V5.drew u) (by kernel_rfl) (Below.refl _ _) (fun hS => ?_)
   generalize V5.drew=V6 at *
   refine tlS 0 (fun u hu=>rL5.still hu) hS 224 Tryz.underlying224 hi1 ?_
   (try simp only [pS])
   refine tg 1 hS ?_
   (try simp only [pS])
   refine tg 2 hS ?_
   (try simp only [pS])
   refine tlS 4 (fun u hu=>rG'.still hu) hS 228 Tryz.underlying228 info2 ?_
   (try simp only [pS])
   refine cl 3 (c3 V6 b5) ?_
   rintro e V7 ⟨rfl,hb7⟩
   refine ⟨_,rfl,hb7,?_⟩
   (try simp only [pS])
   refine cl 5 (c4 V7) ?_
   rintro e V8 ⟨rfl,hb8⟩
   replace hb7:=below_next hb7 hb8
   refine ⟨_,rfl,hb7,?_⟩
   (try simp only [pS])
   refine tg 6 hb7 ?_
   (try simp only [pS])
   refine wpAnyH_done (by kernel_rfl) ?_ _
   refine NoPanic.normal ?_
   have rL8:=rL5.still hb7
   have b8:=below_next b5 hb7
   have rLr:=rL8.range
   have c5':=c5 V8 b8
   clear c5 c3 c4 rL5 rG' hb7 hb8 hS b5
   cases T with
   | false =>
    go_wp2
    go_ret2
    exact ⟨(fun h=>Bool.noConfusion h),fun _=>rfl,b8⟩
   | true =>
    go_wp2_with (first
     | (refine wpList_load_mid rfl 224 _ rfl w1.heap.size 0 rfl (ints .u8 32 L) _ rLr Tryz.underlying224 rfl hi1 ?_)
     | (go_at_call 198;refine c5'.mono ?_;clear c5';rintro e w9 ⟨gh,rfl,own9,b9⟩))
    go_ret2
    exact ⟨⟨_,rfl,own_down own9 b8.size⟩,below_next b8 b9⟩
 · intro V3 g hg hb3 rG
   (try simp only [pS])
   refine cl 10 (c2 V3 (below_next b1 hb3)) ?_
   rintro e V4 ⟨rfl,hb4⟩
   replace rG:=rG.still hb4
   replace hb3:=below_next hb3 hb4
   refine ⟨_,rfl,hb3,?_⟩
   (try simp only [pS])
   have hgl:V2.heap.size≤g:=hg
   refine tg 12 hb3 ?_
   (try simp only [pS])
   refine wpAnyH_done (by kernel_rfl) ?_ _
   refine lastRow 13 228 13 44 (b2 t0 t1) rG rfl (info2a t0 t1) (one2 t0 t1) (fun rG' => ?_)
   refine NoPanic.normal ?_
   dsimp only [Act.put]
   have hwg:w1.heap.size≠g:=Nat.ne_of_lt (Nat.lt_of_lt_of_le rL.lt hgl)
   have rL5:=(rL.still hb3).far g 0 (b2 t0 t1) (.inl hwg)
   have b5:=below_setCells (Nat.le_trans b1.size hgl) (b2 t0 t1) 0 _ (below_next b1 hb3)
   generalize V4.setCells g 0 (b2 t0 t1)=V5 at *
   clear rG hb3 hS c2
   go_upto_region 9 with (fail)
   have hdr5:Below V5.heap.size V5 V5.drew:=(Below.refl _ _).drew
   replace rL5:=rL5.still hdr5
   replace rG':=rG'.still hdr5
   replace b5:=below_next b5 hdr5
   refine wp_region_noPanic ?_
   refine wp_region_held_drew (S:=fun u=>Below V5.drew.heap.size V5.drew u) (by kernel_rfl) (Below.refl _ _) (fun hS => ?_)
   generalize V5.drew=V6 at *
   refine tlS 0 (fun u hu=>rL5.still hu) hS 224 Tryz.underlying224 hi1 ?_
   (try simp only [pS])
   refine tg 1 hS ?_
   (try simp only [pS])
   refine tg 2 hS ?_
   (try simp only [pS])
   refine tlS 4 (fun u hu=>rG'.still hu) hS 228 Tryz.underlying228 info2 ?_
   (try simp only [pS])
   refine cl 3 (c3 V6 b5) ?_
   rintro e V7 ⟨rfl,hb7⟩
   refine ⟨_,rfl,hb7,?_⟩
   (try simp only [pS])
   refine cl 5 (c4 V7) ?_
   rintro e V8 ⟨rfl,hb8⟩
   replace hb7:=below_next hb7 hb8
   refine ⟨_,rfl,hb7,?_⟩
   (try simp only [pS])
   refine tg 6 hb7 ?_
   (try simp only [pS])
   refine wpAnyH_done (by kernel_rfl) ?_ _
   refine NoPanic.normal ?_
   have rL8:=rL5.still hb7
   have b8:=below_next b5 hb7
   have rLr:=rL8.range
   have c5':=c5 V8 b8
   clear c5 c3 c4 rL5 rG' hb7 hb8 hS b5
   cases T with
   | false =>
    go_wp2
    go_ret2
    exact ⟨(fun h=>Bool.noConfusion h),fun _=>rfl,b8⟩
   | true =>
    go_wp2_with (first
     | (refine wpList_load_mid rfl 224 _ rfl w1.heap.size 0 rfl (ints .u8 32 L) _ rLr Tryz.underlying224 rfl hi1 ?_)
     | (go_at_call 198;refine c5'.mono ?_;clear c5';rintro e w9 ⟨gh,rfl,own9,b9⟩))
    go_ret2
    exact ⟨⟨_,rfl,own_down own9 b8.size⟩,below_next b8 b9⟩
end Go.Proofs.YtibdhadbflfdpaaGreatDoor
namespace Go.Proofs.YtibdhadbflfdpaaGreatDoor
open Go.RowKit
abbrev z0:Nat→Nat:=fun _=>0
theorem hz0:∀ j,z0 j<256:=fun _=>(by decide:0<256)
end Go.Proofs.YtibdhadbflfdpaaGreatDoor
namespace Go.Proofs.YtibdhadbflfdpaaGreatDoor
open Go.RowKit
abbrev AnsC (f:FuncId) (args:Array Value) (w:World) (N:Nat) (Z:Nat→Nat) (E:Int):Prop :=
 Calls Tryz.prog f args w fun e w'=>∃ s,e = .returned (.tuple #[s,.int .i64 E])∧BytesIn w' s N Z∧Below w.heap.size w w'
theorem RowF.bytes {base:Nat} {w:World} {s:Value} {X:Nat→Nat} (h:RowF base w s 16 X):BytesIn w s 16 X:=by
 obtain ⟨g,cap,rfl,-,hc,hr⟩:=h
 exact .inr ⟨g,0,cap,rfl,block_lt_of_cell (hr 0 (by decide)).1,hc,fun j hj=>(hr j hj).1⟩
theorem ans_nil {f:FuncId} {args:Array Value} {w:World} {E:Int} (c:Calls Tryz.prog f args w fun e w'=>e = .returned (.tuple #[.slice none 0 0,.int .i64 E])∧Below w.heap.size w w'):AnsC f args w 0 z0 E :=
 c.mono fun _ _ ⟨he,hb⟩=>⟨_,he,.inl ⟨none,rfl,rfl⟩,hb⟩
theorem same_below {f:FuncId} {args:Array Value} {w:World} {v:Ending} (c:Calls Tryz.prog f args w fun e w'=>e=v∧w'=w):Calls Tryz.prog f args w fun e w'=>e=v∧Below w.heap.size w w' :=
 c.mono fun _ _ ⟨he,hw⟩=>⟨he,by rw [hw];exact Below.refl _ _⟩
def slB (ks nn:Nat→Nat) (ml:Nat) (M:Nat→Nat) (n:Nat) (X:Nat→Nat) (j:Nat):Nat:=slN ks nn ml M n X j%256
theorem slN_lt {ks nn M X:Nat→Nat} (hks:∀ j,ks j<256) (hnn:∀ j,nn j<256) (hX:∀ j,X j<256) (ml n j:Nat) (hj:j<n+16):slN ks nn ml M n X j<256:=by
 unfold slN cat
 split
 · exact trN_lt hks hnn hX j
 · exact tgN_B hks hnn ml n _ (by omega)
theorem seal_bothE (a b ml n:Nat) (ks nn M X:Nat→Nat) (hks:∀ j,ks j<256) (hnn:∀ j,nn j<256) (hM:∀ j,M j<256) (hX:∀ j,X j<256):∃ N Z E,(∀ j,Z j<256)∧(∀ v u m t w,BytesIn w v a ks→BytesIn w u b nn→BytesIn w m ml M→BytesIn w t n X→AnsC 141 #[v,u,m,t] w N Z E)∧(∀ v u m t w,BytesIn w v a ks→BytesIn w u b nn→BytesIn w m ml M→BytesIn w t n X→AnsC 145 #[v,u,m,t] w N Z E)∧(E=0∨N=0):=by
 by_cases h:a=16∧b=12
 · obtain ⟨rfl,rfl⟩:=h
   by_cases h2:ml≤65536∧n≤65536
   · have hl:∀ j,j<n+16→slN ks nn ml M n X j=slB ks nn ml M n X j:=fun j hj=>(Nat.mod_eq_of_lt (slN_lt hks hnn hX ml n j hj)).symm
     exact ⟨n+16,slB ks nn ml M n X,0,fun j=>Nat.mod_lt _ (by decide),fun v u m t w hv hu hm ht=>(seal_good v u m t ml n ks nn M X h2.1 h2.2 hks hnn hM hX w hv hu hm ht).mono fun _ _ ⟨s,he,ho,hw⟩=>⟨s,he,(ho.congr hl).bytesOf,hw⟩,
      fun v u m t w hv hu hm ht=>(rSeal_good v u m t ml n ks nn M X h2.1 h2.2 hks hnn hM hX w hv hu hm ht).mono fun _ _ ⟨s,he,ho,hw⟩=>⟨s,he,(ho.congr hl).bytesOf,hw⟩,.inl rfl⟩
   · exact ⟨0,z0,6,hz0,fun v u m t w hv hu hm ht=>ans_nil (seal_size v u m t ml n ks nn M X w hv hu hm ht h2),fun v u m t w hv hu hm ht=>ans_nil (same_below (rSeal_size v u m t ml n ks nn M X w hv hu hm ht h2)),.inr rfl⟩
 · exact ⟨0,z0,1,hz0,fun v u m t w hv hu hm ht=>ans_nil (seal_bad v u m t a b ml n ks nn M X w hv hu hm ht h),fun v u m t w hv hu hm ht=>ans_nil (same_below (rSeal_bad v u m t a b ml n ks nn M X w hv hu hm ht h)),.inr rfl⟩
theorem open_bothE (a b ml n:Nat) (ks nn M X:Nat→Nat) (hks:∀ j,ks j<256) (hnn:∀ j,nn j<256) (hM:∀ j,M j<256) (hX:∀ j,X j<256):∃ N Z E,(∀ j,Z j<256)∧(∀ v u m t w,BytesIn w v a ks→BytesIn w u b nn→BytesIn w m ml M→BytesIn w t n X→AnsC 148 #[v,u,m,t] w N Z E)∧(∀ v u m t w,BytesIn w v a ks→BytesIn w u b nn→BytesIn w m ml M→BytesIn w t n X→AnsC 149 #[v,u,m,t] w N Z E)∧(E=0∨N=0):=by
 by_cases h:a=16∧b=12
 · obtain ⟨rfl,rfl⟩:=h
   by_cases h2:ml≤65536∧n≤65552
   · by_cases h3:n<16
     · exact ⟨0,z0,32,hz0,fun v u m t w hv hu hm ht=>ans_nil (open_short v u m t ml n ks nn M X w hv hu hm ht h2.1 h3),fun v u m t w hv hu hm ht=>ans_nil (rOpen_short v u m t ml n ks nn M X w hv hu hm ht h2.1 h3),.inr rfl⟩
     · obtain ⟨k,rfl⟩:∃ k,n=k+16:=⟨n - 16,by omega⟩
       by_cases h4:S16 (tgN ks nn ml M k X) (fun j=>X (k+j))
       · exact ⟨k,trN ks nn X,0,trN_lt hks hnn hX,fun v u m t w hv hu hm ht=>(open_long v u m t ml k ks nn M X h2.1 (by omega) hks hnn hM hX w hv hu hm ht).mono fun _ _ ⟨h,_,hw⟩=>by
          obtain ⟨s,he,ho⟩:=h h4
          exact ⟨s,he,ho.bytesOf,hw⟩,fun v u m t w hv hu hm ht=>(rOpen_long v u m t ml k ks nn M X h2.1 (by omega) hks hnn hM hX w hv hu hm ht).mono fun _ _ ⟨h,_,hw⟩=>by
          obtain ⟨s,he,ho⟩:=h h4
          exact ⟨s,he,ho.bytesOf,hw⟩,.inl rfl⟩
       · exact ⟨0,z0,32,hz0,fun v u m t w hv hu hm ht=>ans_nil ((open_long v u m t ml k ks nn M X h2.1 (by omega) hks hnn hM hX w hv hu hm ht).mono fun _ _ ⟨_,h,hw⟩=>⟨h h4,hw⟩),
          fun v u m t w hv hu hm ht=>ans_nil ((rOpen_long v u m t ml k ks nn M X h2.1 (by omega) hks hnn hM hX w hv hu hm ht).mono fun _ _ ⟨_,h,hw⟩=>⟨h h4,hw⟩),.inr rfl⟩
   · exact ⟨0,z0,6,hz0,fun v u m t w hv hu hm ht=>ans_nil (open_size v u m t ml n ks nn M X w hv hu hm ht h2),fun v u m t w hv hu hm ht=>ans_nil (same_below (rOpen_size v u m t ml n ks nn M X w hv hu hm ht h2)),.inr rfl⟩
 · exact ⟨0,z0,1,hz0,fun v u m t w hv hu hm ht=>ans_nil (open_bad v u m t a b ml n ks nn M X w hv hu hm ht h),fun v u m t w hv hu hm ht=>ans_nil (same_below (rOpen_bad v u m t a b ml n ks nn M X w hv hu hm ht h)),.inr rfl⟩
end Go.Proofs.YtibdhadbflfdpaaGreatDoor
