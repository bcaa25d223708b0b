/- What the proof stands on: HBlock, HExp. -/
import Derived.Test.YtkoedfmdhdikaaaDoorHEngM
import Derived.Test.YtkoedfmdhdikaaaDoorHRefSmallM
import Derived.Test.YtkoedfmdhdikaaaDoorHWriteCM
import Derived.Test.YtkoedfmdhdikaaaDoorRFnM
import Derived.ArgAppend
import Derived.Deep.AppendLies
import Derived.Deep.RegionLawGrows
import Derived.Deep.Upon
import Derived.LoopIn
import Derived.LoopNIn
import Derived.OwnWalkIn
import Derived.RangeFuncBound
import Derived.RangeFuncCalls
import Derived.RangeFuncLeaves
import Derived.RangeFuncNested
import Derived.Shelf.Abstract
import Derived.Shelf.RegionOpen
import Derived.TacticsInMore
namespace Go.Proofs.YtkoedfmdhdikaaaDoor
open Go.RowKit
set_option maxRecDepth 20000 in
set_option maxHeartbeats 2000000 in
theorem blockOf_short_any (xo:Option Addr) (n cx:Nat) (bs:Nat→Nat) (w:World) (hv:BytesIn w (.slice xo n cx) n bs) (hn:n≤64) :
 Calls Tryd.prog 52 #[.slice xo n cx] w fun e w'=>e = .returned (.agg (ints .u8 64 (keyB n bs)).toArray)∧Below w.heap.size w w':=by
 have hz:=zero64
 have hi':∀ X:Nat→Nat,(Tryd.prog.info? 87).map (·.size)=some (ints .u8 64 X).length:=fun X=>by rw [ints_len];exact info64
 have hi2:∀ X:Nat→Nat,(Tryd.prog.info? 87).map (·.size)=some (ints .u8 64 X).toArray.size:=fun X=>by rw [List.size_toArray,ints_len];exact info64
 have hone:∀ X:Nat→Nat,(ints .u8 64 X).toArray.all (·.oneCell')=true:=fun X=>all_oneCell_toArray (ints_one _ _ _)
 obtain ⟨W0,hW0⟩:∃ W0,W0=w.alloc (.cells (zb 64) 87):=⟨_,rfl⟩
 have HW0:Hid (W0=w.alloc (.cells (zb 64) 87)):=hW0
 have hWs:w.heap.size<W0.heap.size:=by rw [hW0];simp
 have hWe:w.heap.size+1=W0.heap.size:=by rw [hW0];simp
 have hbw:Below w.heap.size w W0:=by rw [hW0];exact (Below.refl _ _).alloc (Nat.le_refl _) _
 have hres:W0.there w.heap.size 0 64:=by rw [hW0];exact there64 w
 have hkey:∀ j,j<64→(if j<n then bs j else 0)=keyB n bs j:=fun j _=>by unfold keyB;rw [if_pos hn]
 obtain ⟨xo',cx',hve,hxn,-,hsrc⟩:=hv.src
 cases hve
 have src0:Src (W0.alloc (.cells (zb 64) 87)) xo n bs:=hsrc _ (hbw.alloc (by omega) _)
 obtain ⟨W3,hW3⟩:∃ W3,W3=(W0.alloc (.cells (zb 64) 87)).setCells (w.heap.size+1) 0 (ints .u8 n bs):=⟨_,rfl⟩
 have HW3:Hid (W3=(W0.alloc (.cells (zb 64) 87)).setCells (w.heap.size+1) 0 (ints .u8 n bs)):=hW3
 have hrow3:RowAt .u8 W3 (w.heap.size+1) 0 64 (keyB n bs):=by rw [hW3,hWe];exact (lay64 W0 n bs (by omega)).congr hkey
 have hb3:Below W0.heap.size W0 W3:=by rw [hW3,hWe];exact below_setCells (Nat.le_refl _) _ _ _ ((Below.refl _ _).alloc (Nat.le_refl _) _)
 have hres3:W3.there w.heap.size 0 (ints .u8 64 (keyB n bs)).toArray.size:=fun j hj=>by
  rw [List.size_toArray,ints_len] at hj
  rw [hb3.cell (p:=⟨w.heap.size,0+j,none⟩) hWs,hb3.frozen (p:=⟨w.heap.size,0+j,none⟩) hWs]
  exact hres j hj
 have hmin:Hid (n=Nat.min n 64):=(Nat.min_eq_left hn).symm
 have hth:(W0.alloc (.cells (zb 64) 87)).there (w.heap.size+1) 0 64:=by rw [hWe];exact there64 W0
 have hni:¬(64<(n:Int)):=by omega
 clear hW0 hW3 hv hsrc hWe hkey hres
 go_enter Tryd.func52,Tryd.ntmps52
 go_wp2_with (first
  | (refine wpList_load_mid rfl 87 _ rfl _ 0 rfl _ _ hrow3.range Tryd.underlying87 rfl (hi' _) ?_)
  | (refine wpList_store_mid rfl 87 _ _ rfl _ 0 _ rfl rfl hres3 (hi2 _) (hone _) ?_)
  | (rw [←HW0.out];refine wpList_copy_bytes rfl _ _ 24 24 rfl 5 Tryd.underlying24 (by kernel_rfl) (w.heap.size+1) 0 64 64 xo n cx rfl rfl n bs src0 hmin.out hth ?_;rw [←HW3.out]))
 refine bodyPost_ret (results_cell_mid Tryd.results52 _ _ w.heap.size 0 (ints .u8 64 (keyB n bs)) _ rfl (World.rangeAt_setCells_same _ _ _ _ (by rw [List.size_toArray] at hres3;exact hres3)) Tryd.underlying87 rfl (hi' _)) rfl ⟨rfl,?_⟩
 exact below_setCells (Nat.le_refl _) _ _ _ (hbw.trans (hb3.mono (by omega)))
set_option maxRecDepth 20000 in
set_option maxHeartbeats 2000000 in
theorem blockOf_long_any (xo:Option Addr) (n cx:Nat) (bs:Nat→Nat) (hbs:∀ j,bs j<256) (hnb:n<2305843009213693000) (w:World) (hT:HTab w cubeK squareK) (hv:BytesIn w (.slice xo n cx) n bs) (hn:¬n≤64) :
 Calls Tryd.prog 52 #[.slice xo n cx] w fun e w'=>e = .returned (.agg (ints .u8 64 (keyB n bs)).toArray)∧Below w.heap.size w w':=by
 have hz:=zero64
 have hi':∀ X:Nat→Nat,(Tryd.prog.info? 87).map (·.size)=some (ints .u8 64 X).length:=fun X=>by rw [ints_len];exact info64
 have hi2:∀ X:Nat→Nat,(Tryd.prog.info? 87).map (·.size)=some (ints .u8 64 X).toArray.size:=fun X=>by rw [List.size_toArray,ints_len];exact info64
 have hone:∀ X:Nat→Nat,(ints .u8 64 X).toArray.all (·.oneCell')=true:=fun X=>all_oneCell_toArray (ints_one _ _ _)
 have h3:=hT.size
 have hb1:Below w.heap.size w (w.alloc (.cells (zb 64) 87)):=(Below.refl _ _).alloc (Nat.le_refl _) _
 have hs:=Sum256_any cubeK squareK (.slice xo n cx) n bs hbs (w.alloc (.cells (zb 64) 87)) (hT.below hb1 h3) (hv.still hb1) (by omega)
 rw [hashS_spec cubeK squareK n bs (by decide)] at hs
 have hkey:∀ j,j<64→(if j<32 then outB 32 (specS rn cubeK squareK n bs) j else 0)=keyB n bs j:=fun j _=>by unfold keyB;rw [if_neg hn]
 obtain ⟨X,hX⟩:∃ X,X=outB 32 (specS rn cubeK squareK n bs):=⟨_,rfl⟩
 rw [←hX] at hs hkey
 have hk:∀ (W0:World) (ga:Nat),Below (w.alloc (.cells (zb 64) 87)).heap.size (w.alloc (.cells (zb 64) 87)) W0→RowAt .u8 W0 ga 0 32 X→∃ W3,W3=(W0.alloc (.cells (zb 64) 87)).setCells W0.heap.size 0 (ints .u8 32 X)∧RowAt .u8 W3 W0.heap.size 0 64 (keyB n bs)∧Below w.heap.size w W3∧W3.there w.heap.size 0 (ints .u8 64 (keyB n bs)).toArray.size∧(W0.alloc (.cells (zb 64) 87)).there W0.heap.size 0 64∧Src (W0.alloc (.cells (zb 64) 87)) (some ⟨ga,0,none⟩) 32 X:=fun W0 ga hb hra=>by
  have hsz:=hb.size
  simp only [World.size_alloc] at hsz
  have hga:ga<W0.heap.size:=block_lt_of_cell (hra 0 (by decide)).1
  have hb3:Below W0.heap.size W0 ((W0.alloc (.cells (zb 64) 87)).setCells W0.heap.size 0 (ints .u8 32 X)):=below_setCells (Nat.le_refl _) _ _ _ ((Below.refl _ _).alloc (Nat.le_refl _) _)
  refine ⟨_,rfl,(lay64 W0 32 X (by decide)).congr hkey,(hb1.trans (hb.mono (by simp))).trans (hb3.mono (by omega)),fun j hj => ?_,there64 W0,.inr ⟨ga,0,rfl,fun j hj => ?_⟩⟩
  · rw [List.size_toArray,ints_len] at hj
    rw [hb3.cell (p:=⟨w.heap.size,0+j,none⟩) (by show w.heap.size<_;omega),hb3.frozen (p:=⟨w.heap.size,0+j,none⟩) (by show w.heap.size<_;omega),hb.cell (p:=⟨w.heap.size,0+j,none⟩) (by simp),hb.frozen (p:=⟨w.heap.size,0+j,none⟩) (by simp)]
    exact there64 w j hj
  · rw [World.cell?_alloc_lt _ _ _ hga];exact (hra j hj).1
 have hni:64<(n:Int):=by omega
 clear hX hkey hv hT hb1 hn
 go_enter Tryd.func52,Tryd.ntmps52
 go_wp2_with (first
  | (go_at_call 62;refine hs.mono ?_;clear hs;rintro e W0 ⟨ga,rfl,hga,hra,hb⟩;obtain ⟨W3,hW3,hrow3,hb3,hres3,hth,src0⟩:=hk W0 ga hb hra;(have HW3:Hid (W3=(W0.alloc (.cells (zb 64) 87)).setCells W0.heap.size 0 (ints .u8 32 X)):=hW3);clear hk hW3)
  | (refine wpList_load_mid rfl 87 _ rfl _ 0 rfl _ _ hrow3.range Tryd.underlying87 rfl (hi' _) ?_)
  | (refine wpList_store_mid rfl 87 _ _ rfl _ 0 _ rfl rfl hres3 (hi2 _) (hone _) ?_)
  | (refine wpList_copy_bytes rfl _ _ 24 24 rfl 5 Tryd.underlying24 (by kernel_rfl) W0.heap.size 0 64 64 (some ⟨ga,0,none⟩) 32 32 rfl rfl 32 X src0 rfl hth ?_;rw [←HW3.out]))
 refine bodyPost_ret (results_cell_mid Tryd.results52 _ _ w.heap.size 0 (ints .u8 64 (keyB n bs)) _ rfl (World.rangeAt_setCells_same _ _ _ _ (by rw [List.size_toArray] at hres3;exact hres3)) Tryd.underlying87 rfl (hi' _)) rfl ⟨rfl,?_⟩
 exact below_setCells (Nat.le_refl _) _ _ _ hb3
theorem blockOf_any (v:Value) (n:Nat) (bs:Nat→Nat) (hbs:∀ j,bs j<256) (hnb:n<2305843009213693000) (w:World) (hT:HTab w cubeK squareK) (hv:BytesIn w v n bs) :
 Calls Tryd.prog 52 #[v] w fun e w'=>e = .returned (.agg (ints .u8 64 (keyB n bs)).toArray)∧Below w.heap.size w w':=by
 obtain ⟨xo,cx,rfl,_,_,_⟩:=hv.src
 by_cases hn:n≤64
 · exact blockOf_short_any xo n cx bs w hv hn
 · exact blockOf_long_any xo n cx bs hbs hnb w hT hv hn
set_option maxHeartbeats 1000000 in
theorem hmac_any (v tv:Value) (n m:Nat) (bs t:Nat→Nat) (hbs:∀ j,bs j<256) (ht:∀ j,t j<256) (hnb:n<2305843009213693000) (hm:m<2305843009213693000) (w:World) (hT:HTab w cubeK squareK) (hv:BytesIn w v n bs) (htv:BytesIn w tv m t) :
 Calls Tryd.prog 35 #[v,tv] w fun e w'=>∃ g,e = .returned (.slice (some ⟨g,0,none⟩) 32 32)∧w.heap.size≤g∧RowAt .u8 w' g 0 32 (tagH (keyB n bs) m t)∧Below w.heap.size w w':=by
 have h3:=hT.size
 obtain ⟨xt,ct,rfl,_,_,_⟩:=htv.src
 have c1:=blockOf_any v n bs hbs hnb w hT hv
 have c2:∀ W1:World,Below w.heap.size w W1→Calls Tryd.prog 51 #[.agg (ints .u8 64 (keyB n bs)).toArray,.slice (some ⟨W1.heap.size,0,none⟩) 1 1] (W1.alloc (.cells #[.slice xt m ct] 24)) fun e w'=>∃ g,e = .returned (.slice (some ⟨g,0,none⟩) 32 32)∧w.heap.size≤g∧RowAt .u8 w' g 0 32 (tagH (keyB n bs) m t)∧Below w.heap.size w w':=fun W1 hb=>by
  have hb2:=hb.alloc hb.size (.cells #[.slice xt m ct] 24)
  refine (tag_any (keyB n bs) (keyB_lt hbs) W1.heap.size 1 1 m t ht hm _ (hT.below hb2 h3) (parts_one W1 (.slice xt m ct) m t _ (htv.still hb)) (by decide)).mono ?_
  rintro e w' ⟨g,rfl,hg,hr,hb'⟩
  have:=hb2.size
  exact ⟨g,rfl,by omega,hr,hb2.trans (hb'.mono this)⟩
 obtain ⟨X,hX⟩:∃ X,X=tagH (keyB n bs) m t:=⟨_,rfl⟩
 rw [←hX] at c2 ⊢
 clear hX hT hv htv
 go_enter Tryd.func35,Tryd.ntmps35
 go_wp2_with (first
  | (go_at_call 52;refine c1.mono ?_;clear c1;rintro e w1 ⟨rfl,hb1⟩;replace c2:=c2 w1 hb1)
  | (go_at_call 51;refine c2.mono ?_;rintro e w' ⟨g,rfl,hg,hr,hb'⟩))
 go_ret
 exact ⟨g,rfl,hg,hr,hb'⟩
end Go.Proofs.YtkoedfmdhdikaaaDoor
namespace Go.Proofs.YtkoedfmdhdikaaaDoor
open Go.RowKit Go.Shelf
attribute [local go_sem] Oper.semAt_some
theorem tags_any (x1 x2:Option Addr) (n1 n2 c1 c2:Nat) (w:World):Calls Tryd.prog 50 #[.slice x1 n1 c1,.slice x2 n2 c2] w fun e w'=>e = .returned (.func (.func 60) #[] #[.pointer (some ⟨w.heap.size,0,none⟩),.pointer (some ⟨w.heap.size+1,0,none⟩)])∧w'=(w.alloc (.cells #[.slice x1 n1 c1] 24)).alloc (.cells #[.slice x2 n2 c2] 24):=by
 go_enter Tryd.func50,Tryd.ntmps50
 go_wp2
 go_ret
 exact ⟨rfl,rfl⟩
def tE (kv:Nat→Nat) (m:Nat) (info:Nat→Nat):Nat→Nat→Nat
 | 0=>fun _=>0
 | i+1=>tagH kv ((if i=0 then 0 else 32)+m+1) (cat (if i=0 then 0 else 32) (tE kv m info i) (cat m info (fun _=>i+1)))
theorem tE_lt (kv:Nat→Nat) (m:Nat) (info:Nat→Nat):∀ i j,tE kv m info i j<256
 | 0,_=>Nat.zero_lt_succ _
 | _+1,j=>tagH_lt _ _ _ j
theorem parts_three (w:World) (v0 v1 v2:Value) (a m c:Nat) (b0 b1 b2:Nat→Nat) (ty:TypeId) (h0:BytesIn w v0 a b0) (h1:BytesIn w v1 m b1) (h2:BytesIn w v2 c b2):Parts (w.alloc (.cells #[v0,v1,v2] ty)) w.heap.size 3 (a+m+c) (cat a b0 (cat m b1 b2)):=by
 have hb:Below w.heap.size w (w.alloc (.cells #[v0,v1,v2] ty)):=(Below.refl _ _).alloc (Nat.le_refl _) _
 have key:∀ {v:Value} {n:Nat} {b c:Nat→Nat},BytesIn w v n b→(∀ j,j<n→b j=c j)→BytesIn (w.alloc (.cells #[v0,v1,v2] ty)) v n c:=fun {v n b c} h e=>by
  rcases h.still hb with h | ⟨bb,ob,cap,rfl,g1,g2,g3⟩
  · exact .inl h
  · exact .inr ⟨bb,ob,cap,rfl,g1,g2,fun j hj=>by rw [g3 j hj,e j hj]⟩
 refine ⟨fun i=>if i=0 then v0 else if i=1 then v1 else v2,fun i=>if i=0 then 0 else if i=1 then a else if i=2 then a+m else a+m+c,rfl,rfl,fun i hi => ?_⟩
 match i,hi with
 | 0,_ =>
  refine ⟨by simp,by simp,by simp;omega,?_⟩
  refine key (b:=b0) (by simpa using h0) (fun j hj => ?_)
  simp at hj
  simp [cat,hj]
 | 1,_ =>
  refine ⟨by simp,by simp,by simp,?_⟩
  refine key (b:=b1) (by simpa using h1) (fun j hj => ?_)
  simp at hj
  simp [cat,hj]
  intro h;omega
 | 2,_ =>
  refine ⟨by simp,by simp,by simp,?_⟩
  refine key (b:=b2) (by simpa using h2) (fun j hj => ?_)
  simp [cat]
  rw [if_neg (by omega),if_neg (by omega)]
  congr 1;omega
def LastAt (bad:Nat→Prop) (W:World) (v:Value) (j:Nat) (X:Nat→Nat):Prop:=(j=0∧v = .slice none 0 0)∨(0<j∧∃ g,v = .slice (some ⟨g,0,none⟩) 32 32∧RowAt .u8 W g 0 32 X∧¬bad g)
theorem LastAt.bytes {bad:Nat→Prop} {W:World} {v:Value} {j:Nat} {X:Nat→Nat} (h:LastAt bad W v j X):BytesIn W v (if j=0 then 0 else 32) X:=by
 rcases h with ⟨rfl,rfl⟩ | ⟨hj,g,rfl,hr,_⟩
 · exact .inl ⟨none,rfl,rfl⟩
 · rw [if_neg (by omega)]
   exact .inr ⟨g,0,32,rfl,block_lt_of_cell (hr 0 (by decide)).1,Nat.le_refl _,fun j hj=>(hr j hj).1⟩
set_option maxRecDepth 100000 in
set_option maxHeartbeats 4000000 in
theorem hiter_in (n:Nat) (w0:World) (hT:HTab w0 cubeK squareK) (x1 x2:Option Addr) (n1 n2 c1 c2:Nat) (ks info:Nat→Nat) (hks:∀ j,ks j<256) (hinfo:∀ j,info j<256) (hn1:n1<2305843009213693000) (hn2:n2<2305843009213692000) (hk:BytesIn w0 (.slice x1 n1 c1) n1 ks) (hi:BytesIn w0 (.slice x2 n2 c2) n2 info)
 (l pb ib:Nat) (bad:Nat→Prop) (hbad:∀ k,bad k→w0.heap.size≤k) (hib:¬bad ib) (Inv:Nat→World→Prop) (Fin:World→Prop) (hInv:∀ j W W',Inv j W→Below W.heap.size W W'→Inv j W') (hEnd:∀ W,¬Inv 255 W)
 (W:World) (hbW:Below w0.heap.size w0 W) (hbad2:∀ k,bad k→k<W.heap.size) (hpb:W.cell? ⟨pb,0,none⟩=some (.slice x1 n1 c1)) (hic:W.cell? ⟨ib,0,none⟩=some (.slice x2 n2 c2))
 (hY:∀ j g W1,j<255→Inv j W1→RowAt .u8 W1 g 0 32 (tE (keyB n1 ks) n2 info (j+1))→¬bad g→Below w0.heap.size w0 W1→YieldAt Fence.wide (n - 1) Tryd.prog l #[.slice (some ⟨g,0,none⟩) 32 32] W1 fun e W' =>
   (e = .returned (.bool true)∧Inv (j+1) W'∧But bad W1 W')∨(e = .returned (.bool false)∧Fin W'))
 (h0:Inv 0 W) :
 CallsIn Fence.wide n Tryd.prog 60 #[.func (.yield l) #[] #[],.pointer (some ⟨pb,0,none⟩),.pointer (some ⟨ib,0,none⟩)] W fun e W'=>(∃ v,e = .returned v)∧Fin W':=by
 have h3:=hT.size
 have hz:=zero64
 have cb:=blockOf_any (.slice x1 n1 c1) n1 ks hks hn1 W (hT.below hbW h3) (hk.still hbW)
 refine callsIn_of_wp Tryd.func60 rfl trivial ?_ rfl
 simp only [Tryd.ntmps60,List.size_toArray,List.length_cons,List.length_nil,Nat.reduceAdd,Nat.reduceSub,Array.replicate_succ,Array.replicate_zero,List.push_toArray,List.append_toArray,List.nil_append,List.cons_append]
 obtain ⟨kv,hkv⟩:∃ kv,kv=keyB n1 ks:=⟨_,rfl⟩
 have hkl:∀ j,kv j<256:=by rw [hkv];exact keyB_lt hks
 rw [←hkv] at cb hY
 have hi2:(Tryd.prog.info? 87).map (·.size)=some (ints .u8 64 kv).toArray.size:=by rw [List.size_toArray,ints_len];exact info64
 have hone:(ints .u8 64 kv).toArray.all (·.oneCell')=true:=all_oneCell_toArray (ints_one _ _ _)
 have hlay:∀ w1:World,∃ W2,W2=(w1.alloc (.cells (zb 64) 87)).setCells w1.heap.size 0 (ints .u8 64 kv).toArray.toList∧RowAt .u8 W2 w1.heap.size 0 64 kv∧Below w1.heap.size w1 W2∧(w1.alloc (.cells (zb 64) 87)).there w1.heap.size 0 (ints .u8 64 kv).toArray.size:=fun w1=>by
  refine ⟨_,rfl,?_,?_,?_⟩
  · have h:=(lay64 w1 64 kv (Nat.le_refl _)).congr (Y:=kv) (fun j hj=>by rw [if_pos hj])
    rw [List.toList_toArray]
    exact h
  · exact below_setCells (Nat.le_refl _) _ _ _ ((Below.refl _ _).alloc (Nat.le_refl _) _)
  · have e:(ints .u8 64 kv).toArray.size=64:=by rw [List.size_toArray,ints_len]
    rw [e];exact there64 w1
 clear hkv
 gi_wp2_with (first
  | (refine ⟨trivial,(fun h=>by cases h),?_⟩;gi_at_call 52;refine (callsIn_wide.2 cb).mono ?_;rintro e w1 ⟨rfl,hb1⟩;obtain ⟨W2,hW2,hrk,hb2,hth⟩:=hlay w1;(have HW2:Hid (W2=(w1.alloc (.cells (zb 64) 87)).setCells w1.heap.size 0 (ints .u8 64 kv).toArray.toList):=hW2);clear hW2 hlay)
  | (refine wpListIn_store_mid rfl 87 _ _ rfl w1.heap.size 0 (ints .u8 64 kv).toArray rfl rfl hth hi2 hone ?_;rw [←HW2.out]))
 have hs1:=hb1.size
 have hs2:=hb2.size
 have hbw2:Below w0.heap.size w0 W2:=hbW.trans ((hb1.mono hbW.size).trans (hb2.mono (Nat.le_trans hbW.size hs1)))
 have hWW:Below W.heap.size W W2:=hb1.trans (hb2.mono hs1)
 have hkb:¬bad w1.heap.size:=fun h=>by have:=hbad2 _ h;omega
 have hiW:ib<W.heap.size:=block_lt_of_cell hic
 have hic2:W2.cell? ⟨ib,0,none⟩=some (.slice x2 n2 c2):=(hWW.cell (p:=⟨ib,0,none⟩) hiW).trans hic
 have h02:=hInv 0 W W2 h0 hWW
 have hsz2:W.heap.size≤W2.heap.size:=hWW.size
 clear hth hb1 hb2 cb h0 hic hpb hi2 hone
 gi_loopw [5,6] (fun v i wr=>∃ j:Nat,j≤255∧i = .int .i64 ((j:Int)+1)∧Inv j wr∧Below w0.heap.size w0 wr∧wr.cell? ⟨ib,0,none⟩=some (.slice x2 n2 c2)∧RowAt .u8 wr w1.heap.size 0 64 kv∧LastAt bad wr v j (tE kv n2 info j)∧W.heap.size≤wr.heap.size) (fun _ i _=>256 - (intOf i).toNat)
 case atStart=>exact ⟨0,Nat.zero_le _,by go_num,h02,hbw2,hic2,hrk,.inl ⟨rfl,rfl⟩,hsz2⟩
 case round =>
  clear h02 hbw2 hic2 hrk
  obtain ⟨j,hj,rfl,hIj,hbr,hcr,hrr,hla,hszr⟩:=hrel
  by_cases hlt:j<255
  · obtain ⟨xl,cl,hve,-,-,-⟩:=hla.bytes.src
    obtain ⟨a,ha⟩:∃ a,a=if j=0 then 0 else 32:=⟨_,rfl⟩
    have hlb:=hla.bytes
    rw [←ha] at hve hlb
    subst hve
    have ha32:a≤32:=by rw [ha];split <;> omega
    have hbA:Below wr.heap.size wr (wr.alloc (.cells #[.int .u8 ((j:Int)+1)] 5)):=(Below.refl _ _).alloc (Nat.le_refl _) _
    have hone2:BytesIn (wr.alloc (.cells #[.int .u8 ((j:Int)+1)] 5)) (.slice (some ⟨wr.heap.size,0,none⟩) 1 1) 1 (fun _=>j+1) := .inr ⟨wr.heap.size,0,1,rfl,by simp,Nat.le_refl _,fun q hq=>by
     have:q=0:=by omega
     subst this
     simp⟩
    have hP:=parts_three (wr.alloc (.cells #[.int .u8 ((j:Int)+1)] 5)) (.slice xl a cl) (.slice x2 n2 c2) (.slice (some ⟨wr.heap.size,0,none⟩) 1 1) a n2 1 (tE kv n2 info j) info (fun _=>j+1) 24 (hlb.still hbA) ((hi.still hbr).still hbA) hone2
    have hbB:Below wr.heap.size wr ((wr.alloc (.cells #[.int .u8 ((j:Int)+1)] 5)).alloc (.cells #[.slice xl a cl,.slice x2 n2 c2,.slice (some ⟨wr.heap.size,0,none⟩) 1 1] 24)):=hbA.alloc (by simp) _
    have hbt:=hbr.trans (hbB.mono hbr.size)
    have ct:=tag_any kv hkl _ 3 3 (a+n2+1) _ (cat_lt (tE_lt kv n2 info j) (cat_lt hinfo (fun _=>(by omega:j+1<256)))) (by omega) _ (hT.below hbt h3) hP (by decide)
    have htE:tagH kv (a+n2+1) (cat a (tE kv n2 info j) (cat n2 info (fun _=>j+1)))=tE kv n2 info (j+1):=by rw [ha];rfl
    rw [htE] at ct
    simp only [World.size_alloc] at ct
    have hjm:((j:Int)+1)%256=(j:Int)+1:=by omega
    have hrg:=hrr.range
    have hi':(Tryd.prog.info? 87).map (·.size)=some (ints .u8 64 kv).length:=by rw [ints_len];exact info64
    have hji:(j:Int)+1≤255:=by omega
    have hlr:w1.heap.size<wr.heap.size:=block_lt_of_cell (hrr 0 (by decide)).1
    clear hP hbA hone2 htE ha hk
    gi_wp2_with (first
     | (refine wpListIn_load_mid rfl 87 _ rfl w1.heap.size 0 rfl _ _ hrg Tryd.underlying87 rfl hi' ?_)
     | (refine ⟨trivial,(fun h=>by cases h),?_⟩;gi_at_call 51;refine (callsIn_wide.2 ct).mono ?_;rintro e w3 ⟨g,rfl,hg,hrg3,hb3⟩;(have hw3:Below wr.heap.size wr w3:=hbB.trans (hb3.mono (by omega)));(have hbw3:Below w0.heap.size w0 w3:=hbr.trans (hw3.mono hbr.size));(have hgb:¬bad g:=fun h=>by have:=hbad2 _ h;omega);obtain ⟨fn,tmps,assign,body,hy,hR⟩:=hY j g w3 hlt (hInv j wr w3 hIj hw3) hrg3 hgb hbw3))
    have hcr3:w3.cell? ⟨ib,0,none⟩=some (.slice x2 n2 c2):=(hw3.cell (p:=⟨ib,0,none⟩) (by show ib<_;omega)).trans hcr
    have hrr3:=hrr.below hw3 hlr
    have hsz3:=hw3.size
    clear hbB ct hb3
    refine ⟨(fun h=>by cases h),hR.mono ?_⟩
    rintro e W' (⟨rfl,hI',hbut⟩ | ⟨rfl,hF⟩)
    · gi_wp2
      go_roundw
      case rel =>
       have hsz4:=hbut.size
       exact ⟨j+1,by omega,by go_num,hI',hbw3.trans (hbut.below hbw3.size hbad),hbut.cell hcr3 hib,hbut.row hrr3 hkb,.inr ⟨by omega,g,rfl,hbut.row hrg3 hgb,hgb⟩,by omega⟩
      case measure=>simp [intOf];omega
    · gi_wp2
      refine bodyPost_ret (results_none rfl _ _ _) rfl ?_
      exact ⟨⟨_,rfl⟩,hF⟩
  · obtain rfl:j=255:=by omega
    exact absurd hIj (hEnd _)
end Go.Proofs.YtkoedfmdhdikaaaDoor
