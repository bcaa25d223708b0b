/- What the proof stands on: HBlock, HExp, HExpand. -/
import Derived.Test.YtbbikhlbkpjpjaaGreatDoorHEngM
import Derived.Test.YtbbikhlbkpjpjaaGreatDoorHRefSmallM
import Derived.Test.YtbbikhlbkpjpjaaGreatDoorHWriteCM
import Derived.Test.YtbbikhlbkpjpjaaGreatDoorR8TM
import Derived.ArgAppend
import Derived.Deep.AppendLies
import Derived.Deep.RegionLawGrows
import Derived.Deep.Upon
import Derived.LoopIn
import Derived.LoopNIn
import Derived.OwnWalkIn
import Derived.RangeFuncBound
import Derived.RangeFuncCalls
import Derived.RangeFuncLeaves
import Derived.RangeFuncNested
import Derived.Shelf.Abstract
import Derived.Shelf.RegionOpen
import Derived.TacticsInMore
namespace Go.Proofs.YtbbikhlbkpjpjaaGreatDoor
open Go.RowKit
set_option maxRecDepth 20000 in
set_option maxHeartbeats 2000000 in
theorem blockOf_short_any (xo:Option Addr) (n cx:Nat) (bs:Nat→Nat) (w:World) (hv:BytesIn w (.slice xo n cx) n bs) (hn:n≤64) :
 Calls Tryz.prog 116 #[.slice xo n cx] w fun e w'=>e = .returned (.agg (ints .u8 64 (keyB n bs)).toArray)∧Below w.heap.size w w':=by
 have hz:=zero64
 have hi':∀ X:Nat→Nat,(Tryz.prog.info? 164).map (·.size)=some (ints .u8 64 X).length:=fun X=>by rw [ints_len];exact info64
 have hi2:∀ X:Nat→Nat,(Tryz.prog.info? 164).map (·.size)=some (ints .u8 64 X).toArray.size:=fun X=>by rw [List.size_toArray,ints_len];exact info64
 have hone:∀ X:Nat→Nat,(ints .u8 64 X).toArray.all (·.oneCell')=true:=fun X=>all_oneCell_toArray (ints_one _ _ _)
 obtain ⟨W0,hW0⟩:∃ W0,W0=w.alloc (.cells (zb 64) 164):=⟨_,rfl⟩
 have HW0:Hid (W0=w.alloc (.cells (zb 64) 164)):=hW0
 have hWs:w.heap.size<W0.heap.size:=by rw [hW0];simp
 have hWe:w.heap.size+1=W0.heap.size:=by rw [hW0];simp
 have hbw:Below w.heap.size w W0:=by rw [hW0];exact (Below.refl _ _).alloc (Nat.le_refl _) _
 have hres:W0.there w.heap.size 0 64:=by rw [hW0];exact there64 w
 have hkey:∀ j,j<64→(if j<n then bs j else 0)=keyB n bs j:=fun j _=>by unfold keyB;rw [if_pos hn]
 obtain ⟨xo',cx',hve,hxn,-,hsrc⟩:=hv.src
 cases hve
 have src0:Src (W0.alloc (.cells (zb 64) 164)) xo n bs:=hsrc _ (hbw.alloc (by omega) _)
 obtain ⟨W3,hW3⟩:∃ W3,W3=(W0.alloc (.cells (zb 64) 164)).setCells (w.heap.size+1) 0 (ints .u8 n bs):=⟨_,rfl⟩
 have HW3:Hid (W3=(W0.alloc (.cells (zb 64) 164)).setCells (w.heap.size+1) 0 (ints .u8 n bs)):=hW3
 have hrow3:RowAt .u8 W3 (w.heap.size+1) 0 64 (keyB n bs):=by rw [hW3,hWe];exact (lay64 W0 n bs (by omega)).congr hkey
 have hb3:Below W0.heap.size W0 W3:=by rw [hW3,hWe];exact below_setCells (Nat.le_refl _) _ _ _ ((Below.refl _ _).alloc (Nat.le_refl _) _)
 have hres3:W3.there w.heap.size 0 (ints .u8 64 (keyB n bs)).toArray.size:=fun j hj=>by
  rw [List.size_toArray,ints_len] at hj
  rw [hb3.cell (p:=⟨w.heap.size,0+j,none⟩) hWs,hb3.frozen (p:=⟨w.heap.size,0+j,none⟩) hWs]
  exact hres j hj
 have hmin:Hid (n=Nat.min n 64):=(Nat.min_eq_left hn).symm
 have hth:(W0.alloc (.cells (zb 64) 164)).there (w.heap.size+1) 0 64:=by rw [hWe];exact there64 W0
 have hni:¬(64<(n:Int)):=by omega
 clear hW0 hW3 hv hsrc hWe hkey hres
 go_enter Tryz.func116,Tryz.ntmps116
 go_wp2_with (first
  | (refine wpList_load_mid rfl 164 _ rfl _ 0 rfl _ _ hrow3.range Tryz.underlying164 rfl (hi' _) ?_)
  | (refine wpList_store_mid rfl 164 _ _ rfl _ 0 _ rfl rfl hres3 (hi2 _) (hone _) ?_)
  | (rw [←HW0.out];refine wpList_copy_bytes rfl _ _ 22 22 rfl 5 Tryz.underlying22 (by kernel_rfl) (w.heap.size+1) 0 64 64 xo n cx rfl rfl n bs src0 hmin.out hth ?_;rw [←HW3.out]))
 refine bodyPost_ret (results_cell_mid Tryz.results116 _ _ w.heap.size 0 (ints .u8 64 (keyB n bs)) _ rfl (World.rangeAt_setCells_same _ _ _ _ (by rw [List.size_toArray] at hres3;exact hres3)) Tryz.underlying164 rfl (hi' _)) rfl ⟨rfl,?_⟩
 exact below_setCells (Nat.le_refl _) _ _ _ (hbw.trans (hb3.mono (by omega)))
set_option maxRecDepth 20000 in
set_option maxHeartbeats 2000000 in
theorem blockOf_long_any (xo:Option Addr) (n cx:Nat) (bs:Nat→Nat) (hbs:∀ j,bs j<256) (hnb:n<2305843009213693000) (w:World) (hT:HTab w cubeK squareK) (hv:BytesIn w (.slice xo n cx) n bs) (hn:¬n≤64) :
 Calls Tryz.prog 116 #[.slice xo n cx] w fun e w'=>e = .returned (.agg (ints .u8 64 (keyB n bs)).toArray)∧Below w.heap.size w w':=by
 have hz:=zero64
 have hi':∀ X:Nat→Nat,(Tryz.prog.info? 164).map (·.size)=some (ints .u8 64 X).length:=fun X=>by rw [ints_len];exact info64
 have hi2:∀ X:Nat→Nat,(Tryz.prog.info? 164).map (·.size)=some (ints .u8 64 X).toArray.size:=fun X=>by rw [List.size_toArray,ints_len];exact info64
 have hone:∀ X:Nat→Nat,(ints .u8 64 X).toArray.all (·.oneCell')=true:=fun X=>all_oneCell_toArray (ints_one _ _ _)
 have h3:=hT.size
 have hb1:Below w.heap.size w (w.alloc (.cells (zb 64) 164)):=(Below.refl _ _).alloc (Nat.le_refl _) _
 have hs:=Sum256_any cubeK squareK (.slice xo n cx) n bs hbs (w.alloc (.cells (zb 64) 164)) (hT.below hb1 h3) (hv.still hb1) (by omega)
 rw [hashS_spec cubeK squareK n bs (by decide)] at hs
 have hkey:∀ j,j<64→(if j<32 then outB 32 (specS rn cubeK squareK n bs) j else 0)=keyB n bs j:=fun j _=>by unfold keyB;rw [if_neg hn]
 obtain ⟨X,hX⟩:∃ X,X=outB 32 (specS rn cubeK squareK n bs):=⟨_,rfl⟩
 rw [←hX] at hs hkey
 have hk:∀ (W0:World) (ga:Nat),Below (w.alloc (.cells (zb 64) 164)).heap.size (w.alloc (.cells (zb 64) 164)) W0→RowAt .u8 W0 ga 0 32 X→∃ W3,W3=(W0.alloc (.cells (zb 64) 164)).setCells W0.heap.size 0 (ints .u8 32 X)∧RowAt .u8 W3 W0.heap.size 0 64 (keyB n bs)∧Below w.heap.size w W3∧W3.there w.heap.size 0 (ints .u8 64 (keyB n bs)).toArray.size∧(W0.alloc (.cells (zb 64) 164)).there W0.heap.size 0 64∧Src (W0.alloc (.cells (zb 64) 164)) (some ⟨ga,0,none⟩) 32 X:=fun W0 ga hb hra=>by
  have hsz:=hb.size
  simp only [World.size_alloc] at hsz
  have hga:ga<W0.heap.size:=block_lt_of_cell (hra 0 (by decide)).1
  have hb3:Below W0.heap.size W0 ((W0.alloc (.cells (zb 64) 164)).setCells W0.heap.size 0 (ints .u8 32 X)):=below_setCells (Nat.le_refl _) _ _ _ ((Below.refl _ _).alloc (Nat.le_refl _) _)
  refine ⟨_,rfl,(lay64 W0 32 X (by decide)).congr hkey,(hb1.trans (hb.mono (by simp))).trans (hb3.mono (by omega)),fun j hj => ?_,there64 W0,.inr ⟨ga,0,rfl,fun j hj => ?_⟩⟩
  · rw [List.size_toArray,ints_len] at hj
    rw [hb3.cell (p:=⟨w.heap.size,0+j,none⟩) (by show w.heap.size<_;omega),hb3.frozen (p:=⟨w.heap.size,0+j,none⟩) (by show w.heap.size<_;omega),hb.cell (p:=⟨w.heap.size,0+j,none⟩) (by simp),hb.frozen (p:=⟨w.heap.size,0+j,none⟩) (by simp)]
    exact there64 w j hj
  · rw [World.cell?_alloc_lt _ _ _ hga];exact (hra j hj).1
 have hni:64<(n:Int):=by omega
 clear hX hkey hv hT hb1 hn
 go_enter Tryz.func116,Tryz.ntmps116
 go_wp2_with (first
  | (go_at_call 129;refine hs.mono ?_;clear hs;rintro e W0 ⟨ga,rfl,hga,hra,hb⟩;obtain ⟨W3,hW3,hrow3,hb3,hres3,hth,src0⟩:=hk W0 ga hb hra;(have HW3:Hid (W3=(W0.alloc (.cells (zb 64) 164)).setCells W0.heap.size 0 (ints .u8 32 X)):=hW3);clear hk hW3)
  | (refine wpList_load_mid rfl 164 _ rfl _ 0 rfl _ _ hrow3.range Tryz.underlying164 rfl (hi' _) ?_)
  | (refine wpList_store_mid rfl 164 _ _ rfl _ 0 _ rfl rfl hres3 (hi2 _) (hone _) ?_)
  | (refine wpList_copy_bytes rfl _ _ 22 22 rfl 5 Tryz.underlying22 (by kernel_rfl) W0.heap.size 0 64 64 (some ⟨ga,0,none⟩) 32 32 rfl rfl 32 X src0 rfl hth ?_;rw [←HW3.out]))
 refine bodyPost_ret (results_cell_mid Tryz.results116 _ _ w.heap.size 0 (ints .u8 64 (keyB n bs)) _ rfl (World.rangeAt_setCells_same _ _ _ _ (by rw [List.size_toArray] at hres3;exact hres3)) Tryz.underlying164 rfl (hi' _)) rfl ⟨rfl,?_⟩
 exact below_setCells (Nat.le_refl _) _ _ _ hb3
theorem blockOf_any (v:Value) (n:Nat) (bs:Nat→Nat) (hbs:∀ j,bs j<256) (hnb:n<2305843009213693000) (w:World) (hT:HTab w cubeK squareK) (hv:BytesIn w v n bs) :
 Calls Tryz.prog 116 #[v] w fun e w'=>e = .returned (.agg (ints .u8 64 (keyB n bs)).toArray)∧Below w.heap.size w w':=by
 obtain ⟨xo,cx,rfl,_,_,_⟩:=hv.src
 by_cases hn:n≤64
 · exact blockOf_short_any xo n cx bs w hv hn
 · exact blockOf_long_any xo n cx bs hbs hnb w hT hv hn
end Go.Proofs.YtbbikhlbkpjpjaaGreatDoor
namespace Go.Proofs.YtbbikhlbkpjpjaaGreatDoor
open Go.RowKit Go.Shelf
attribute [local go_sem] Oper.semAt_some
theorem tags_any (x1 x2:Option Addr) (n1 n2 c1 c2:Nat) (w:World):Calls Tryz.prog 101 #[.slice x1 n1 c1,.slice x2 n2 c2] w fun e w'=>e = .returned (.func (.func 115) #[] #[.pointer (some ⟨w.heap.size,0,none⟩),.pointer (some ⟨w.heap.size+1,0,none⟩)])∧w'=(w.alloc (.cells #[.slice x1 n1 c1] 22)).alloc (.cells #[.slice x2 n2 c2] 22):=by
 go_enter Tryz.func101,Tryz.ntmps101
 go_wp2
 go_ret
 exact ⟨rfl,rfl⟩
def tE (kv:Nat→Nat) (m:Nat) (info:Nat→Nat):Nat→Nat→Nat
 | 0=>fun _=>0
 | i+1=>tagH kv ((if i=0 then 0 else 32)+m+1) (cat (if i=0 then 0 else 32) (tE kv m info i) (cat m info (fun _=>i+1)))
theorem tE_lt (kv:Nat→Nat) (m:Nat) (info:Nat→Nat):∀ i j,tE kv m info i j<256
 | 0,_=>Nat.zero_lt_succ _
 | _+1,j=>tagH_lt _ _ _ j
theorem parts_three (w:World) (v0 v1 v2:Value) (a m c:Nat) (b0 b1 b2:Nat→Nat) (ty:TypeId) (h0:BytesIn w v0 a b0) (h1:BytesIn w v1 m b1) (h2:BytesIn w v2 c b2):Parts (w.alloc (.cells #[v0,v1,v2] ty)) w.heap.size 3 (a+m+c) (cat a b0 (cat m b1 b2)):=by
 have hb:Below w.heap.size w (w.alloc (.cells #[v0,v1,v2] ty)):=(Below.refl _ _).alloc (Nat.le_refl _) _
 have key:∀ {v:Value} {n:Nat} {b c:Nat→Nat},BytesIn w v n b→(∀ j,j<n→b j=c j)→BytesIn (w.alloc (.cells #[v0,v1,v2] ty)) v n c:=fun {v n b c} h e=>by
  rcases h.still hb with h | ⟨bb,ob,cap,rfl,g1,g2,g3⟩
  · exact .inl h
  · exact .inr ⟨bb,ob,cap,rfl,g1,g2,fun j hj=>by rw [g3 j hj,e j hj]⟩
 refine ⟨fun i=>if i=0 then v0 else if i=1 then v1 else v2,fun i=>if i=0 then 0 else if i=1 then a else if i=2 then a+m else a+m+c,rfl,rfl,fun i hi => ?_⟩
 match i,hi with
 | 0,_ =>
  refine ⟨by simp,by simp,by simp;omega,?_⟩
  refine key (b:=b0) (by simpa using h0) (fun j hj => ?_)
  simp at hj
  simp [cat,hj]
 | 1,_ =>
  refine ⟨by simp,by simp,by simp,?_⟩
  refine key (b:=b1) (by simpa using h1) (fun j hj => ?_)
  simp at hj
  simp [cat,hj]
  intro h;omega
 | 2,_ =>
  refine ⟨by simp,by simp,by simp,?_⟩
  refine key (b:=b2) (by simpa using h2) (fun j hj => ?_)
  simp [cat]
  rw [if_neg (by omega),if_neg (by omega)]
  congr 1;omega
def LastAt (bad:Nat→Prop) (W:World) (v:Value) (j:Nat) (X:Nat→Nat):Prop:=(j=0∧v = .slice none 0 0)∨(0<j∧∃ g,v = .slice (some ⟨g,0,none⟩) 32 32∧RowAt .u8 W g 0 32 X∧¬bad g)
theorem LastAt.bytes {bad:Nat→Prop} {W:World} {v:Value} {j:Nat} {X:Nat→Nat} (h:LastAt bad W v j X):BytesIn W v (if j=0 then 0 else 32) X:=by
 rcases h with ⟨rfl,rfl⟩ | ⟨hj,g,rfl,hr,_⟩
 · exact .inl ⟨none,rfl,rfl⟩
 · rw [if_neg (by omega)]
   exact .inr ⟨g,0,32,rfl,block_lt_of_cell (hr 0 (by decide)).1,Nat.le_refl _,fun j hj=>(hr j hj).1⟩
set_option maxRecDepth 100000 in
set_option maxHeartbeats 4000000 in
theorem hiter_in (n:Nat) (w0:World) (hT:HTab w0 cubeK squareK) (x1 x2:Option Addr) (n1 n2 c1 c2:Nat) (ks info:Nat→Nat) (hks:∀ j,ks j<256) (hinfo:∀ j,info j<256) (hn1:n1<2305843009213693000) (hn2:n2<2305843009213692000) (hk:BytesIn w0 (.slice x1 n1 c1) n1 ks) (hi:BytesIn w0 (.slice x2 n2 c2) n2 info)
 (l pb ib:Nat) (bad:Nat→Prop) (hbad:∀ k,bad k→w0.heap.size≤k) (hib:¬bad ib) (Inv:Nat→World→Prop) (Fin:World→Prop) (hInv:∀ j W W',Inv j W→Below W.heap.size W W'→Inv j W') (hEnd:∀ W,¬Inv 255 W)
 (W:World) (hbW:Below w0.heap.size w0 W) (hbad2:∀ k,bad k→k<W.heap.size) (hpb:W.cell? ⟨pb,0,none⟩=some (.slice x1 n1 c1)) (hic:W.cell? ⟨ib,0,none⟩=some (.slice x2 n2 c2))
 (hY:∀ j g W1,j<255→Inv j W1→RowAt .u8 W1 g 0 32 (tE (keyB n1 ks) n2 info (j+1))→¬bad g→Below w0.heap.size w0 W1→YieldAt Fence.wide (n - 1) Tryz.prog l #[.slice (some ⟨g,0,none⟩) 32 32] W1 fun e W' =>
   (e = .returned (.bool true)∧Inv (j+1) W'∧But bad W1 W')∨(e = .returned (.bool false)∧Fin W'))
 (h0:Inv 0 W) :
 CallsIn Fence.wide n Tryz.prog 115 #[.func (.yield l) #[] #[],.pointer (some ⟨pb,0,none⟩),.pointer (some ⟨ib,0,none⟩)] W fun e W'=>(∃ v,e = .returned v)∧Fin W':=by
 have h3:=hT.size
 have hz:=zero64
 have cb:=blockOf_any (.slice x1 n1 c1) n1 ks hks hn1 W (hT.below hbW h3) (hk.still hbW)
 refine callsIn_of_wp Tryz.func115 rfl trivial ?_ rfl
 simp only [Tryz.ntmps115,List.size_toArray,List.length_cons,List.length_nil,Nat.reduceAdd,Nat.reduceSub,Array.replicate_succ,Array.replicate_zero,List.push_toArray,List.append_toArray,List.nil_append,List.cons_append]
 obtain ⟨kv,hkv⟩:∃ kv,kv=keyB n1 ks:=⟨_,rfl⟩
 have hkl:∀ j,kv j<256:=by rw [hkv];exact keyB_lt hks
 rw [←hkv] at cb hY
 have hi2:(Tryz.prog.info? 164).map (·.size)=some (ints .u8 64 kv).toArray.size:=by rw [List.size_toArray,ints_len];exact info64
 have hone:(ints .u8 64 kv).toArray.all (·.oneCell')=true:=all_oneCell_toArray (ints_one _ _ _)
 have hlay:∀ w1:World,∃ W2,W2=(w1.alloc (.cells (zb 64) 164)).setCells w1.heap.size 0 (ints .u8 64 kv).toArray.toList∧RowAt .u8 W2 w1.heap.size 0 64 kv∧Below w1.heap.size w1 W2∧(w1.alloc (.cells (zb 64) 164)).there w1.heap.size 0 (ints .u8 64 kv).toArray.size:=fun w1=>by
  refine ⟨_,rfl,?_,?_,?_⟩
  · have h:=(lay64 w1 64 kv (Nat.le_refl _)).congr (Y:=kv) (fun j hj=>by rw [if_pos hj])
    rw [List.toList_toArray]
    exact h
  · exact below_setCells (Nat.le_refl _) _ _ _ ((Below.refl _ _).alloc (Nat.le_refl _) _)
  · have e:(ints .u8 64 kv).toArray.size=64:=by rw [List.size_toArray,ints_len]
    rw [e];exact there64 w1
 clear hkv
 gi_wp2_with (first
  | (refine ⟨trivial,(fun h=>by cases h),?_⟩;gi_at_call 116;refine (callsIn_wide.2 cb).mono ?_;rintro e w1 ⟨rfl,hb1⟩;obtain ⟨W2,hW2,hrk,hb2,hth⟩:=hlay w1;(have HW2:Hid (W2=(w1.alloc (.cells (zb 64) 164)).setCells w1.heap.size 0 (ints .u8 64 kv).toArray.toList):=hW2);clear hW2 hlay)
  | (refine wpListIn_store_mid rfl 164 _ _ rfl w1.heap.size 0 (ints .u8 64 kv).toArray rfl rfl hth hi2 hone ?_;rw [←HW2.out]))
 have hs1:=hb1.size
 have hs2:=hb2.size
 have hbw2:Below w0.heap.size w0 W2:=hbW.trans ((hb1.mono hbW.size).trans (hb2.mono (Nat.le_trans hbW.size hs1)))
 have hWW:Below W.heap.size W W2:=hb1.trans (hb2.mono hs1)
 have hkb:¬bad w1.heap.size:=fun h=>by have:=hbad2 _ h;omega
 have hiW:ib<W.heap.size:=block_lt_of_cell hic
 have hic2:W2.cell? ⟨ib,0,none⟩=some (.slice x2 n2 c2):=(hWW.cell (p:=⟨ib,0,none⟩) hiW).trans hic
 have h02:=hInv 0 W W2 h0 hWW
 have hsz2:W.heap.size≤W2.heap.size:=hWW.size
 clear hth hb1 hb2 cb h0 hic hpb hi2 hone
 gi_loopw [5,6] (fun v i wr=>∃ j:Nat,j≤255∧i = .int .i64 ((j:Int)+1)∧Inv j wr∧Below w0.heap.size w0 wr∧wr.cell? ⟨ib,0,none⟩=some (.slice x2 n2 c2)∧RowAt .u8 wr w1.heap.size 0 64 kv∧LastAt bad wr v j (tE kv n2 info j)∧W.heap.size≤wr.heap.size) (fun _ i _=>256 - (intOf i).toNat)
 case atStart=>exact ⟨0,Nat.zero_le _,by go_num,h02,hbw2,hic2,hrk,.inl ⟨rfl,rfl⟩,hsz2⟩
 case round =>
  clear h02 hbw2 hic2 hrk
  obtain ⟨j,hj,rfl,hIj,hbr,hcr,hrr,hla,hszr⟩:=hrel
  by_cases hlt:j<255
  · obtain ⟨xl,cl,hve,-,-,-⟩:=hla.bytes.src
    obtain ⟨a,ha⟩:∃ a,a=if j=0 then 0 else 32:=⟨_,rfl⟩
    have hlb:=hla.bytes
    rw [←ha] at hve hlb
    subst hve
    have ha32:a≤32:=by rw [ha];split <;> omega
    have hbA:Below wr.heap.size wr (wr.alloc (.cells #[.int .u8 ((j:Int)+1)] 5)):=(Below.refl _ _).alloc (Nat.le_refl _) _
    have hone2:BytesIn (wr.alloc (.cells #[.int .u8 ((j:Int)+1)] 5)) (.slice (some ⟨wr.heap.size,0,none⟩) 1 1) 1 (fun _=>j+1) := .inr ⟨wr.heap.size,0,1,rfl,by simp,Nat.le_refl _,fun q hq=>by
     have:q=0:=by omega
     subst this
     simp⟩
    have hP:=parts_three (wr.alloc (.cells #[.int .u8 ((j:Int)+1)] 5)) (.slice xl a cl) (.slice x2 n2 c2) (.slice (some ⟨wr.heap.size,0,none⟩) 1 1) a n2 1 (tE kv n2 info j) info (fun _=>j+1) 22 (hlb.still hbA) ((hi.still hbr).still hbA) hone2
    have hbB:Below wr.heap.size wr ((wr.alloc (.cells #[.int .u8 ((j:Int)+1)] 5)).alloc (.cells #[.slice xl a cl,.slice x2 n2 c2,.slice (some ⟨wr.heap.size,0,none⟩) 1 1] 22)):=hbA.alloc (by simp) _
    have hbt:=hbr.trans (hbB.mono hbr.size)
    have ct:=tag_any kv hkl _ 3 3 (a+n2+1) _ (cat_lt (tE_lt kv n2 info j) (cat_lt hinfo (fun _=>(by omega:j+1<256)))) (by omega) _ (hT.below hbt h3) hP (by decide)
    have htE:tagH kv (a+n2+1) (cat a (tE kv n2 info j) (cat n2 info (fun _=>j+1)))=tE kv n2 info (j+1):=by rw [ha];rfl
    rw [htE] at ct
    simp only [World.size_alloc] at ct
    have hjm:((j:Int)+1)%256=(j:Int)+1:=by omega
    have hrg:=hrr.range
    have hi':(Tryz.prog.info? 164).map (·.size)=some (ints .u8 64 kv).length:=by rw [ints_len];exact info64
    have hji:(j:Int)+1≤255:=by omega
    have hlr:w1.heap.size<wr.heap.size:=block_lt_of_cell (hrr 0 (by decide)).1
    clear hP hbA hone2 htE ha hk
    gi_wp2_with (first
     | (refine wpListIn_load_mid rfl 164 _ rfl w1.heap.size 0 rfl _ _ hrg Tryz.underlying164 rfl hi' ?_)
     | (refine ⟨trivial,(fun h=>by cases h),?_⟩;gi_at_call 117;refine (callsIn_wide.2 ct).mono ?_;rintro e w3 ⟨g,rfl,hg,hrg3,hb3⟩;(have hw3:Below wr.heap.size wr w3:=hbB.trans (hb3.mono (by omega)));(have hbw3:Below w0.heap.size w0 w3:=hbr.trans (hw3.mono hbr.size));(have hgb:¬bad g:=fun h=>by have:=hbad2 _ h;omega);obtain ⟨fn,tmps,assign,body,hy,hR⟩:=hY j g w3 hlt (hInv j wr w3 hIj hw3) hrg3 hgb hbw3))
    have hcr3:w3.cell? ⟨ib,0,none⟩=some (.slice x2 n2 c2):=(hw3.cell (p:=⟨ib,0,none⟩) (by show ib<_;omega)).trans hcr
    have hrr3:=hrr.below hw3 hlr
    have hsz3:=hw3.size
    clear hbB ct hb3
    refine ⟨(fun h=>by cases h),hR.mono ?_⟩
    rintro e W' (⟨rfl,hI',hbut⟩ | ⟨rfl,hF⟩)
    · gi_wp2
      go_roundw
      case rel =>
       have hsz4:=hbut.size
       exact ⟨j+1,by omega,by go_num,hI',hbw3.trans (hbut.below hbw3.size hbad),hbut.cell hcr3 hib,hbut.row hrr3 hkb,.inr ⟨by omega,g,rfl,hbut.row hrg3 hgb,hgb⟩,by omega⟩
      case measure=>simp [intOf];omega
    · gi_wp2
      refine bodyPost_ret (results_none rfl _ _ _) rfl ?_
      exact ⟨⟨_,rfl⟩,hF⟩
  · obtain rfl:j=255:=by omega
    exact absurd hIj (hEnd _)
end Go.Proofs.YtbbikhlbkpjpjaaGreatDoor
namespace Go.Proofs.YtbbikhlbkpjpjaaGreatDoor
open Go.RowKit Go.Shelf
attribute [local go_sem] Oper.semAt_some
theorem one_box (w:World) (v:Value) (t:TypeId):(w.alloc (.cells #[v] t)).cell? ⟨w.heap.size,0,none⟩=some v∧(w.alloc (.cells #[v] t)).frozen? ⟨w.heap.size,0,none⟩=false:=by simp
theorem expand_start (w:World) (N:Nat) (v1 v2:Value) (w':World)
 (hw:w'=(((((w.alloc (.cells #[.int .i64 N] 3)).alloc (.cells (zb N) 5)).alloc (.cells #[.slice (some ⟨w.heap.size+1,0,none⟩) N N] 22)).alloc (.cells #[.int .i64 0] 3)).alloc (.cells #[v1] 22)).alloc (.cells #[v2] 22)) :
 w'.heap.size=w.heap.size+6∧Below w.heap.size w w'∧w'.cell? ⟨w.heap.size,0,none⟩=some (.int .i64 N)∧RowAt .u8 w' (w.heap.size+1) 0 N (fun _=>0)∧w'.cell? ⟨w.heap.size+1+1,0,none⟩=some (.slice (some ⟨w.heap.size+1,0,none⟩) N N) ∧
  w'.cell? ⟨w.heap.size+1+1+1,0,none⟩=some (.int .i64 0)∧w'.frozen? ⟨w.heap.size+1+1+1,0,none⟩=false∧w'.cell? ⟨w.heap.size+1+1+1+1,0,none⟩=some v1∧w'.cell? ⟨w.heap.size+1+1+1+1+1,0,none⟩=some v2:=by
 obtain ⟨a1,e1⟩:∃ a,a=w.alloc (.cells #[.int .i64 N] 3):=⟨_,rfl⟩
 obtain ⟨a2,e2⟩:∃ a,a=a1.alloc (.cells (zb N) 5):=⟨_,rfl⟩
 obtain ⟨a3,e3⟩:∃ a,a=a2.alloc (.cells #[.slice (some ⟨w.heap.size+1,0,none⟩) N N] 22):=⟨_,rfl⟩
 obtain ⟨a4,e4⟩:∃ a,a=a3.alloc (.cells #[.int .i64 0] 3):=⟨_,rfl⟩
 obtain ⟨a5,e5⟩:∃ a,a=a4.alloc (.cells #[v1] 22):=⟨_,rfl⟩
 have s1:a1.heap.size=w.heap.size+1:=by rw [e1];simp
 have s2:a2.heap.size=w.heap.size+1+1:=by rw [e2,World.size_alloc,s1]
 have s3:a3.heap.size=w.heap.size+1+1+1:=by rw [e3,World.size_alloc,s2]
 have s4:a4.heap.size=w.heap.size+1+1+1+1:=by rw [e4,World.size_alloc,s3]
 have s5:a5.heap.size=w.heap.size+1+1+1+1+1:=by rw [e5,World.size_alloc,s4]
 have e6:w'=a5.alloc (.cells #[v2] 22):=by rw [hw,e5,e4,e3,e2,e1]
 have b0:Below w.heap.size w a1:=by rw [e1];exact (Below.refl _ _).alloc (Nat.le_refl _) _
 have b1:Below a1.heap.size a1 a2:=by rw [e2];exact (Below.refl _ _).alloc (Nat.le_refl _) _
 have b2:Below a2.heap.size a2 a3:=by rw [e3];exact (Below.refl _ _).alloc (Nat.le_refl _) _
 have b3:Below a3.heap.size a3 a4:=by rw [e4];exact (Below.refl _ _).alloc (Nat.le_refl _) _
 have b4:Below a4.heap.size a4 a5:=by rw [e5];exact (Below.refl _ _).alloc (Nat.le_refl _) _
 have b5:Below a5.heap.size a5 w':=by rw [e6];exact (Below.refl _ _).alloc (Nat.le_refl _) _
 have t4:=b4.trans (b5.mono (by omega))
 have t3:=b3.trans (t4.mono (by omega))
 have t2:=b2.trans (t3.mono (by omega))
 have t1:=b1.trans (t2.mono (by omega))
 have hr:RowAt .u8 a2 a1.heap.size 0 N (fun _=>0):=by rw [e2];exact RowAt.fresh (fun j hj=>zb_at N j hj)
 have c0:=one_box w (.int .i64 N) 3
 have c2:=one_box a2 (.slice (some ⟨w.heap.size+1,0,none⟩) N N) 22
 have c3:=one_box a3 (.int .i64 0) 3
 have c4:=one_box a4 v1 22
 have c5:=one_box a5 v2 22
 rw [←e1] at c0
 rw [←e3,s2] at c2
 rw [←e4,s3] at c3
 rw [←e5,s4] at c4
 rw [←e6,s5] at c5
 refine ⟨by rw [e6,World.size_alloc,s5],b0.trans (t1.mono (by omega)),(t1.cell (p:=⟨w.heap.size,0,none⟩) (by show w.heap.size<_;omega)).trans c0.1,?_,(t3.cell (p:=⟨w.heap.size+1+1,0,none⟩) (by show w.heap.size+1+1<_;omega)).trans c2.1,(t4.cell (p:=⟨w.heap.size+1+1+1,0,none⟩) (by show w.heap.size+1+1+1<_;omega)).trans c3.1,(t4.frozen (p:=⟨w.heap.size+1+1+1,0,none⟩) (by show w.heap.size+1+1+1<_;omega)).trans c3.2,(b5.cell (p:=⟨w.heap.size+1+1+1+1,0,none⟩) (by show w.heap.size+1+1+1+1<_;omega)).trans c4.1,c5.1⟩
 have:=hr.below t2 (by omega)
 rw [s1] at this
 exact this
def outF (kv:Nat→Nat) (m:Nat) (info:Nat→Nat) (a:Nat):Nat→Nat:=fun q=>if q<a then tE kv m info (q / 32+1) (q%32) else 0
structure ExInv (w:World) (l D N:Nat) (rec:Loop) (kv:Nat→Nat) (m:Nat) (info:Nat→Nat) (j:Nat) (W:World):Prop where
 lp:W.heap[l]? = some (.loop rec)
 dfr:W.heap[D]? = some (.deferred (some []))
 nb:W.cell? ⟨w.heap.size,0,none⟩=some (.int .i64 N)
 xb:W.cell? ⟨w.heap.size+1+1,0,none⟩=some (.slice (some ⟨w.heap.size+1,0,none⟩) N N)
 ab:W.cell? ⟨w.heap.size+1+1+1,0,none⟩=some (.int .i64 (32*j:Nat))
 abf:W.frozen? ⟨w.heap.size+1+1+1,0,none⟩=false
 row:RowAt .u8 W (w.heap.size+1) 0 N (outF kv m info (32*j))
 few:j=0∨32*j<N
theorem ExInv.below {w:World} {l D N:Nat} {rec:Loop} {kv:Nat→Nat} {m:Nat} {info:Nat→Nat} {j:Nat} {W W':World} (h:ExInv w l D N rec kv m info j W) (hb:Below W.heap.size W W'):ExInv w l D N rec kv m info j W' :=
 ⟨(hb.block l (Array.getElem?_eq_some_iff.1 h.lp).1).trans h.lp,(hb.block D (Array.getElem?_eq_some_iff.1 h.dfr).1).trans h.dfr,(hb.cell (block_lt_of_cell h.nb)).trans h.nb,(hb.cell (block_lt_of_cell h.xb)).trans h.xb,(hb.cell (block_lt_of_cell h.ab)).trans h.ab,(hb.frozen (block_lt_of_cell h.ab)).trans h.abf,fun q hq=>⟨(hb.cell (block_lt_of_cell (h.row q hq).1)).trans (h.row q hq).1,(hb.frozen (block_lt_of_cell (h.row q hq).1)).trans (h.row q hq).2⟩,h.few⟩
set_option maxRecDepth 100000 in
set_option maxHeartbeats 4000000 in
theorem expand_in (n:Nat) (x1 x2:Option Addr) (n1 n2 c1 c2:Nat) (ks info:Nat→Nat) (hks:∀ j,ks j<256) (hinfo:∀ j,info j<256) (hn1:n1<2305843009213693000) (hn2:n2<2305843009213692000) (w:World) (hT:HTab w cubeK squareK) (hk:BytesIn w (.slice x1 n1 c1) n1 ks) (hi:BytesIn w (.slice x2 n2 c2) n2 info) (N:Nat) (hN:N≤8160) :
 CallsIn Fence.wide n Tryz.prog 86 #[.slice x1 n1 c1,.slice x2 n2 c2,.int .i64 N] w fun e w'=>∃ g,e = .returned (.tuple #[.slice (some ⟨g,0,none⟩) N N,.int .i64 0])∧w.heap.size≤g∧RowAt .u8 w' g 0 N (outF (keyB n1 ks) n2 info N)∧Below w.heap.size w w':=by
 have hmk:=fun W=>make_bytes W N N rfl (by omega)
 have hNi:¬((N:Int)<0):=by omega
 have hNj:¬(8160<(N:Int)):=by omega
 have htags:=fun W=>tags_any x1 x2 n1 n2 c1 c2 W
 refine callsIn_of_wp_marks Tryz.func86 rfl trivial ?_ rfl
 simp only [Tryz.ntmps86,List.size_toArray,List.length_cons,List.length_nil,Nat.reduceAdd,Nat.reduceSub,Array.replicate_succ,Array.replicate_zero,List.push_toArray,List.append_toArray,List.nil_append,List.cons_append]
 gi_wp2_with (first
  | (refine ⟨trivial,(fun h=>by cases h),?_⟩;gi_at_call 101;refine (callsIn_wide.2 (htags _)).mono ?_;rintro e w' ⟨rfl,hw'⟩))
 obtain ⟨s6,hbw,q0,qr,q2,q3,q3f,q4,q5⟩:=expand_start w N _ _ w' hw'
 rw [←hw']
 clear hw' hmk htags
 obtain ⟨kv,hkv⟩:∃ kv,kv=keyB n1 ks:=⟨_,rfl⟩
 refine wpIn_range_with rfl (fun _=>trivial) (fun h=>by cases h) rfl (enters_of Tryz.func115 (by kernel_rfl) rfl) (fun r0 e1 e2 e4 e5 e6 e7 => ?_)
 obtain ⟨W1,hW1⟩:∃ W1,W1=(w'.alloc (.deferred (some []))).alloc (.loop r0):=⟨_,rfl⟩
 obtain ⟨l,hl⟩:∃ l,l=w'.heap.size+1:=⟨_,rfl⟩
 have hb1:Below w'.heap.size w' W1:=by rw [hW1];exact ((Below.refl _ _).alloc (Nat.le_refl _) _).alloc (by simp) _
 have hl1:W1.heap[l]? = some (.loop r0):=by
  rw [hW1,hl];have:=World.alloc_heap_new (w'.alloc (.deferred (some []))) (.loop r0);rwa [World.size_alloc] at this
 have hD1:W1.heap[w'.heap.size]? = some (.deferred (some [])):=by
  rw [hW1];exact (Below.heap_alloc _ _ _ (by simp)).trans (World.alloc_heap_new w' _)
 rw [←hW1,←hl]
 have hs1:W1.heap.size=w'.heap.size+2:=by rw [hW1];simp
 obtain ⟨D,hD⟩:∃ D,D=w'.heap.size:=⟨_,rfl⟩
 have hD6:w.heap.size+5<D:=by omega
 have hDl:D<l:=by omega
 have hlW:l<W1.heap.size:=by omega
 have hqb:∀ {b:Nat} {v:Value},w'.cell? ⟨b,0,none⟩=some v→b<w'.heap.size:=fun h=>block_lt_of_cell h
 have hq6:w.heap.size+1<w'.heap.size:=by omega
 rw [←hD] at hD1 ⊢
 clear hW1 hl hs1 hD s6
 have hbw1:Below w.heap.size w W1:=hbw.trans (hb1.mono (by omega))
 have hI0:ExInv w l D N r0 kv n2 info 0 W1:=⟨hl1,hD1,(hb1.cell (block_lt_of_cell q0)).trans q0,(hb1.cell (block_lt_of_cell q2)).trans q2,(hb1.cell (block_lt_of_cell q3)).trans q3,(hb1.frozen (block_lt_of_cell q3)).trans q3f,fun q hq=>by
  have:=(qr.below hb1 (by omega)) q hq
  simpa [outF] using this,.inl rfl⟩
 obtain ⟨Fin,hFin⟩:∃ Fin:World→Prop,Fin=fun W=>W.heap[l]? = some (.loop { r0 with state := .done,pending:=some (.exit 0) })∧W.heap[D]? = some (.deferred (some []))∧W.cell? ⟨w.heap.size+1+1,0,none⟩=some (.slice (some ⟨w.heap.size+1,0,none⟩) N N)∧RowAt .u8 W (w.heap.size+1) 0 N (outF kv n2 info N)∧Below w.heap.size w W:=⟨_,rfl⟩
 have hY:∀ j g W1,j<255→ExInv w l D N r0 kv n2 info j W1→RowAt .u8 W1 g 0 32 (tE (keyB n1 ks) n2 info (j+1))→¬(g=l∨g=w.heap.size+1∨g=w.heap.size+1+1+1)→Below w.heap.size w W1→YieldAt Fence.wide (n - 1 - 1) Tryz.prog l #[.slice (some ⟨g,0,none⟩) 32 32] W1 fun e W' =>
  (e = .returned (.bool true)∧ExInv w l D N r0 kv n2 info (j+1) W'∧But (fun k=>k=l∨k=w.heap.size+1∨k=w.heap.size+1+1+1) W1 W')∨(e = .returned (.bool false)∧Fin W'):=by
  intro j g V hj hI hrow hgb hbV'
  refine yield_round hI.lp (by rw [e5];rfl) ?_
  rw [e4,e5,e6,e7]
  obtain ⟨V2,hV2⟩:∃ V2,V2=V.putObj l (.loop { r0 with state := .busy }):=⟨_,rfl⟩
  have hbV:But (fun k=>k=l) V V2:=by rw [hV2];exact but_put _ _ _
  have hlV:V2.heap[l]? = some (.loop { r0 with state := .busy }):=by rw [hV2];exact World.putObj_heap_same (Array.getElem?_eq_some_iff.1 hI.lp).1
  have hDV:V2.heap[D]? = some (.deferred (some [])):=(hbV.block _ (Array.getElem?_eq_some_iff.1 hI.dfr).1 (by omega)).trans hI.dfr
  have r0':=hbV.cell hI.nb (by omega)
  have r2':=hbV.cell hI.xb (by omega)
  have r3':=hbV.cell hI.ab (by omega)
  have r3f:V2.frozen? ⟨w.heap.size+1+1+1,0,none⟩=false:=(World.frozen?_of_block (w:=V) (hbV.block _ (block_lt_of_cell hI.ab) (by show ¬w.heap.size+1+1+1=l;omega))).trans hI.abf
  have hrV:=hbV.row hI.row (by omega)
  have hgV:=hbV.row hrow (by omega)
  have hbeg:(Instr.beginRound l).run Tryz.prog V = .ok () V2:=by rw [hV2];exact run_beginRound hI.lp e1
  have hfew:=hI.few
  obtain ⟨A,hA⟩:∃ A,A=32*j:=⟨_,rfl⟩
  rw [←hA] at r3' hrV hfew
  have hAN:A≤N:=by omega
  have hsl:∀ W:World,(Instr.sliceAt 22 (.slice (some ⟨w.heap.size+1,0,none⟩) N N) (some (.int .i64 A)) none none).run Tryz.prog W = .ok (.slice (some ⟨w.heap.size+1,A,none⟩) (N - A) (N - A)) W:=fun W=>by
   have h:=sliceFrom W (w.heap.size+1) 0 N N A hAN
   rw [Nat.zero_add] at h
   have e:(if N=A then 0 else A)=A:=by split <;> omega
   rw [e] at h
   exact h
  have hgd:=hgV
  have hcp:∀ M,M=Nat.min 32 (N - A)→(Builtin.copy_ #[22,22] 3 #[.slice (some ⟨w.heap.size+1,A,none⟩) (N - A) (N - A),.slice (some ⟨g,0,none⟩) 32 32]).run Tryz.prog V2.drew = .ok (goInt M) (V2.drew.setCells (w.heap.size+1) A (ints .u8 M (tE (keyB n1 ks) n2 info (j+1)))):=fun M hM =>
   run_copy_bytes V2.drew 22 22 3 5 (w.heap.size+1) A (N - A) (N - A) (some ⟨g,0,none⟩) 32 32 M _ Tryz.underlying22 (by kernel_rfl) (.inr ⟨g,0,rfl,fun q hq=>(hgV q hq).1⟩) hM (fun q hq=>by
    have h:=hrV (A+q) (by omega)
    rw [Nat.zero_add] at h
    exact ⟨by show (V2.cell? _).isSome=true;rw [h.1];rfl,h.2⟩)
  clear hV2 hI
  obtain ⟨M,hM⟩:∃ M,M=Nat.min 32 (N - A):=⟨_,rfl⟩
  have hcM:=hcp M hM
  have hMl:M≤32∧M≤N - A:=by rw [hM];exact ⟨Nat.min_le_left _ _,Nat.min_le_right _ _⟩
  obtain ⟨V3,hV3⟩:∃ V3,V3=V2.drew.setCells (w.heap.size+1) A (ints .u8 M (tE (keyB n1 ks) n2 info (j+1))):=⟨_,rfl⟩
  rw [←hV3] at hcM
  have hab3:V3.cell? ⟨w.heap.size+1+1+1,0,none⟩=some (.int .i64 A):=by
   rw [hV3]
   exact (World.cell?_of_block (heap_setCells_other _ _ _ _ _ (by show w.heap.size+1+1+1≠w.heap.size+1;omega))).trans r3'
  have hab3f:V3.frozen? ⟨w.heap.size+1+1+1,0,none⟩=false:=by rw [hV3,World.frozen?_setCells];exact r3f
  have HV3:Hid (V3=V2.drew.setCells (w.heap.size+1) A (ints .u8 M (tE (keyB n1 ks) n2 info (j+1)))):=hV3
  have hmix:Tryz.prog.follows .mixedOrders=true:=by kernel_rfl
  have HA:Hid (A=32*j):=hA
  have HM:Hid (M=Nat.min 32 (N - A)):=hM
  clear hV3 hcp hA hM
  obtain ⟨S,hS⟩:∃ S,S=A+M:=⟨_,rfl⟩
  obtain ⟨V4,hV4⟩:∃ V4,V4=V3.setCell ⟨w.heap.size+1+1+1,0,none⟩ (.int .i64 (S:Int)):=⟨_,rfl⟩
  have hbut3:But (fun k=>k=w.heap.size+1) V2 V3:=by
   rw [HV3.out]
   have hsc:=setCells_same (w.heap.size+1) (ints .u8 M (tE (keyB n1 ks) n2 info (j+1))) A V2.drew
   exact ⟨hsc.1,hsc.2.1,hsc.2.2.1,by rw [hsc.2.2.2];exact Nat.le_refl _,fun k _ hk=>heap_setCells_other _ _ _ _ _ hk⟩
  have hbut4:But (fun k=>k=w.heap.size+1∨k=w.heap.size+1+1+1) V2 V4:=by
   refine (hbut3.mono (fun k hk => .inl hk)).trans ?_
   rw [hV4]
   have hsc:=setCells_same (w.heap.size+1+1+1) [.int .i64 (S:Int)] 0 V3
   exact ⟨hsc.1,hsc.2.1,hsc.2.2.1,by simp,fun k _ hk=>Below.heap_setCell V3 ⟨w.heap.size+1+1+1,0,none⟩ _ k (fun e=>hk (.inr e))⟩
  have hrow4:RowAt .u8 V4 (w.heap.size+1) 0 N (outF kv n2 info S):=by
   have h1:RowAt .u8 V3 (w.heap.size+1) 0 N (over (outF kv n2 info A) A M (tE (keyB n1 ks) n2 info (j+1))):=by
    rw [HV3.out]
    have:=RowAt.splice (w:=V2.drew) hrV A M (tE (keyB n1 ks) n2 info (j+1)) (by omega)
    rw [Nat.zero_add] at this
    exact this
   have h2:RowAt .u8 V4 (w.heap.size+1) 0 N (over (outF kv n2 info A) A M (tE (keyB n1 ks) n2 info (j+1))):=fun q hq=>by
    have hb:=Below.heap_setCell V3 ⟨w.heap.size+1+1+1,0,none⟩ (.int .i64 (S:Int)) (w.heap.size+1) (by show w.heap.size+1≠w.heap.size+1+1+1;omega)
    rw [←hV4] at hb
    exact ⟨(World.cell?_of_block (w:=V3) hb).trans (h1 q hq).1,(World.frozen?_of_block (w:=V3) hb).trans (h1 q hq).2⟩
   refine h2.congr (fun q hq => ?_)
   have ha:=HA.out
   unfold over outF
   by_cases h:A≤q∧q<A+M
   · rw [if_pos h,if_pos (by omega),show q / 32+1=j+1 by omega,show q%32=q - A by omega,hkv]
   · rw [if_neg h]
     by_cases h2:q<A
     · rw [if_pos h2,if_pos (by omega)]
     · rw [if_neg h2,if_neg (by omega)]
  have hab4:V4.cell? ⟨w.heap.size+1+1+1,0,none⟩=some (.int .i64 (S:Int)):=by rw [hV4];exact World.cell?_setCell_same _ _ _ hab3
  have hab4f:V4.frozen? ⟨w.heap.size+1+1+1,0,none⟩=false:=by rw [hV4,World.frozen?_setCell];exact hab3f
  have hl4:V4.heap[l]? = some (.loop { r0 with state := .busy }):=(hbut4.block l (Array.getElem?_eq_some_iff.1 hlV).1 (by omega)).trans hlV
  have hD4:V4.heap[D]? = some (.deferred (some [])):=(hbut4.block D (Array.getElem?_eq_some_iff.1 hDV).1 (by omega)).trans hDV
  have hn4:=hbut4.cell r0' (by omega)
  have hx4:=hbut4.cell r2' (by omega)
  have hbutV:But (fun k=>k=l∨k=w.heap.size+1∨k=w.heap.size+1+1+1) V V4:=(hbV.mono (fun k hk => .inl hk)).trans (hbut4.mono (fun k hk => .inr hk))
  have HV4:Hid (V4=V3.setCell ⟨w.heap.size+1+1+1,0,none⟩ (.int .i64 (S:Int))):=hV4
  have hSw:IntKind.i64.wrap ((A:Int)+M)=(S:Int):=by simp only [IntKind.wrap_i64];omega
  have HS:Hid (S=A+M):=hS
  have hnext:S≠N→∃ v W',(Instr.endRound l none).run Tryz.prog V4 = .ok v W'∧(((Ending.returned v = .returned (.bool true)∧ExInv w l D N r0 kv n2 info (j+1) W'∧But (fun k=>k=l∨k=w.heap.size+1∨k=w.heap.size+1+1+1) V W'))∨(Ending.returned v = .returned (.bool false)∧Fin W')):=fun hSN=>by
   have hm:=HM.out
   have ha:=HA.out
   have hs:=HS.out
   have hM32:M=32:=by
    rw [hm]
    refine Nat.min_eq_left ?_
    rcases Nat.le_total 32 (N - A) with h | h
    · exact h
    · have:M=N - A:=by rw [hm];exact Nat.min_eq_right h
      omega
   have hrec:({ { r0 with state := .busy } with state := .ready,pending:=none }:Loop)=r0:=loop_back r0 e1 e2
   have hb5:=but_put V4 l (.loop r0)
   refine ⟨_,_,run_endRound none hl4,.inl ⟨rfl,?_,?_⟩⟩
   · simp only [Option.isNone_none,if_true,hrec]
     refine ⟨World.putObj_heap_same (Array.getElem?_eq_some_iff.1 hl4).1,(hb5.block D (Array.getElem?_eq_some_iff.1 hD4).1 (by omega)).trans hD4,hb5.cell hn4 (by omega),hb5.cell hx4 (by omega),?_,?_,?_,.inr (by omega)⟩
     · rw [show 32*(j+1)=S by omega];exact hb5.cell hab4 (by omega)
     · exact (World.frozen?_of_block (w:=V4) (hb5.block _ (block_lt_of_cell hab4) (by show ¬w.heap.size+1+1+1=l;omega))).trans hab4f
     · rw [show 32*(j+1)=S by omega];exact hb5.row hrow4 (by omega)
   · simp only [Option.isNone_none,if_true,hrec]
     exact hbutV.trans (hb5.mono (fun k hk => .inl hk))
  have hstop:S=N→∃ v W',(Instr.endRound l (some (.exit 0))).run Tryz.prog V4 = .ok v W'∧(((Ending.returned v = .returned (.bool true)∧ExInv w l D N r0 kv n2 info (j+1) W'∧But (fun k=>k=l∨k=w.heap.size+1∨k=w.heap.size+1+1+1) V W'))∨(Ending.returned v = .returned (.bool false)∧Fin W')):=fun hSN=>by
   refine ⟨_,_,run_endRound (some (.exit 0)) hl4,.inr ⟨rfl,?_⟩⟩
   rw [hFin]
   have hb5:=but_put V4 l (.loop { { r0 with state := .busy } with state := .done,pending:=some (.exit 0) })
   rw [←hSN] at hx4 hrow4 ⊢
   exact ⟨World.putObj_heap_same (Array.getElem?_eq_some_iff.1 hl4).1,(hb5.block D (Array.getElem?_eq_some_iff.1 hD4).1 (by omega)).trans hD4,hb5.cell hx4 (by omega),hb5.row hrow4 (by omega),((hbV'.trans (hbutV.below hbV'.size (by omega))).trans (hb5.below (Nat.le_trans hbV'.size hbutV.size) (by omega)))⟩
  have hSi:((S:Int) == (N:Int))=decide (S=N):=by
   by_cases h:S=N
   · simp [h]
   · have h2:¬((S:Int)=(N:Int)):=by omega
     simp [h,h2]
  clear hS hV4 hbut3 hbut4 hrow4 hbutV hFin hkv e4 e5 e6 e7 e1 e2
  rcases Nat.eq_or_lt_of_le hAN with hNA | hNA
  · have hA0:A=0:=by have:=HA.out;omega
    have hM0:M=0:=by omega
    have hS0:S=0:=by have:=HS.out;omega
    subst hA0
    subst hNA
    subst hM0
    subst hS0
    have hr:=hstop rfl
    simp only [Nat.sub_self,Int.ofNat_zero] at hcM hsl
    have HV4':Hid (V4=V3.setCell ⟨w.heap.size+1+1+1,0,none⟩ (.int .i64 0)):=HV4.out
    have hw0:IntKind.i64.wrap 0=0:=by rfl
    clear hstop hnext hSi hSw hfew hMl
    gi_wp2
    try (refine ⟨V2,hbeg,?_⟩;gi_wp2)
    refine wpIn_mono (Q:=fun e a' W'=>e = .normal∧a'={ tmps:=#[.slice x1 n1 c1,.slice x2 n2 c2,.int .i64 0,undef,undef,.pointer (some ⟨w.heap.size,0,none⟩),.slice none 0 0,.int .i64 0,.pointer (some ⟨w.heap.size+1+1,0,none⟩),.pointer (some ⟨w.heap.size+1+1+1,0,none⟩),.slice (some ⟨g,0,none⟩) 32 32,.int .i64 0,.bool false,.bool false,.int .i64 0,.bool false,.bool false,.int .i64 0,.slice (some ⟨w.heap.size+1,0,none⟩) 0 0,.slice x1 n1 c1,.slice x2 n2 c2,.func (.func 115) #[] #[.pointer (some ⟨w.heap.size+1+1+1+1,0,none⟩),.pointer (some ⟨w.heap.size+1+1+1+1+1,0,none⟩)],.slice (some ⟨g,0,none⟩) 32 32,.int .i64 0,.slice (some ⟨w.heap.size+1,0,none⟩) 0 0,.int .i64 0,.slice (some ⟨w.heap.size+1,0,none⟩) 0 0,.slice (some ⟨g,0,none⟩) 32 32,.int .i64 0,.int .i64 0,undef,undef,undef,undef],defers:=[] }∧W'=V4) ?r ?m
    case r =>
     gi_region_with_o (fail)
     all_goals (rw [←HV4'.out];exact ⟨rfl,rfl,rfl⟩)
    case m =>
     rintro e a' W' ⟨rfl,rfl,hW⟩
     rw [hW]
     clear hW
     gi_wp2
     exact hr
  · have hne:¬(N=A):=by omega
    have hAi:(A:Int)≤(N:Int):=by omega
    gi_wp2
    try (refine ⟨V2,hbeg,?_⟩;gi_wp2)
    refine wpIn_mono (Q:=fun e a' W'=>e = .normal∧a'={ tmps:=#[.slice x1 n1 c1,.slice x2 n2 c2,.int .i64 N,undef,undef,.pointer (some ⟨w.heap.size,0,none⟩),.slice none 0 0,.int .i64 0,.pointer (some ⟨w.heap.size+1+1,0,none⟩),.pointer (some ⟨w.heap.size+1+1+1,0,none⟩),.slice (some ⟨g,0,none⟩) 32 32,.int .i64 N,.bool false,.bool false,.int .i64 N,.bool false,.bool false,.int .i64 N,.slice (some ⟨w.heap.size+1,0,none⟩) N N,.slice x1 n1 c1,.slice x2 n2 c2,.func (.func 115) #[] #[.pointer (some ⟨w.heap.size+1+1+1+1,0,none⟩),.pointer (some ⟨w.heap.size+1+1+1+1+1,0,none⟩)],.slice (some ⟨g,0,none⟩) 32 32,.int .i64 A,.slice (some ⟨w.heap.size+1,0,none⟩) N N,.int .i64 A,.slice (some ⟨w.heap.size+1,A,none⟩) (N - A) (N - A),.slice (some ⟨g,0,none⟩) 32 32,.int .i64 M,.int .i64 S,undef,undef,undef,undef],defers:=[] }∧W'=V4) ?r ?m
    case r =>
     gi_region_with_o (fail)
     all_goals (rw [←HV4.out];exact ⟨rfl,rfl,rfl⟩)
    case m =>
     rintro e a' W' ⟨rfl,rfl,hW⟩
     rw [hW]
     clear hW
     by_cases hSN:S=N
     · have hr:=hstop hSN
       clear hstop hnext
       rw [decide_eq_true hSN] at hSi
       gi_wp2
       exact hr
     · have hr:=hnext hSN
       clear hstop hnext
       rw [decide_eq_false hSN] at hSi
       gi_wp2
       exact hr
 refine (hiter_in (n - 1) w hT x1 x2 n1 n2 c1 c2 ks info hks hinfo hn1 hn2 hk hi l (w.heap.size+1+1+1+1) (w.heap.size+1+1+1+1+1) (fun k=>k=l∨k=w.heap.size+1∨k=w.heap.size+1+1+1) (fun k hk=>by omega) (by omega) (ExInv w l D N r0 kv n2 info) Fin (fun j W W' h hb=>h.below hb) (fun W h=>by have:=h.few;omega) W1 hbw1 (fun k hk=>by omega) ((hb1.cell (block_lt_of_cell q4)).trans q4) ((hb1.cell (block_lt_of_cell q5)).trans q5) hY hI0).mono ?_
 rintro e W2 ⟨⟨v,rfl⟩,hF⟩
 rw [hFin] at hF
 obtain ⟨hl2,hD2,hx2,hr2,hb2⟩:=hF
 refine ⟨some (.exit 0),_,run_endLoop hl2 (by simp),?_⟩
 obtain ⟨V,hV⟩:∃ V,V=W2.putObj l (.loop { { r0 with state := .done,pending:=some (.exit 0) } with state := .exhausted }):=⟨_,rfl⟩
 have hbV:But (fun k=>k=l) W2 V:=by rw [hV];exact but_put _ _ _
 have hDV:V.heap[D]? = some (.deferred (some [])):=(hbV.block _ (Array.getElem?_eq_some_iff.1 hD2).1 (by omega)).trans hD2
 have hxV:=hbV.cell hx2 (by omega)
 have hrV:=hbV.row hr2 (by omega)
 have hBV:Below w.heap.size w V:=hb2.trans (hbV.below hb2.size (by omega))
 rw [←hV]
 obtain ⟨V2,hV2⟩:∃ V2,V2=V.putObj D (.deferred none):=⟨_,rfl⟩
 have hbV2:But (fun k=>k=D) V V2:=by rw [hV2];exact but_put _ _ _
 have hfin:RowAt .u8 V2 (w.heap.size+1) 0 N (outF kv n2 info N)∧Below w.heap.size w V2:=⟨hbV2.row hrV (by omega),hBV.trans (hbV2.below hBV.size (by omega))⟩
 clear hV hY hI0 hFin hl2 hD2 hx2 hr2 hb2 hb1 hl1 hD1
 gi_wp2
 refine ⟨by simp,.inl ⟨_,_,rfl,run_takeDeferred hDV,?_⟩⟩
 rw [←hV2,←hkv]
 exact ⟨_,results_tmp2 rfl _ _ _,w.heap.size+1,rfl,by omega,hfin.1,hfin.2⟩
theorem expand_any (x1 x2:Option Addr) (n1 n2 c1 c2:Nat) (ks info:Nat→Nat) (hks:∀ j,ks j<256) (hinfo:∀ j,info j<256) (hn1:n1<2305843009213693000) (hn2:n2<2305843009213692000) (w:World) (hT:HTab w cubeK squareK) (hk:BytesIn w (.slice x1 n1 c1) n1 ks) (hi:BytesIn w (.slice x2 n2 c2) n2 info) (N:Nat) (hN:N≤8160) :
 Calls Tryz.prog 86 #[.slice x1 n1 c1,.slice x2 n2 c2,.int .i64 N] w fun e w'=>∃ g,e = .returned (.tuple #[.slice (some ⟨g,0,none⟩) N N,.int .i64 0])∧w.heap.size≤g∧RowAt .u8 w' g 0 N (outF (keyB n1 ks) n2 info N)∧Below w.heap.size w w' :=
 callsIn_wide.1 (expand_in 9 x1 x2 n1 n2 c1 c2 ks info hks hinfo hn1 hn2 w hT hk hi N hN)
end Go.Proofs.YtbbikhlbkpjpjaaGreatDoor
