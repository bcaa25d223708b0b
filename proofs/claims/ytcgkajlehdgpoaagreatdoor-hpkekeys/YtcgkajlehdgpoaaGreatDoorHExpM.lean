/- What the proof stands on: HExp, HExpand, QApp, QMath, QRK, HRefBlock, HRefTab, HRefSum. -/
import Derived.Test.YtcgkajlehdgpoaaGreatDoorBaseM
import Derived.Test.YtcgkajlehdgpoaaGreatDoorHMixM
import Derived.Test.YtcgkajlehdgpoaaGreatDoorHRefSmallM
import Derived.Deep.Cut
import Derived.Deep.RegionWith
import Derived.Lib.SlBytesConst
import Derived.LoopIn
import Derived.LoopNIn
import Derived.OwnWalkIn
import Derived.RangeFuncBound
import Derived.RangeFuncCalls
import Derived.RangeFuncLeaves
import Derived.RangeFuncNested
import Derived.Shelf.Abstract
import Derived.Shelf.RegionOpen
import Derived.TacticsInMore
namespace Go.Proofs.YtcgkajlehdgpoaaGreatDoor
open Go.RowKit Go.Shelf
attribute [local go_sem] Oper.semAt_some
theorem tags_any (x1 x2:Option Addr) (n1 n2 c1 c2:Nat) (w:World):Calls Tryz.prog 72 #[.slice x1 n1 c1,.slice x2 n2 c2] w fun e w'=>e = .returned (.func (.func 97) #[] #[.pointer (some ⟨w.heap.size,0,none⟩),.pointer (some ⟨w.heap.size+1,0,none⟩)])∧w'=(w.alloc (.cells #[.slice x1 n1 c1] 22)).alloc (.cells #[.slice x2 n2 c2] 22):=by
 go_enter Tryz.func72,Tryz.ntmps72
 go_wp2
 go_ret
 exact ⟨rfl,rfl⟩
def tE (kv:Nat→Nat) (m:Nat) (info:Nat→Nat):Nat→Nat→Nat
 | 0=>fun _=>0
 | i+1=>tagH kv ((if i=0 then 0 else 32)+m+1) (cat (if i=0 then 0 else 32) (tE kv m info i) (cat m info (fun _=>i+1)))
theorem tE_lt (kv:Nat→Nat) (m:Nat) (info:Nat→Nat):∀ i j,tE kv m info i j<256
 | 0,_=>Nat.zero_lt_succ _
 | _+1,j=>tagH_lt _ _ _ j
theorem parts_three (w:World) (v0 v1 v2:Value) (a m c:Nat) (b0 b1 b2:Nat→Nat) (ty:TypeId) (h0:BytesIn w v0 a b0) (h1:BytesIn w v1 m b1) (h2:BytesIn w v2 c b2):Parts (w.alloc (.cells #[v0,v1,v2] ty)) w.heap.size 3 (a+m+c) (cat a b0 (cat m b1 b2)):=by
 have hb:Below w.heap.size w (w.alloc (.cells #[v0,v1,v2] ty)):=(Below.refl _ _).alloc (Nat.le_refl _) _
 have key:∀ {v:Value} {n:Nat} {b c:Nat→Nat},BytesIn w v n b→(∀ j,j<n→b j=c j)→BytesIn (w.alloc (.cells #[v0,v1,v2] ty)) v n c:=fun {v n b c} h e=>by
  rcases h.still hb with h | ⟨bb,ob,cap,rfl,g1,g2,g3⟩
  · exact .inl h
  · exact .inr ⟨bb,ob,cap,rfl,g1,g2,fun j hj=>by rw [g3 j hj,e j hj]⟩
 refine ⟨fun i=>if i=0 then v0 else if i=1 then v1 else v2,fun i=>if i=0 then 0 else if i=1 then a else if i=2 then a+m else a+m+c,rfl,rfl,fun i hi => ?_⟩
 match i,hi with
 | 0,_ =>
  refine ⟨by simp,by simp,by simp;omega,?_⟩
  refine key (b:=b0) (by simpa using h0) (fun j hj => ?_)
  simp at hj
  simp [cat,hj]
 | 1,_ =>
  refine ⟨by simp,by simp,by simp,?_⟩
  refine key (b:=b1) (by simpa using h1) (fun j hj => ?_)
  simp at hj
  simp [cat,hj]
  intro h;omega
 | 2,_ =>
  refine ⟨by simp,by simp,by simp,?_⟩
  refine key (b:=b2) (by simpa using h2) (fun j hj => ?_)
  simp [cat]
  rw [if_neg (by omega),if_neg (by omega)]
  congr 1;omega
def LastAt (bad:Nat→Prop) (W:World) (v:Value) (j:Nat) (X:Nat→Nat):Prop:=(j=0∧v = .slice none 0 0)∨(0<j∧∃ g,v = .slice (some ⟨g,0,none⟩) 32 32∧RowAt .u8 W g 0 32 X∧¬bad g)
theorem LastAt.bytes {bad:Nat→Prop} {W:World} {v:Value} {j:Nat} {X:Nat→Nat} (h:LastAt bad W v j X):BytesIn W v (if j=0 then 0 else 32) X:=by
 rcases h with ⟨rfl,rfl⟩ | ⟨hj,g,rfl,hr,_⟩
 · exact .inl ⟨none,rfl,rfl⟩
 · rw [if_neg (by omega)]
   exact .inr ⟨g,0,32,rfl,block_lt_of_cell (hr 0 (by decide)).1,Nat.le_refl _,fun j hj=>(hr j hj).1⟩
set_option maxRecDepth 100000 in
set_option maxHeartbeats 4000000 in
theorem hiter_in (n:Nat) (w0:World) (hT:HTab w0 cubeK squareK) (x1 x2:Option Addr) (n1 n2 c1 c2:Nat) (ks info:Nat→Nat) (hks:∀ j,ks j<256) (hinfo:∀ j,info j<256) (hn1:n1<2305843009213693000) (hn2:n2<2305843009213692000) (hk:BytesIn w0 (.slice x1 n1 c1) n1 ks) (hi:BytesIn w0 (.slice x2 n2 c2) n2 info)
 (l pb ib:Nat) (bad:Nat→Prop) (hbad:∀ k,bad k→w0.heap.size≤k) (hib:¬bad ib) (Inv:Nat→World→Prop) (Fin:World→Prop) (hInv:∀ j W W',Inv j W→Below W.heap.size W W'→Inv j W') (hEnd:∀ W,¬Inv 255 W)
 (W:World) (hbW:Below w0.heap.size w0 W) (hbad2:∀ k,bad k→k<W.heap.size) (hpb:W.cell? ⟨pb,0,none⟩=some (.slice x1 n1 c1)) (hic:W.cell? ⟨ib,0,none⟩=some (.slice x2 n2 c2))
 (hY:∀ j g W1,j<255→Inv j W1→RowAt .u8 W1 g 0 32 (tE (keyB n1 ks) n2 info (j+1))→¬bad g→Below w0.heap.size w0 W1→YieldAt Fence.wide (n - 1) Tryz.prog l #[.slice (some ⟨g,0,none⟩) 32 32] W1 fun e W' =>
   (e = .returned (.bool true)∧Inv (j+1) W'∧But bad W1 W')∨(e = .returned (.bool false)∧Fin W'))
 (h0:Inv 0 W) :
 CallsIn Fence.wide n Tryz.prog 97 #[.func (.yield l) #[] #[],.pointer (some ⟨pb,0,none⟩),.pointer (some ⟨ib,0,none⟩)] W fun e W'=>(∃ v,e = .returned v)∧Fin W':=by
 have h3:=hT.size
 have hz:=zero64
 have cb:=blockOf_any (.slice x1 n1 c1) n1 ks hks hn1 W (hT.below hbW h3) (hk.still hbW)
 refine callsIn_of_wp Tryz.func97 rfl trivial ?_ rfl
 simp only [Tryz.ntmps97,List.size_toArray,List.length_cons,List.length_nil,Nat.reduceAdd,Nat.reduceSub,Array.replicate_succ,Array.replicate_zero,List.push_toArray,List.append_toArray,List.nil_append,List.cons_append]
 obtain ⟨kv,hkv⟩:∃ kv,kv=keyB n1 ks:=⟨_,rfl⟩
 have hkl:∀ j,kv j<256:=by rw [hkv];exact keyB_lt hks
 rw [←hkv] at cb hY
 have hi2:(Tryz.prog.info? 136).map (·.size)=some (ints .u8 64 kv).toArray.size:=by rw [List.size_toArray,ints_len];exact info64
 have hone:(ints .u8 64 kv).toArray.all (·.oneCell')=true:=all_oneCell_toArray (ints_one _ _ _)
 have hlay:∀ w1:World,∃ W2,W2=(w1.alloc (.cells (zb 64) 136)).setCells w1.heap.size 0 (ints .u8 64 kv).toArray.toList∧RowAt .u8 W2 w1.heap.size 0 64 kv∧Below w1.heap.size w1 W2∧(w1.alloc (.cells (zb 64) 136)).there w1.heap.size 0 (ints .u8 64 kv).toArray.size:=fun w1=>by
  refine ⟨_,rfl,?_,?_,?_⟩
  · have h:=(lay64 w1 64 kv (Nat.le_refl _)).congr (Y:=kv) (fun j hj=>by rw [if_pos hj])
    rw [List.toList_toArray]
    exact h
  · exact below_setCells (Nat.le_refl _) _ _ _ ((Below.refl _ _).alloc (Nat.le_refl _) _)
  · have e:(ints .u8 64 kv).toArray.size=64:=by rw [List.size_toArray,ints_len]
    rw [e];exact there64 w1
 clear hkv
 gi_wp2_with (first
  | (refine ⟨trivial,(fun h=>by cases h),?_⟩;gi_at_call 98;refine (callsIn_wide.2 cb).mono ?_;rintro e w1 ⟨rfl,hb1⟩;obtain ⟨W2,hW2,hrk,hb2,hth⟩:=hlay w1;(have HW2:Hid (W2=(w1.alloc (.cells (zb 64) 136)).setCells w1.heap.size 0 (ints .u8 64 kv).toArray.toList):=hW2);clear hW2 hlay)
  | (refine wpListIn_store_mid rfl 136 _ _ rfl w1.heap.size 0 (ints .u8 64 kv).toArray rfl rfl hth hi2 hone ?_;rw [←HW2.out]))
 have hs1:=hb1.size
 have hs2:=hb2.size
 have hbw2:Below w0.heap.size w0 W2:=hbW.trans ((hb1.mono hbW.size).trans (hb2.mono (Nat.le_trans hbW.size hs1)))
 have hWW:Below W.heap.size W W2:=hb1.trans (hb2.mono hs1)
 have hkb:¬bad w1.heap.size:=fun h=>by have:=hbad2 _ h;omega
 have hiW:ib<W.heap.size:=block_lt_of_cell hic
 have hic2:W2.cell? ⟨ib,0,none⟩=some (.slice x2 n2 c2):=(hWW.cell (p:=⟨ib,0,none⟩) hiW).trans hic
 have h02:=hInv 0 W W2 h0 hWW
 have hsz2:W.heap.size≤W2.heap.size:=hWW.size
 clear hth hb1 hb2 cb h0 hic hpb hi2 hone
 gi_loopw [5,6] (fun v i wr=>∃ j:Nat,j≤255∧i = .int .i64 ((j:Int)+1)∧Inv j wr∧Below w0.heap.size w0 wr∧wr.cell? ⟨ib,0,none⟩=some (.slice x2 n2 c2)∧RowAt .u8 wr w1.heap.size 0 64 kv∧LastAt bad wr v j (tE kv n2 info j)∧W.heap.size≤wr.heap.size) (fun _ i _=>256 - (intOf i).toNat)
 case atStart=>exact ⟨0,Nat.zero_le _,by go_num,h02,hbw2,hic2,hrk,.inl ⟨rfl,rfl⟩,hsz2⟩
 case round =>
  clear h02 hbw2 hic2 hrk
  obtain ⟨j,hj,rfl,hIj,hbr,hcr,hrr,hla,hszr⟩:=hrel
  by_cases hlt:j<255
  · obtain ⟨xl,cl,hve,-,-,-⟩:=hla.bytes.src
    obtain ⟨a,ha⟩:∃ a,a=if j=0 then 0 else 32:=⟨_,rfl⟩
    have hlb:=hla.bytes
    rw [←ha] at hve hlb
    subst hve
    have ha32:a≤32:=by rw [ha];split <;> omega
    have hbA:Below wr.heap.size wr (wr.alloc (.cells #[.int .u8 ((j:Int)+1)] 5)):=(Below.refl _ _).alloc (Nat.le_refl _) _
    have hone2:BytesIn (wr.alloc (.cells #[.int .u8 ((j:Int)+1)] 5)) (.slice (some ⟨wr.heap.size,0,none⟩) 1 1) 1 (fun _=>j+1) := .inr ⟨wr.heap.size,0,1,rfl,by simp,Nat.le_refl _,fun q hq=>by
     have:q=0:=by omega
     subst this
     simp⟩
    have hP:=parts_three (wr.alloc (.cells #[.int .u8 ((j:Int)+1)] 5)) (.slice xl a cl) (.slice x2 n2 c2) (.slice (some ⟨wr.heap.size,0,none⟩) 1 1) a n2 1 (tE kv n2 info j) info (fun _=>j+1) 22 (hlb.still hbA) ((hi.still hbr).still hbA) hone2
    have hbB:Below wr.heap.size wr ((wr.alloc (.cells #[.int .u8 ((j:Int)+1)] 5)).alloc (.cells #[.slice xl a cl,.slice x2 n2 c2,.slice (some ⟨wr.heap.size,0,none⟩) 1 1] 22)):=hbA.alloc (by simp) _
    have hbt:=hbr.trans (hbB.mono hbr.size)
    have ct:=tag_any kv hkl _ 3 3 (a+n2+1) _ (cat_lt (tE_lt kv n2 info j) (cat_lt hinfo (fun _=>(by omega:j+1<256)))) (by omega) _ (hT.below hbt h3) hP (by decide)
    have htE:tagH kv (a+n2+1) (cat a (tE kv n2 info j) (cat n2 info (fun _=>j+1)))=tE kv n2 info (j+1):=by rw [ha];rfl
    rw [htE] at ct
    simp only [World.size_alloc] at ct
    have hjm:((j:Int)+1)%256=(j:Int)+1:=by omega
    have hrg:=hrr.range
    have hi':(Tryz.prog.info? 136).map (·.size)=some (ints .u8 64 kv).length:=by rw [ints_len];exact info64
    have hji:(j:Int)+1≤255:=by omega
    have hlr:w1.heap.size<wr.heap.size:=block_lt_of_cell (hrr 0 (by decide)).1
    clear hP hbA hone2 htE ha hk
    gi_wp2_with (first
     | (refine wpListIn_load_mid rfl 136 _ rfl w1.heap.size 0 rfl _ _ hrg Tryz.underlying136 rfl hi' ?_)
     | (refine ⟨trivial,(fun h=>by cases h),?_⟩;gi_at_call 99;refine (callsIn_wide.2 ct).mono ?_;rintro e w3 ⟨g,rfl,hg,hrg3,hb3⟩;(have hw3:Below wr.heap.size wr w3:=hbB.trans (hb3.mono (by omega)));(have hbw3:Below w0.heap.size w0 w3:=hbr.trans (hw3.mono hbr.size));(have hgb:¬bad g:=fun h=>by have:=hbad2 _ h;omega);obtain ⟨fn,tmps,assign,body,hy,hR⟩:=hY j g w3 hlt (hInv j wr w3 hIj hw3) hrg3 hgb hbw3))
    have hcr3:w3.cell? ⟨ib,0,none⟩=some (.slice x2 n2 c2):=(hw3.cell (p:=⟨ib,0,none⟩) (by show ib<_;omega)).trans hcr
    have hrr3:=hrr.below hw3 hlr
    have hsz3:=hw3.size
    clear hbB ct hb3
    refine ⟨(fun h=>by cases h),hR.mono ?_⟩
    rintro e W' (⟨rfl,hI',hbut⟩ | ⟨rfl,hF⟩)
    · gi_wp2
      go_roundw
      case rel =>
       have hsz4:=hbut.size
       exact ⟨j+1,by omega,by go_num,hI',hbw3.trans (hbut.below hbw3.size hbad),hbut.cell hcr3 hib,hbut.row hrr3 hkb,.inr ⟨by omega,g,rfl,hbut.row hrg3 hgb,hgb⟩,by omega⟩
      case measure=>simp [intOf];omega
    · gi_wp2
      refine bodyPost_ret (results_none rfl _ _ _) rfl ?_
      exact ⟨⟨_,rfl⟩,hF⟩
  · obtain rfl:j=255:=by omega
    exact absurd hIj (hEnd _)
end Go.Proofs.YtcgkajlehdgpoaaGreatDoor
namespace Go.Proofs.YtcgkajlehdgpoaaGreatDoor
open Go.RowKit Go.Shelf
attribute [local go_sem] Oper.semAt_some
theorem one_box (w:World) (v:Value) (t:TypeId):(w.alloc (.cells #[v] t)).cell? ⟨w.heap.size,0,none⟩=some v∧(w.alloc (.cells #[v] t)).frozen? ⟨w.heap.size,0,none⟩=false:=by simp
theorem expand_start (w:World) (N:Nat) (v1 v2:Value) (w':World)
 (hw:w'=(((((w.alloc (.cells #[.int .i64 N] 3)).alloc (.cells (zb N) 5)).alloc (.cells #[.slice (some ⟨w.heap.size+1,0,none⟩) N N] 22)).alloc (.cells #[.int .i64 0] 3)).alloc (.cells #[v1] 22)).alloc (.cells #[v2] 22)) :
 w'.heap.size=w.heap.size+6∧Below w.heap.size w w'∧w'.cell? ⟨w.heap.size,0,none⟩=some (.int .i64 N)∧RowAt .u8 w' (w.heap.size+1) 0 N (fun _=>0)∧w'.cell? ⟨w.heap.size+1+1,0,none⟩=some (.slice (some ⟨w.heap.size+1,0,none⟩) N N) ∧
  w'.cell? ⟨w.heap.size+1+1+1,0,none⟩=some (.int .i64 0)∧w'.frozen? ⟨w.heap.size+1+1+1,0,none⟩=false∧w'.cell? ⟨w.heap.size+1+1+1+1,0,none⟩=some v1∧w'.cell? ⟨w.heap.size+1+1+1+1+1,0,none⟩=some v2:=by
 obtain ⟨a1,e1⟩:∃ a,a=w.alloc (.cells #[.int .i64 N] 3):=⟨_,rfl⟩
 obtain ⟨a2,e2⟩:∃ a,a=a1.alloc (.cells (zb N) 5):=⟨_,rfl⟩
 obtain ⟨a3,e3⟩:∃ a,a=a2.alloc (.cells #[.slice (some ⟨w.heap.size+1,0,none⟩) N N] 22):=⟨_,rfl⟩
 obtain ⟨a4,e4⟩:∃ a,a=a3.alloc (.cells #[.int .i64 0] 3):=⟨_,rfl⟩
 obtain ⟨a5,e5⟩:∃ a,a=a4.alloc (.cells #[v1] 22):=⟨_,rfl⟩
 have s1:a1.heap.size=w.heap.size+1:=by rw [e1];simp
 have s2:a2.heap.size=w.heap.size+1+1:=by rw [e2,World.size_alloc,s1]
 have s3:a3.heap.size=w.heap.size+1+1+1:=by rw [e3,World.size_alloc,s2]
 have s4:a4.heap.size=w.heap.size+1+1+1+1:=by rw [e4,World.size_alloc,s3]
 have s5:a5.heap.size=w.heap.size+1+1+1+1+1:=by rw [e5,World.size_alloc,s4]
 have e6:w'=a5.alloc (.cells #[v2] 22):=by rw [hw,e5,e4,e3,e2,e1]
 have b0:Below w.heap.size w a1:=by rw [e1];exact (Below.refl _ _).alloc (Nat.le_refl _) _
 have b1:Below a1.heap.size a1 a2:=by rw [e2];exact (Below.refl _ _).alloc (Nat.le_refl _) _
 have b2:Below a2.heap.size a2 a3:=by rw [e3];exact (Below.refl _ _).alloc (Nat.le_refl _) _
 have b3:Below a3.heap.size a3 a4:=by rw [e4];exact (Below.refl _ _).alloc (Nat.le_refl _) _
 have b4:Below a4.heap.size a4 a5:=by rw [e5];exact (Below.refl _ _).alloc (Nat.le_refl _) _
 have b5:Below a5.heap.size a5 w':=by rw [e6];exact (Below.refl _ _).alloc (Nat.le_refl _) _
 have t4:=b4.trans (b5.mono (by omega))
 have t3:=b3.trans (t4.mono (by omega))
 have t2:=b2.trans (t3.mono (by omega))
 have t1:=b1.trans (t2.mono (by omega))
 have hr:RowAt .u8 a2 a1.heap.size 0 N (fun _=>0):=by rw [e2];exact RowAt.fresh (fun j hj=>zb_at N j hj)
 have c0:=one_box w (.int .i64 N) 3
 have c2:=one_box a2 (.slice (some ⟨w.heap.size+1,0,none⟩) N N) 22
 have c3:=one_box a3 (.int .i64 0) 3
 have c4:=one_box a4 v1 22
 have c5:=one_box a5 v2 22
 rw [←e1] at c0
 rw [←e3,s2] at c2
 rw [←e4,s3] at c3
 rw [←e5,s4] at c4
 rw [←e6,s5] at c5
 refine ⟨by rw [e6,World.size_alloc,s5],b0.trans (t1.mono (by omega)),(t1.cell (p:=⟨w.heap.size,0,none⟩) (by show w.heap.size<_;omega)).trans c0.1,?_,(t3.cell (p:=⟨w.heap.size+1+1,0,none⟩) (by show w.heap.size+1+1<_;omega)).trans c2.1,(t4.cell (p:=⟨w.heap.size+1+1+1,0,none⟩) (by show w.heap.size+1+1+1<_;omega)).trans c3.1,(t4.frozen (p:=⟨w.heap.size+1+1+1,0,none⟩) (by show w.heap.size+1+1+1<_;omega)).trans c3.2,(b5.cell (p:=⟨w.heap.size+1+1+1+1,0,none⟩) (by show w.heap.size+1+1+1+1<_;omega)).trans c4.1,c5.1⟩
 have:=hr.below t2 (by omega)
 rw [s1] at this
 exact this
def outF (kv:Nat→Nat) (m:Nat) (info:Nat→Nat) (a:Nat):Nat→Nat:=fun q=>if q<a then tE kv m info (q / 32+1) (q%32) else 0
structure ExInv (w:World) (l D N:Nat) (rec:Loop) (kv:Nat→Nat) (m:Nat) (info:Nat→Nat) (j:Nat) (W:World):Prop where
 lp:W.heap[l]? = some (.loop rec)
 dfr:W.heap[D]? = some (.deferred (some []))
 nb:W.cell? ⟨w.heap.size,0,none⟩=some (.int .i64 N)
 xb:W.cell? ⟨w.heap.size+1+1,0,none⟩=some (.slice (some ⟨w.heap.size+1,0,none⟩) N N)
 ab:W.cell? ⟨w.heap.size+1+1+1,0,none⟩=some (.int .i64 (32*j:Nat))
 abf:W.frozen? ⟨w.heap.size+1+1+1,0,none⟩=false
 row:RowAt .u8 W (w.heap.size+1) 0 N (outF kv m info (32*j))
 few:j=0∨32*j<N
theorem ExInv.below {w:World} {l D N:Nat} {rec:Loop} {kv:Nat→Nat} {m:Nat} {info:Nat→Nat} {j:Nat} {W W':World} (h:ExInv w l D N rec kv m info j W) (hb:Below W.heap.size W W'):ExInv w l D N rec kv m info j W' :=
 ⟨(hb.block l (Array.getElem?_eq_some_iff.1 h.lp).1).trans h.lp,(hb.block D (Array.getElem?_eq_some_iff.1 h.dfr).1).trans h.dfr,(hb.cell (block_lt_of_cell h.nb)).trans h.nb,(hb.cell (block_lt_of_cell h.xb)).trans h.xb,(hb.cell (block_lt_of_cell h.ab)).trans h.ab,(hb.frozen (block_lt_of_cell h.ab)).trans h.abf,fun q hq=>⟨(hb.cell (block_lt_of_cell (h.row q hq).1)).trans (h.row q hq).1,(hb.frozen (block_lt_of_cell (h.row q hq).1)).trans (h.row q hq).2⟩,h.few⟩
set_option maxRecDepth 100000 in
set_option maxHeartbeats 4000000 in
theorem expand_in (n:Nat) (x1 x2:Option Addr) (n1 n2 c1 c2:Nat) (ks info:Nat→Nat) (hks:∀ j,ks j<256) (hinfo:∀ j,info j<256) (hn1:n1<2305843009213693000) (hn2:n2<2305843009213692000) (w:World) (hT:HTab w cubeK squareK) (hk:BytesIn w (.slice x1 n1 c1) n1 ks) (hi:BytesIn w (.slice x2 n2 c2) n2 info) (N:Nat) (hN:N≤8160) :
 CallsIn Fence.wide n Tryz.prog 50 #[.slice x1 n1 c1,.slice x2 n2 c2,.int .i64 N] w fun e w'=>∃ g,e = .returned (.tuple #[.slice (some ⟨g,0,none⟩) N N,.int .i64 0])∧w.heap.size≤g∧RowAt .u8 w' g 0 N (outF (keyB n1 ks) n2 info N)∧Below w.heap.size w w':=by
 have hmk:=fun W=>make_bytes W N N rfl (by omega)
 have hNi:¬((N:Int)<0):=by omega
 have hNj:¬(8160<(N:Int)):=by omega
 have htags:=fun W=>tags_any x1 x2 n1 n2 c1 c2 W
 refine callsIn_of_wp_marks Tryz.func50 rfl trivial ?_ rfl
 simp only [Tryz.ntmps50,List.size_toArray,List.length_cons,List.length_nil,Nat.reduceAdd,Nat.reduceSub,Array.replicate_succ,Array.replicate_zero,List.push_toArray,List.append_toArray,List.nil_append,List.cons_append]
 gi_wp2_with (first
  | (refine ⟨trivial,(fun h=>by cases h),?_⟩;gi_at_call 72;refine (callsIn_wide.2 (htags _)).mono ?_;rintro e w' ⟨rfl,hw'⟩))
 obtain ⟨s6,hbw,q0,qr,q2,q3,q3f,q4,q5⟩:=expand_start w N _ _ w' hw'
 rw [←hw']
 clear hw' hmk htags
 obtain ⟨kv,hkv⟩:∃ kv,kv=keyB n1 ks:=⟨_,rfl⟩
 refine wpIn_range_with rfl (fun _=>trivial) (fun h=>by cases h) rfl (enters_of Tryz.func97 (by kernel_rfl) rfl) (fun r0 e1 e2 e4 e5 e6 e7 => ?_)
 obtain ⟨W1,hW1⟩:∃ W1,W1=(w'.alloc (.deferred (some []))).alloc (.loop r0):=⟨_,rfl⟩
 obtain ⟨l,hl⟩:∃ l,l=w'.heap.size+1:=⟨_,rfl⟩
 have hb1:Below w'.heap.size w' W1:=by rw [hW1];exact ((Below.refl _ _).alloc (Nat.le_refl _) _).alloc (by simp) _
 have hl1:W1.heap[l]? = some (.loop r0):=by
  rw [hW1,hl];have:=World.alloc_heap_new (w'.alloc (.deferred (some []))) (.loop r0);rwa [World.size_alloc] at this
 have hD1:W1.heap[w'.heap.size]? = some (.deferred (some [])):=by
  rw [hW1];exact (Below.heap_alloc _ _ _ (by simp)).trans (World.alloc_heap_new w' _)
 rw [←hW1,←hl]
 have hs1:W1.heap.size=w'.heap.size+2:=by rw [hW1];simp
 obtain ⟨D,hD⟩:∃ D,D=w'.heap.size:=⟨_,rfl⟩
 have hD6:w.heap.size+5<D:=by omega
 have hDl:D<l:=by omega
 have hlW:l<W1.heap.size:=by omega
 have hqb:∀ {b:Nat} {v:Value},w'.cell? ⟨b,0,none⟩=some v→b<w'.heap.size:=fun h=>block_lt_of_cell h
 have hq6:w.heap.size+1<w'.heap.size:=by omega
 rw [←hD] at hD1 ⊢
 clear hW1 hl hs1 hD s6
 have hbw1:Below w.heap.size w W1:=hbw.trans (hb1.mono (by omega))
 have hI0:ExInv w l D N r0 kv n2 info 0 W1:=⟨hl1,hD1,(hb1.cell (block_lt_of_cell q0)).trans q0,(hb1.cell (block_lt_of_cell q2)).trans q2,(hb1.cell (block_lt_of_cell q3)).trans q3,(hb1.frozen (block_lt_of_cell q3)).trans q3f,fun q hq=>by
  have:=(qr.below hb1 (by omega)) q hq
  simpa [outF] using this,.inl rfl⟩
 obtain ⟨Fin,hFin⟩:∃ Fin:World→Prop,Fin=fun W=>W.heap[l]? = some (.loop { r0 with state := .done,pending:=some (.exit 0) })∧W.heap[D]? = some (.deferred (some []))∧W.cell? ⟨w.heap.size+1+1,0,none⟩=some (.slice (some ⟨w.heap.size+1,0,none⟩) N N)∧RowAt .u8 W (w.heap.size+1) 0 N (outF kv n2 info N)∧Below w.heap.size w W:=⟨_,rfl⟩
 have hY:∀ j g W1,j<255→ExInv w l D N r0 kv n2 info j W1→RowAt .u8 W1 g 0 32 (tE (keyB n1 ks) n2 info (j+1))→¬(g=l∨g=w.heap.size+1∨g=w.heap.size+1+1+1)→Below w.heap.size w W1→YieldAt Fence.wide (n - 1 - 1) Tryz.prog l #[.slice (some ⟨g,0,none⟩) 32 32] W1 fun e W' =>
  (e = .returned (.bool true)∧ExInv w l D N r0 kv n2 info (j+1) W'∧But (fun k=>k=l∨k=w.heap.size+1∨k=w.heap.size+1+1+1) W1 W')∨(e = .returned (.bool false)∧Fin W'):=by
  intro j g V hj hI hrow hgb hbV'
  refine yield_round hI.lp (by rw [e5];rfl) ?_
  rw [e4,e5,e6,e7]
  obtain ⟨V2,hV2⟩:∃ V2,V2=V.putObj l (.loop { r0 with state := .busy }):=⟨_,rfl⟩
  have hbV:But (fun k=>k=l) V V2:=by rw [hV2];exact but_put _ _ _
  have hlV:V2.heap[l]? = some (.loop { r0 with state := .busy }):=by rw [hV2];exact World.putObj_heap_same (Array.getElem?_eq_some_iff.1 hI.lp).1
  have hDV:V2.heap[D]? = some (.deferred (some [])):=(hbV.block _ (Array.getElem?_eq_some_iff.1 hI.dfr).1 (by omega)).trans hI.dfr
  have r0':=hbV.cell hI.nb (by omega)
  have r2':=hbV.cell hI.xb (by omega)
  have r3':=hbV.cell hI.ab (by omega)
  have r3f:V2.frozen? ⟨w.heap.size+1+1+1,0,none⟩=false:=(World.frozen?_of_block (w:=V) (hbV.block _ (block_lt_of_cell hI.ab) (by show ¬w.heap.size+1+1+1=l;omega))).trans hI.abf
  have hrV:=hbV.row hI.row (by omega)
  have hgV:=hbV.row hrow (by omega)
  have hbeg:(Instr.beginRound l).run Tryz.prog V = .ok () V2:=by rw [hV2];exact run_beginRound hI.lp e1
  have hfew:=hI.few
  obtain ⟨A,hA⟩:∃ A,A=32*j:=⟨_,rfl⟩
  rw [←hA] at r3' hrV hfew
  have hAN:A≤N:=by omega
  have hsl:∀ W:World,(Instr.sliceAt 22 (.slice (some ⟨w.heap.size+1,0,none⟩) N N) (some (.int .i64 A)) none none).run Tryz.prog W = .ok (.slice (some ⟨w.heap.size+1,A,none⟩) (N - A) (N - A)) W:=fun W=>by
   have h:=sliceFrom W (w.heap.size+1) 0 N N A hAN
   rw [Nat.zero_add] at h
   have e:(if N=A then 0 else A)=A:=by split <;> omega
   rw [e] at h
   exact h
  have hgd:=hgV
  have hcp:∀ M,M=Nat.min 32 (N - A)→(Builtin.copy_ #[22,22] 3 #[.slice (some ⟨w.heap.size+1,A,none⟩) (N - A) (N - A),.slice (some ⟨g,0,none⟩) 32 32]).run Tryz.prog V2.drew = .ok (goInt M) (V2.drew.setCells (w.heap.size+1) A (ints .u8 M (tE (keyB n1 ks) n2 info (j+1)))):=fun M hM =>
   run_copy_bytes V2.drew 22 22 3 5 (w.heap.size+1) A (N - A) (N - A) (some ⟨g,0,none⟩) 32 32 M _ Tryz.underlying22 (by kernel_rfl) (.inr ⟨g,0,rfl,fun q hq=>(hgV q hq).1⟩) hM (fun q hq=>by
    have h:=hrV (A+q) (by omega)
    rw [Nat.zero_add] at h
    exact ⟨by show (V2.cell? _).isSome=true;rw [h.1];rfl,h.2⟩)
  clear hV2 hI
  obtain ⟨M,hM⟩:∃ M,M=Nat.min 32 (N - A):=⟨_,rfl⟩
  have hcM:=hcp M hM
  have hMl:M≤32∧M≤N - A:=by rw [hM];exact ⟨Nat.min_le_left _ _,Nat.min_le_right _ _⟩
  obtain ⟨V3,hV3⟩:∃ V3,V3=V2.drew.setCells (w.heap.size+1) A (ints .u8 M (tE (keyB n1 ks) n2 info (j+1))):=⟨_,rfl⟩
  rw [←hV3] at hcM
  have hab3:V3.cell? ⟨w.heap.size+1+1+1,0,none⟩=some (.int .i64 A):=by
   rw [hV3]
   exact (World.cell?_of_block (heap_setCells_other _ _ _ _ _ (by show w.heap.size+1+1+1≠w.heap.size+1;omega))).trans r3'
  have hab3f:V3.frozen? ⟨w.heap.size+1+1+1,0,none⟩=false:=by rw [hV3,World.frozen?_setCells];exact r3f
  have HV3:Hid (V3=V2.drew.setCells (w.heap.size+1) A (ints .u8 M (tE (keyB n1 ks) n2 info (j+1)))):=hV3
  have hmix:Tryz.prog.follows .mixedOrders=true:=by kernel_rfl
  have HA:Hid (A=32*j):=hA
  have HM:Hid (M=Nat.min 32 (N - A)):=hM
  clear hV3 hcp hA hM
  obtain ⟨S,hS⟩:∃ S,S=A+M:=⟨_,rfl⟩
  obtain ⟨V4,hV4⟩:∃ V4,V4=V3.setCell ⟨w.heap.size+1+1+1,0,none⟩ (.int .i64 (S:Int)):=⟨_,rfl⟩
  have hbut3:But (fun k=>k=w.heap.size+1) V2 V3:=by
   rw [HV3.out]
   have hsc:=setCells_same (w.heap.size+1) (ints .u8 M (tE (keyB n1 ks) n2 info (j+1))) A V2.drew
   exact ⟨hsc.1,hsc.2.1,hsc.2.2.1,by rw [hsc.2.2.2];exact Nat.le_refl _,fun k _ hk=>heap_setCells_other _ _ _ _ _ hk⟩
  have hbut4:But (fun k=>k=w.heap.size+1∨k=w.heap.size+1+1+1) V2 V4:=by
   refine (hbut3.mono (fun k hk => .inl hk)).trans ?_
   rw [hV4]
   have hsc:=setCells_same (w.heap.size+1+1+1) [.int .i64 (S:Int)] 0 V3
   exact ⟨hsc.1,hsc.2.1,hsc.2.2.1,by simp,fun k _ hk=>Below.heap_setCell V3 ⟨w.heap.size+1+1+1,0,none⟩ _ k (fun e=>hk (.inr e))⟩
  have hrow4:RowAt .u8 V4 (w.heap.size+1) 0 N (outF kv n2 info S):=by
   have h1:RowAt .u8 V3 (w.heap.size+1) 0 N (over (outF kv n2 info A) A M (tE (keyB n1 ks) n2 info (j+1))):=by
    rw [HV3.out]
    have:=RowAt.splice (w:=V2.drew) hrV A M (tE (keyB n1 ks) n2 info (j+1)) (by omega)
    rw [Nat.zero_add] at this
    exact this
   have h2:RowAt .u8 V4 (w.heap.size+1) 0 N (over (outF kv n2 info A) A M (tE (keyB n1 ks) n2 info (j+1))):=fun q hq=>by
    have hb:=Below.heap_setCell V3 ⟨w.heap.size+1+1+1,0,none⟩ (.int .i64 (S:Int)) (w.heap.size+1) (by show w.heap.size+1≠w.heap.size+1+1+1;omega)
    rw [←hV4] at hb
    exact ⟨(World.cell?_of_block (w:=V3) hb).trans (h1 q hq).1,(World.frozen?_of_block (w:=V3) hb).trans (h1 q hq).2⟩
   refine h2.congr (fun q hq => ?_)
   have ha:=HA.out
   unfold over outF
   by_cases h:A≤q∧q<A+M
   · rw [if_pos h,if_pos (by omega),show q / 32+1=j+1 by omega,show q%32=q - A by omega,hkv]
   · rw [if_neg h]
     by_cases h2:q<A
     · rw [if_pos h2,if_pos (by omega)]
     · rw [if_neg h2,if_neg (by omega)]
  have hab4:V4.cell? ⟨w.heap.size+1+1+1,0,none⟩=some (.int .i64 (S:Int)):=by rw [hV4];exact World.cell?_setCell_same _ _ _ hab3
  have hab4f:V4.frozen? ⟨w.heap.size+1+1+1,0,none⟩=false:=by rw [hV4,World.frozen?_setCell];exact hab3f
  have hl4:V4.heap[l]? = some (.loop { r0 with state := .busy }):=(hbut4.block l (Array.getElem?_eq_some_iff.1 hlV).1 (by omega)).trans hlV
  have hD4:V4.heap[D]? = some (.deferred (some [])):=(hbut4.block D (Array.getElem?_eq_some_iff.1 hDV).1 (by omega)).trans hDV
  have hn4:=hbut4.cell r0' (by omega)
  have hx4:=hbut4.cell r2' (by omega)
  have hbutV:But (fun k=>k=l∨k=w.heap.size+1∨k=w.heap.size+1+1+1) V V4:=(hbV.mono (fun k hk => .inl hk)).trans (hbut4.mono (fun k hk => .inr hk))
  have HV4:Hid (V4=V3.setCell ⟨w.heap.size+1+1+1,0,none⟩ (.int .i64 (S:Int))):=hV4
  have hSw:IntKind.i64.wrap ((A:Int)+M)=(S:Int):=by simp only [IntKind.wrap_i64];omega
  have HS:Hid (S=A+M):=hS
  have hnext:S≠N→∃ v W',(Instr.endRound l none).run Tryz.prog V4 = .ok v W'∧(((Ending.returned v = .returned (.bool true)∧ExInv w l D N r0 kv n2 info (j+1) W'∧But (fun k=>k=l∨k=w.heap.size+1∨k=w.heap.size+1+1+1) V W'))∨(Ending.returned v = .returned (.bool false)∧Fin W')):=fun hSN=>by
   have hm:=HM.out
   have ha:=HA.out
   have hs:=HS.out
   have hM32:M=32:=by
    rw [hm]
    refine Nat.min_eq_left ?_
    rcases Nat.le_total 32 (N - A) with h | h
    · exact h
    · have:M=N - A:=by rw [hm];exact Nat.min_eq_right h
      omega
   have hrec:({ { r0 with state := .busy } with state := .ready,pending:=none }:Loop)=r0:=loop_back r0 e1 e2
   have hb5:=but_put V4 l (.loop r0)
   refine ⟨_,_,run_endRound none hl4,.inl ⟨rfl,?_,?_⟩⟩
   · simp only [Option.isNone_none,if_true,hrec]
     refine ⟨World.putObj_heap_same (Array.getElem?_eq_some_iff.1 hl4).1,(hb5.block D (Array.getElem?_eq_some_iff.1 hD4).1 (by omega)).trans hD4,hb5.cell hn4 (by omega),hb5.cell hx4 (by omega),?_,?_,?_,.inr (by omega)⟩
     · rw [show 32*(j+1)=S by omega];exact hb5.cell hab4 (by omega)
     · exact (World.frozen?_of_block (w:=V4) (hb5.block _ (block_lt_of_cell hab4) (by show ¬w.heap.size+1+1+1=l;omega))).trans hab4f
     · rw [show 32*(j+1)=S by omega];exact hb5.row hrow4 (by omega)
   · simp only [Option.isNone_none,if_true,hrec]
     exact hbutV.trans (hb5.mono (fun k hk => .inl hk))
  have hstop:S=N→∃ v W',(Instr.endRound l (some (.exit 0))).run Tryz.prog V4 = .ok v W'∧(((Ending.returned v = .returned (.bool true)∧ExInv w l D N r0 kv n2 info (j+1) W'∧But (fun k=>k=l∨k=w.heap.size+1∨k=w.heap.size+1+1+1) V W'))∨(Ending.returned v = .returned (.bool false)∧Fin W')):=fun hSN=>by
   refine ⟨_,_,run_endRound (some (.exit 0)) hl4,.inr ⟨rfl,?_⟩⟩
   rw [hFin]
   have hb5:=but_put V4 l (.loop { { r0 with state := .busy } with state := .done,pending:=some (.exit 0) })
   rw [←hSN] at hx4 hrow4 ⊢
   exact ⟨World.putObj_heap_same (Array.getElem?_eq_some_iff.1 hl4).1,(hb5.block D (Array.getElem?_eq_some_iff.1 hD4).1 (by omega)).trans hD4,hb5.cell hx4 (by omega),hb5.row hrow4 (by omega),((hbV'.trans (hbutV.below hbV'.size (by omega))).trans (hb5.below (Nat.le_trans hbV'.size hbutV.size) (by omega)))⟩
  have hSi:((S:Int) == (N:Int))=decide (S=N):=by
   by_cases h:S=N
   · simp [h]
   · have h2:¬((S:Int)=(N:Int)):=by omega
     simp [h,h2]
  clear hS hV4 hbut3 hbut4 hrow4 hbutV hFin hkv e4 e5 e6 e7 e1 e2
  rcases Nat.eq_or_lt_of_le hAN with hNA | hNA
  · have hA0:A=0:=by have:=HA.out;omega
    have hM0:M=0:=by omega
    have hS0:S=0:=by have:=HS.out;omega
    subst hA0
    subst hNA
    subst hM0
    subst hS0
    have hr:=hstop rfl
    simp only [Nat.sub_self,Int.ofNat_zero] at hcM hsl
    have HV4':Hid (V4=V3.setCell ⟨w.heap.size+1+1+1,0,none⟩ (.int .i64 0)):=HV4.out
    have hw0:IntKind.i64.wrap 0=0:=by rfl
    clear hstop hnext hSi hSw hfew hMl
    gi_wp2
    try (refine ⟨V2,hbeg,?_⟩;gi_wp2)
    refine wpIn_mono (Q:=fun e a' W'=>e = .normal∧a'={ tmps:=#[.slice x1 n1 c1,.slice x2 n2 c2,.int .i64 0,undef,undef,.pointer (some ⟨w.heap.size,0,none⟩),.slice none 0 0,.int .i64 0,.pointer (some ⟨w.heap.size+1+1,0,none⟩),.pointer (some ⟨w.heap.size+1+1+1,0,none⟩),.slice (some ⟨g,0,none⟩) 32 32,.int .i64 0,.bool false,.bool false,.int .i64 0,.bool false,.bool false,.int .i64 0,.slice (some ⟨w.heap.size+1,0,none⟩) 0 0,.slice x1 n1 c1,.slice x2 n2 c2,.func (.func 97) #[] #[.pointer (some ⟨w.heap.size+1+1+1+1,0,none⟩),.pointer (some ⟨w.heap.size+1+1+1+1+1,0,none⟩)],.slice (some ⟨g,0,none⟩) 32 32,.int .i64 0,.slice (some ⟨w.heap.size+1,0,none⟩) 0 0,.int .i64 0,.slice (some ⟨w.heap.size+1,0,none⟩) 0 0,.slice (some ⟨g,0,none⟩) 32 32,.int .i64 0,.int .i64 0,undef,undef,undef,undef],defers:=[] }∧W'=V4) ?r ?m
    case r =>
     gi_region_with_o (fail)
     all_goals (rw [←HV4'.out];exact ⟨rfl,rfl,rfl⟩)
    case m =>
     rintro e a' W' ⟨rfl,rfl,hW⟩
     rw [hW]
     clear hW
     gi_wp2
     exact hr
  · have hne:¬(N=A):=by omega
    have hAi:(A:Int)≤(N:Int):=by omega
    gi_wp2
    try (refine ⟨V2,hbeg,?_⟩;gi_wp2)
    refine wpIn_mono (Q:=fun e a' W'=>e = .normal∧a'={ tmps:=#[.slice x1 n1 c1,.slice x2 n2 c2,.int .i64 N,undef,undef,.pointer (some ⟨w.heap.size,0,none⟩),.slice none 0 0,.int .i64 0,.pointer (some ⟨w.heap.size+1+1,0,none⟩),.pointer (some ⟨w.heap.size+1+1+1,0,none⟩),.slice (some ⟨g,0,none⟩) 32 32,.int .i64 N,.bool false,.bool false,.int .i64 N,.bool false,.bool false,.int .i64 N,.slice (some ⟨w.heap.size+1,0,none⟩) N N,.slice x1 n1 c1,.slice x2 n2 c2,.func (.func 97) #[] #[.pointer (some ⟨w.heap.size+1+1+1+1,0,none⟩),.pointer (some ⟨w.heap.size+1+1+1+1+1,0,none⟩)],.slice (some ⟨g,0,none⟩) 32 32,.int .i64 A,.slice (some ⟨w.heap.size+1,0,none⟩) N N,.int .i64 A,.slice (some ⟨w.heap.size+1,A,none⟩) (N - A) (N - A),.slice (some ⟨g,0,none⟩) 32 32,.int .i64 M,.int .i64 S,undef,undef,undef,undef],defers:=[] }∧W'=V4) ?r ?m
    case r =>
     gi_region_with_o (fail)
     all_goals (rw [←HV4.out];exact ⟨rfl,rfl,rfl⟩)
    case m =>
     rintro e a' W' ⟨rfl,rfl,hW⟩
     rw [hW]
     clear hW
     by_cases hSN:S=N
     · have hr:=hstop hSN
       clear hstop hnext
       rw [decide_eq_true hSN] at hSi
       gi_wp2
       exact hr
     · have hr:=hnext hSN
       clear hstop hnext
       rw [decide_eq_false hSN] at hSi
       gi_wp2
       exact hr
 refine (hiter_in (n - 1) w hT x1 x2 n1 n2 c1 c2 ks info hks hinfo hn1 hn2 hk hi l (w.heap.size+1+1+1+1) (w.heap.size+1+1+1+1+1) (fun k=>k=l∨k=w.heap.size+1∨k=w.heap.size+1+1+1) (fun k hk=>by omega) (by omega) (ExInv w l D N r0 kv n2 info) Fin (fun j W W' h hb=>h.below hb) (fun W h=>by have:=h.few;omega) W1 hbw1 (fun k hk=>by omega) ((hb1.cell (block_lt_of_cell q4)).trans q4) ((hb1.cell (block_lt_of_cell q5)).trans q5) hY hI0).mono ?_
 rintro e W2 ⟨⟨v,rfl⟩,hF⟩
 rw [hFin] at hF
 obtain ⟨hl2,hD2,hx2,hr2,hb2⟩:=hF
 refine ⟨some (.exit 0),_,run_endLoop hl2 (by simp),?_⟩
 obtain ⟨V,hV⟩:∃ V,V=W2.putObj l (.loop { { r0 with state := .done,pending:=some (.exit 0) } with state := .exhausted }):=⟨_,rfl⟩
 have hbV:But (fun k=>k=l) W2 V:=by rw [hV];exact but_put _ _ _
 have hDV:V.heap[D]? = some (.deferred (some [])):=(hbV.block _ (Array.getElem?_eq_some_iff.1 hD2).1 (by omega)).trans hD2
 have hxV:=hbV.cell hx2 (by omega)
 have hrV:=hbV.row hr2 (by omega)
 have hBV:Below w.heap.size w V:=hb2.trans (hbV.below hb2.size (by omega))
 rw [←hV]
 obtain ⟨V2,hV2⟩:∃ V2,V2=V.putObj D (.deferred none):=⟨_,rfl⟩
 have hbV2:But (fun k=>k=D) V V2:=by rw [hV2];exact but_put _ _ _
 have hfin:RowAt .u8 V2 (w.heap.size+1) 0 N (outF kv n2 info N)∧Below w.heap.size w V2:=⟨hbV2.row hrV (by omega),hBV.trans (hbV2.below hBV.size (by omega))⟩
 clear hV hY hI0 hFin hl2 hD2 hx2 hr2 hb2 hb1 hl1 hD1
 gi_wp2
 refine ⟨by simp,.inl ⟨_,_,rfl,run_takeDeferred hDV,?_⟩⟩
 rw [←hV2,←hkv]
 exact ⟨_,results_tmp2 rfl _ _ _,w.heap.size+1,rfl,by omega,hfin.1,hfin.2⟩
theorem expand_any (x1 x2:Option Addr) (n1 n2 c1 c2:Nat) (ks info:Nat→Nat) (hks:∀ j,ks j<256) (hinfo:∀ j,info j<256) (hn1:n1<2305843009213693000) (hn2:n2<2305843009213692000) (w:World) (hT:HTab w cubeK squareK) (hk:BytesIn w (.slice x1 n1 c1) n1 ks) (hi:BytesIn w (.slice x2 n2 c2) n2 info) (N:Nat) (hN:N≤8160) :
 Calls Tryz.prog 50 #[.slice x1 n1 c1,.slice x2 n2 c2,.int .i64 N] w fun e w'=>∃ g,e = .returned (.tuple #[.slice (some ⟨g,0,none⟩) N N,.int .i64 0])∧w.heap.size≤g∧RowAt .u8 w' g 0 N (outF (keyB n1 ks) n2 info N)∧Below w.heap.size w w' :=
 callsIn_wide.1 (expand_in 9 x1 x2 n1 n2 c1 c2 ks info hks hinfo hn1 hn2 w hT hk hi N hN)
end Go.Proofs.YtcgkajlehdgpoaaGreatDoor
namespace Go.Proofs.YtcgkajlehdgpoaaGreatDoor
open Go.RowKit
def litB (l:List Nat):Nat→Nat:=fun j=>l.getD j 0
def lV1:List Nat:=[72,80,75,69,45,118,49]
def lKem:List Nat:=[75,69,77,0,32]
def lAll:List Nat:=[72,80,75,69,0,32,0,1,0,1]
theorem run_append_full (w:World) (base:Nat) (b a:Addr) (n cap m c:Nat) (X Y:Nat→Nat) (hX:∀ j,j<n→w.cell? (b.add j)=some (.int .u8 (X j))) (hY:∀ j,j<m→w.cell? (a.add j)=some (.int .u8 (Y j))) (hc:cap<n+m) (hl:n+m≤1000000) (hbase:base≤w.heap.size) :
 ∃ v' w',(Builtin.append_ #[22,22] 22 #[.slice (some b) n cap,.slice (some a) m c]).run Tryz.prog w = .ok v' w'∧Own base w' v' (n+m) (cat n X Y)∧Below base w w':=by
 obtain ⟨i0,hi,hz0,hz1,hz2⟩:=info_parts Tryz.info5
 have at_:∀ (k:Nat) (Z:Nat→Nat) (d:Addr),(∀ j,j<k→w.cell? (d.add j)=some (.int .u8 (Z j)))→∀ j v,(ints .u8 k Z)[j]? = some v→w.cell? (d.add j)=some v:=fun k Z d h j v hv=>by
  have hj:j<k:=by have:=(List.getElem?_eq_some_iff.1 hv).1;rwa [ints_len] at this
  rw [ints_at .u8 k Z j hj] at hv
  rw [←hv];exact h j hj
 have h:=run_append_grow (P:=Tryz.prog) (w:=w) 22 22 5 i0 (.int .u8 0) Tryz.underlying22 hi hz0 b n cap (ints .u8 n X) (by rw [ints_len,hz1,Nat.mul_one]) (at_ n X b hX) a m c (ints .u8 m Y) (by rw [ints_len,hz1,Nat.mul_one]) (at_ m Y a hY) hc (by omega) (growslice_fits hc (by rw [hz2];omega))
 have hge:=grownCap_ge w (n+m) cap 5
 have hle:=grownCap_le_maxLen w (n+m) cap 5 (by unfold maxLen;omega)
 obtain ⟨G,hG⟩:∃ G,G=grownCap w (n+m) cap 5:=⟨_,rfl⟩
 rw [←hG] at h hge hle
 refine ⟨_,_,h,⟨by rw [ints_len,Nat.mul_one],.inr ⟨w.heap.size,G,_,rfl,hbase,heap_alloc_new w.drew _,hge,hle,?_,?_⟩⟩,?_⟩
 · have hz:(Value.int .u8 0).cells.size=1:=rfl
   simp only [Array.size_append,List.size_toArray,ints_len,size_zeroCells,hz]
   omega
 · rw [Nat.mul_one,Array.toList_append,Array.toList_append,List.toList_toArray,List.toList_toArray,ints_add,List.take_append_of_le_length (by rw [ints_len];omega),List.take_of_length_le (by rw [ints_len];omega)]
 · exact ((Below.refl base w).drew).alloc hbase _
theorem add0 (g j:Nat):(⟨g,0,none⟩:Addr).add j=⟨g,j,none⟩:=by
 unfold Addr.add
 split
 · subst_vars;rfl
 · simp
theorem wpList_append_full {w:World} {ops:Array Oper} {rest:List Oper} {o:Oper} {a:Act} {Q:Exit→Act→World→Prop} (hgd:o.guard=none) (s x:Operand)
 (ho:o.op = .call { callee := .builtin .append,args:=#[s,x],argTypes:=#[22,22] }) (hty:o.type=22) (base p q n cap m c:Nat) (X Y:Nat→Nat) (hs:a.eval s = .slice (some ⟨p,0,none⟩) n cap) (hx:a.eval x = .slice (some ⟨q,0,none⟩) m c)
 (hX:∀ j,j<n→w.cell? ⟨p,j,none⟩=some (.int .u8 (X j))) (hY:∀ j,j<m→w.cell? ⟨q,j,none⟩=some (.int .u8 (Y j))) (hc:cap<n+m) (hl:n+m≤1000000) (hbase:base≤w.heap.size)
 (h:∀ v' w',Own base w' v' (n+m) (cat n X Y)→Below base w w'→wpList Tryz.prog ops Q rest (a.put o.dst v') w'):wpList Tryz.prog ops Q (o :: rest) a w:=by
 obtain ⟨v',w',hrun,h1,h2⟩:=run_append_full w base ⟨p,0,none⟩ ⟨q,0,none⟩ n cap m c X Y (fun j hj=>by rw [add0];exact hX j hj) (fun j hj=>by rw [add0];exact hY j hj) hc hl hbase
 have hw:Region.wanted o (yielded ops a.tmps)=true:=by simp [Region.wanted,hgd]
 unfold wpList
 rw [if_pos hw]
 unfold Oper.wp
 simp [execOp,ho,hty,resolve,invoke,builtin,hs,hx,hrun,Result.andThen]
 exact .inl (h v' w' h1 h2)
def litV (l:List Nat):Array Value:=(l.map fun (x:Nat)=>Value.int .u8 (x:Int)).toArray
theorem lit_cell (W:World) (l:List Nat) (t:TypeId) (f:Nat × Nat) (j:Nat) (hj:j<l.length):(W.alloc (.cells (litV l) t f)).cell? ⟨W.heap.size,j,none⟩=some (.int .u8 (litB l j)):=by
 unfold World.cell?
 rw [heap_alloc_new]
 simp [litV,litB,hj]
theorem litB_B:∀ (w:World) (l:List Nat) (f:Nat × Nat),BytesIn (w.alloc (.cells (litV l) 5 f)) (.slice (some ⟨w.heap.size,0,none⟩) l.length l.length) l.length (litB l):=fun w l f =>
 .inr ⟨w.heap.size,0,l.length,rfl,by simp,Nat.le_refl _,fun j hj=>by rw [Nat.zero_add];exact lit_cell w l _ f j hj⟩
theorem convC (W:World) (l:List Nat):(convert 22 22 (.slice (some ⟨W.heap.size,0,none⟩) l.length l.length)).run Tryz.prog (W.alloc (.cells (litV l) 5)) = .ok (.slice (some ⟨W.heap.size,0,none⟩) l.length l.length) (W.alloc (.cells (litV l) 5 (l.length,l.length+1))):=by
 have h:=Lib.run_convert_bytes_const (P:=Tryz.prog) W 22 5 (litV l) l.length l.length Tryz.underlying22 Tryz.underlying5
 rw [h]
 simp [litV]
end Go.Proofs.YtcgkajlehdgpoaaGreatDoor
namespace Go.Proofs.YtcgkajlehdgpoaaGreatDoor
open Go.RowKit
def catL:List (Nat × (Nat→Nat))→Nat→Nat
 | []=>fun _=>0
 | p :: r=>cat p.1 p.2 (catL r)
def lenL:List (Nat × (Nat→Nat))→Nat
 | []=>0
 | p :: r=>p.1+lenL r
theorem catL_lt:∀ (ps:List (Nat × (Nat→Nat))),(∀ p,p∈ps→∀ j,p.2 j<256)→∀ j,catL ps j<256
 | [],_,j=>by show 0<256;decide
 | p :: r,h,j=>cat_lt (h p (List.mem_cons_self ..)) (catL_lt r fun q hq=>h q (List.mem_cons_of_mem _ hq)) j
theorem catL_at:∀ (ps:List (Nat × (Nat→Nat))) (i:Nat) (p:Nat × (Nat→Nat)),ps[i]? = some p→∀ j,j<p.1→catL ps (lenL (ps.take i)+j)=p.2 j
 | [],i,p,h=>by simp at h
 | q :: r,0,p,h=>by
  simp only [List.getElem?_cons_zero,Option.some.injEq] at h
  subst h
  intro j hj
  show cat q.1 q.2 (catL r) (0+j)=q.2 j
  rw [Nat.zero_add]
  exact cat_left hj
 | q :: r,i+1,p,h=>by
  intro j hj
  show cat q.1 q.2 (catL r) ((q.1+lenL (r.take i))+j)=p.2 j
  rw [Nat.add_assoc,cat_right]
  exact catL_at r i p (by simpa using h) j hj
theorem lenL_succ:∀ (ps:List (Nat × (Nat→Nat))) (i:Nat) (p:Nat × (Nat→Nat)),ps[i]? = some p→lenL (ps.take (i+1))=lenL (ps.take i)+p.1
 | [],i,p,h=>by simp at h
 | q :: r,0,p,h=>by
  simp only [List.getElem?_cons_zero,Option.some.injEq] at h
  subst h
  show q.1+0=0+q.1
  omega
 | q :: r,i+1,p,h=>by
  show q.1+lenL (r.take (i+1))=q.1+lenL (r.take i)+p.1
  rw [lenL_succ r i p (by simpa using h),Nat.add_assoc]
theorem lenL_take_le:∀ (ps:List (Nat × (Nat→Nat))) (i:Nat),lenL (ps.take i)≤lenL ps
 | [],i=>by simp
 | q :: r,0=>Nat.zero_le _
 | q :: r,i+1=>Nat.add_le_add_left (lenL_take_le r i) _
theorem BytesIn.cong {w:World} {v:Value} {n:Nat} {a b:Nat→Nat} (h:BytesIn w v n a) (e:∀ j,j<n→a j=b j):BytesIn w v n b:=by
 rcases h with h | ⟨bb,ob,cap,rfl,h1,h2,h3⟩
 · exact .inl h
 · exact .inr ⟨bb,ob,cap,rfl,h1,h2,fun j hj=>by rw [h3 j hj,e j hj]⟩
theorem parts_list (w:World) (ps:List (Value × Nat × (Nat→Nat))) (ty:TypeId) (h:∀ p,p∈ps→BytesIn w p.1 p.2.1 p.2.2) :
 Parts (w.alloc (.cells (ps.map (·.1)).toArray ty)) w.heap.size ps.length (lenL (ps.map (·.2))) (catL (ps.map (·.2))):=by
 refine ⟨fun i=>((ps.map (·.1))[i]?).getD (.bool false),fun i=>lenL ((ps.map (·.2)).take i),rfl,by show lenL (List.take ps.length _)=_;rw [List.take_of_length_le (by simp)],fun i hi => ?_⟩
 have hp:ps[i]? = some ps[i]:=List.getElem?_eq_getElem hi
 have hp2:(ps.map (·.2))[i]? = some ps[i].2:=by simp [hp]
 have hs:=lenL_succ _ i _ hp2
 have hb:=(h ps[i] (List.getElem_mem hi)).keep ((Below.refl _ w).alloc (Nat.le_refl _) (.cells (ps.map (·.1)).toArray ty))
 have hv:((ps.map (·.1))[i]?).getD (.bool false)=ps[i].1:=by simp [hp]
 refine ⟨by simp [hp],?_,lenL_take_le _ _,?_⟩
 · show lenL ((ps.map (·.2)).take i)≤lenL ((ps.map (·.2)).take (i+1))
   rw [hs];exact Nat.le_add_right _ _
 · show BytesIn _ (((ps.map (·.1))[i]?).getD (.bool false)) (lenL ((ps.map (·.2)).take (i+1)) - lenL ((ps.map (·.2)).take i)) _
   rw [hs,Nat.add_sub_cancel_left,hv]
   exact hb.cong fun j hj=>(catL_at _ i _ hp2 j hj).symm
def lxT (suite label:List Nat) (m:Nat) (ikm:Nat→Nat):List (Nat × (Nat→Nat)):=[(7,litB lV1),(suite.length,litB suite),(label.length,litB label),(m,ikm)]
def leT (suite label:List Nat) (m:Nat) (info:Nat→Nat) (N:Nat):List (Nat × (Nat→Nat)):=(2,litB [N / 256%256,N%256]) :: lxT suite label m info
def lxN (suite:List Nat) (sn:Nat) (salt:Nat→Nat) (label:List Nat) (m:Nat) (ikm:Nat→Nat):Nat→Nat:=tagH (keyB sn salt) (lenL (lxT suite label m ikm)) (catL (lxT suite label m ikm))
def leN (suite:List Nat) (pn:Nat) (prk:Nat→Nat) (label:List Nat) (m:Nat) (info:Nat→Nat) (N:Nat):Nat→Nat:=outF (keyB pn prk) (lenL (leT suite label m info N)) (catL (leT suite label m info N)) N
def lDkp:List Nat:=[100,107,112,95,112,114,107]
def lSk:List Nat:=[115,107]
def lEae:List Nat:=[101,97,101,95,112,114,107]
def lSs:List Nat:=[115,104,97,114,101,100,95,115,101,99,114,101,116]
def lPsk:List Nat:=[112,115,107,95,105,100,95,104,97,115,104]
def lInf:List Nat:=[105,110,102,111,95,104,97,115,104]
def lSecr:List Nat:=[115,101,99,114,101,116]
def lKey:List Nat:=[107,101,121]
def lBn:List Nat:=[98,97,115,101,95,110,111,110,99,101]
def lExp:List Nat:=[101,120,112]
def lZ:Nat→Nat:=fun _=>0
def dsN (m:Nat) (ikm:Nat→Nat):Nat→Nat:=leN lKem 32 (lxN lKem 0 lZ lDkp m ikm) lSk 0 lZ 32
def shN2 (dh enc pub:Nat→Nat):Nat→Nat:=leN lKem 32 (lxN lKem 0 lZ lEae 32 dh) lSs 64 (catL [(32,enc),(32,pub)]) 32
def cxN (m:Nat) (info:Nat→Nat):Nat→Nat:=catL [(1,lZ),(32,lxN lAll 0 lZ lPsk 0 lZ),(32,lxN lAll 0 lZ lInf m info)]
def csN (sh:Nat→Nat):Nat→Nat:=lxN lAll 32 sh lSecr 0 lZ
def ckN (label:List Nat) (N:Nat) (sh:Nat→Nat) (m:Nat) (info:Nat→Nat):Nat→Nat:=leN lAll 32 (csN sh) label 65 (cxN m info) N
def ncN (nn:Nat→Nat) (k:Nat):Nat→Nat:=fun j=>if j<4 then nn j else nn j ^^^ (k / 2 ^ (8*(11 - j))%256)
end Go.Proofs.YtcgkajlehdgpoaaGreatDoor
namespace Go.Proofs.YtcgkajlehdgpoaaGreatDoor
open Go.RowKit
set_option maxRecDepth 20000 in
theorem rkem_any (w:World):Calls Tryz.prog 32 #[] w fun e w'=>∃ s,e = .returned s∧Own w.heap.size w' s 5 (litB lKem)∧Below w.heap.size w w':=by
 have hc:(convert 22 22 (.slice (some ⟨w.heap.size,0,none⟩) 3 3)).run Tryz.prog (w.alloc (.cells #[.int .u8 75,.int .u8 69,.int .u8 77] 5)) = .ok (.slice (some ⟨w.heap.size,0,none⟩) 3 3) (w.alloc (.cells #[.int .u8 75,.int .u8 69,.int .u8 77] 5 (3,4))):=convC w [75,69,77]
 have h1:∀ j,j<3→((w.alloc (.cells #[.int .u8 75,.int .u8 69,.int .u8 77] 5 (3,4))).alloc (.cells #[.int .u8 0,.int .u8 32] 5)).cell? ⟨w.heap.size,j,none⟩=some (.int .u8 (litB [75,69,77] j)):=fun j hj=>Lib.cell?_alloc_marked _ (lit_cell w [75,69,77] 5 (3,4) j hj)
 have h2:∀ j,j<2→((w.alloc (.cells #[.int .u8 75,.int .u8 69,.int .u8 77] 5 (3,4))).alloc (.cells #[.int .u8 0,.int .u8 32] 5)).cell? ⟨w.heap.size+1,j,none⟩=some (.int .u8 (litB [0,32] j)):=fun j hj=>by
  have:=lit_cell (w.alloc (.cells #[.int .u8 75,.int .u8 69,.int .u8 77] 5 (3,4))) [0,32] 5 (0,0) j hj
  rw [World.size_alloc] at this
  exact this
 have hb:Below w.heap.size w ((w.alloc (.cells #[.int .u8 75,.int .u8 69,.int .u8 77] 5 (3,4))).alloc (.cells #[.int .u8 0,.int .u8 32] 5)):=((Below.refl _ _).alloc (Nat.le_refl _) _).alloc (by simp) _
 have he:∀ j,j<5→cat 3 (litB [75,69,77]) (litB [0,32]) j=litB lKem j:=by decide
 go_enter Tryz.func32,Tryz.ntmps32
 go_wp2_with (first
  | rw [hc]
  | (at_builtin;refine wpList_append_full rfl (.tmp 2) (.tmp 3) rfl rfl w.heap.size w.heap.size (w.heap.size+1) 3 3 2 2 (litB [75,69,77]) (litB [0,32]) rfl rfl h1 h2 (by decide) (by decide) hb.size ?_;intro v4 w4 own4 hb4))
 go_ret
 exact ⟨v4,rfl,own4.congr he,hb.trans hb4⟩
end Go.Proofs.YtcgkajlehdgpoaaGreatDoor
namespace Go.Proofs.YtcgkajlehdgpoaaGreatDoor
open Go.RowKit
theorem andR (x g m:Nat) (hg:g<2 ^ m):x &&& g=(x%2 ^ m) &&& g:=by
 have h1:x &&& g<2 ^ m:=Nat.and_lt_two_pow _ hg
 have h2:=Nat.and_mod_two_pow (a:=x) (b:=g) (n:=m)
 rw [Nat.mod_eq_of_lt h1,Nat.mod_eq_of_lt hg] at h2
 exact h2
theorem below_size_of {B:Nat} {w w1:World} {o:Obj} (h:Below B (w.alloc o) w1):w.heap.size+1≤w1.heap.size:=by have:=h.size;simpa using this
theorem srcS {w w1:World} {gs:Nat} {s:St} (hb:Below w.heap.size w w1) (h:∀ j,j<8→w.cell? ⟨gs,j,none⟩=some (.int .u64 (s.at j))):∀ j u,(ints .u64 8 s.at)[j]? = some u→(w1.alloc (.cells #[] 53)).cell? ((⟨gs,0,none⟩:Addr).add j)=some u:=fun j u hu=>by
 have hj:j<8:=by have:=(List.getElem?_eq_some_iff.1 hu).1;rwa [ints_len] at this
 rw [ints_at _ _ _ j hj] at hu
 have hg:gs<w.heap.size:=block_lt_of_cell (h 0 (by decide))
 rw [Addr.add_mid,Nat.zero_add,World.cell?_alloc_lt _ _ _ (by have:=hb.size;show gs<_;omega),hb.cell (p:=⟨gs,j,none⟩) hg,h j hj,hu]
def addG (m:Nat) (s x:St) (k:Nat):Nat→Nat:=fun j=>if j<k then (s.at j+x.at j)%2 ^ m else x.at j
theorem addG_step (m:Nat) (s x:St) (k j:Nat):upd (addG m s x k) k ((s.at k+x.at k)%2 ^ m) j=addG m s x (k+1) j:=by
 unfold upd addG
 by_cases e:j=k
 · subst e;rw [if_pos rfl,if_pos (by omega)]
 · rw [if_neg e]
   by_cases e2:j<k
   · rw [if_pos e2,if_pos (by omega)]
   · rw [if_neg e2,if_neg (by omega)]
theorem addG_end (r:Ru) (s x:St) (j:Nat) (hj:j<8):addG r.m s x 8 j=(addS r s x).at j:=by
 unfold addG
 rw [if_pos hj]
 match j,hj with
 | 0,_=>rfl
 | 1,_=>rfl
 | 2,_=>rfl
 | 3,_=>rfl
 | 4,_=>rfl
 | 5,_=>rfl
 | 6,_=>rfl
 | 7,_=>rfl
theorem chR_32 (e f g:Nat) (he:e<2 ^ 32) (hf:f<2 ^ 32) (hg:g<2 ^ 32):bits .xor .u64 (bits .and .u64 e f) (bits .and .u64 (bits .xor .u64 IntKind.u64.max e) g)=((chS 32 e f g:Nat):Int):=by
 have l:∀ {x:Nat},x<2 ^ 32→x<18446744073709551616:=fun h=>Nat.lt_of_lt_of_le h (by decide)
 refine (ch_64 e f g (l he) (l hf) (l hg)).trans ?_
 have hmod:(2 ^ 64 - 1 - e)%2 ^ 32=2 ^ 32 - 1 - e:=by
  have h3:(2:Nat) ^ 32=4294967296:=rfl
  have h4:(2:Nat) ^ 64=18446744073709551616:=rfl
  rw [h3] at he ⊢
  try rw [h4]
  omega
 have key:chS 64 e f g=chS 32 e f g:=by
  unfold chS
  rw [andR (2 ^ 64 - 1 - e) g 32 hg,hmod]
 exact congrArg Nat.cast key
theorem majR_32 (a b c:Nat) (ha:a<2 ^ 32) (hb:b<2 ^ 32) (hc:c<2 ^ 32):bits .xor .u64 (bits .xor .u64 (bits .and .u64 a b) (bits .and .u64 a c)) (bits .and .u64 b c)=((majS a b c:Nat):Int):=by
 have l:∀ {x:Nat},x<2 ^ 32→x<18446744073709551616:=fun h=>Nat.lt_of_lt_of_le h (by decide)
 exact maj_64 a b c (l ha) (l hb) (l hc)
theorem cutT_32 (g0 g1 g2 g3:Nat) (S:Nat) (W':World):Calls Tryz.prog 181 #[(.agg #[.int .i64 32,.int .i64 64,.int .i64 64,.slice (some ⟨g0,0,none⟩) 3 3,.slice (some ⟨g1,0,none⟩) 3 3,.slice (some ⟨g2,0,none⟩) 3 3,.slice (some ⟨g3,0,none⟩) 3 3]),.int .u64 ((S%2 ^ 64:Nat):Int)] W' fun e w'=>e = .returned (.int .u64 ((S%2 ^ 32:Nat):Int))∧Below W'.heap.size W' w':=by
 have h:=cut32_any g0 g1 g2 g3 (S%2 ^ 64) (Nat.mod_lt _ (by decide)) W'
 rw [Nat.mod_mod_of_dvd _ (Nat.pow_dvd_pow 2 (by decide))] at h
 exact h
theorem sum5R_32 (a b c d e:Nat):(((((a:Int)+b)%18446744073709551616+c)%18446744073709551616+d)%18446744073709551616+e)%18446744073709551616=(((a+b+c+d+e)%2 ^ 64:Nat):Int):=by
 have h:(2:Nat) ^ 64=18446744073709551616:=rfl
 rw [h];omega
set_option maxRecDepth 20000 in
set_option maxHeartbeats 2000000 in
theorem blockR32_any (K:Nat→Nat) (g0 g1 g2 g3 gs cs gk ck bb ob cap:Nat) (s:St) (hs:s.lt (2 ^ 32)) (bs:Nat→Nat) (hbs:∀ j,bs j<256) (w:World) (hL:Lists32 w g0 g1 g2 g3)
 (hrs:∀ j,j<8→w.cell? ⟨gs,j,none⟩=some (.int .u64 (s.at j))) (hrk:∀ j,j<80→w.cell? ⟨gk,j,none⟩=some (.int .u64 (K j))) (hcell:∀ j,j<64→w.cell? ⟨bb,ob+j,none⟩=some (.int .u8 (bs j))) :
 Calls Tryz.prog 161 #[(.agg #[.int .i64 32,.int .i64 64,.int .i64 64,.slice (some ⟨g0,0,none⟩) 3 3,.slice (some ⟨g1,0,none⟩) 3 3,.slice (some ⟨g2,0,none⟩) 3 3,.slice (some ⟨g3,0,none⟩) 3 3]),.slice (some ⟨gs,0,none⟩) 8 cs,.slice (some ⟨gk,0,none⟩) 80 ck,.slice (some ⟨bb,ob,none⟩) 64 cap] w
  fun e w'=>∃ g c,e = .returned (.slice (some ⟨g,0,none⟩) 8 c)∧w.heap.size≤g∧RowAt .u64 w' g 0 8 (addS rn s (roundsS rn K (sch rn (fun i=>wordR bs (4*i) 4) (64 - 16)) s 64)).at∧Below w.heap.size w w':=by
 obtain ⟨i0,hi,hz0,hz1,hz2⟩:=info_parts Tryz.info53
 have hgs:gs<w.heap.size:=block_lt_of_cell (hrs 0 (by decide))
 have hgk:gk<w.heap.size:=block_lt_of_cell (hrk 0 (by decide))
 have hb1:Below w.heap.size w (w.alloc (.cells #[.int .i64 32,.int .i64 64,.int .i64 64,.slice (some ⟨g0,0,none⟩) 3 3,.slice (some ⟨g1,0,none⟩) 3 3,.slice (some ⟨g2,0,none⟩) 3 3,.slice (some ⟨g3,0,none⟩) 3 3] 167)):=(Below.refl _ _).alloc (Nat.le_refl _) _
 have hbb:bb<w.heap.size:=block_lt_of_cell (hcell 0 (by decide))
 have hwords:=words32_any g0 g1 g2 g3 bb ob cap bs hbs (w.alloc (.cells #[.int .i64 32,.int .i64 64,.int .i64 64,.slice (some ⟨g0,0,none⟩) 3 3,.slice (some ⟨g1,0,none⟩) 3 3,.slice (some ⟨g2,0,none⟩) 3 3,.slice (some ⟨g3,0,none⟩) 3 3] 167)) (hL.below hb1) (fun j hj=>(World.cell?_alloc_lt _ _ _ hbb).trans (hcell j hj))
 have hWl:∀ j,sch rn (fun i=>wordR bs (4*i) 4) (64 - 16) j<2 ^ 32:=sch_lt (r:=rn) (fun j=>wordR32_lt hbs (4*j)) _
 obtain ⟨X,hXe⟩:∃ X:Nat→Nat,X=sch rn (fun i=>wordR bs (4*i) 4) (64 - 16):=⟨_,rfl⟩
 rw [←hXe] at hwords hWl ⊢
 clear hXe hcell hbs
 go_enter Tryz.func161,Tryz.ntmps161
 go_wp2_with (first
  | (go_at_call 180;refine hwords.mono ?_;clear hwords;rintro e w1 ⟨v,rfl,hown,hbw1⟩;obtain ⟨gw,cw,hv,hgw,hgwl⟩:=hown.form (by decide);subst hv;simp only [World.size_alloc] at hbw1 hgw;have hw1:Below w.heap.size w w1:=hb1.trans (hbw1.mono (by omega));have hzs1:w.heap.size+1≤w1.heap.size:=below_size_of hbw1;have hcs:=srcS hw1 hrs)
  | (at_builtin;refine wpList_append_lies _ rfl (.tmp 19) (.tmp 20) 194 rfl (w.heap.size+1) 53 i0 (.int .u64 0) 1 8 Tryz.underlying194 hi hz0 hz1 hz2 rfl (by decide) (.slice (some ⟨w1.heap.size,0,none⟩) 0 0) 0 [] rfl (World.ownsRow_lit w1 #[] 0 hzs1 (by decide) rfl) ⟨gs,0,none⟩ 8 cs (ints .u64 8 s.at) rfl rfl hcs (ints_one _ _ _) (by decide) (by decide) (by decide) (by simp only [World.size_alloc];omega) _ rfl ?_;intro gx cx w2 hownx hgrowx hat hgl))
 rw [List.nil_append,Nat.zero_add] at hownx
 have hx0:RowAt .u64 w2 gx 0 8 s.at:=fun j hj=>by
  rw [Nat.zero_add]
  exact ⟨by rw [hownx.cellAt j (by omega),ints_at _ _ _ j hj],hownx.frozenAt j⟩
 have hgx:w.heap.size+1≤gx:=(hownx.lt gx rfl).1
 have hb2:Below w1.heap.size w1 w2:=((Below.refl _ _).alloc (Nat.le_refl _) _).grown hgrowx (by simp) (fun q h=>by cases h;exact Nat.le_refl _)
 have hw2:Below w.heap.size w w2:=hw1.trans (hb2.mono hw1.size)
 have hL2:=hL.below hw2
 have hZ2:ZBox32 w2 w.heap.size g0 g1 g2 g3:=by
  have hz:=zbox32 w g0 g1 g2 g3
  have hc:∀ j,w2.cell? ⟨w.heap.size,j,none⟩=(w.alloc (.cells #[.int .i64 32,.int .i64 64,.int .i64 64,.slice (some ⟨g0,0,none⟩) 3 3,.slice (some ⟨g1,0,none⟩) 3 3,.slice (some ⟨g2,0,none⟩) 3 3,.slice (some ⟨g3,0,none⟩) 3 3] 167)).cell? ⟨w.heap.size,j,none⟩:=fun j=>(hb2.cell (p:=⟨w.heap.size,j,none⟩) (by show w.heap.size<_;omega)).trans (hbw1.cell (p:=⟨w.heap.size,j,none⟩) (Nat.lt_succ_self _))
  unfold ZBox32 at *
  simp only [hc]
  exact hz
 have hrw:∀ j,j<64→w2.cell? ⟨gw,j,none⟩=some (.int .u64 (X j)):=fun j hj=>(hb2.cell (p:=⟨gw,j,none⟩) hgwl).trans (by rw [hown.cellAt j (by omega),ints_at _ _ _ j hj])
 have hrk2:∀ j,j<80→w2.cell? ⟨gk,j,none⟩=some (.int .u64 (K j)):=fun j hj=>(hw2.cell (p:=⟨gk,j,none⟩) hgk).trans (hrk j hj)
 have hrs2:∀ j,j<8→w2.cell? ⟨gs,j,none⟩=some (.int .u64 (s.at j)):=fun j hj=>(hw2.cell (p:=⟨gs,j,none⟩) hgs).trans (hrs j hj)
 have hs2:=hw2.size
 have hlg:gx<w2.heap.size:=hgl
 have hlw:gw<w2.heap.size:=by have:=hb2.size;omega
 have hlz:w.heap.size<w2.heap.size:=by have:=hb2.size;omega
 have hlk:gk<w2.heap.size:=by omega
 have hls:gs<w2.heap.size:=by omega
 clear hL hrk hown hbw1 hgrowx hat hownx hcs hb1 hgl hb2 hw1
 go_wp2
 go_loopw [10,11] (fun v i wr=>∃ k g c:Nat,k≤64∧i = .int .i64 k∧v = .slice (some ⟨g,0,none⟩) 8 c∧w.heap.size+1≤g∧RowAt .u64 wr g 0 8 (roundsS rn K X s k).at∧Below w2.heap.size w2 wr) (fun _ i _=>64 - (intOf i).toNat)
 case atStart=>exact ⟨0,gx,cx,Nat.zero_le _,rfl,rfl,hgx,hx0,Below.refl _ _⟩
 case round =>
  clear hx0 hgx hlg
  obtain ⟨k,g,c,hk,rfl,rfl,hg,hrow,hbel⟩:=hrel
  have hgl:g<wr.heap.size:=block_lt_of_cell (hrow 0 (by decide)).1
  have hsz:=hbel.size
  have hZ:=hZ2.below hbel
  by_cases hlt:k<64
  · have hx:(roundsS rn K X s k).lt (2 ^ 32):=roundsS_lt (r:=rn) hs k
    obtain ⟨x,hxe⟩:∃ x,x=roundsS rn K X s k:=⟨_,rfl⟩
    have HX:Hid (x=roundsS rn K X s k):=hxe
    rw [←hxe] at hx hrow
    clear hxe
    obtain ⟨q0,q1,q2,q3,q4,q5,q6,q7⟩:=hrow.st
    obtain ⟨z0,z1,z2,z3,z4,z5,z6⟩:=hZ
    have rk:wr.cell? ⟨gk,k,none⟩=some (.int .u64 (K k)):=(hbel.cell (p:=⟨gk,k,none⟩) hlk).trans (hrk2 k (by omega))
    have rw':wr.cell? ⟨gw,k,none⟩=some (.int .u64 (X k)):=(hbel.cell (p:=⟨gw,k,none⟩) hlw).trans (hrw k hlt)
    have kn:k<80:=by omega
    have kn2:k<64:=hlt
    have ki:(0:Int)≤(k:Int)∧(k:Int)<80:=by omega
    have hS:∀ w':World,Below wr.heap.size wr w'→∀ b o,b<wr.heap.size→w'.cell? ⟨b,o,none⟩=wr.cell? ⟨b,o,none⟩:=fun w' h b o hb=>h.cell (p:=⟨b,o,none⟩) hb
    have m0:w.heap.size<wr.heap.size:=by omega
    have m1:gw<wr.heap.size:=by omega
    have hLw:=hL2.below hbel
    have hbA:∀ n,Below wr.heap.size wr (wr.drewN n).drew:=fun n=>(below_drewN (Below.refl _ _) n).drew
    obtain ⟨v1,f1⟩:∃ a,a=hi3 32 x.e (6,11,25):=⟨_,rfl⟩
    obtain ⟨v2,f2⟩:∃ a,a=hi3 32 x.a (2,13,22):=⟨_,rfl⟩
    obtain ⟨T1,fT1⟩:∃ a,a=t1S rn (K k / 2 ^ (64 - 32)) (X k) x:=⟨_,rfl⟩
    obtain ⟨T2,fT2⟩:∃ a,a=t2S rn x:=⟨_,rfl⟩
    have hhi1:∀ W':World,Below wr.heap.size wr W'→Calls Tryz.prog 182 #[(.agg #[.int .i64 32,.int .i64 64,.int .i64 64,.slice (some ⟨g0,0,none⟩) 3 3,.slice (some ⟨g1,0,none⟩) 3 3,.slice (some ⟨g2,0,none⟩) 3 3,.slice (some ⟨g3,0,none⟩) 3 3]),.int .u64 x.e,.slice (some ⟨g3,0,none⟩) 3 3] W' fun e w'=>e = .returned (.int .u64 (v1:Int))∧Below W'.heap.size W' w':=fun W' h=>by
     have L:=hLw.below h
     rw [f1]
     exact high32_any g0 g1 g2 g3 g3 _ 6 11 25 hx.e (by decide) (by decide) (by decide) W' L.d0 L.d1 L.d2
    have hhi2:∀ W':World,Below wr.heap.size wr W'→Calls Tryz.prog 182 #[(.agg #[.int .i64 32,.int .i64 64,.int .i64 64,.slice (some ⟨g0,0,none⟩) 3 3,.slice (some ⟨g1,0,none⟩) 3 3,.slice (some ⟨g2,0,none⟩) 3 3,.slice (some ⟨g3,0,none⟩) 3 3]),.int .u64 x.a,.slice (some ⟨g2,0,none⟩) 3 3] W' fun e w'=>e = .returned (.int .u64 (v2:Int))∧Below W'.heap.size W' w':=fun W' h=>by
     have L:=hLw.below h
     rw [f2]
     exact high32_any g0 g1 g2 g3 g2 _ 2 13 22 hx.a (by decide) (by decide) (by decide) W' L.c0 L.c1 L.c2
    have hcut1:∀ W':World,Calls Tryz.prog 181 #[(.agg #[.int .i64 32,.int .i64 64,.int .i64 64,.slice (some ⟨g0,0,none⟩) 3 3,.slice (some ⟨g1,0,none⟩) 3 3,.slice (some ⟨g2,0,none⟩) 3 3,.slice (some ⟨g3,0,none⟩) 3 3]),.int .u64 (IntKind.u64.wrap (IntKind.u64.wrap (IntKind.u64.wrap (IntKind.u64.wrap ((x.h:Int)+v1)+bits .xor .u64 (bits .and .u64 x.e x.f) (bits .and .u64 (bits .xor .u64 IntKind.u64.max x.e) x.g))+((K k:Int) / 4294967296))+X k))] W' fun e w'=>e = .returned (.int .u64 (T1:Int))∧Below W'.heap.size W' w':=fun W'=>by
     have ek:((K k:Int) / 4294967296)=((K k / 2 ^ (64 - 32):Nat):Int):=by simp
     simp only [IntKind.wrap_u64]
     rw [chR_32 _ _ _ hx.e hx.f hx.g,ek,sum5R_32,fT1]
     have h:=cutT_32 g0 g1 g2 g3 (x.h+v1+chS 32 x.e x.f x.g+K k / 2 ^ (64 - 32)+X k) W'
     rw [f1] at h ⊢
     exact h
    have hcut2:∀ W':World,Calls Tryz.prog 181 #[(.agg #[.int .i64 32,.int .i64 64,.int .i64 64,.slice (some ⟨g0,0,none⟩) 3 3,.slice (some ⟨g1,0,none⟩) 3 3,.slice (some ⟨g2,0,none⟩) 3 3,.slice (some ⟨g3,0,none⟩) 3 3]),.int .u64 (IntKind.u64.wrap ((v2:Int)+bits .xor .u64 (bits .xor .u64 (bits .and .u64 x.a x.b) (bits .and .u64 x.a x.c)) (bits .and .u64 x.b x.c)))] W' fun e w'=>e = .returned (.int .u64 (T2:Int))∧Below W'.heap.size W' w':=fun W'=>by
     simp only [IntKind.wrap_u64]
     rw [majR_32 _ _ _ hx.a hx.b hx.c,addv_64,fT2]
     have h:=cutT_32 g0 g1 g2 g3 (v2+majS x.a x.b x.c) W'
     rw [f2] at h ⊢
     exact h
    obtain ⟨A',fA⟩:∃ a,a=(T1+T2)%2 ^ 32:=⟨_,rfl⟩
    obtain ⟨E',fE⟩:∃ a,a=(x.d+T1)%2 ^ 32:=⟨_,rfl⟩
    have hcut3:∀ W':World,Calls Tryz.prog 181 #[(.agg #[.int .i64 32,.int .i64 64,.int .i64 64,.slice (some ⟨g0,0,none⟩) 3 3,.slice (some ⟨g1,0,none⟩) 3 3,.slice (some ⟨g2,0,none⟩) 3 3,.slice (some ⟨g3,0,none⟩) 3 3]),.int .u64 (IntKind.u64.wrap ((T1:Int)+T2))] W' fun e w'=>e = .returned (.int .u64 (A':Int))∧Below W'.heap.size W' w':=fun W'=>by
     simp only [IntKind.wrap_u64]
     rw [addv_64,fA]
     exact cutT_32 g0 g1 g2 g3 (T1+T2) W'
    have hcut4:∀ W':World,Calls Tryz.prog 181 #[(.agg #[.int .i64 32,.int .i64 64,.int .i64 64,.slice (some ⟨g0,0,none⟩) 3 3,.slice (some ⟨g1,0,none⟩) 3 3,.slice (some ⟨g2,0,none⟩) 3 3,.slice (some ⟨g3,0,none⟩) 3 3]),.int .u64 (IntKind.u64.wrap ((x.d:Int)+T1))] W' fun e w'=>e = .returned (.int .u64 (E':Int))∧Below W'.heap.size W' w':=fun W'=>by
     simp only [IntKind.wrap_u64]
     rw [addv_64,fE]
     exact cutT_32 g0 g1 g2 g3 (x.d+T1) W'
    have HST:Hid (stepS rn (K k / 2 ^ (64 - 32)) (X k) x=⟨A',x.a,x.b,x.c,E',x.e,x.f,x.g⟩):=(by rw [fA,fE,fT1,fT2];rfl:stepS rn (K k / 2 ^ (64 - 32)) (X k) x=⟨A',x.a,x.b,x.c,E',x.e,x.f,x.g⟩)
    clear f1 f2 fT1 fT2 fA fE hLw hL2 hZ2 hrw hrk2 hrs2 hs hWl hrs
    go_wp2
    go_quiet (fail)
    go_wp2
    go_region_held3 (fun w'=>Below wr.heap.size wr w') (first | assumption | exact hbA _) (first
     | (go_at_call 182;refine (hhi1 _ (by first | assumption | exact hbA _)).mono ?_;rintro e w' ⟨rfl,hb⟩;have hbn:=below_next (W:=wr) (by first | assumption | exact hbA _) hb)
     | (go_at_call 181;refine (hcut1 _).mono ?_;rintro e w' ⟨rfl,hb⟩;have hbn:=below_next (W:=wr) (by assumption) hb))
    clear hhi1 hcut1
    go_wp2
    go_region_held3 (fun w'=>Below wr.heap.size wr w') (first | assumption | exact Below.drew (by assumption)) (first
     | (go_at_call 182;refine (hhi2 _ (by first | assumption | exact Below.drew (by assumption))).mono ?_;rintro e w' ⟨rfl,hb⟩;have hbn:=below_next (W:=wr) (by first | assumption | exact Below.drew (by assumption)) hb)
     | (go_at_call 181;refine (hcut2 _).mono ?_;rintro e w' ⟨rfl,hb⟩;have hbn:=below_next (W:=wr) (by assumption) hb))
    clear hhi2 hcut2
    go_wp2
    go_region_held3 (fun w'=>Below wr.heap.size wr w') (first | assumption | exact Below.drew (by assumption) | exact Below.alloc (by assumption) (Below.size (by assumption)) _) (first
     | (go_at_call_of 181 T2;refine (hcut3 _).mono ?_;rintro e w' ⟨rfl,hb⟩;have hbn:=below_next (W:=wr) (by first | assumption | exact Below.drew (by assumption)) hb)
     | (go_at_call_of 181 (x.d);refine (hcut4 _).mono ?_;rintro e w' ⟨rfl,hb⟩;have hbn:=below_next (W:=wr) (by assumption) hb))
    clear hcut3 hcut4 hS hbA q0 q1 q2 q3 q4 q5 q6 q7 z0 z1 z2 z3 z4 z5 z6 rk rw'
    go_wp2
    go_roundw
    case rel =>
     have hst:roundsS rn K X s (k+1)=⟨A',x.a,x.b,x.c,E',x.e,x.f,x.g⟩:=by rw [←HST.out,HX.out];rfl
     have hf:RowAt .u64 (w'.alloc (.cells #[.int .u64 A',.int .u64 x.a,.int .u64 x.b,.int .u64 x.c,.int .u64 E',.int .u64 x.e,.int .u64 x.f,.int .u64 x.g] 53)) w'.heap.size 0 8 (roundsS rn K X s (k+1)).at:=by
      rw [hst]
      exact RowAt.fresh (fun j hj=>by
       match j,hj with
       | 0,_=>rfl
       | 1,_=>rfl
       | 2,_=>rfl
       | 3,_=>rfl
       | 4,_=>rfl
       | 5,_=>rfl
       | 6,_=>rfl
       | 7,_=>rfl)
     have hbz:=hbn.size
     have hbf:=hbel.trans ((hbn.alloc hbn.size (.cells #[.int .u64 A',.int .u64 x.a,.int .u64 x.b,.int .u64 x.c,.int .u64 E',.int .u64 x.e,.int .u64 x.f,.int .u64 x.g] 53)).mono hsz)
     exact ⟨k+1,w'.heap.size,8,hlt,by go_num,rfl,by omega,hf,hbf⟩
    case measure=>simp [intOf];omega
  · have hke:k=64:=by omega
    rw [hke] at hrow
    clear hke
    have hw3:Below w.heap.size w wr:=hw2.trans (hbel.mono hs2)
    obtain ⟨x,hxe⟩:∃ x,x=roundsS rn K X s 64:=⟨_,rfl⟩
    have HX:Hid (x=roundsS rn K X s 64):=hxe
    rw [←hxe] at hrow
    have hrs0:∀ W,Below w.heap.size w W→∀ j,j<8→W.cell? ⟨gs,j,none⟩=some (.int .u64 (s.at j)):=fun W h j hj=>(h.cell (p:=⟨gs,j,none⟩) hgs).trans (hrs j hj)
    clear hxe hL2 hZ2 hrw hrk2 hrs2 hw2 hrs
    obtain ⟨z0,z1,z2,z3,z4,z5,z6⟩:=id hZ
    go_wp2
    clear z0 z1 z2 z3 z4 z5 z6
    go_loopw [15] (fun i wq=>∃ k:Nat,k≤8∧i = .int .i64 k∧RowAt .u64 wq g 0 8 (addG 32 s x k)∧Below w.heap.size w wq∧ZBox32 wq w.heap.size g0 g1 g2 g3∧w.heap.size<wq.heap.size) (fun i _=>8 - (intOf i).toNat)
    case atStart=>exact ⟨0,Nat.zero_le _,rfl,hrow.congr (fun j _=>by simp [addG]),hw3,hZ,by omega⟩
    case round =>
     clear hrow hZ hw3 hgl hsz hbel hlt hk
     obtain ⟨k,hk,rfl,hr,hbq,hZq,hzq⟩:=hrel
     by_cases hlt:k<8
     · obtain ⟨z0,z1,z2,z3,z4,z5,z6⟩:=id hZq
       obtain ⟨rx,rf⟩:=hr k hlt
       rw [Nat.zero_add] at rx rf
       have hgq:g<wr.heap.size:=block_lt_of_cell rx
       have rs:=hrs0 _ hbq k hlt
       have ea:addG 32 s x k k=x.at k:=by simp [addG]
       rw [ea] at rx
       have hcut:∀ W':World,Calls Tryz.prog 181 #[(.agg #[.int .i64 32,.int .i64 64,.int .i64 64,.slice (some ⟨g0,0,none⟩) 3 3,.slice (some ⟨g1,0,none⟩) 3 3,.slice (some ⟨g2,0,none⟩) 3 3,.slice (some ⟨g3,0,none⟩) 3 3]),.int .u64 (IntKind.u64.wrap ((x.at k:Int)+s.at k))] W' fun e w'=>e = .returned (.int .u64 (((s.at k+x.at k)%2 ^ 32:Nat):Int))∧Below W'.heap.size W' w':=fun W'=>by
        simp only [IntKind.wrap_u64]
        rw [addv_64,Nat.add_comm (s.at k)]
        exact cutT_32 g0 g1 g2 g3 (x.at k+s.at k) W'
       have hb0:Below wr.heap.size wr wr.drew:=(Below.refl _ _).drew
       go_wp2
       go_region_with ((go_at_call 181;refine (hcut _).mono ?_;rintro e w' ⟨rfl,hb⟩;have hbn:=below_next hb0 hb;have rx':=(hbn.cell (p:=⟨g,k,none⟩) hgq).trans rx;have rf':=(hbn.frozen (p:=⟨g,k,none⟩) hgq).trans rf))
       all_goals
        go_wp2
        go_roundw
        case rel =>
         have h1:=(hr.below hbn hgq).set (i:=k) hlt (v:=(((s.at k+x.at k)%2 ^ 32:Nat):Int)) (u:=(s.at k+x.at k)%2 ^ 32) rfl
         rw [Nat.zero_add] at h1
         have hbs:=hbn.size
         have hbq':=hbq.size
         refine ⟨k+1,by omega,by go_num,h1.congr (fun j hj => ?_),(hbq.trans (hbn.mono hbq')).setCell (by show w.heap.size≤g;omega) _,?_,by simp;omega⟩
         · exact addG_step _ _ _ _ _
         · have hz:=hZq.below hbn
           unfold ZBox32 at *
           have hne:∀ v q,(w'.setCell ⟨g,k,none⟩ v).cell? ⟨w.heap.size,q,none⟩=w'.cell? ⟨w.heap.size,q,none⟩:=fun v q=>World.cell?_setCell_other _ _ _ _ (by intro h;injection h;omega)
           simp only [hne]
           exact hz
        case measure=>simp [intOf];omega
     · have hke:k=8:=by omega
       subst hke
       go_wp2
       go_ret
       refine ⟨g,c,rfl,by omega,hr.congr (fun j hj => ?_),hbq⟩
       rw [←HX.out]
       exact addG_end rn s x j hj
end Go.Proofs.YtcgkajlehdgpoaaGreatDoor
namespace Go.Proofs.YtcgkajlehdgpoaaGreatDoor
open Go.RowKit
theorem row_new (K:IntKind) (w:World) (n:Nat) (X:Nat→Nat) (t:TypeId):RowAt K (w.alloc (.cells (ints K n X).toArray t)) w.heap.size 0 n X:=RowAt.fresh (fun j hj=>by rw [List.getElem?_toArray,ints_at _ _ _ j hj])
set_option maxRecDepth 20000 in
set_option maxHeartbeats 2000000 in
theorem constants_any (w:World):Calls Tryz.prog 158 #[] w fun e w'=>∃ g,e = .returned (.slice (some ⟨g,0,none⟩) 80 80)∧w.heap.size≤g∧RowAt .u64 w' g 0 80 cubeK∧Below w.heap.size w w':=by
 go_enter Tryz.func158,Tryz.ntmps158
 go_wp2
 go_ret
 refine ⟨_,rfl,Nat.le_refl _,?_,(Below.refl _ _).alloc (Nat.le_refl _) _⟩
 have h:=row_new .u64 w 80 cubeK 53
 have e:(ints .u64 80 cubeK).toArray=#[.int .u64 4794697086780616226,.int .u64 8158064640168781261,.int .u64 13096744586834688815,.int .u64 16840607885511220156,.int .u64 4131703408338449720,.int .u64 6480981068601479193,.int .u64 10538285296894168987,.int .u64 12329834152419229976,.int .u64 15566598209576043074,.int .u64 1334009975649890238,.int .u64 2608012711638119052,.int .u64 6128411473006802146,.int .u64 8268148722764581231,.int .u64 9286055187155687089,.int .u64 11230858885718282805,.int .u64 13951009754708518548,.int .u64 16472876342353939154,.int .u64 17275323862435702243,.int .u64 1135362057144423861,.int .u64 2597628984639134821,.int .u64 3308224258029322869,.int .u64 5365058923640841347,.int .u64 6679025012923562964,.int .u64 8573033837759648693,.int .u64 10970295158949994411,.int .u64 12119686244451234320,.int .u64 12683024718118986047,.int .u64 13788192230050041572,.int .u64 14330467153632333762,.int .u64 15395433587784984357,.int .u64 489312712824947311,.int .u64 1452737877330783856,.int .u64 2861767655752347644,.int .u64 3322285676063803686,.int .u64 5560940570517711597,.int .u64 5996557281743188959,.int .u64 7280758554555802590,.int .u64 8532644243296465576,.int .u64 9350256976987008742,.int .u64 10552545826968843579,.int .u64 11727347734174303076,.int .u64 12113106623233404929,.int .u64 14000437183269869457,.int .u64 14369950271660146224,.int .u64 15101387698204529176,.int .u64 15463397548674623760,.int .u64 17586052441742319658,.int .u64 1182934255886127544,.int .u64 1847814050463011016,.int .u64 2177327727835720531,.int .u64 2830643537854262169,.int .u64 3796741975233480872,.int .u64 4115178125766777443,.int .u64 5681478168544905931,.int .u64 6601373596472566643,.int .u64 7507060721942968483,.int .u64 8399075790359081724,.int .u64 8693463985226723168,.int .u64 9568029438360202098,.int .u64 10144078919501101548,.int .u64 10430055236837252648,.int .u64 11840083180663258601,.int .u64 13761210420658862357,.int .u64 14299343276471374635,.int .u64 14566680578165727644,.int .u64 15097957966210449927,.int .u64 16922976911328602910,.int .u64 17689382322260857208,.int .u64 500013540394364858,.int .u64 748580250866718886,.int .u64 1242879168328830382,.int .u64 1977374033974150939,.int .u64 2944078676154940804,.int .u64 3659926193048069267,.int .u64 4368137639120453308,.int .u64 4836135668995329356,.int .u64 5532061633213252278,.int .u64 6448918945643986474,.int .u64 6902733635092675308,.int .u64 7801388544844847127]:=by kernel_rfl
 rw [e] at h
 exact h
theorem first_any (w:World):Calls Tryz.prog 159 #[] w fun e w'=>∃ g,e = .returned (.slice (some ⟨g,0,none⟩) 8 8)∧w.heap.size≤g∧RowAt .u64 w' g 0 8 squareK∧Below w.heap.size w w':=by
 go_enter Tryz.func159,Tryz.ntmps159
 go_wp2
 go_ret
 exact ⟨_,rfl,Nat.le_refl _,row_new .u64 w 8 squareK 53,(Below.refl _ _).alloc (Nat.le_refl _) _⟩
theorem sliceMid (W:World) (bb ob n cap l m:Nat) (hm:0<m) (h:l+m≤cap):(Instr.sliceAt 22 (.slice (some ⟨bb,ob,none⟩) n cap) (some (.int .i64 l)) (some (.int .i64 ((l:Int)+m))) none).run Tryz.prog W = .ok (.slice (some ⟨bb,ob+l,none⟩) m (cap - l)) W:=by
 have h1:Tryz.prog.underlying 22=some (.slice (Tryz.prog.elem 22)):=by kernel_rfl
 have h2:Tryz.prog.elem 22=5:=by kernel_rfl
 have h3:((sizeOf 5).run Tryz.prog W) = .ok 1 W:=by kernel_rfl
 rw [run_sliceAt_slice W 22 _ _ _ _ h1,run_slice_lh W 22 _ n cap h1 .i64 .i64 l ((l:Int)+m) (by omega) (by omega) (by omega),h2,h3]
 have e2:((l:Int)+m).toNat=l+m:=by omega
 have e3:¬(cap=l):=by omega
 simp [sliced,Addr.add_mid,Option.map,e2,e3]
 try omega
theorem step_append_next64 {ops:Array Oper} {o:Oper} {a:Act} {w:World} {K:Act→World→Prop} {Q:Exit→Act→World→Prop} {E:Prop} (hgd:o.guard=none) (s x:Operand)
 (ho:o.op = .call { callee := .builtin .append,args:=#[s,x],argTypes:=#[194,194] }) (base:Nat)
 (v:Value) (n:Nat) (F:Nat→Nat) (y:Int) (hs:a.eval s=v) (hown:w.ownsRow base 53 1 v n (ints .u64 n F)) (g:Nat) (hg:w.heap.size=g) (hx:a.eval x = .slice (some ⟨g,0,none⟩) 1 1) (hF:y=(F n:Int))
 (hl:n+1≤1000000) (hbase:base≤w.heap.size)
 (h:∀ v' w',w'.ownsRow base 53 1 v' (n+1) (ints .u64 (n+1) F)→Below base w w'→K (a.put o.dst v') w') :
 if Region.wanted o (yielded ops a.tmps)=true then Oper.wp Tryz.prog o a (w.alloc (.cells #[.int .u64 y] 53)) K Q else E:=by
 obtain ⟨i0,hi,hz0,hz1,hz2⟩:=info_parts Tryz.info53
 subst hg
 subst hF
 have hz:base≤(w.alloc (.cells #[.int .u64 (F n:Int)] 53)).heap.size:=by simp only [World.size_alloc];omega
 refine step_append_lies (P:=Tryz.prog) (w:=w.alloc (.cells #[.int .u64 (F n:Int)] 53)) hgd s x 194 ho base 53 i0 (.int .u64 0) 1 8 Tryz.underlying194 hi hz0 hz1 hz2 rfl (by decide) v n _ hs (hown.alloc _) ⟨w.heap.size,0,none⟩ 1 1 [.int .u64 (F n)] hx rfl (one_new _ _ _) (one_cell _ _) (by decide) (by unfold maxLen;omega) (by omega) hz _ rfl ?_
 intro g' cap' w' h1 h2 _ _
 rw [ints_snoc] at h1
 exact h _ w' h1 (below_grown ((Below.refl _ _).alloc hbase _) h2 (hown.alloc _) (Nat.le_refl _) hz)
theorem cell_top (w:World) (cs:Array Value) (t:TypeId) (b j:Nat) (hb:b=w.heap.size):(w.alloc (.cells cs t)).cell? ⟨b,j,none⟩=cs[j]?:=by
 subst hb
 rw [cell_of_row _ _ j _ _ _ (heap_alloc_new w _)]
theorem padN32_mod (n:Nat):∃ T,n+padN rn n=T*64∧0<T:=by
 refine ⟨(n+padN rn n) / 64,?_⟩
 have e:padN rn n=1+(4*32 - 1 - 32 / 4 - n%(2*32))%(2*32)+32 / 4:=rfl
 omega
theorem hsmall_any (w:World):Calls Tryz.prog 129 #[] w fun e w'=>∃ g0 g1 g2 g3,e = .returned (.agg #[.int .i64 32,.int .i64 64,.int .i64 64,.slice (some ⟨g0,0,none⟩) 3 3,.slice (some ⟨g1,0,none⟩) 3 3,.slice (some ⟨g2,0,none⟩) 3 3,.slice (some ⟨g3,0,none⟩) 3 3])∧Lists32 w' g0 g1 g2 g3∧Below w.heap.size w w':=by
 go_enter Tryz.func129,Tryz.ntmps129
 go_wp2
 refine bodyPost_ret (results_cell_mid Tryz.results129 _ _ w.heap.size 0 [.int .i64 32,.int .i64 64,.int .i64 64,.slice (some ⟨w.heap.size+1,0,none⟩) 3 3,.slice (some ⟨w.heap.size+1+1,0,none⟩) 3 3,.slice (some ⟨w.heap.size+1+1+1,0,none⟩) 3 3,.slice (some ⟨w.heap.size+1+1+1+1,0,none⟩) 3 3] _ rfl ?hc Tryz.underlying167 rfl (by kernel_rfl)) rfl ⟨_,_,_,_,rfl,?hl,?hb⟩
 case hc =>
  intro j u hu
  have hj:j<7:=(List.getElem?_eq_some_iff.1 hu).1
  repeat rw [World.cell?_alloc_lt _ _ _ (by simp only [World.size_alloc];omega)]
  rw [cell_top _ _ _ _ _ rfl,Nat.zero_add,←hu]
  match j,hj with
  | 0,_=>rfl
  | 1,_=>rfl
  | 2,_=>rfl
  | 3,_=>rfl
  | 4,_=>rfl
  | 5,_=>rfl
  | 6,_=>rfl
 case hl =>
  constructor <;> ((repeat rw [World.cell?_alloc_lt _ _ _ (by simp only [World.size_alloc];omega)]);rw [cell_top _ _ _ _ _ (by simp only [World.size_alloc])];rfl)
 case hb=>exact (((((Below.refl _ _).alloc (Nat.le_refl _) _).alloc (by simp) _).alloc (by simp;omega) _).alloc (by simp;omega) _).alloc (by simp;omega) _
end Go.Proofs.YtcgkajlehdgpoaaGreatDoor
namespace Go.Proofs.YtcgkajlehdgpoaaGreatDoor
open Go.RowKit
set_option maxRecDepth 20000 in
set_option maxHeartbeats 4000000 in
theorem sumR32_any (g0 g1 g2 g3:Nat) (v:Value) (n:Nat) (bs:Nat→Nat) (hbs:∀ j,bs j<256) (w:World) (hL:Lists32 w g0 g1 g2 g3) (hv:BytesIn w v n bs) (hn:n<140737488355000) :
 Calls Tryz.prog 130 #[(.agg #[.int .i64 32,.int .i64 64,.int .i64 64,.slice (some ⟨g0,0,none⟩) 3 3,.slice (some ⟨g1,0,none⟩) 3 3,.slice (some ⟨g2,0,none⟩) 3 3,.slice (some ⟨g3,0,none⟩) 3 3]),v] w fun e w'=>∃ v',e = .returned v'∧Own w.heap.size w' v' 32 (outB 32 (specS rn cubeK squareK n bs))∧Below w.heap.size w w':=by
 have hpad:=fun W' (h:Below w.heap.size w W')=>padded32_any g0 g1 g2 g3 v n bs W' (hv.keep h) hn
 have hzb:=zbox32 w g0 g1 g2 g3
 obtain ⟨F,hF⟩:∃ F,F=cat n bs (padF rn n):=⟨_,rfl⟩
 have hFl:∀ j,F j<256:=by rw [hF];exact cat_lt hbs (padF_lt _ _)
 obtain ⟨T,hT,hT0⟩:=padN32_mod n
 have hTb:T*64<140737488355328:=by have:=padN32_le n;omega
 have HS:Hid (specS rn cubeK squareK n bs=loopS rn cubeK (firstS rn squareK) F T):=by
  show specS rn cubeK squareK n bs=_
  unfold specS
  rw [←hF,hT,show T*64 / (2*Ru.m rn)=T from Nat.mul_div_cancel T (by decide)]
 rw [←hF,hT] at hpad
 clear hF hv
 go_enter Tryz.func130,Tryz.ntmps130
 go_wp2_with (first
  | (go_at_call 158;refine (constants_any _).mono ?_;rintro e w1 ⟨gk,rfl,hgk,hrk,hb1⟩;simp only [World.size_alloc] at hgk hb1)
  | (go_at_call 159;refine (first_any _).mono ?_;rintro e w2 ⟨gq,rfl,hgq,hrq,hb2⟩))
 have hs1:=hb1.size
 have hs2:=hb2.size
 simp only [World.size_alloc] at hs1
 have hZ2:ZBox32 w2 w.heap.size g0 g1 g2 g3:=by
  have hc:∀ j,w2.cell? ⟨w.heap.size,j,none⟩=(w.alloc (.cells #[.int .i64 32,.int .i64 64,.int .i64 64,.slice (some ⟨g0,0,none⟩) 3 3,.slice (some ⟨g1,0,none⟩) 3 3,.slice (some ⟨g2,0,none⟩) 3 3,.slice (some ⟨g3,0,none⟩) 3 3] 167)).cell? ⟨w.heap.size,j,none⟩:=fun j=>(hb2.cell (p:=⟨w.heap.size,j,none⟩) (by show w.heap.size<_;omega)).trans (hb1.cell (p:=⟨w.heap.size,j,none⟩) (Nat.lt_succ_self _))
  unfold ZBox32 at *
  simp only [hc]
  exact hzb
 have hgk1:gk<w1.heap.size:=block_lt_of_cell (hrk 0 (by decide)).1
 have hgq2:gq<w2.heap.size:=block_lt_of_cell (hrq 0 (by decide)).1
 have hrk2:RowAt .u64 w2 gk 0 80 cubeK:=hrk.below hb2 hgk1
 have hw2:Below w.heap.size w w2:=((Below.refl _ _).alloc (Nat.le_refl _) _).trans ((hb1.mono (by omega)).trans (hb2.mono (by omega)))
 have hL2:=hL.below hw2
 have hzl:w.heap.size<w2.heap.size:=by omega
 have hgk2:gk<w2.heap.size:=by omega
 clear hrk hb1 hb2 hs1 hs2 hzb hgk1 hgk hgq hL
 obtain ⟨s0,hs0⟩:∃ s0,s0=firstS rn squareK:=⟨_,rfl⟩
 have hsl:s0.lt (2 ^ 32):=by rw [hs0];exact firstS_lt rn squareK (by decide) squareK_lt
 have hsq:∀ k,k<8→s0.at k=squareK k / 2 ^ (64 - 32):=fun k hk=>by
  rw [hs0]
  match k,hk with
  | 0,_=>rfl
  | 1,_=>rfl
  | 2,_=>rfl
  | 3,_=>rfl
  | 4,_=>rfl
  | 5,_=>rfl
  | 6,_=>rfl
  | 7,_=>rfl
 rw [←hs0] at HS
 clear hs0
 go_loopw [7,8] (fun v i wr=>∃ k:Nat,k≤8∧i = .int .i64 k∧wr.ownsRow w2.heap.size 53 1 v k (ints .u64 k s0.at)∧Below w2.heap.size w2 wr) (fun _ i _=>8 - (intOf i).toNat)
 case atStart=>exact ⟨0,Nat.zero_le _,rfl,World.ownsRow_nil _ _ _ _,Below.refl _ _⟩
 case round =>
  obtain ⟨k,hk,rfl,hown,hbel⟩:=hrel
  have hsr:=hbel.size
  by_cases hlt:k<8
  · have hZ:=hZ2.below hbel
    obtain ⟨z0,z1,z2,z3,z4,z5,z6⟩:=hZ
    have rq:wr.cell? ⟨gq,k,none⟩=some (.int .u64 (squareK k)):=by
     have:=(hrq k hlt).1
     rw [Nat.zero_add] at this
     exact (hbel.cell (p:=⟨gq,k,none⟩) hgq2).trans this
    obtain ⟨qk,hqk⟩:∃ qk,qk=squareK k:=⟨_,rfl⟩
    have HY:Hid (s0.at k=qk / 2 ^ (64 - 32)):=(by rw [hqk];exact hsq k hlt:s0.at k=qk / 2 ^ (64 - 32))
    rw [←hqk] at rq
    clear hqk hpad hFl hrk2 hrq hL2 hZ2
    have hS:∀ w':World,Below w2.heap.size wr w'→∀ b o,b<w2.heap.size→w'.cell? ⟨b,o,none⟩=wr.cell? ⟨b,o,none⟩:=fun w' h b o hb=>h.cell (p:=⟨b,o,none⟩) hb
    have hbd:∀ m,Below wr.heap.size wr (wr.drewN m):=fun m=>below_drewN (Below.refl _ _) m
    have hb0:Below w2.heap.size wr wr.drew:=(Below.refl _ _).drew
    have hki:(0:Int)≤(k:Int)∧(k:Int)<8:=by omega
    have hown0:=own_below hown ((Below.refl _ _).drew:Below wr.heap.size wr wr.drew)
    have hsz0:w2.heap.size≤wr.drew.heap.size:=hsr
    have h00:min (IntKind.u64.wrap (IntKind.i64.wrap 0)).toNat 64=0:=by rfl
    have hy:(qk / 4294967296:Int)=(s0.at k:Int):=by
     try rw [h00]
     rw [HY.out]
     simp
    clear h00
    have HYY:Hid ((qk / 4294967296:Int)=(s0.at k:Int)):=hy
    clear hy
    go_wp2
    go_region_held3 (fun w'=>Below w2.heap.size wr w') (first | assumption | exact Below.alloc (by assumption) (by assumption) _) (first | (refine step_append_next64 rfl (.tmp 20) (.tmp 30) rfl w2.heap.size _ k s0.at _ rfl hown0 _ rfl rfl HYY.out (by omega) hsz0 ?_;intro v' w' hown1 hbx;have hbn:Below w2.heap.size wr w':=hb0.trans hbx))
    clear hS hb0 hbd z0 z1 z2 z3 z4 z5 z6 rq
    go_wp2
    go_roundw
    case rel =>
     first
      | exact ⟨k+1,by omega,by go_num,hown1,hbel.trans hbn⟩
      | (repeat apply Exists.intro
         refine ⟨?_,rfl⟩
         exact ⟨k+1,by omega,by go_num,hown1,hbel.trans hbn⟩)
    case measure=>simp [intOf];omega
  · have hke:k=8:=by omega
    rw [hke] at hown
    clear hke
    obtain ⟨gs,cs,hu7,hgs,hgsl⟩:=hown.form (by decide)
    subst hu7
    have hrs:RowAt .u64 wr gs 0 8 s0.at:=fun j hj=>by
     rw [Nat.zero_add]
     exact ⟨by rw [hown.cellAt j (by omega),ints_at _ _ _ j hj],hown.frozenAt j⟩
    have hwr:Below w.heap.size w wr:=hw2.trans (hbel.mono (by omega))
    have hpad':=hpad wr hwr
    have hZ:=hZ2.below hbel
    obtain ⟨z0,z1,z2,z3,z4,z5,z6⟩:=hZ
    clear hpad hrq hsq hown
    go_wp2_with (go_at_call 160;refine hpad'.mono ?_;rintro e w4 ⟨vp,rfl,ownp,hb4⟩)
    clear z0 z1 z2 z3 z4 z5 z6 hpad'
    rcases ownp.form with ⟨-,h0⟩ | ⟨gp,cp,hvp,hgp,hgpl,hcp,hrp⟩
    · omega
    subst hvp
    obtain ⟨N,hNe⟩:∃ N,N=T*64:=⟨_,rfl⟩
    rw [←hNe] at hcp hrp hTb ⊢
    have hs4:=hb4.size
    have hw4:Below w2.heap.size w2 w4:=hbel.trans (hb4.mono hsr)
    have hww:Below w.heap.size w w4:=hw2.trans (hw4.mono (by omega))
    have hrs4:RowAt .u64 w4 gs 0 8 s0.at:=hrs.below hb4 hgsl
    have hrk4:RowAt .u64 w4 gk 0 80 cubeK:=hrk2.below hw4 hgk2
    have hL4:=hL2.below hw4
    have hZ4:=hZ2.below hw4
    have hk4:gk<w4.heap.size:=by omega
    have hz4:w.heap.size<w4.heap.size:=by omega
    have hgs4:w.heap.size≤gs:=by omega
    have HN:Hid (N=T*64):=hNe
    clear ownp hb4 hw4 hrs hrk2 hL2 hZ2 hbel hs4 hsr hwr hk hlt hNe hw2 hgq2 hgk2 hzl hT hn
    go_loopw [7,10] (fun v i wq=>∃ t P g c:Nat,t≤T∧Hid (P=t*64)∧i = .int .i64 P∧v = .slice (some ⟨g,0,none⟩) 8 c∧RowAt .u64 wq g 0 8 (loopS rn cubeK s0 F t).at∧w.heap.size≤g∧Below w4.heap.size w4 wq) (fun _ i _=>N - (intOf i).toNat)
    case atStart=>exact ⟨0,0,gs,cs,Nat.zero_le _,(by omega:0=0*64),rfl,rfl,hrs4,hgs4,Below.refl _ _⟩
    case round =>
     clear hrs4
     obtain ⟨t,P,g,c,ht,HP,rfl,rfl,hrow,hgw,hbq⟩:=hrel
     have hsq4:=hbq.size
     have hgl:g<wr.heap.size:=block_lt_of_cell (hrow 0 (by decide)).1
     have hZ:=hZ4.below hbq
     by_cases hlt:t<T
     · have hPN:P+64≤N:=by have:=HP.out;have:=HN.out;omega
       have hPi:(P:Int)<N:=by omega
       have hblk:∀ W':World,Below wr.heap.size wr W'→Calls Tryz.prog 161 #[(.agg #[.int .i64 32,.int .i64 64,.int .i64 64,.slice (some ⟨g0,0,none⟩) 3 3,.slice (some ⟨g1,0,none⟩) 3 3,.slice (some ⟨g2,0,none⟩) 3 3,.slice (some ⟨g3,0,none⟩) 3 3]),.slice (some ⟨g,0,none⟩) 8 c,.slice (some ⟨gk,0,none⟩) 80 80,.slice (some ⟨gp,P,none⟩) 64 (cp - P)] W' fun e w'=>∃ g' c',e = .returned (.slice (some ⟨g',0,none⟩) 8 c')∧W'.heap.size≤g'∧RowAt .u64 w' g' 0 8 (loopS rn cubeK s0 F (t+1)).at∧Below W'.heap.size W' w':=fun W' h=>by
        have hl:=hbq.trans (h.mono hsq4)
        have hh:=blockR32_any cubeK g0 g1 g2 g3 g c gk 80 gp P (cp - P) (loopS rn cubeK s0 F t) (loopS_lt (r:=rn) hsl t) (fun j=>F (P+j)) (fun j=>hFl _) W' (hL4.below hl)
         (fun j hj=>by have:=((hrow.below h hgl) j hj).1;rwa [Nat.zero_add] at this)
         (fun j hj=>by have:=((hrk4.below hl hk4) j hj).1;rwa [Nat.zero_add] at this)
         (fun j hj=>by have:=((hrp.below hl hgpl) (P+j) (by omega)).1;rwa [Nat.zero_add] at this)
        rw [blockR32_eq _ _ (fun j=>hFl _)] at hh
        have e:blockS rn cubeK (fun j=>F (P+j)) (loopS rn cubeK s0 F t)=loopS rn cubeK s0 F (t+1):=by
         rw [HP.out];rfl
        rw [e] at hh
        exact hh
       have hsm:∀ W:World,(Instr.sliceAt 22 (.slice (some ⟨gp,0,none⟩) N cp) (some (.int .i64 P)) (some (.int .i64 ((P:Int)+64))) none).run Tryz.prog W = .ok (.slice (some ⟨gp,P,none⟩) 64 (cp - P)) W:=fun W=>by
        have h:=sliceMid W gp 0 N cp P 64 (by decide) (by omega)
        rw [Nat.zero_add] at h
        exact h
       have hw64:IntKind.i64.wrap ((P:Int)+64)=(P:Int)+64:=by simp only [IntKind.wrap_i64];omega
       have b1:(0:Int)≤(P:Int):=by omega
       have b2:(P:Int)≤(P:Int)+64:=by omega
       have b3:(P:Int)+64≤(cp:Int):=by omega
       obtain ⟨z0,z1,z2,z3,z4,z5,z6⟩:=hZ
       have hS:∀ w':World,Below wr.heap.size wr w'→∀ b o,b<wr.heap.size→w'.cell? ⟨b,o,none⟩=wr.cell? ⟨b,o,none⟩:=fun w' h b o hb=>h.cell (p:=⟨b,o,none⟩) hb
       have hb0:Below wr.heap.size wr wr.drew:=(Below.refl _ _).drew
       have m0:w.heap.size<wr.heap.size:=by omega
       have hPb:(P:Int)+64<140737488355328:=by omega
       clear hrow hL4 hZ4 hrk4 hrp hFl hsl
       go_wp2
       go_region_held3 (fun w'=>Below wr.heap.size wr w') (first | assumption) (first
        | (go_at_call 161;refine (hblk _ (by assumption)).mono ?_;rintro e w' ⟨g',c',rfl,hg',hrow',hb⟩;have hbn:=below_next (W:=wr) (by assumption) hb))
       have zz:=(hbn.cell (p:=⟨w.heap.size,1,none⟩) m0).trans z1
       clear hblk hS hb0 z0 z1 z2 z3 z4 z5 z6 hsm b1 b2 b3 hw64
       go_wp2
       go_roundw
       case rel =>
        have hP':P+64=(t+1)*64:=by have:=HP.out;omega
        have hg2:w.heap.size≤g':=by simp only [World.size_drew] at hg';omega
        exact ⟨t+1,P+64,g',c',by omega,hP',by go_num,rfl,hrow',hg2,hbq.trans (hbn.mono hsq4)⟩
       case measure=>simp [intOf];omega
     · have hte:t=T:=by omega
       have hPN:P=N:=by have:=HP.out;have:=HN.out;rw [hte] at *;omega
       rw [hte] at hrow
       obtain ⟨x,hxe⟩:∃ x,x=loopS rn cubeK s0 F T:=⟨_,rfl⟩
       have HX:Hid (x=loopS rn cubeK s0 F T):=hxe
       rw [←hxe] at hrow
       clear hxe hte hL4 hZ4 hrk4 hrp hFl hsl
       obtain ⟨z0,z1,z2,z3,z4,z5,z6⟩:=id hZ
       obtain ⟨Wq,hWq⟩:∃ W,W=wr:=⟨_,rfl⟩
       subst hWq
       go_wp2
       clear z0 z1 z2 z3 z4 z5 z6
       go_loopw [11,12] (fun o i wx=>∃ k:Nat,k≤8∧i = .int .i64 k∧Own Wq.heap.size wx o (k*4) (outB 32 x)∧Below Wq.heap.size Wq wx) (fun _ i _=>8 - (intOf i).toNat)
       case atStart=>exact ⟨0,Nat.zero_le _,rfl,(Own.nil _ _ _).start (by omega),Below.refl _ _⟩
       case round =>
        clear hPN hlt
        obtain ⟨k,hk,rfl,own,hb⟩:=hrel
        have hsx:=hb.size
        by_cases hlt:k<8
        · obtain ⟨z0,z1,z2,z3,z4,z5,z6⟩:=hZ.below hb
          go_wp2
          clear z0 z1 z2 z3 z4 z5 z6
          have hd:decide ((k:Int)<8)=true:=decide_eq_true (by omega)
          rw [hd]
          clear hd
          go_loopw [11,13] (fun o m wy=>∃ t:Nat,t≤4∧m = .int .i64 (32 - 8 - 8*(t:Int))∧Own Wq.heap.size wy o (k*4+t) (outB 32 x)∧Below Wq.heap.size Wq wy) (fun o _ _=>k*4+4 - lenV o)
          case atStart=>exact ⟨0,Nat.zero_le _,by go_num,own,hb⟩
          case round =>
           clear own hb hsx
           obtain ⟨q,hq,rfl,own,hb⟩:=hrel
           have hsx:=hb.size
           have hc:wr.cell? ⟨g,k,none⟩=some (.int .u64 (x.at k)):=by have:=((hrow.below hb hgl) k hlt).1;rwa [Nat.zero_add] at this
           by_cases hlq:q<4
           · obtain ⟨m,hm⟩:∃ m:Nat,m=32 - 8 - 8*q:=⟨_,rfl⟩
             have hmi:(32 - 8 - 8*(q:Int))=(m:Int):=by omega
             have hF:Hid (((x.at k / 2 ^ m%256:Nat):Int)=(outB 32 x (k*4+q):Int)):=by
              show ((x.at k / 2 ^ m%256:Nat):Int)=(outB 32 x (k*4+q):Int)
              unfold outB
              rw [show (k*4+q) / (32 / 8)=k by omega,show 32 - 8 - (k*4+q)%(32 / 8)*8=m by omega]
             have hlen:Hid (lenV u11=k*4+q):=by
              show lenV u11=k*4+q
              rcases own.form with ⟨rfl,h0⟩ | ⟨_,_,rfl,_⟩
              · rw [h0];rfl
              · rfl
             have HM:Hid (m=32 - 8 - 8*q):=hm
             have hml:m<32:=by omega
             rw [hmi]
             clear hm hmi
             go_wp2_with (at_builtin;refine wpList_append_next rfl (.tmp 65) (.tmp 74) rfl Wq.heap.size _ (k*4+q) (outB 32 x) _ rfl own rfl (by rw [←hF.out];simp) (by omega) hsx ?_;intro v3 w3 own3 hb3)
             have hl3:lenV v3=k*4+q+1:=by
              rcases own3.form with ⟨_,h0⟩ | ⟨_,_,rfl,_⟩
              · omega
              · rfl
             go_roundw
             case rel=>exact ⟨q+1,by omega,by have:=HM.out;go_num,own3.start (by omega),hb.trans hb3⟩
             case measure=>have:=hlen.out;omega
           · have hqe:q=4:=by omega
             go_wp2
             go_roundw
             case rel=>exact ⟨k+1,by omega,by go_num,own.start (by omega),hb⟩
             case measure=>simp [intOf];omega
        · have hke:k=8:=by omega
          go_wp2
          go_ret
          rw [HS.out,←HX.out]
          exact ⟨_,rfl,own_base (own.start (by omega)) (by omega),hww.trans ((hbq.trans (hb.mono (by omega))).mono (by omega))⟩
set_option maxHeartbeats 1000000 in
theorem rSum256_any (v:Value) (n:Nat) (bs:Nat→Nat) (hbs:∀ j,bs j<256) (w:World) (hv:BytesIn w v n bs) (hn:n<140737488355000) :
 Calls Tryz.prog 106 #[v] w fun e w'=>∃ v',e = .returned v'∧Own w.heap.size w' v' 32 (outB 32 (specS rn cubeK squareK n bs))∧Below w.heap.size w w':=by
 have hk:∀ (w1:World) (g0 g1 g2 g3:Nat),Lists32 w1 g0 g1 g2 g3→Below w.heap.size w w1→Calls Tryz.prog 130 #[(.agg #[.int .i64 32,.int .i64 64,.int .i64 64,.slice (some ⟨g0,0,none⟩) 3 3,.slice (some ⟨g1,0,none⟩) 3 3,.slice (some ⟨g2,0,none⟩) 3 3,.slice (some ⟨g3,0,none⟩) 3 3]),v] (w1.alloc (.cells #[.int .i64 32,.int .i64 64,.int .i64 64,.slice (some ⟨g0,0,none⟩) 3 3,.slice (some ⟨g1,0,none⟩) 3 3,.slice (some ⟨g2,0,none⟩) 3 3,.slice (some ⟨g3,0,none⟩) 3 3] 167)) fun e w'=>∃ v',e = .returned v'∧Own w.heap.size w' v' 32 (outB 32 (specS rn cubeK squareK n bs))∧Below w.heap.size w w':=fun w1 g0 g1 g2 g3 hL hb=>by
  have hb2:=hb.alloc hb.size (.cells #[.int .i64 32,.int .i64 64,.int .i64 64,.slice (some ⟨g0,0,none⟩) 3 3,.slice (some ⟨g1,0,none⟩) 3 3,.slice (some ⟨g2,0,none⟩) 3 3,.slice (some ⟨g3,0,none⟩) 3 3] 167)
  refine (sumR32_any g0 g1 g2 g3 v n bs hbs (w1.alloc (.cells #[.int .i64 32,.int .i64 64,.int .i64 64,.slice (some ⟨g0,0,none⟩) 3 3,.slice (some ⟨g1,0,none⟩) 3 3,.slice (some ⟨g2,0,none⟩) 3 3,.slice (some ⟨g3,0,none⟩) 3 3] 167)) (hL.below ((Below.refl _ _).alloc (Nat.le_refl _) _)) (hv.keep hb2) hn).mono ?_
  rintro e w' ⟨v',rfl,ho,hb'⟩
  exact ⟨v',rfl,own_base ho hb2.size,hb2.trans (hb'.mono hb2.size)⟩
 clear hv
 go_enter Tryz.func106,Tryz.ntmps106
 go_wp2_with (first
  | (go_at_call 129;refine (hsmall_any _).mono ?_;rintro e w1 ⟨g0,g1,g2,g3,rfl,hL,hb1⟩;replace hk:=hk w1 g0 g1 g2 g3 hL hb1)
  | (go_at_call 130;refine hk.mono ?_;rintro e w' ⟨v',rfl,ho,hb'⟩))
 go_ret
 exact ⟨v',rfl,ho,hb'⟩
end Go.Proofs.YtcgkajlehdgpoaaGreatDoor
