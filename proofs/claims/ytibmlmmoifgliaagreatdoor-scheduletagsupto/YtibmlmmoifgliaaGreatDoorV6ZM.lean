/- What the proof stands on: V6Z, V6W. -/
import Derived.Test.YtibmlmmoifgliaaGreatDoorL5DM
import Derived.Test.YtibmlmmoifgliaaGreatDoorV6CM
import Derived.Test.YtibmlmmoifgliaaGreatDoorV6EM
import Derived.Test.YtibmlmmoifgliaaGreatDoorV6QM
namespace Go.Proofs.YtibmlmmoifgliaaGreatDoor
open Go.ChangeShapes Go.WideShapes Go.ChangeAt Go.RowKit
theorem bulk_pos {H:Type} (d:DataW H):0<Rows.uptoBulk d:=by
 cases d with
 | lit l=>cases l <;> simp [Rows.uptoBulk]
 | _=>simp [Rows.uptoBulk]
theorem bulk_len {H:Type}:∀ l:List (DataW H),l.length≤Rows.uptoBulkAll l
 | []=>Nat.zero_le _
 | d :: r=>by
  have h1:=bulk_pos d
  have h2:=bulk_len r
  simp only [Rows.uptoBulkAll,List.length_cons]
  omega
theorem bulk_bytes {H:Type} {n:Nat} {d:DataW H} (h:n=0∨∃ elems spare,d = .slice elems spare∧elems.length=n):n≤Rows.uptoBulk d:=by
 rcases h with h | ⟨es,sp,rfl,h⟩
 · omega
 · have:=bulk_len es
   simp only [Rows.uptoBulk]
   omega
section
variable {H:Type} {enc:TypeId × Value→H} {W:World} {fuel:Nat} {x:DataW H × List MemPlace}
theorem under_sec:∃ f0 f1 f2 f3 f4 f5 f6 f7 f8 f9 f10:Field,Tryz.prog.underlying 48=some (.struct #[f0,f1,f2,f3,f4,f5,f6,f7,f8,f9,f10])∧(f0.type=22∧f1.type=22∧f2.type=22∧f3.type=22∧f4.type=22∧f5.type=22∧f6.type=22∧f7.type=22∧f8.type=22∧f9.type=22∧f10.type=22)∧(f0.offset=0∧f1.offset=1∧f2.offset=2∧f3.offset=3∧f4.offset=4∧f5.offset=5∧f6.offset=6∧f7.offset=7∧f8.offset=8∧f9.offset=9∧f10.offset=10):=⟨_,_,_,_,_,_,_,_,_,_,_,Tryz.underlying48,⟨rfl,rfl,rfl,rfl,rfl,rfl,rfl,rfl,rfl,rfl,rfl⟩,⟨rfl,rfl,rfl,rfl,rfl,rfl,rfl,rfl,rfl,rfl,rfl⟩⟩
theorem cellsOfSec:Tryz.prog.cellsOf 48=11:=by kernel_rfl
set_option maxRecDepth 20000 in
theorem secC {cs:List Value} (h:DataW.trod enc Tryz.prog W 0 (fun _=>true) true fuel 48 cs=some x) (hR:(DataW.weightsEach Tryz.prog [48] [x.1]).all (·≤reachBytes)=true):∃ N B,TxRow W cs 11 N B∧(∀ i j,B i j<256)∧(∀ i,N i<140737488352000):=by
 obtain ⟨f0,f1,f2,f3,f4,f5,f6,f7,f8,f9,f10,hu,⟨t0,t1,t2,t3,t4,t5,t6,t7,t8,t9,t10⟩,o0,o1,o2,o3,o4,o5,o6,o7,o8,o9,o10⟩:=under_sec
 obtain ⟨xs,n,_,rfl,hl,hlen,hf⟩:=DataW.trod_struct hu h
 rw [cellsOfSec] at hl
 match xs,hlen,cs,hl with
 | [y0,y1,y2,y3,y4,y5,y6,y7,y8,y9,y10],_,[v0,v1,v2,v3,v4,v5,v6,v7,v8,v9,v10],_ =>
  have g0:=hf 0 f0 rfl
  rw [t0,o0,cellsBytesV] at g0
  obtain ⟨n0,b0,i0,l0,d0⟩:=bytesV (x:=y0) g0
  have g1:=hf 1 f1 rfl
  rw [t1,o1,cellsBytesV] at g1
  obtain ⟨n1,b1,i1,l1,d1⟩:=bytesV (x:=y1) g1
  have g2:=hf 2 f2 rfl
  rw [t2,o2,cellsBytesV] at g2
  obtain ⟨n2,b2,i2,l2,d2⟩:=bytesV (x:=y2) g2
  have g3:=hf 3 f3 rfl
  rw [t3,o3,cellsBytesV] at g3
  obtain ⟨n3,b3,i3,l3,d3⟩:=bytesV (x:=y3) g3
  have g4:=hf 4 f4 rfl
  rw [t4,o4,cellsBytesV] at g4
  obtain ⟨n4,b4,i4,l4,d4⟩:=bytesV (x:=y4) g4
  have g5:=hf 5 f5 rfl
  rw [t5,o5,cellsBytesV] at g5
  obtain ⟨n5,b5,i5,l5,d5⟩:=bytesV (x:=y5) g5
  have g6:=hf 6 f6 rfl
  rw [t6,o6,cellsBytesV] at g6
  obtain ⟨n6,b6,i6,l6,d6⟩:=bytesV (x:=y6) g6
  have g7:=hf 7 f7 rfl
  rw [t7,o7,cellsBytesV] at g7
  obtain ⟨n7,b7,i7,l7,d7⟩:=bytesV (x:=y7) g7
  have g8:=hf 8 f8 rfl
  rw [t8,o8,cellsBytesV] at g8
  obtain ⟨n8,b8,i8,l8,d8⟩:=bytesV (x:=y8) g8
  have g9:=hf 9 f9 rfl
  rw [t9,o9,cellsBytesV] at g9
  obtain ⟨n9,b9,i9,l9,d9⟩:=bytesV (x:=y9) g9
  have g10:=hf 10 f10 rfl
  rw [t10,o10,cellsBytesV] at g10
  obtain ⟨n10,b10,i10,l10,d10⟩:=bytesV (x:=y10) g10
  have hR':(DataW.weightsEach Tryz.prog [22,22,22,22,22,22,22,22,22,22,22] [y0.1,y1.1,y2.1,y3.1,y4.1,y5.1,y6.1,y7.1,y8.1,y9.1,y10.1]).all (·≤reachBytes)=true:=by
   refine List.all_eq_true.2 fun x hx=>List.all_eq_true.1 hR x (DataW.weights_mem_each (j:=0) rfl rfl x ?_)
   simp only [List.map_cons,List.map_nil,DataW.weights,hu,t0,t1,t2,t3,t4,t5,t6,t7,t8,t9,t10]
   exact hx
  have r0:=bytes_reach2 hR' (j:=0) rfl rfl d0
  have r1:=bytes_reach2 hR' (j:=1) rfl rfl d1
  have r2:=bytes_reach2 hR' (j:=2) rfl rfl d2
  have r3:=bytes_reach2 hR' (j:=3) rfl rfl d3
  have r4:=bytes_reach2 hR' (j:=4) rfl rfl d4
  have r5:=bytes_reach2 hR' (j:=5) rfl rfl d5
  have r6:=bytes_reach2 hR' (j:=6) rfl rfl d6
  have r7:=bytes_reach2 hR' (j:=7) rfl rfl d7
  have r8:=bytes_reach2 hR' (j:=8) rfl rfl d8
  have r9:=bytes_reach2 hR' (j:=9) rfl rfl d9
  have r10:=bytes_reach2 hR' (j:=10) rfl rfl d10
  refine ⟨fun i=>[n0,n1,n2,n3,n4,n5,n6,n7,n8,n9,n10].getD i 0,fun i=>[b0,b1,b2,b3,b4,b5,b6,b7,b8,b9,b10].getD i lZ,⟨rfl,fun i v hv => ?_⟩,fun i => ?_,fun i => ?_⟩
  · rcases i with _ | _ | _ | _ | _ | _ | _ | _ | _ | _ | _ | i
    · obtain rfl:=Option.some.inj hv;exact i0
    · obtain rfl:=Option.some.inj hv;exact i1
    · obtain rfl:=Option.some.inj hv;exact i2
    · obtain rfl:=Option.some.inj hv;exact i3
    · obtain rfl:=Option.some.inj hv;exact i4
    · obtain rfl:=Option.some.inj hv;exact i5
    · obtain rfl:=Option.some.inj hv;exact i6
    · obtain rfl:=Option.some.inj hv;exact i7
    · obtain rfl:=Option.some.inj hv;exact i8
    · obtain rfl:=Option.some.inj hv;exact i9
    · obtain rfl:=Option.some.inj hv;exact i10
    · simp at hv
  · rcases i with _ | _ | _ | _ | _ | _ | _ | _ | _ | _ | _ | i
    · exact l0
    · exact l1
    · exact l2
    · exact l3
    · exact l4
    · exact l5
    · exact l6
    · exact l7
    · exact l8
    · exact l9
    · exact l10
    · exact fun j=>by show 0<256;decide
  · rcases i with _ | _ | _ | _ | _ | _ | _ | _ | _ | _ | _ | i
    · exact r0
    · exact r1
    · exact r2
    · exact r3
    · exact r4
    · exact r5
    · exact r6
    · exact r7
    · exact r8
    · exact r9
    · exact r10
    · show 0<140737488352000
      decide
set_option maxRecDepth 20000 in
theorem open_sec {base:Nat} {v:Value} {d:DataW H} {ps:List MemPlace} {ts:List TypeId} {ds:List (DataW H)} (hval:Value.okWide Tryz.prog W .any base 48 v) (h:DataW.Trod enc Tryz.prog W 0 (fun _=>true) true 48 v d ps)
 (hR:(DataW.weightsEach Tryz.prog ts ds).all (·≤reachBytes)=true) {j:Nat} (ht:ts[j]? = some 48) (hd:ds[j]? = some d):∃ cs N B,v = .agg cs.toArray∧TxRow W cs 11 N B∧(∀ i j,B i j<256)∧(∀ i,N i<140737488352000):=by
 obtain ⟨f0,f1,f2,f3,f4,f5,f6,f7,f8,f9,f10,hu,-⟩:=under_sec
 obtain ⟨cs,rfl,-⟩:=okWide_struct hu hval
 obtain ⟨fuel,hf⟩:=h
 have hR':(DataW.weightsEach Tryz.prog [48] [d]).all (·≤reachBytes)=true:=List.all_eq_true.2 fun x hx=>List.all_eq_true.1 hR x (DataW.weights_mem_each ht hd x (by simpa [DataW.weightsEach] using hx))
 obtain ⟨N,B,h1,h2,h3⟩:=secC (x:=(d,ps)) (cs:=cs.toList) hf hR'
 exact ⟨cs.toList,N,B,by simp,h1,h2,h3⟩
end
end Go.Proofs.YtibmlmmoifgliaaGreatDoor
namespace Go.Proofs.YtibmlmmoifgliaaGreatDoor
open Go.RowKit
theorem lXpd_lt:∀ x,x∈lXpd→x<256:=by decide
theorem export_both (N:Nat→Nat) (B:Nat→Nat→Nat) (lB:∀ i j,B i j<256) (hN:N 2<140737488355000) (l:List Nat) (hl:∀ x,x∈l→x<256) (m:Nat) (b:Nat→Nat) (lb:∀ j,b j<256) (hm:m<140737488355000) (n:Int) :
 ∃ S E,(∀ cs v W,TabAt W→TxRow W cs 11 N B→BytesIn W v m b→AnE5 23 #[.agg cs.toArray,.string (strL l),v,.int .i64 n] W S E)∧(∀ cs v W,TxRow W cs 11 N B→BytesIn W v m b→AnE5 25 #[.agg cs.toArray,.string (strL l),v,.int .i64 n] W S E):=by
 by_cases hll:l.length≤65528
 · by_cases hn:0≤n∧n≤8160
   · obtain ⟨M,rfl⟩:∃ M:Nat,n=(M:Int):=⟨n.toNat,by omega⟩
     have lX:∀ j,exN 32 (exN (N 2) (B 2) l 0 lZ 32) lXpd 32 (smN m b) M j<256:=exN_lt _ _ _ _ _ _
     refine ⟨strB M (exN 32 (exN (N 2) (B 2) l 0 lZ 32) lXpd 32 (smN m b) M),0,fun cs v W hT hs hv => ?_,fun cs v W hs hv => ?_⟩
     · exact (export_any cs N B lB l hl v m b lb hN hm M 0 (.inl rfl) (fun v W=>Cs W v (strB M (exN 32 (exN (N 2) (B 2) l 0 lZ 32) lXpd 32 (smN m b) M))) (fun h=>by cases h) hll (fun W u y hT hu hy=>anE5 lX (cExpand_good lXpd lXpd_lt (by decide) u y 32 32 _ _ (exN_lt _ _ _ _ _ _) (smN_lt m b) (by decide) (by decide) M (by omega) W hT.h hu hy)) W hT hs hv)
     · exact (rExport_any cs N B lB l hl v m b lb hN hm M 0 (fun v W=>Cs W v (strB M (exN 32 (exN (N 2) (B 2) l 0 lZ 32) lXpd 32 (smN m b) M))) hll (fun W u y hu hy=>anE5 lX (rExpand_good5 lXpd lXpd_lt (by decide) u y 32 32 _ _ (exN_lt _ _ _ _ _ _) (smN_lt m b) (by decide) (by decide) M (by omega) W hu hy)) W hs hv)
   · refine ⟨strB 0 lZ,6,fun cs v W hT hs hv => ?_,fun cs v W hs hv => ?_⟩
     · exact (export_any cs N B lB l hl v m b lb hN hm n 6 (.inr rfl) (fun v W=>Cs W v (strB 0 lZ)) (fun _ W=>(nil_bytes W lZ).cs lZ_lt5) hll (fun W u y hT hu hy=>anE50 (cExpand_many lXpd lXpd_lt (by decide) u y 32 _ (smN_lt m b) (by decide) n (by omega) W hy)) W hT hs hv)
     · exact (rExport_any cs N B lB l hl v m b lb hN hm n 6 (fun v W=>Cs W v (strB 0 lZ)) hll (fun W u y hu hy=>anE50 ((rExpand_bad5 lXpd u y 32 _ n (.inr ⟨by decide,by decide,by omega⟩) W hy).mono fun _ _ ⟨p,q⟩=>⟨p,q ▸ Below.refl _ _⟩)) W hs hv)
 · refine ⟨strB 0 lZ,6,fun cs v W hT hs hv => ?_,fun cs v W hs hv => ?_⟩
   · exact anE50 (export_long cs N B l v m b lb hm n (by omega) W hT hs hv)
   · exact anE50 (rExport_long cs N B l v hv.isSl n (by omega) W hs)
theorem tag_both (N:Nat→Nat) (B:Nat→Nat→Nat) (lB:∀ i j,B i j<256) (hN:N 4<140737488354000) (m:Nat) (b:Nat→Nat) (lb:∀ j,b j<256) (hm:m<140737488354000) :
 ∃ S,(∀ cs v W,TabAt W→TxRow W cs 11 N B→BytesIn W v m b→AnB5 26 #[.agg cs.toArray,v] W S)∧(∀ cs v W,TxRow W cs 11 N B→BytesIn W v m b→AnB5 27 #[.agg cs.toArray,v] W S) :=
 ⟨_,fun cs v W hT hs hv=>anB5 (xtN_lt _ _ _ _) ((tagS_any cs N B lB v m b lb (by omega) (by omega) W hT hs hv).mono fun _ _ ⟨_,_,p1,p2,p3⟩=>⟨_,p1,p2,p3⟩),fun cs v W hs hv=>anB5 (xtN_lt _ _ _ _) ((rTagS_any cs N B lB v m b lb hN hm W hs hv).mono fun _ _ ⟨_,_,p1,p2,p3⟩=>⟨_,p1,p2,p3⟩)⟩
theorem confirmed_both (n m:Nat) (a b:Nat→Nat) (la:∀ j,a j<256) (lb:∀ j,b j<256) (hs:n+m≤100000000) :
 ∃ S,(∀ u v W,TabAt W→BytesIn W u n a→BytesIn W v m b→AnB5 28 #[u,v] W S)∧(∀ u v W,BytesIn W u n a→BytesIn W v m b→AnB5 29 #[u,v] W S) :=
 ⟨_,fun u v W hT h1 h2=>anB5 (smN_lt _ _) ((confirmed_any u v n m a b la lb hs W hT h1 h2).mono fun _ _ ⟨_,_,p1,p2,p3⟩=>⟨_,p1,p2,p3⟩),fun u v W h1 h2=>anB5 (smN_lt _ _) ((rConfirmed_any u v n m a b la lb hs W h1 h2).mono fun _ _ ⟨_,_,p1,p2,p3⟩=>⟨_,p1,p2,p3⟩)⟩
theorem interim_both (n m:Nat) (a b:Nat→Nat) (la:∀ j,a j<256) (lb:∀ j,b j<256) (hn:n≤99000000) :
 ∃ S,(∀ u v W,TabAt W→BytesIn W u n a→BytesIn W v m b→AnB5 30 #[u,v] W S)∧(∀ u v W,BytesIn W u n a→BytesIn W v m b→AnB5 31 #[u,v] W S):=by
 by_cases hm:m≤255
 · exact ⟨_,fun u v W hT h1 h2=>anB5 (smN_lt _ _) ((interim_good u v n m a b la lb hn hm W hT h1 h2).mono fun _ _ ⟨_,_,p1,p2,p3⟩=>⟨_,p1,p2,p3⟩),fun u v W h1 h2=>anB5 (smN_lt _ _) ((rInterim_good u v n m a b la lb hn hm W h1 h2).mono fun _ _ ⟨_,_,p1,p2,p3⟩=>⟨_,p1,p2,p3⟩)⟩
 · exact ⟨_,fun u v W _ _ h2=>anB50 (interim_long u v m b (by omega) W h2),fun u v W _ h2=>anB50 (rInterim_long u v m b (by omega) W h2)⟩
theorem eleven:∀ (cs:List Value),cs.length=11→∃ a0 a1 a2 a3 a4 a5 a6 a7 a8 a9 a10,cs=[a0,a1,a2,a3,a4,a5,a6,a7,a8,a9,a10]
 | [_,_,_,_,_,_,_,_,_,_,_],_=>⟨_,_,_,_,_,_,_,_,_,_,_,rfl⟩
set_option maxRecDepth 40000 in
set_option maxHeartbeats 16000000 in
theorem schedTags_any (cs:List Value) (N:Nat→Nat) (B:Nat→Nat→Nat) (lB:∀ i j,B i j<256) (hN:∀ i,N i<140737488354000) (va vb:Value) (n1 n2:Nat) (b1 b2:Nat→Nat) (lb1:∀ j,b1 j<256) (lb2:∀ j,b2 j<256) (k1:n1≤10000000) (k2:n2≤10000000) (l:List Nat) (hl:∀ x,x∈l→x<256) (n:Int) (w:World) (hT:TabAt w) (hs:TxRow w cs 11 N B) (ha:BytesIn w va n1 b1) (hb:BytesIn w vb n2 b2) :
 Calls Tryz.prog 5 #[.agg cs.toArray,va,vb,.string (strL l),.int .i64 n] w fun e w'=>e = .returned (.bool true)∧Below w.heap.size w w':=by
 have hN5:∀ i,N i<140737488355000:=fun i=>by have:=hN i;omega
 obtain ⟨SE,EE,cE0,rE0⟩:=export_both N B lB (hN5 2) l hl n1 b1 lb1 (by omega) n
 obtain ⟨ST,cT0,rT0⟩:=tag_both N B lB (hN 4) n1 b1 lb1 (by omega)
 obtain ⟨SF,cF0,rF0⟩:=confirmed_both n1 n2 b1 b2 lb1 lb2 (by omega)
 obtain ⟨SI,cI0,rI0⟩:=interim_both n1 n2 b1 b2 lb1 lb2 (by omega)
 generalize strL l=SL at *
 obtain ⟨P,hPd⟩:∃ P:World→Prop,P=fun W=>TabAt W∧TxRow W cs 11 N B∧BytesIn W va n1 b1∧BytesIn W vb n2 b2:=⟨_,rfl⟩
 have kp:∀ W W',P W→Below W.heap.size W W'→P W':=by
  rw [hPd]
  exact fun W W' h hb=>⟨h.1.still hb,h.2.1.still hb,h.2.2.1.keep hb,h.2.2.2.keep hb⟩
 have hP0:P w:=by rw [hPd];exact ⟨hT,hs,ha,hb⟩
 have cLa:=fun (W:World) (h:P W)=>lent_any va n1 b1 W (by rw [hPd] at h;exact h.2.2.1) (by omega)
 have cLb:=fun (W:World) (h:P W)=>lent_any vb n2 b2 W (by rw [hPd] at h;exact h.2.2.2) (by omega)
 have cS:=fun (W:World) (h:P W)=>lawSec_any cs N B hN5 W (by rw [hPd] at h;exact h.2.1)
 have cE:=fun (ds:List Value) (x:Value) (W:World) (h:P W) (q1:TxRow W ds 11 N B) (q2:BytesIn W x n1 b1)=>cE0 ds x W (by rw [hPd] at h;exact h.1) q1 q2
 have rE:=fun (W:World) (h:P W)=>rE0 cs va W (by rw [hPd] at h;exact h.2.1) (by rw [hPd] at h;exact h.2.2.1)
 have cT:=fun (ds:List Value) (x:Value) (W:World) (h:P W) (q1:TxRow W ds 11 N B) (q2:BytesIn W x n1 b1)=>cT0 ds x W (by rw [hPd] at h;exact h.1) q1 q2
 have rT:=fun (W:World) (h:P W)=>rT0 cs va W (by rw [hPd] at h;exact h.2.1) (by rw [hPd] at h;exact h.2.2.1)
 have cF:=fun (x y:Value) (W:World) (h:P W) (q1:BytesIn W x n1 b1) (q2:BytesIn W y n2 b2)=>cF0 x y W (by rw [hPd] at h;exact h.1) q1 q2
 have rF:=fun (W:World) (h:P W)=>rF0 va vb W (by rw [hPd] at h;exact h.2.2.1) (by rw [hPd] at h;exact h.2.2.2)
 have cI:=fun (x y:Value) (W:World) (h:P W) (q1:BytesIn W x n1 b1) (q2:BytesIn W y n2 b2)=>cI0 x y W (by rw [hPd] at h;exact h.1) q1 q2
 have rI:=fun (W:World) (h:P W)=>rI0 va vb W (by rw [hPd] at h;exact h.2.2.1) (by rw [hPd] at h;exact h.2.2.2)
 have st1:=fun (g m:Nat) (W:World) (h:P W) (l:LntAt W g m n1 b1)=>stays_any g m n1 _ b1 lb1 _ (by omega:n1<140737488355000) l.cap l.row (by rw [hPd] at h;exact h.2.2.1:BytesIn W va n1 b1)
 have st2:=fun (g m:Nat) (W:World) (h:P W) (l:LntAt W g m n2 b2)=>stays_any g m n2 _ b2 lb2 _ (by omega:n2<140737488355000) l.cap l.row (by rw [hPd] at h;exact h.2.2.2:BytesIn W vb n2 b2)
 have hKn:=fun (W:World) (h:P W)=>knows16 W (by rw [hPd] at h;exact h.1)
 obtain ⟨xa,da,rfl,-⟩:=ha.src
 obtain ⟨xb,db,rfl,-⟩:=hb.src
 have e1:(SE.toList == SE.toList)=true:=beq_self_eq_true _
 have e2:(ST.toList == ST.toList)=true:=beq_self_eq_true _
 have e3:(SF.toList == SF.toList)=true:=beq_self_eq_true _
 have e4:(SI.toList == SI.toList)=true:=beq_self_eq_true _
 obtain ⟨v0,v1,v2,v3,v4,v5,v6,v7,v8,v9,v10,rfl⟩:=eleven cs hs.1
 have bx:Below w.heap.size w (w.alloc (.cells #[v0,v1,v2,v3,v4,v5,v6,v7,v8,v9,v10] 48)):=(Below.refl _ _).alloc (Nat.le_refl _) _
 have kx0:=RW.fresh w [v0,v1,v2,v3,v4,v5,v6,v7,v8,v9,v10] 48
 have P0:=kp _ _ hP0 bx
 have HX:=Hid.mk' bx
 have HK:=Hid.mk' kx0
 clear hPd hT hs ha hb cE0 rE0 cT0 rT0 cF0 rF0 cI0 rI0 lB hN hN5 lb1 lb2 k1 k2 hl hP0 bx kx0
 go_enter Tryz.func5,Tryz.ntmps5
 go_upto_region 5 with (first
  | (go_at_call 6;refine (cLa _ P0).mono ?_;clear cLa;rintro e w1_ ⟨g1,m1,rfl,hc1,-,r1,hb1⟩;(have l1:LntAt w1_ g1 m1 n1 b1:=⟨hc1,r1⟩);have P1:=kp _ _ P0 hb1;have hw1:=below_next HX.out hb1;have kx1:=HK.out.still hb1;clear P0 hc1 r1 HX HK hb1)
  | (go_at_call 6;refine (cLb _ P1).mono ?_;clear cLb;rintro e w2_ ⟨g2,m2,rfl,hc2,-,r2,hb2⟩;(have l2:LntAt w2_ g2 m2 n2 b2:=⟨hc2,r2⟩);(replace l1:=l1.still hb2);have hP:=kp _ _ P1 hb2;have hw:=below_next hw1 hb2;have kx:=kx1.still hb2;clear P1 hc2 r2 hw1 kx1 hb2)
  | (refine wpList_load_mid rfl 48 (.tmp 5) rfl w.heap.size 0 rfl _ _ kx.range Tryz.underlying48 rfl (infoSecR rfl) ?_)
  | (go_at_call 24;refine (cS _ hP).mono ?_;rintro e w3 ⟨ds,rfl,X3,hb⟩;(replace hP:=kp _ _ hP hb);(replace kx:=kx.still hb);(replace hw:=below_next hw hb);(replace l1:=l1.still hb);(replace l2:=l2.still hb);clear hb)
  | (go_at_call 23;refine (cE _ _ _ hP X3 l1.bytes).mono ?_;clear cE X3;rintro e w4_ ⟨xc,nc,cc,rfl,tc,hb⟩;(replace hP:=kp _ _ hP hb);(replace kx:=kx.still hb);(replace hw:=below_next hw hb);(replace l1:=l1.still hb);(replace l2:=l2.still hb);clear hb)
  | (go_at_call 25;refine (rE _ hP).mono ?_;clear rE;rintro e w4 ⟨xd,nd,cd,rfl,td,hb⟩;(replace hP:=kp _ _ hP hb);(replace kx:=kx.still hb);(replace hw:=below_next hw hb);(replace l1:=l1.still hb);(replace l2:=l2.still hb);(replace tc:=tc.still hb);clear hb))
 have hdr:Below w4.heap.size w4 w4.drew:=(Below.refl _ _).drew
 replace hP:=kp _ _ hP hdr
 replace l1:=l1.still hdr
 replace l2:=l2.still hdr
 replace kx:=kx.still hdr
 replace tc:=tc.still hdr
 replace td:=td.still hdr
 replace hw:=below_next hw hdr
 clear hdr
 refine wp_region_noPanic ?_
 refine wp_region_held_drew (S:=fun u=>Below w4.drew.heap.size w4.drew u) (by kernel_rfl) (Below.refl _ _) (fun hS => ?_)
 generalize w4.drew=V at *
 refine tl 0 kx hS 48 Tryz.underlying48 (infoSecR rfl) ?_
 (try simp only [pS])
 refine tg 2 hS ?_
 (try simp only [pS])
 refine tl 5 kx hS 48 Tryz.underlying48 (infoSecR rfl) ?_
 (try simp only [pS])
 refine tg 6 hS ?_
 (try simp only [pS])
 refine cn 1 (cS V hP) ?_
 rintro e u1 ⟨ds,rfl,X1,hb⟩
 refine ⟨_,rfl,hb,?_⟩
 replace hP:=kp _ _ hP hb
 replace l1:=l1.still hb
 replace l2:=l2.still hb
 replace kx:=kx.still hb
 replace tc:=tc.still hb
 replace td:=td.still hb
 replace hw:=below_next hw hb
 clear hS hb
 have hS:=Below.refl u1.heap.size u1
 (try simp only [pS])
 refine cn 3 (cT _ _ u1 hP X1 l1.bytes) ?_
 rintro e u2 ⟨y1,mm1,q1,rfl,t1,hb⟩
 refine ⟨_,rfl,hb,?_⟩
 clear X1
 replace hP:=kp _ _ hP hb
 replace l1:=l1.still hb
 replace l2:=l2.still hb
 replace kx:=kx.still hb
 replace tc:=tc.still hb
 replace td:=td.still hb
 replace hw:=below_next hw hb
 clear hS hb
 have hS:=Below.refl u2.heap.size u2
 (try simp only [pS])
 refine tg 4 hS (hy:=by intro u hu;have q:=t1.conv u hu;go_simp;try with_reducible rfl) ?_
 (try simp only [pS])
 refine cn 7 (rT u2 hP) ?_
 rintro e u3 ⟨y2,mm2,q2,rfl,t2,hb⟩
 refine ⟨_,rfl,hb,?_⟩
 replace hP:=kp _ _ hP hb
 replace l1:=l1.still hb
 replace l2:=l2.still hb
 replace kx:=kx.still hb
 replace tc:=tc.still hb
 replace td:=td.still hb
 replace t1:=t1.still hb
 replace hw:=below_next hw hb
 clear hS hb
 have hS:=Below.refl u3.heap.size u3
 (try simp only [pS])
 refine tg 8 hS (hy:=by intro u hu;have q:=t2.conv u hu;go_simp;try with_reducible rfl) ?_
 (try simp only [pS])
 refine tg 9 hS ?_
 (try simp only [pS])
 refine tg 10 hS ?_
 (try simp only [pS])
 refine tg 11 hS ?_
 (try simp only [pS])
 refine tg 12 hS ?_
 (try simp only [pS])
 refine tg 15 hS ?_
 (try simp only [pS])
 refine tg 16 hS ?_
 (try simp only [pS])
 refine cn 13 (cF _ _ u3 hP l1.bytes l2.bytes) ?_
 rintro e u4 ⟨y3,mm3,q3,rfl,t3,hb⟩
 refine ⟨_,rfl,hb,?_⟩
 clear t1
 clear t2
 replace hP:=kp _ _ hP hb
 replace l1:=l1.still hb
 replace l2:=l2.still hb
 replace kx:=kx.still hb
 replace tc:=tc.still hb
 replace td:=td.still hb
 replace hw:=below_next hw hb
 clear hS hb
 have hS:=Below.refl u4.heap.size u4
 (try simp only [pS])
 refine tg 14 hS (hy:=by intro u hu;have q:=t3.conv u hu;go_simp;try with_reducible rfl) ?_
 (try simp only [pS])
 refine cn 17 (rF u4 hP) ?_
 rintro e u5 ⟨y4,mm4,q4,rfl,t4,hb⟩
 refine ⟨_,rfl,hb,?_⟩
 replace hP:=kp _ _ hP hb
 replace l1:=l1.still hb
 replace l2:=l2.still hb
 replace kx:=kx.still hb
 replace tc:=tc.still hb
 replace td:=td.still hb
 replace t3:=t3.still hb
 replace hw:=below_next hw hb
 clear hS hb
 have hS:=Below.refl u5.heap.size u5
 (try simp only [pS])
 refine tg 18 hS (hy:=by intro u hu;have q:=t4.conv u hu;go_simp;try with_reducible rfl) ?_
 (try simp only [pS])
 refine tg 19 hS ?_
 (try simp only [pS])
 refine tg 20 hS ?_
 (try simp only [pS])
 refine tg 21 hS ?_
 (try simp only [pS])
 refine tg 22 hS ?_
 (try simp only [pS])
 refine tg 23 hS ?_
 (try simp only [pS])
 refine tg 26 hS ?_
 (try simp only [pS])
 refine tg 27 hS ?_
 (try simp only [pS])
 refine cn 24 (cI _ _ u5 hP l1.bytes l2.bytes) ?_
 rintro e u6 ⟨y5,mm5,q5,rfl,t5,hb⟩
 refine ⟨_,rfl,hb,?_⟩
 clear t3
 clear t4
 replace hP:=kp _ _ hP hb
 replace l1:=l1.still hb
 replace l2:=l2.still hb
 replace kx:=kx.still hb
 replace tc:=tc.still hb
 replace td:=td.still hb
 replace hw:=below_next hw hb
 clear hS hb
 have hS:=Below.refl u6.heap.size u6
 (try simp only [pS])
 refine tg 25 hS (hy:=by intro u hu;have q:=t5.conv u hu;go_simp;try with_reducible rfl) ?_
 (try simp only [pS])
 refine cn 28 (rI u6 hP) ?_
 rintro e u7 ⟨y6,mm6,q6,rfl,t6,hb⟩
 refine ⟨_,rfl,hb,?_⟩
 replace hP:=kp _ _ hP hb
 replace l1:=l1.still hb
 replace l2:=l2.still hb
 replace kx:=kx.still hb
 replace tc:=tc.still hb
 replace td:=td.still hb
 replace t5:=t5.still hb
 replace hw:=below_next hw hb
 clear hS hb
 have hS:=Below.refl u7.heap.size u7
 (try simp only [pS])
 refine tg 29 hS (hy:=by intro u hu;have q:=t6.conv u hu;go_simp;try with_reducible rfl) ?_
 (try simp only [pS])
 refine tg 30 hS ?_
 (try simp only [pS])
 refine tg 31 hS ?_
 (try simp only [pS])
 refine tg 32 hS ?_
 (try simp only [pS])
 refine tg 33 hS ?_
 (try simp only [pS])
 refine tg 34 hS (hy:=by intro u hu;have q:=tc.conv u hu;go_simp;try with_reducible rfl) ?_
 (try simp only [pS])
 refine tg 35 hS ?_
 (try simp only [pS])
 refine tg 36 hS (hy:=by intro u hu;have q:=td.conv u hu;go_simp;try with_reducible rfl) ?_
 (try simp only [pS])
 refine tg 37 hS ?_
 (try simp only [pS])
 refine tg 38 hS ?_
 (try simp only [pS])
 refine tg 39 hS ?_
 (try simp only [pS])
 refine tg 40 hS ?_
 (try simp only [pS])
 refine tg 42 hS ?_
 (try simp only [pS])
 refine cn 41 (num16_any EE u7) ?_
 rintro e wn ⟨rfl,hwn⟩
 obtain rfl:=hwn.symm
 refine ⟨_,rfl,Below.refl _ _,?_⟩
 clear hS
 have hS:=Below.refl u7.heap.size u7
 (try simp only [pS])
 refine tg 43 hS ?_
 (try simp only [pS])
 refine tg 44 hS ?_
 (try simp only [pS])
 refine tg 45 hS ?_
 (try simp only [pS])
 refine tg 46 hS ?_
 (try simp only [pS])
 refine tg 47 hS ?_
 (try simp only [pS])
 refine cn 48 (st1 g1 m1 u7 hP l1) ?_
 rintro e u9 ⟨rfl,hb⟩
 refine ⟨_,rfl,hb,?_⟩
 clear t5
 clear t6
 clear tc
 clear td
 replace hP:=kp _ _ hP hb
 replace l1:=l1.still hb
 replace l2:=l2.still hb
 replace kx:=kx.still hb
 replace hw:=below_next hw hb
 clear hS hb
 have hS:=Below.refl u9.heap.size u9
 (try simp only [pS])
 refine tg 49 hS ?_
 (try simp only [pS])
 refine tg 50 hS ?_
 (try simp only [pS])
 refine tg 51 hS ?_
 (try simp only [pS])
 refine tg 52 hS ?_
 (try simp only [pS])
 refine cn 53 (st2 g2 m2 u9 hP l2) ?_
 rintro e u10 ⟨rfl,hb⟩
 refine ⟨_,rfl,hb,?_⟩
 replace hP:=kp _ _ hP hb
 replace l1:=l1.still hb
 replace l2:=l2.still hb
 replace kx:=kx.still hb
 replace hw:=below_next hw hb
 clear hS hb
 have hS:=Below.refl u10.heap.size u10
 (try simp only [pS])
 refine tg 54 hS ?_
 (try simp only [pS])
 refine tg 55 hS ?_
 (try simp only [pS])
 refine cn 56 (hKn u10 hP) ?_
 rintro e u11 ⟨rfl,hb⟩
 refine ⟨_,rfl,hb,?_⟩
 replace hP:=kp _ _ hP hb
 replace l1:=l1.still hb
 replace l2:=l2.still hb
 replace kx:=kx.still hb
 replace hw:=below_next hw hb
 clear hS hb
 have hS:=Below.refl u11.heap.size u11
 (try simp only [pS])
 refine tg 57 hS ?_
 (try simp only [pS])
 refine tg 58 hS ?_
 (try simp only [pS])
 refine wpAnyH_done (by kernel_rfl) ?_ _
 refine NoPanic.normal ?_
 go_wp2
 go_ret
 exact ⟨rfl,hw⟩
end Go.Proofs.YtibmlmmoifgliaaGreatDoor
