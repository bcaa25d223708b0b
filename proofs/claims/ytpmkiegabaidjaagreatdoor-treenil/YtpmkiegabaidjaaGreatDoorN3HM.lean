/- What the proof stands on: N3H, D1CF, D1KN, D1BR, N3F, N3G, N3D. -/
import Derived.Test.YtpmkiegabaidjaaGreatDoorD1CGM
import Derived.Test.YtpmkiegabaidjaaGreatDoorT4AM
import Derived.Lib.SlBytesConst
namespace Go.Proofs.YtpmkiegabaidjaaGreatDoor
open Go.RowKit
theorem neC {w:World} {g h:Nat} {x y:Value} {xs ys:List Value} (r:RW w g 0 (x :: xs)) (s:RW w h 0 (y :: ys)) (hn:x≠y):g≠h:=fun e=>by
 subst e
 exact hn (Option.some.inj ((r.cell (o:=0) rfl).symm.trans (s.cell (o:=0) rfl)))
theorem all3 (i j k:Nat) (c d e:Array Value):(#[clo i c,clo j d,clo k e]:Array Value).all (·.oneCell')=true:=by simp [clo,Value.oneCell']
theorem rgS {w:World} {g o:Nat} {X Y Z:Value} (h:w.there g o 3):(w.setCells g o [X,Y,Z]).rangeAt g o [X,Y,Z]:=World.rangeAt_setCells_same _ _ _ _ h
def LhF (base:Nat) (w:World) (F:Value) (p o:Nat):Prop:=∃ q q0 q1 s1 s2 s3 g9 g10 k,F = .agg #[clo 293 #[pA k 0],clo 294 #[pA k 0],clo 295 #[pA k 0]]∧(base≤q∧base≤q0∧base≤q1∧base≤s1∧base≤s2∧base≤s3∧base≤g9∧base≤g10∧base≤k) ∧
 RW w q 0 [pA p o]∧RW w q0 0 [pA p (o+4)]∧RW w q1 0 [pA p (o+4)]∧RW w s1 0 [pA p (o+4)]∧RW w s2 0 [.int .i64 0]∧RW w s3 0 [.int .i64 0] ∧
 RW w g9 0 [clo 268 #[pA q0 0],clo 265 #[pA q1 0],clo 267 #[pA q1 0]] ∧
 RW w g10 0 [clo 264 #[pA s1 0,pA s2 0,pA s3 0],clo 300 #[],clo 301 #[]]∧RW w k 0 [clo 292 #[pA q 0,pA g9 0,pA g10 0]]
set_option maxRecDepth 20000 in
set_option maxHeartbeats 4000000 in
theorem lh_any (p o:Nat) (w:World):Calls Tryz.prog 263 #[pA p o] w fun e w'=>∃ F,e = .returned F∧LhF w.heap.size w' F p o∧Below w.heap.size w w':=by
 have hmf:∀ (fn:Fn) (first cap:Array Value) (w:World),(Instr.makeFunc fn first cap).run Tryz.prog w = .ok (.func fn first cap) w:=fun _ _ _ _=>rfl
 obtain ⟨k1,b1,s1'⟩:=bx w (pA p o) 226
 obtain ⟨U,hU⟩:∃ U,U=w.alloc (.cells #[pA p o] 226):=⟨_,rfl⟩
 have HU:=Hid.mk' hU
 rw [←hU] at k1 b1 s1'
 go_enter Tryz.func263,Tryz.ntmps263
 go_upto_region 1 with (fail)
 rw [←HU.out,←s1']
 have s1h:=Hid.mk' s1'
 clear hU HU s1'
 have b2:Below U.heap.size U (U.alloc (.cells #[.nilFunc,.nilFunc,.nilFunc] 243)):=(Below.refl _ _).alloc (Nat.le_refl _) _
 have k2:=RW.fresh U [.nilFunc,.nilFunc,.nilFunc] 243
 have k1':=k1.still b2
 generalize U.alloc (.cells #[.nilFunc,.nilFunc,.nilFunc] 243)=W at *
 have k0:=k1'.drew
 have k2d:=k2.drew
 have bd:Below w.heap.size w W.drew:=(below_next b1 b2).drew
 have l0:=k0.lt
 have ck:=k0.cell (o:=0) rfl
 refine wp_region_held_drew (S:=fun u=>Below W.drew.heap.size W.drew u) (by kernel_rfl) (Below.refl _ _) (fun hS => ?_)
 generalize W.drew=V at *
 obtain ⟨oh,hoh⟩:∃ oh,oh=o+4:=⟨_,rfl⟩
 have Hoh:=Hid.mk' hoh
 refine tc 0 hS (fun u hu=>(hu.cell (p:=⟨w.heap.size,0,none⟩) l0).trans ck) ?_
 (try simp only [pS])
 refine tg 1 hS ?_
 (try simp only [pS])
 refine tg 2 hS (v:=pA p oh) ?_ (hy:=by intro u _;rw [Hoh.out];kernel_rfl)
 (try simp only [pS])
 refine tc 4 hS (fun u hu=>(hu.cell (p:=⟨w.heap.size,0,none⟩) l0).trans ck) ?_
 (try simp only [pS])
 refine tg 5 hS ?_
 (try simp only [pS])
 refine tg 6 hS (v:=pA p oh) ?_ (hy:=by intro u _;rw [Hoh.out];kernel_rfl)
 (try simp only [pS])
 refine dag_root (fun G hG0 => ?_)
 have hG:=Hid.mk' hG0
 clear hG0
 obtain ⟨F,hF0⟩:∃ F:Value→Value→Value→Value→Value→Act,∀ v3 v4 v9 v13 v14,F v3 v4 v9 v13 v14={ tmps:=#[pA p o,pA w.heap.size 0,pA U.heap.size 0,v3,v4,undef,pA p o,pA p o,pA p oh,v9,pA p o,pA p o,pA p oh,v13,v14,undef,undef,undef,undef,undef],defers:=[] }:=⟨_,fun _ _ _ _ _=>rfl⟩
 have hF:=Hid.mk' hF0
 clear hF0
 have st0:Hid (∀ (cur:World) (q0 q1 s1 s2 s3 g9 g10:Nat),Below V.heap.size V cur→RW cur q0 0 [pA p oh]→RW cur q1 0 [pA p oh]→V.heap.size≤q0→V.heap.size≤q1→RW cur s1 0 [pA p oh]→RW cur s2 0 [.int .i64 0]→RW cur s3 0 [.int .i64 0]→V.heap.size≤s1→V.heap.size≤s2→V.heap.size≤s3→RW cur g9 0 [clo 268 #[pA q0 0],clo 265 #[pA q1 0],clo 267 #[pA q1 0]]→V.heap.size≤g9→RW cur g10 0 [clo 264 #[pA s1 0,pA s2 0,pA s3 0],clo 300 #[],clo 301 #[]]→V.heap.size≤g10→g9≠g10→G 0 #[true,true,true,true,true,true,true,true,true,true,true,true,true] (F (pA g9 0) (pA g10 0) (.agg #[clo 268 #[pA q0 0],clo 265 #[pA q1 0],clo 267 #[pA q1 0]]) (.agg #[clo 264 #[pA s1 0,pA s2 0,pA s3 0],clo 265 #[pA s1 0],clo 267 #[pA s1 0]]) (.agg #[clo 264 #[pA s1 0,pA s2 0,pA s3 0],clo 300 #[],clo 301 #[]])) cur):=Hid.mk' (by
  intro cur q0 q1 s1 s2 s3 g9 g10 hS rq0 rq1 nq0 nq1 rs1 rs2 rs3 ns1 ns2 ns3 r9 n9 r10 n10 d
  rw [hF.out,hG.out]
  refine wpAnyH_done (by kernel_rfl) ?_ _
  have k2c:=k2d.still hS
  have k0c:=k0.still hS
  (try simp only [pS])
  clear hmf
  have hmf:∀ (fn:Fn) (first cap:Array Value) (w:World),(Instr.makeFunc fn first cap).run Tryz.prog w = .ok (.func fn first cap) w:=fun _ _ _ _=>rfl
  obtain ⟨x2,y2,z1⟩:=bx cur (clo 292 #[pA w.heap.size 0,pA g9 0,pA g10 0]) 278
  go_upto_region 3 with (fail)
  rw [show Value.func (Fn.func 292) #[] #[pA w.heap.size 0,pA g9 0,pA g10 0]=clo 292 #[pA w.heap.size 0,pA g9 0,pA g10 0] from rfl]
  have k2e:=k2c.still y2
  have k0e:=k0c.still y2
  have rq0:=rq0.still y2
  have rq1:=rq1.still y2
  have rs1:=rs1.still y2
  have rs2:=rs2.still y2
  have rs3:=rs3.still y2
  have r9:=r9.still y2
  have r10:=r10.still y2
  generalize cur.alloc (.cells #[clo 292 #[pA w.heap.size 0,pA g9 0,pA g10 0]] 278)=W5 at *
  clear hmf
  have hmf:∀ (fn:Fn) (first cap:Array Value) (w:World),(Instr.makeFunc fn first cap).run Tryz.prog w = .ok (.func fn first cap) w:=fun _ _ _ _=>rfl
  go_wp2_with (with_reducible (refine id (?_:wpList _ _ _ _ _ _));refine stF _ _ rfl rfl rfl rfl k2e.there ?_ rfl)
  refine bodyPost_ret (resF Tryz.results263 _ _ _ 0 _ _ _ rfl (rgS k2e.there)) rfl ?_
  have hs:=hS.size
  have hl:=k2d.lt
  have hu:=b1.size
  have hU2:U.heap.size=w.heap.size+1:=s1h.out
  have f:∀ {g:Nat} {cs:List Value},RW W5 g 0 cs→g≠U.heap.size→RW (W5.setCells U.heap.size 0 [clo 293 #[pA cur.heap.size 0],clo 294 #[pA cur.heap.size 0],clo 295 #[pA cur.heap.size 0]]) g 0 cs:=fun h hn=>h.far _ _ _ (.inl hn)
  rw [Hoh.out] at rq0 rq1 rs1
  refine ⟨_,rfl,⟨w.heap.size,q0,q1,s1,s2,s3,g9,g10,cur.heap.size,rfl,⟨Nat.le_refl _,by omega,by omega,by omega,by omega,by omega,by omega,by omega,by omega⟩,f k0e (by omega),f rq0 (by omega),f rq1 (by omega),f rs1 (by omega),f rs2 (by omega),f rs3 (by omega),f r9 (by omega),f r10 (by omega),f x2 (by omega)⟩,?_⟩
  exact below_setCells (by omega) _ _ _ (below_next (below_next bd hS) y2))
 have st1:Hid (∀ (cur:World) (q0 q1 s1 s2 s3 g9 g10:Nat),Below V.heap.size V cur→RW cur q0 0 [pA p oh]→RW cur q1 0 [pA p oh]→V.heap.size≤q0→V.heap.size≤q1→RW cur s1 0 [pA p oh]→RW cur s2 0 [.int .i64 0]→RW cur s3 0 [.int .i64 0]→V.heap.size≤s1→V.heap.size≤s2→V.heap.size≤s3→RW cur g9 0 [clo 268 #[pA q0 0],clo 265 #[pA q1 0],clo 267 #[pA q1 0]]→V.heap.size≤g9→RW cur g10 0 [.nilFunc,.nilFunc,.nilFunc]→V.heap.size≤g10→g9≠g10→G 1 #[true,true,true,true,true,true,true,true,true,true,true,true,false] (F (pA g9 0) (pA g10 0) (.agg #[clo 268 #[pA q0 0],clo 265 #[pA q1 0],clo 267 #[pA q1 0]]) (.agg #[clo 264 #[pA s1 0,pA s2 0,pA s3 0],clo 265 #[pA s1 0],clo 267 #[pA s1 0]]) (.agg #[clo 264 #[pA s1 0,pA s2 0,pA s3 0],clo 300 #[],clo 301 #[]])) cur):=Hid.mk' (by
  intro cur q0 q1 s1 s2 s3 g9 g10 hS rq0 rq1 nq0 nq1 rs1 rs2 rs3 ns1 ns2 ns3 r9 n9 r10 n10 d
  rw [hF.out,hG.out]
  refine wpAnyH_ready (rs:=[12]) (by kernel_rfl) (by simp) ?_
  refine aT _ 243 4 14 [clo 264 #[pA s1 0,pA s2 0,pA s3 0],clo 300 #[],clo 301 #[]] r10 rfl (below_setCells n10 _ _ _ hS) fldI (all3 _ _ _ _ _ _) (fun rr=>dagW hG (st0.out _ q0 q1 s1 s2 s3 g9 g10 (below_setCells n10 _ _ _ hS) (rq0.far _ _ _ (.inl (neC rq0 r10 (fun h=>by cases h)))) (rq1.far _ _ _ (.inl (neC rq1 r10 (fun h=>by cases h)))) nq0 nq1 (rs1.far _ _ _ (.inl (neC rs1 r10 (fun h=>by cases h)))) (rs2.far _ _ _ (.inl (neC rs2 r10 (fun h=>by cases h)))) (rs3.far _ _ _ (.inl (neC rs3 r10 (fun h=>by cases h)))) ns1 ns2 ns3 (r9.far _ _ _ (.inl d)) n9 rr n10 d) (hF.out _ _ _ _ _)) ?_ rfl rfl rfl (at_list rfl)
  exact AllReadyH.nil)
 have st2:Hid (∀ (cur:World) (q0 q1 s1 s2 s3 g9 g10:Nat),Below V.heap.size V cur→RW cur q0 0 [pA p oh]→RW cur q1 0 [pA p oh]→V.heap.size≤q0→V.heap.size≤q1→RW cur s1 0 [pA p oh]→RW cur s2 0 [.int .i64 0]→RW cur s3 0 [.int .i64 0]→V.heap.size≤s1→V.heap.size≤s2→V.heap.size≤s3→RW cur g9 0 [.nilFunc,.nilFunc,.nilFunc]→V.heap.size≤g9→RW cur g10 0 [.nilFunc,.nilFunc,.nilFunc]→V.heap.size≤g10→g9≠g10→G 2 #[true,true,true,true,true,true,true,true,true,true,true,false,false] (F (pA g9 0) (pA g10 0) (.agg #[clo 268 #[pA q0 0],clo 265 #[pA q1 0],clo 267 #[pA q1 0]]) (.agg #[clo 264 #[pA s1 0,pA s2 0,pA s3 0],clo 265 #[pA s1 0],clo 267 #[pA s1 0]]) (.agg #[clo 264 #[pA s1 0,pA s2 0,pA s3 0],clo 300 #[],clo 301 #[]])) cur):=Hid.mk' (by
  intro cur q0 q1 s1 s2 s3 g9 g10 hS rq0 rq1 nq0 nq1 rs1 rs2 rs3 ns1 ns2 ns3 r9 n9 r10 n10 d
  rw [hF.out,hG.out]
  clear st0
  refine wpAnyH_ready (rs:=[11]) (by kernel_rfl) (by simp) ?_
  refine aT _ 243 3 9 [clo 268 #[pA q0 0],clo 265 #[pA q1 0],clo 267 #[pA q1 0]] r9 rfl (below_setCells n9 _ _ _ hS) fldI (all3 _ _ _ _ _ _) (fun rr=>dagW hG (st1.out _ q0 q1 s1 s2 s3 g9 g10 (below_setCells n9 _ _ _ hS) (rq0.far _ _ _ (.inl (neC rq0 r9 (fun h=>by cases h)))) (rq1.far _ _ _ (.inl (neC rq1 r9 (fun h=>by cases h)))) nq0 nq1 (rs1.far _ _ _ (.inl (neC rs1 r9 (fun h=>by cases h)))) (rs2.far _ _ _ (.inl (neC rs2 r9 (fun h=>by cases h)))) (rs3.far _ _ _ (.inl (neC rs3 r9 (fun h=>by cases h)))) ns1 ns2 ns3 rr n9 (r10.far _ _ _ (.inl d.symm)) n10 d) (hF.out _ _ _ _ _)) ?_ rfl rfl rfl (at_list rfl)
  exact AllReadyH.nil)
 have st3:Hid (∀ (cur:World) (q0 q1 s1 s2 s3 g9:Nat),Below V.heap.size V cur→RW cur q0 0 [pA p oh]→RW cur q1 0 [pA p oh]→V.heap.size≤q0→V.heap.size≤q1→RW cur s1 0 [pA p oh]→RW cur s2 0 [.int .i64 0]→RW cur s3 0 [.int .i64 0]→V.heap.size≤s1→V.heap.size≤s2→V.heap.size≤s3→RW cur g9 0 [.nilFunc,.nilFunc,.nilFunc]→V.heap.size≤g9→G 3 #[true,true,true,true,true,true,true,true,true,true,false,false,false] (F (pA g9 0) (undef) (.agg #[clo 268 #[pA q0 0],clo 265 #[pA q1 0],clo 267 #[pA q1 0]]) (.agg #[clo 264 #[pA s1 0,pA s2 0,pA s3 0],clo 265 #[pA s1 0],clo 267 #[pA s1 0]]) (.agg #[clo 264 #[pA s1 0,pA s2 0,pA s3 0],clo 300 #[],clo 301 #[]])) cur):=Hid.mk' (by
  intro cur q0 q1 s1 s2 s3 g9 hS rq0 rq1 nq0 nq1 rs1 rs2 rs3 ns1 ns2 ns3 r9 n9
  rw [hF.out,hG.out]
  clear st0 st1
  refine wpAnyH_ready (rs:=[10]) (by kernel_rfl) (by simp) ?_
  refine aG _ (fun g=>pA g 0) [.nilFunc,.nilFunc,.nilFunc] 243 (fun u hb=>below_next hS hb) (fun w1 g10 lg hb rr=>dagW hG (st2.out w1 q0 q1 s1 s2 s3 g9 g10 (below_next hS hb) (rq0.still hb) (rq1.still hb) nq0 nq1 (rs1.still hb) (rs2.still hb) (rs3.still hb) ns1 ns2 ns3 (r9.still hb) n9 rr (Nat.le_trans hS.size lg) (fun e=>by have:=r9.lt;omega)) (hF.out _ _ _ _ _)) ?_ (by kernel_rfl) (at_list rfl)
  exact AllReadyH.nil)
 have st4:Hid (∀ (cur:World) (q0 q1 s1 s2 s3 g10:Nat),Below V.heap.size V cur→RW cur q0 0 [pA p oh]→RW cur q1 0 [pA p oh]→V.heap.size≤q0→V.heap.size≤q1→RW cur s1 0 [pA p oh]→RW cur s2 0 [.int .i64 0]→RW cur s3 0 [.int .i64 0]→V.heap.size≤s1→V.heap.size≤s2→V.heap.size≤s3→RW cur g10 0 [.nilFunc,.nilFunc,.nilFunc]→V.heap.size≤g10→G 3 #[true,true,true,true,true,true,true,true,true,false,true,false,false] (F (undef) (pA g10 0) (.agg #[clo 268 #[pA q0 0],clo 265 #[pA q1 0],clo 267 #[pA q1 0]]) (.agg #[clo 264 #[pA s1 0,pA s2 0,pA s3 0],clo 265 #[pA s1 0],clo 267 #[pA s1 0]]) (.agg #[clo 264 #[pA s1 0,pA s2 0,pA s3 0],clo 300 #[],clo 301 #[]])) cur):=Hid.mk' (by
  intro cur q0 q1 s1 s2 s3 g10 hS rq0 rq1 nq0 nq1 rs1 rs2 rs3 ns1 ns2 ns3 r10 n10
  rw [hF.out,hG.out]
  clear st0 st1 st3
  refine wpAnyH_ready (rs:=[9]) (by kernel_rfl) (by simp) ?_
  refine aG _ (fun g=>pA g 0) [.nilFunc,.nilFunc,.nilFunc] 243 (fun u hb=>below_next hS hb) (fun w1 g9 lg hb rr=>dagW hG (st2.out w1 q0 q1 s1 s2 s3 g9 g10 (below_next hS hb) (rq0.still hb) (rq1.still hb) nq0 nq1 (rs1.still hb) (rs2.still hb) (rs3.still hb) ns1 ns2 ns3 rr (Nat.le_trans hS.size lg) (r10.still hb) n10 (fun e=>by have:=r10.lt;omega)) (hF.out _ _ _ _ _)) ?_ (by kernel_rfl) (at_list rfl)
  exact AllReadyH.nil)
 have st5:Hid (∀ (cur:World) (q0 q1 s1 s2 s3:Nat),Below V.heap.size V cur→RW cur q0 0 [pA p oh]→RW cur q1 0 [pA p oh]→V.heap.size≤q0→V.heap.size≤q1→RW cur s1 0 [pA p oh]→RW cur s2 0 [.int .i64 0]→RW cur s3 0 [.int .i64 0]→V.heap.size≤s1→V.heap.size≤s2→V.heap.size≤s3→G 4 #[true,true,true,true,true,true,true,true,true,false,false,false,false] (F (undef) (undef) (.agg #[clo 268 #[pA q0 0],clo 265 #[pA q1 0],clo 267 #[pA q1 0]]) (.agg #[clo 264 #[pA s1 0,pA s2 0,pA s3 0],clo 265 #[pA s1 0],clo 267 #[pA s1 0]]) (.agg #[clo 264 #[pA s1 0,pA s2 0,pA s3 0],clo 300 #[],clo 301 #[]])) cur):=Hid.mk' (by
  intro cur q0 q1 s1 s2 s3 hS rq0 rq1 nq0 nq1 rs1 rs2 rs3 ns1 ns2 ns3
  rw [hF.out,hG.out]
  clear st0 st1 st2
  refine wpAnyH_ready (rs:=[9,10]) (by kernel_rfl) (by simp) ?_
  refine aG _ (fun g=>pA g 0) [.nilFunc,.nilFunc,.nilFunc] 243 (fun u hb=>below_next hS hb) (fun w1 g9 lg hb rr=>dagW hG (st3.out w1 q0 q1 s1 s2 s3 g9 (below_next hS hb) (rq0.still hb) (rq1.still hb) nq0 nq1 (rs1.still hb) (rs2.still hb) (rs3.still hb) ns1 ns2 ns3 rr (Nat.le_trans hS.size lg)) (hF.out _ _ _ _ _)) ?_ (by kernel_rfl) (at_list rfl)
  refine aG _ (fun g=>pA g 0) [.nilFunc,.nilFunc,.nilFunc] 243 (fun u hb=>below_next hS hb) (fun w1 g10 lg hb rr=>dagW hG (st4.out w1 q0 q1 s1 s2 s3 g10 (below_next hS hb) (rq0.still hb) (rq1.still hb) nq0 nq1 (rs1.still hb) (rs2.still hb) (rs3.still hb) ns1 ns2 ns3 rr (Nat.le_trans hS.size lg)) (hF.out _ _ _ _ _)) ?_ (by kernel_rfl) (at_list rfl)
  exact AllReadyH.nil)
 have st6:Hid (∀ (cur:World) (q0 q1 s1 s2 s3 g9 g10:Nat),Below V.heap.size V cur→RW cur q0 0 [pA p oh]→RW cur q1 0 [pA p oh]→V.heap.size≤q0→V.heap.size≤q1→RW cur s1 0 [pA p oh]→RW cur s2 0 [.int .i64 0]→RW cur s3 0 [.int .i64 0]→V.heap.size≤s1→V.heap.size≤s2→V.heap.size≤s3→RW cur g9 0 [.nilFunc,.nilFunc,.nilFunc]→V.heap.size≤g9→RW cur g10 0 [.nilFunc,.nilFunc,.nilFunc]→V.heap.size≤g10→g9≠g10→G 3 #[true,true,true,true,true,true,true,true,false,true,true,false,false] (F (pA g9 0) (pA g10 0) (.agg #[clo 268 #[pA q0 0],clo 265 #[pA q1 0],clo 267 #[pA q1 0]]) (.agg #[clo 264 #[pA s1 0,pA s2 0,pA s3 0],clo 265 #[pA s1 0],clo 267 #[pA s1 0]]) (undef)) cur):=Hid.mk' (by
  intro cur q0 q1 s1 s2 s3 g9 g10 hS rq0 rq1 nq0 nq1 rs1 rs2 rs3 ns1 ns2 ns3 r9 n9 r10 n10 d
  rw [hF.out,hG.out]
  clear st0 st1 st3 st4 st5
  refine wpAnyH_ready (rs:=[8]) (by kernel_rfl) (by simp) ?_
  refine arC _ (unw_any 264 265 267 #[pA s1 0,pA s2 0,pA s3 0] #[pA s1 0] #[pA s1 0] cur) (fun e w1 h=>by obtain ⟨rfl,hb⟩:=h;exact ⟨_,rfl,below_next hS hb,dagW hG (st2.out w1 q0 q1 s1 s2 s3 g9 g10 (below_next hS hb) (rq0.still hb) (rq1.still hb) nq0 nq1 (rs1.still hb) (rs2.still hb) (rs3.still hb) ns1 ns2 ns3 (r9.still hb) n9 (r10.still hb) n10 d) (hF.out _ _ _ _ _)⟩) ?_ (at_list rfl)
  exact AllReadyH.nil)
 have st7:Hid (∀ (cur:World) (q0 q1 s1 s2 s3 g9:Nat),Below V.heap.size V cur→RW cur q0 0 [pA p oh]→RW cur q1 0 [pA p oh]→V.heap.size≤q0→V.heap.size≤q1→RW cur s1 0 [pA p oh]→RW cur s2 0 [.int .i64 0]→RW cur s3 0 [.int .i64 0]→V.heap.size≤s1→V.heap.size≤s2→V.heap.size≤s3→RW cur g9 0 [.nilFunc,.nilFunc,.nilFunc]→V.heap.size≤g9→G 4 #[true,true,true,true,true,true,true,true,false,true,false,false,false] (F (pA g9 0) (undef) (.agg #[clo 268 #[pA q0 0],clo 265 #[pA q1 0],clo 267 #[pA q1 0]]) (.agg #[clo 264 #[pA s1 0,pA s2 0,pA s3 0],clo 265 #[pA s1 0],clo 267 #[pA s1 0]]) (undef)) cur):=Hid.mk' (by
  intro cur q0 q1 s1 s2 s3 g9 hS rq0 rq1 nq0 nq1 rs1 rs2 rs3 ns1 ns2 ns3 r9 n9
  rw [hF.out,hG.out]
  clear st0 st1 st2 st4 st5
  refine wpAnyH_ready (rs:=[8,10]) (by kernel_rfl) (by simp) ?_
  refine arC _ (unw_any 264 265 267 #[pA s1 0,pA s2 0,pA s3 0] #[pA s1 0] #[pA s1 0] cur) (fun e w1 h=>by obtain ⟨rfl,hb⟩:=h;exact ⟨_,rfl,below_next hS hb,dagW hG (st3.out w1 q0 q1 s1 s2 s3 g9 (below_next hS hb) (rq0.still hb) (rq1.still hb) nq0 nq1 (rs1.still hb) (rs2.still hb) (rs3.still hb) ns1 ns2 ns3 (r9.still hb) n9) (hF.out _ _ _ _ _)⟩) ?_ (at_list rfl)
  refine aG _ (fun g=>pA g 0) [.nilFunc,.nilFunc,.nilFunc] 243 (fun u hb=>below_next hS hb) (fun w1 g10 lg hb rr=>dagW hG (st6.out w1 q0 q1 s1 s2 s3 g9 g10 (below_next hS hb) (rq0.still hb) (rq1.still hb) nq0 nq1 (rs1.still hb) (rs2.still hb) (rs3.still hb) ns1 ns2 ns3 (r9.still hb) n9 rr (Nat.le_trans hS.size lg) (fun e=>by have:=r9.lt;omega)) (hF.out _ _ _ _ _)) ?_ (by kernel_rfl) (at_list rfl)
  exact AllReadyH.nil)
 have st8:Hid (∀ (cur:World) (q0 q1 s1 s2 s3 g10:Nat),Below V.heap.size V cur→RW cur q0 0 [pA p oh]→RW cur q1 0 [pA p oh]→V.heap.size≤q0→V.heap.size≤q1→RW cur s1 0 [pA p oh]→RW cur s2 0 [.int .i64 0]→RW cur s3 0 [.int .i64 0]→V.heap.size≤s1→V.heap.size≤s2→V.heap.size≤s3→RW cur g10 0 [.nilFunc,.nilFunc,.nilFunc]→V.heap.size≤g10→G 4 #[true,true,true,true,true,true,true,true,false,false,true,false,false] (F (undef) (pA g10 0) (.agg #[clo 268 #[pA q0 0],clo 265 #[pA q1 0],clo 267 #[pA q1 0]]) (.agg #[clo 264 #[pA s1 0,pA s2 0,pA s3 0],clo 265 #[pA s1 0],clo 267 #[pA s1 0]]) (undef)) cur):=Hid.mk' (by
  intro cur q0 q1 s1 s2 s3 g10 hS rq0 rq1 nq0 nq1 rs1 rs2 rs3 ns1 ns2 ns3 r10 n10
  rw [hF.out,hG.out]
  clear st0 st1 st2 st3 st5 st7
  refine wpAnyH_ready (rs:=[8,9]) (by kernel_rfl) (by simp) ?_
  refine arC _ (unw_any 264 265 267 #[pA s1 0,pA s2 0,pA s3 0] #[pA s1 0] #[pA s1 0] cur) (fun e w1 h=>by obtain ⟨rfl,hb⟩:=h;exact ⟨_,rfl,below_next hS hb,dagW hG (st4.out w1 q0 q1 s1 s2 s3 g10 (below_next hS hb) (rq0.still hb) (rq1.still hb) nq0 nq1 (rs1.still hb) (rs2.still hb) (rs3.still hb) ns1 ns2 ns3 (r10.still hb) n10) (hF.out _ _ _ _ _)⟩) ?_ (at_list rfl)
  refine aG _ (fun g=>pA g 0) [.nilFunc,.nilFunc,.nilFunc] 243 (fun u hb=>below_next hS hb) (fun w1 g9 lg hb rr=>dagW hG (st6.out w1 q0 q1 s1 s2 s3 g9 g10 (below_next hS hb) (rq0.still hb) (rq1.still hb) nq0 nq1 (rs1.still hb) (rs2.still hb) (rs3.still hb) ns1 ns2 ns3 rr (Nat.le_trans hS.size lg) (r10.still hb) n10 (fun e=>by have:=r10.lt;omega)) (hF.out _ _ _ _ _)) ?_ (by kernel_rfl) (at_list rfl)
  exact AllReadyH.nil)
 have st9:Hid (∀ (cur:World) (q0 q1 s1 s2 s3:Nat),Below V.heap.size V cur→RW cur q0 0 [pA p oh]→RW cur q1 0 [pA p oh]→V.heap.size≤q0→V.heap.size≤q1→RW cur s1 0 [pA p oh]→RW cur s2 0 [.int .i64 0]→RW cur s3 0 [.int .i64 0]→V.heap.size≤s1→V.heap.size≤s2→V.heap.size≤s3→G 5 #[true,true,true,true,true,true,true,true,false,false,false,false,false] (F (undef) (undef) (.agg #[clo 268 #[pA q0 0],clo 265 #[pA q1 0],clo 267 #[pA q1 0]]) (.agg #[clo 264 #[pA s1 0,pA s2 0,pA s3 0],clo 265 #[pA s1 0],clo 267 #[pA s1 0]]) (undef)) cur):=Hid.mk' (by
  intro cur q0 q1 s1 s2 s3 hS rq0 rq1 nq0 nq1 rs1 rs2 rs3 ns1 ns2 ns3
  rw [hF.out,hG.out]
  clear st0 st1 st2 st3 st4 st6
  refine wpAnyH_ready (rs:=[8,9,10]) (by kernel_rfl) (by simp) ?_
  refine arC _ (unw_any 264 265 267 #[pA s1 0,pA s2 0,pA s3 0] #[pA s1 0] #[pA s1 0] cur) (fun e w1 h=>by obtain ⟨rfl,hb⟩:=h;exact ⟨_,rfl,below_next hS hb,dagW hG (st5.out w1 q0 q1 s1 s2 s3 (below_next hS hb) (rq0.still hb) (rq1.still hb) nq0 nq1 (rs1.still hb) (rs2.still hb) (rs3.still hb) ns1 ns2 ns3) (hF.out _ _ _ _ _)⟩) ?_ (at_list rfl)
  refine aG _ (fun g=>pA g 0) [.nilFunc,.nilFunc,.nilFunc] 243 (fun u hb=>below_next hS hb) (fun w1 g9 lg hb rr=>dagW hG (st7.out w1 q0 q1 s1 s2 s3 g9 (below_next hS hb) (rq0.still hb) (rq1.still hb) nq0 nq1 (rs1.still hb) (rs2.still hb) (rs3.still hb) ns1 ns2 ns3 rr (Nat.le_trans hS.size lg)) (hF.out _ _ _ _ _)) ?_ (by kernel_rfl) (at_list rfl)
  refine aG _ (fun g=>pA g 0) [.nilFunc,.nilFunc,.nilFunc] 243 (fun u hb=>below_next hS hb) (fun w1 g10 lg hb rr=>dagW hG (st8.out w1 q0 q1 s1 s2 s3 g10 (below_next hS hb) (rq0.still hb) (rq1.still hb) nq0 nq1 (rs1.still hb) (rs2.still hb) (rs3.still hb) ns1 ns2 ns3 rr (Nat.le_trans hS.size lg)) (hF.out _ _ _ _ _)) ?_ (by kernel_rfl) (at_list rfl)
  exact AllReadyH.nil)
 have st10:Hid (∀ (cur:World) (q0 q1 g9 g10:Nat),Below V.heap.size V cur→RW cur q0 0 [pA p oh]→RW cur q1 0 [pA p oh]→V.heap.size≤q0→V.heap.size≤q1→RW cur g9 0 [.nilFunc,.nilFunc,.nilFunc]→V.heap.size≤g9→RW cur g10 0 [.nilFunc,.nilFunc,.nilFunc]→V.heap.size≤g10→g9≠g10→G 4 #[true,true,true,true,true,true,true,false,false,true,true,false,false] (F (pA g9 0) (pA g10 0) (.agg #[clo 268 #[pA q0 0],clo 265 #[pA q1 0],clo 267 #[pA q1 0]]) (undef) (undef)) cur):=Hid.mk' (by
  intro cur q0 q1 g9 g10 hS rq0 rq1 nq0 nq1 r9 n9 r10 n10 d
  rw [hF.out,hG.out]
  clear st0 st1 st2 st3 st4 st5 st7 st8 st9
  refine wpAnyH_ready (rs:=[7]) (by kernel_rfl) (by simp) ?_
  refine arC _ (vec_any p oh 0 0 cur) (fun e w1 h=>by obtain ⟨F1,rfl,⟨s1,s2,s3,rfl,⟨y1,y2,y3⟩,x1,x2,x3⟩,hb⟩:=h;exact ⟨_,rfl,below_next hS hb,dagW hG (st6.out w1 q0 q1 s1 s2 s3 g9 g10 (below_next hS hb) (rq0.still hb) (rq1.still hb) nq0 nq1 x1 x2 x3 (Nat.le_trans hS.size y1) (Nat.le_trans hS.size y2) (Nat.le_trans hS.size y3) (r9.still hb) n9 (r10.still hb) n10 d) (hF.out _ _ _ _ _)⟩) ?_ (at_list rfl)
  exact AllReadyH.nil)
 have st11:Hid (∀ (cur:World) (q0 q1 g9:Nat),Below V.heap.size V cur→RW cur q0 0 [pA p oh]→RW cur q1 0 [pA p oh]→V.heap.size≤q0→V.heap.size≤q1→RW cur g9 0 [.nilFunc,.nilFunc,.nilFunc]→V.heap.size≤g9→G 5 #[true,true,true,true,true,true,true,false,false,true,false,false,false] (F (pA g9 0) (undef) (.agg #[clo 268 #[pA q0 0],clo 265 #[pA q1 0],clo 267 #[pA q1 0]]) (undef) (undef)) cur):=Hid.mk' (by
  intro cur q0 q1 g9 hS rq0 rq1 nq0 nq1 r9 n9
  rw [hF.out,hG.out]
  clear st0 st1 st2 st3 st4 st5 st6 st8 st9
  refine wpAnyH_ready (rs:=[7,10]) (by kernel_rfl) (by simp) ?_
  refine arC _ (vec_any p oh 0 0 cur) (fun e w1 h=>by obtain ⟨F1,rfl,⟨s1,s2,s3,rfl,⟨y1,y2,y3⟩,x1,x2,x3⟩,hb⟩:=h;exact ⟨_,rfl,below_next hS hb,dagW hG (st7.out w1 q0 q1 s1 s2 s3 g9 (below_next hS hb) (rq0.still hb) (rq1.still hb) nq0 nq1 x1 x2 x3 (Nat.le_trans hS.size y1) (Nat.le_trans hS.size y2) (Nat.le_trans hS.size y3) (r9.still hb) n9) (hF.out _ _ _ _ _)⟩) ?_ (at_list rfl)
  refine aG _ (fun g=>pA g 0) [.nilFunc,.nilFunc,.nilFunc] 243 (fun u hb=>below_next hS hb) (fun w1 g10 lg hb rr=>dagW hG (st10.out w1 q0 q1 g9 g10 (below_next hS hb) (rq0.still hb) (rq1.still hb) nq0 nq1 (r9.still hb) n9 rr (Nat.le_trans hS.size lg) (fun e=>by have:=r9.lt;omega)) (hF.out _ _ _ _ _)) ?_ (by kernel_rfl) (at_list rfl)
  exact AllReadyH.nil)
 have st12:Hid (∀ (cur:World) (q0 q1 g10:Nat),Below V.heap.size V cur→RW cur q0 0 [pA p oh]→RW cur q1 0 [pA p oh]→V.heap.size≤q0→V.heap.size≤q1→RW cur g10 0 [.nilFunc,.nilFunc,.nilFunc]→V.heap.size≤g10→G 5 #[true,true,true,true,true,true,true,false,false,false,true,false,false] (F (undef) (pA g10 0) (.agg #[clo 268 #[pA q0 0],clo 265 #[pA q1 0],clo 267 #[pA q1 0]]) (undef) (undef)) cur):=Hid.mk' (by
  intro cur q0 q1 g10 hS rq0 rq1 nq0 nq1 r10 n10
  rw [hF.out,hG.out]
  clear st0 st1 st2 st3 st4 st5 st6 st7 st9 st11
  refine wpAnyH_ready (rs:=[7,9]) (by kernel_rfl) (by simp) ?_
  refine arC _ (vec_any p oh 0 0 cur) (fun e w1 h=>by obtain ⟨F1,rfl,⟨s1,s2,s3,rfl,⟨y1,y2,y3⟩,x1,x2,x3⟩,hb⟩:=h;exact ⟨_,rfl,below_next hS hb,dagW hG (st8.out w1 q0 q1 s1 s2 s3 g10 (below_next hS hb) (rq0.still hb) (rq1.still hb) nq0 nq1 x1 x2 x3 (Nat.le_trans hS.size y1) (Nat.le_trans hS.size y2) (Nat.le_trans hS.size y3) (r10.still hb) n10) (hF.out _ _ _ _ _)⟩) ?_ (at_list rfl)
  refine aG _ (fun g=>pA g 0) [.nilFunc,.nilFunc,.nilFunc] 243 (fun u hb=>below_next hS hb) (fun w1 g9 lg hb rr=>dagW hG (st10.out w1 q0 q1 g9 g10 (below_next hS hb) (rq0.still hb) (rq1.still hb) nq0 nq1 rr (Nat.le_trans hS.size lg) (r10.still hb) n10 (fun e=>by have:=r10.lt;omega)) (hF.out _ _ _ _ _)) ?_ (by kernel_rfl) (at_list rfl)
  exact AllReadyH.nil)
 have st13:Hid (∀ (cur:World) (q0 q1:Nat),Below V.heap.size V cur→RW cur q0 0 [pA p oh]→RW cur q1 0 [pA p oh]→V.heap.size≤q0→V.heap.size≤q1→G 6 #[true,true,true,true,true,true,true,false,false,false,false,false,false] (F (undef) (undef) (.agg #[clo 268 #[pA q0 0],clo 265 #[pA q1 0],clo 267 #[pA q1 0]]) (undef) (undef)) cur):=Hid.mk' (by
  intro cur q0 q1 hS rq0 rq1 nq0 nq1
  rw [hF.out,hG.out]
  clear st0 st1 st2 st3 st4 st5 st6 st7 st8 st10
  refine wpAnyH_ready (rs:=[7,9,10]) (by kernel_rfl) (by simp) ?_
  refine arC _ (vec_any p oh 0 0 cur) (fun e w1 h=>by obtain ⟨F1,rfl,⟨s1,s2,s3,rfl,⟨y1,y2,y3⟩,x1,x2,x3⟩,hb⟩:=h;exact ⟨_,rfl,below_next hS hb,dagW hG (st9.out w1 q0 q1 s1 s2 s3 (below_next hS hb) (rq0.still hb) (rq1.still hb) nq0 nq1 x1 x2 x3 (Nat.le_trans hS.size y1) (Nat.le_trans hS.size y2) (Nat.le_trans hS.size y3)) (hF.out _ _ _ _ _)⟩) ?_ (at_list rfl)
  refine aG _ (fun g=>pA g 0) [.nilFunc,.nilFunc,.nilFunc] 243 (fun u hb=>below_next hS hb) (fun w1 g9 lg hb rr=>dagW hG (st11.out w1 q0 q1 g9 (below_next hS hb) (rq0.still hb) (rq1.still hb) nq0 nq1 rr (Nat.le_trans hS.size lg)) (hF.out _ _ _ _ _)) ?_ (by kernel_rfl) (at_list rfl)
  refine aG _ (fun g=>pA g 0) [.nilFunc,.nilFunc,.nilFunc] 243 (fun u hb=>below_next hS hb) (fun w1 g10 lg hb rr=>dagW hG (st12.out w1 q0 q1 g10 (below_next hS hb) (rq0.still hb) (rq1.still hb) nq0 nq1 rr (Nat.le_trans hS.size lg)) (hF.out _ _ _ _ _)) ?_ (by kernel_rfl) (at_list rfl)
  exact AllReadyH.nil)
 have st14:Hid (∀ (cur:World) (g9 g10:Nat),Below V.heap.size V cur→RW cur g9 0 [.nilFunc,.nilFunc,.nilFunc]→V.heap.size≤g9→RW cur g10 0 [.nilFunc,.nilFunc,.nilFunc]→V.heap.size≤g10→g9≠g10→G 5 #[true,true,true,false,true,true,true,false,false,true,true,false,false] (F (pA g9 0) (pA g10 0) (undef) (undef) (undef)) cur):=Hid.mk' (by
  intro cur g9 g10 hS r9 n9 r10 n10 d
  rw [hF.out,hG.out]
  clear st0 st1 st2 st3 st4 st5 st6 st7 st8 st9 st11 st12 st13
  refine wpAnyH_ready (rs:=[3]) (by kernel_rfl) (by simp) ?_
  refine arC _ (hon_any p oh cur) (fun e w1 h=>by obtain ⟨F1,rfl,⟨q0,q1,rfl,⟨y1,y2⟩,x1,x2⟩,hb⟩:=h;exact ⟨_,rfl,below_next hS hb,dagW hG (st10.out w1 q0 q1 g9 g10 (below_next hS hb) x1 x2 (Nat.le_trans hS.size y1) (Nat.le_trans hS.size y2) (r9.still hb) n9 (r10.still hb) n10 d) (hF.out _ _ _ _ _)⟩) ?_ (at_list rfl)
  exact AllReadyH.nil)
 have st15:Hid (∀ (cur:World) (g9:Nat),Below V.heap.size V cur→RW cur g9 0 [.nilFunc,.nilFunc,.nilFunc]→V.heap.size≤g9→G 6 #[true,true,true,false,true,true,true,false,false,true,false,false,false] (F (pA g9 0) (undef) (undef) (undef) (undef)) cur):=Hid.mk' (by
  intro cur g9 hS r9 n9
  rw [hF.out,hG.out]
  clear st0 st1 st2 st3 st4 st5 st6 st7 st8 st9 st10 st12 st13
  refine wpAnyH_ready (rs:=[3,10]) (by kernel_rfl) (by simp) ?_
  refine arC _ (hon_any p oh cur) (fun e w1 h=>by obtain ⟨F1,rfl,⟨q0,q1,rfl,⟨y1,y2⟩,x1,x2⟩,hb⟩:=h;exact ⟨_,rfl,below_next hS hb,dagW hG (st11.out w1 q0 q1 g9 (below_next hS hb) x1 x2 (Nat.le_trans hS.size y1) (Nat.le_trans hS.size y2) (r9.still hb) n9) (hF.out _ _ _ _ _)⟩) ?_ (at_list rfl)
  refine aG _ (fun g=>pA g 0) [.nilFunc,.nilFunc,.nilFunc] 243 (fun u hb=>below_next hS hb) (fun w1 g10 lg hb rr=>dagW hG (st14.out w1 g9 g10 (below_next hS hb) (r9.still hb) n9 rr (Nat.le_trans hS.size lg) (fun e=>by have:=r9.lt;omega)) (hF.out _ _ _ _ _)) ?_ (by kernel_rfl) (at_list rfl)
  exact AllReadyH.nil)
 have st16:Hid (∀ (cur:World) (g10:Nat),Below V.heap.size V cur→RW cur g10 0 [.nilFunc,.nilFunc,.nilFunc]→V.heap.size≤g10→G 6 #[true,true,true,false,true,true,true,false,false,false,true,false,false] (F (undef) (pA g10 0) (undef) (undef) (undef)) cur):=Hid.mk' (by
  intro cur g10 hS r10 n10
  rw [hF.out,hG.out]
  clear st0 st1 st2 st3 st4 st5 st6 st7 st8 st9 st10 st11 st13 st15
  refine wpAnyH_ready (rs:=[3,9]) (by kernel_rfl) (by simp) ?_
  refine arC _ (hon_any p oh cur) (fun e w1 h=>by obtain ⟨F1,rfl,⟨q0,q1,rfl,⟨y1,y2⟩,x1,x2⟩,hb⟩:=h;exact ⟨_,rfl,below_next hS hb,dagW hG (st12.out w1 q0 q1 g10 (below_next hS hb) x1 x2 (Nat.le_trans hS.size y1) (Nat.le_trans hS.size y2) (r10.still hb) n10) (hF.out _ _ _ _ _)⟩) ?_ (at_list rfl)
  refine aG _ (fun g=>pA g 0) [.nilFunc,.nilFunc,.nilFunc] 243 (fun u hb=>below_next hS hb) (fun w1 g9 lg hb rr=>dagW hG (st14.out w1 g9 g10 (below_next hS hb) rr (Nat.le_trans hS.size lg) (r10.still hb) n10 (fun e=>by have:=r10.lt;omega)) (hF.out _ _ _ _ _)) ?_ (by kernel_rfl) (at_list rfl)
  exact AllReadyH.nil)
 have st17:Hid (∀ (cur:World),Below V.heap.size V cur→G 7 #[true,true,true,false,true,true,true,false,false,false,false,false,false] (F (undef) (undef) (undef) (undef) (undef)) cur):=Hid.mk' (by
  intro cur  hS 
  rw [hF.out,hG.out]
  clear st0 st1 st2 st3 st4 st5 st6 st7 st8 st9 st10 st11 st12 st14
  refine wpAnyH_ready (rs:=[3,9,10]) (by kernel_rfl) (by simp) ?_
  refine arC _ (hon_any p oh cur) (fun e w1 h=>by obtain ⟨F1,rfl,⟨q0,q1,rfl,⟨y1,y2⟩,x1,x2⟩,hb⟩:=h;exact ⟨_,rfl,below_next hS hb,dagW hG (st13.out w1 q0 q1 (below_next hS hb) x1 x2 (Nat.le_trans hS.size y1) (Nat.le_trans hS.size y2)) (hF.out _ _ _ _ _)⟩) ?_ (at_list rfl)
  refine aG _ (fun g=>pA g 0) [.nilFunc,.nilFunc,.nilFunc] 243 (fun u hb=>below_next hS hb) (fun w1 g9 lg hb rr=>dagW hG (st15.out w1 g9 (below_next hS hb) rr (Nat.le_trans hS.size lg)) (hF.out _ _ _ _ _)) ?_ (by kernel_rfl) (at_list rfl)
  refine aG _ (fun g=>pA g 0) [.nilFunc,.nilFunc,.nilFunc] 243 (fun u hb=>below_next hS hb) (fun w1 g10 lg hb rr=>dagW hG (st16.out w1 g10 (below_next hS hb) rr (Nat.le_trans hS.size lg)) (hF.out _ _ _ _ _)) ?_ (by kernel_rfl) (at_list rfl)
  exact AllReadyH.nil)
 rw [hG.out]
 exact dagW hG (st17.out V hS) (hF.out _ _ _ _ _)
end Go.Proofs.YtpmkiegabaidjaaGreatDoor
namespace Go.Proofs.YtpmkiegabaidjaaGreatDoor
open Go.RowKit
theorem bigN_up {pn:Nat→Nat}:∀ {n m},n≤m→bigN pn n=true→bigN pn m=true
 | n,0,h,hb=>by
  obtain rfl:n=0:=by omega
  exact hb
 | n,m+1,h,hb=>by
  by_cases e:n=m+1
  · subst e;exact hb
  · show (bigN pn m || _)=true
    rw [bigN_up (by omega:n≤m) hb];rfl
set_option maxRecDepth 20000 in
set_option maxHeartbeats 4000000 in
theorem cVecs_any (xo:Option Addr) (cnt cap:Nat) (pv:Nat→Value) (pn:Nat→Nat) (pb:Nat→Nat→Nat) (hcnt:cnt≤1048576) (hsum:sumN pn cnt≤1048576) (w:World) (hP:PiecesIn w xo cnt pv pn pb) :
 Calls Tryz.prog 136 #[.slice xo cnt cap] w fun e w'=>((bigN pn cnt=true∧e = .returned (.tuple #[.slice none 0 0,.int .i64 6]))∨(bigN pn cnt=false∧∃ v,e = .returned (.tuple #[v,.int .i64 0])∧Own w.heap.size w' v (vsL pn cnt) (vsB pn pb cnt)))∧Below w.heap.size w w':=by
 have hall:=vsL_le pn cnt
 go_enter Tryz.func136,Tryz.ntmps136
 go_wp2
 go_loopw [4,11] (fun al i wr=>∃ q:Nat,q≤cnt∧i = .int .i64 q∧(∃ xa ca,al = .slice xa (vsL pn q) ca∧Own w.heap.size wr (.slice xa (vsL pn q) ca) (vsL pn q) (vsB pn pb q))∧bigN pn q=false∧Below w.heap.size w wr) (fun _ i _=>cnt - (intOf i).toNat)
 case atStart=>exact ⟨0,Nat.zero_le _,rfl,⟨none,0,rfl,Own.nil _ _ _⟩,rfl,Below.refl _ _⟩
 case round =>
  obtain ⟨q,hq,rfl,⟨xa,ca,rfl,own⟩,hbg,hb⟩:=hrel
  by_cases hlt:q<cnt
  · obtain ⟨lb,lo,rfl,hcell⟩:=(hP.keep hb).cell q hlt
    have hBq:=(hP.keep hb).each q hlt
    have hc0:=hcell q hlt
    have hqi:(0:Int)≤(q:Int)∧(q:Int)<cnt:=by omega
    have hq1:(q:Int)<(cnt:Int):=by omega
    by_cases hz:65536<pn q
    · have hv:=cVec11_size (pv q) (pn q) (pb q) hz wr hBq
      have hB1:bigN pn cnt=true:=bigN_up hlt (by show (bigN pn q || decide (65536<pn q))=true;rw [decide_eq_true hz,Bool.or_true])
      obtain ⟨vv,hvv⟩:∃ vv,vv=pv q:=⟨_,rfl⟩
      rw [←hvv] at hv hc0
      clear hvv hBq hcell hP hz own hbg
      go_wp2_with (go_at_call 57;refine hv.mono ?_;clear hv;rintro e w1 ⟨rfl,b1⟩)
      go_ret2
      exact ⟨.inl ⟨hB1,rfl⟩,below_next hb b1⟩
    have hv:=cVec11_good (pv q) (pn q) (pb q) (by omega) wr hBq
    have hbg2:bigN pn (q+1)=false:=by show (bigN pn q || decide (65536<pn q))=false;rw [hbg,decide_eq_false hz];rfl
    have HN:Hid (vsL pn (q+1)=vsL pn q+vcL (pn q)∧vsB pn pb (q+1)=cat (vsL pn q) (vsB pn pb q) (vcB (pn q) (pb q))):=Hid.mk' ⟨rfl,rfl⟩
    have hle:vsL pn (q+1)≤vsL pn cnt:=sumN_le _ hlt
    rw [HN.out.1] at hle
    obtain ⟨T,hT⟩:∃ T,T=vsL pn q:=⟨_,rfl⟩
    obtain ⟨F,hF⟩:∃ F,F=vsB pn pb q:=⟨_,rfl⟩
    obtain ⟨m,hm⟩:∃ m,m=vcL (pn q):=⟨_,rfl⟩
    obtain ⟨G,hG⟩:∃ G,G=vcB (pn q) (pb q):=⟨_,rfl⟩
    obtain ⟨vv,hvv⟩:∃ vv,vv=pv q:=⟨_,rfl⟩
    rw [←hT,←hF,←hm,←hG] at HN
    rw [←hT,←hm] at hle
    rw [←hT,←hF] at own
    rw [←hm,←hG,←hvv] at hv
    rw [←hvv] at hc0
    rw [←hT]
    have hTm:T+m≤140737488355328:=by omega
    clear hT hF hm hG hvv hBq hcell hP hle hz hbg
    go_wp2_with (first
     | (go_at_call 57;refine hv.mono ?_;clear hv;rintro e w1 ⟨s1,rfl,own1,b1⟩;(obtain ⟨x1,c1,hs1,hxn1,hc1,hsrc1⟩:=(BytesIn.of_own own1).src);subst hs1;have hsrc:=hsrc1 w1 (Below.refl _ _);have ownW:=own.below b1;have hbw1:=below_next hb b1)
     | (at_builtin;refine wpList_append_bytes rfl (.tmp 23) (.tmp 24) rfl w.heap.size _ T F rfl ownW x1 m c1 G rfl hsrc hxn1 hTm hbw1.size ?_;intro v2 w2 own2 grow2;have hbw2:=Own.grown hbw1 grow2 ownW (Nat.le_refl _) hbw1.size;(obtain ⟨x2,c2,hv2⟩:=own2.slice);subst hv2))
    go_roundw
    case rel=>exact ⟨q+1,hlt,by go_num,⟨x2,c2,by rw [HN.out.1],by rw [HN.out.1,HN.out.2];exact own2⟩,hbg2,hbw2⟩
    case measure=>simp [intOf];omega
  · obtain rfl:q=cnt:=by omega
    have hq1:¬(q:Int)<(q:Int):=by omega
    go_wp2
    go_ret2
    exact ⟨⟨_,rfl,own⟩,hb⟩
end Go.Proofs.YtpmkiegabaidjaaGreatDoor
namespace Go.Proofs.YtpmkiegabaidjaaGreatDoor
open Go.RowKit
theorem RdC.ge {lo hi:Nat} {w:World} {g L:Nat} {B:Nat→Nat} {r:Rd} (h:RdC lo hi w g L B r):lo≤g:=h.choose_spec.2.2.2.1.1
end Go.Proofs.YtpmkiegabaidjaaGreatDoor
namespace Go.Proofs.YtpmkiegabaidjaaGreatDoor
open Go.RowKit
structure SameIn (lo hi:Nat) (w w':World):Prop where
 size:w.heap.size≤w'.heap.size
 block:∀ k,lo≤k→k<hi→w'.heap[k]? = w.heap[k]?
theorem SameIn.cell {lo hi:Nat} {w w':World} (h:SameIn lo hi w w') {k o:Nat} (h1:lo≤k) (h2:k<hi):w'.cell? ⟨k,o,none⟩=w.cell? ⟨k,o,none⟩:=World.cell?_of_block (w:=w) (h.block k h1 h2)
theorem SameIn.frozen {lo hi:Nat} {w w':World} (h:SameIn lo hi w w') {k o:Nat} (h1:lo≤k) (h2:k<hi):w'.frozen? ⟨k,o,none⟩=w.frozen? ⟨k,o,none⟩:=World.frozen?_of_block (w:=w) (h.block k h1 h2)
theorem SameIn.of_below {lo hi M:Nat} {w w':World} (h:Below M w w') (hM:hi≤M):SameIn lo hi w w':=⟨h.size,fun k _ h2=>h.block k (by omega)⟩
theorem SameIn.of_out {lo hi b o n:Nat} {w w':World} (h:Out b o n w w') (hb:b<lo∨hi≤b) (hh:hi≤w.heap.size):SameIn lo hi w w':=⟨h.size,fun k h1 h2=>h.block k (by omega) (by omega)⟩
theorem RW.same {lo hi:Nat} {w w':World} (s:SameIn lo hi w w') {g:Nat} {vs:List Value} (r:RW w g 0 vs) (h1:lo≤g) (h2:g<hi):RW w' g 0 vs :=
 ⟨fun j v hv=>(s.cell h1 h2).trans (r.range j v hv),fun j hj=>by rw [s.cell h1 h2,s.frozen h1 h2];exact r.there j hj,Nat.lt_of_lt_of_le r.lt s.size⟩
theorem RdC.same {lo hi:Nat} {w w':World} {g L:Nat} {B:Nat→Nat} {r:Rd} (h:RdC lo hi w g L B r) (s:SameIn lo hi w w'):RdC lo hi w' g L B r:=by
 obtain ⟨v,rr,hv,ha,hg,hh⟩:=h
 exact ⟨v,RW.same s rr hg.1 hg.2,BI.same hv fun b o z h1 h2 hc=>(s.cell h1 h2).trans hc,ha,hg,Nat.le_trans hh s.size⟩
def RdB (lo hi:Nat) (w:World) (g L:Nat) (B:Nat→Nat) (r:Rd):Prop:=∃ v,RW w g 0 [v,.int .i64 (r.at_:Int),.int .i64 r.e]∧BI lo hi w v L B∧r.at_≤L∧(lo≤g∧g<hi)∧hi≤w.heap.size
theorem RdB.same {lo hi:Nat} {w w':World} {g L:Nat} {B:Nat→Nat} {r:Rd} (h:RdB lo hi w g L B r) (s:SameIn lo hi w w'):RdB lo hi w' g L B r:=by
 obtain ⟨v,rr,hv,ha,hg,hh⟩:=h
 exact ⟨v,RW.same s rr hg.1 hg.2,BI.same hv fun b o z h1 h2 hc=>(s.cell h1 h2).trans hc,ha,hg,Nat.le_trans hh s.size⟩
theorem RdB.size {lo hi:Nat} {w:World} {g L:Nat} {B:Nat→Nat} {r:Rd} (h:RdB lo hi w g L B r):hi≤w.heap.size:=h.choose_spec.2.2.2.2
theorem RdB.ge {lo hi:Nat} {w:World} {g L:Nat} {B:Nat→Nat} {r:Rd} (h:RdB lo hi w g L B r):lo≤g:=h.choose_spec.2.2.2.1.1
theorem RdB.lt {lo hi:Nat} {w:World} {g L:Nat} {B:Nat→Nat} {r:Rd} (h:RdB lo hi w g L B r):g<hi:=h.choose_spec.2.2.2.1.2
theorem RdB.of {lo hi:Nat} {w:World} {g L:Nat} {B:Nat→Nat} {r:Rd} (h:RdB lo hi w g L B r):RdR w g L B r:=by
 obtain ⟨v,rr,hv,ha,hg,hh⟩:=h
 exact ⟨v,rr,hv.of hh,ha⟩
structure Two (m lo hi hj:Nat) (w:World) (g k L:Nat) (B:Nat→Nat) (r:Rd):Prop where
 code:RdC lo hi w g L B r
 ref:RdB hi hj w k L B r
 low:m≤lo
theorem Two.same {m lo hi hj:Nat} {w w':World} {g k L:Nat} {B:Nat→Nat} {r:Rd} (h:Two m lo hi hj w g k L B r) (s:SameIn lo hj w w'):Two m lo hi hj w' g k L B r :=
 ⟨h.code.same ⟨s.size,fun c h1 h2=>s.block c h1 (Nat.lt_of_lt_of_le h2 (Nat.le_of_lt (Nat.lt_of_le_of_lt h.ref.ge h.ref.lt)))⟩,h.ref.same ⟨s.size,fun c h1 h2=>s.block c (Nat.le_trans (Nat.le_of_lt (Nat.lt_of_le_of_lt h.code.ge h.code.choose_spec.2.2.2.1.2)) h1) h2⟩,h.low⟩
theorem Two.still {m lo hi hj:Nat} {w w':World} {g k L:Nat} {B:Nat→Nat} {r:Rd} (h:Two m lo hi hj w g k L B r) (hb:Below w.heap.size w w'):Two m lo hi hj w' g k L B r:=h.same (SameIn.of_below hb h.ref.size)
theorem Two.whole {m lo hi hj:Nat} {w w':World} {g k L:Nat} {B:Nat→Nat} {r:Rd} (hl:m≤lo) (h:RdC lo hi w g L B r) (h':RdB hi hj w' k L B r) (o:Out k 1 2 w w'):Two m lo hi hj w' g k L B r∧Below m w w' :=
 ⟨⟨h.same (SameIn.of_out o (.inr h'.ge) h.size),h',hl⟩,o.below (Nat.le_trans (Nat.le_trans hl h.ge) (Nat.le_trans (Nat.le_of_lt h.choose_spec.2.2.2.1.2) h'.ge)) (Nat.le_trans (Nat.le_trans hl h.ge) (Nat.le_of_lt h.lt))⟩
end Go.Proofs.YtpmkiegabaidjaaGreatDoor
namespace Go.Proofs.YtpmkiegabaidjaaGreatDoor
open Go.RowKit
structure Fd where
 i0:Nat
 c0:Array Value
 i1:Nat
 c1:Array Value
 i2:Nat
 c2:Array Value
abbrev Fd.val (f:Fd):Value := .agg #[clo f.i0 f.c0,clo f.i1 f.c1,clo f.i2 f.c2]
abbrev Fd.cells (f:Fd):List Value:=[clo f.i0 f.c0,clo f.i1 f.c1,clo f.i2 f.c2]
def Bxs (lo hi:Nat) (w:World) (L:List (Nat × List Value)):Prop:=∀ x,x∈L→lo≤x.1∧x.1<hi∧RW w x.1 0 x.2
theorem Bxs.same {lo hi:Nat} {w w':World} {L:List (Nat × List Value)} (h:Bxs lo hi w L) (hb:SameIn lo hi w w'):Bxs lo hi w' L:=fun x hx=>by
 obtain ⟨h1,h2,r⟩:=h x hx
 exact ⟨h1,h2,fun j v hv=>(hb.cell h1 h2).trans (r.range j v hv),fun j hj=>by rw [hb.cell h1 h2,hb.frozen h1 h2];exact r.there j hj,Nat.lt_of_lt_of_le r.lt hb.size⟩
theorem Bxs.wide {lo hi lo' hi':Nat} {w:World} {L:List (Nat × List Value)} (h:Bxs lo hi w L) (h1:lo'≤lo) (h2:hi≤hi'):Bxs lo' hi' w L:=fun x hx=>by
 obtain ⟨a,b,r⟩:=h x hx
 exact ⟨Nat.le_trans h1 a,Nat.lt_of_lt_of_le b h2,r⟩
theorem Bxs.of {lo:Nat} {w:World} {L:List (Nat × List Value)} (h:∀ x,x∈L→lo≤x.1∧RW w x.1 0 x.2):Bxs lo w.heap.size w L:=fun x hx=>⟨(h x hx).1,(h x hx).2.lt,(h x hx).2⟩
theorem Bxs.still {lo hi:Nat} {w w':World} {L:List (Nat × List Value)} (h:Bxs lo hi w L) (hb:Below w.heap.size w w'):Bxs lo hi w' L:=fun x hx=>⟨(h x hx).1,(h x hx).2.1,(h x hx).2.2.still hb⟩
theorem Bxs.rest {lo hi:Nat} {X:List Nat} {w w':World} {L:List (Nat × List Value)} (h:Bxs lo hi w L) (hb:Rest X w w') (hX:∀ x,x∈X→x<lo∨hi≤x):Bxs lo hi w' L:=fun x hx=>by
 obtain ⟨a,b,r⟩:=h x hx
 exact ⟨a,b,r.rest hb (fun e=>by have:=hX _ e;omega)⟩
def VecD (lo hi:Nat) (w:World) (f:Fd) (p o:Nat) (l m:Int):Prop:=∃ q1 q2 q3,f=⟨264,#[pA q1 0,pA q2 0,pA q3 0],265,#[pA q1 0],267,#[pA q1 0]⟩∧Bxs lo hi w [(q1,[pA p o]),(q2,[.int .i64 l]),(q3,[.int .i64 m])]
def NumD (lo hi:Nat) (w:World) (f:Fd) (p o:Nat) (s l m:Int):Prop:=∃ q1 q2 q3 q4,f=⟨287,#[pA q1 0,pA q3 0,pA q4 0],288,#[pA q1 0,pA q2 0],289,#[pA q2 0,pA q1 0]⟩∧Bxs lo hi w [(q1,[pA p o]),(q2,[.int .i64 s]),(q3,[.int .i64 l]),(q4,[.int .i64 m])]
def HonD (lo hi:Nat) (w:World) (f:Fd) (p o:Nat):Prop:=∃ q0 q1,f=⟨268,#[pA q0 0],265,#[pA q1 0],267,#[pA q1 0]⟩∧Bxs lo hi w [(q0,[pA p o]),(q1,[pA p o])]
def LnD (lo hi:Nat) (w:World) (f:Fd) (p o:Nat):Prop:=∃ q,f=⟨269,#[pA q 0],271,#[pA q 0],272,#[pA q 0]⟩∧Bxs lo hi w [(q,[pA p o])]
def LhD (lo hi:Nat) (w:World) (f:Fd) (p o:Nat):Prop:=∃ q q0 q1 s1 s2 s3 g9 g10 k,f=⟨293,#[pA k 0],294,#[pA k 0],295,#[pA k 0]⟩∧Bxs lo hi w [(q,[pA p o]),(q0,[pA p (o+4)]),(q1,[pA p (o+4)]),(s1,[pA p (o+4)]),(s2,[.int .i64 0]),(s3,[.int .i64 0]),
 (g9,[clo 268 #[pA q0 0],clo 265 #[pA q1 0],clo 267 #[pA q1 0]]),
 (g10,[clo 264 #[pA s1 0,pA s2 0,pA s3 0],clo 300 #[],clo 301 #[]]),(k,[clo 292 #[pA q 0,pA g9 0,pA g10 0]])]
def unwD (f:Fd):Fd:=⟨f.i0,f.c0,300,#[],301,#[]⟩
section
variable {lo hi lo' hi':Nat} {w w':World} {f:Fd} {p o:Nat} {s l m:Int}
theorem VecD.map (h:VecD lo hi w f p o l m) (g:∀ L,Bxs lo hi w L→Bxs lo' hi' w' L):VecD lo' hi' w' f p o l m:=by
 obtain ⟨q1,q2,q3,e,b⟩:=h;exact ⟨q1,q2,q3,e,g _ b⟩
theorem NumD.map (h:NumD lo hi w f p o s l m) (g:∀ L,Bxs lo hi w L→Bxs lo' hi' w' L):NumD lo' hi' w' f p o s l m:=by
 obtain ⟨q1,q2,q3,q4,e,b⟩:=h;exact ⟨q1,q2,q3,q4,e,g _ b⟩
theorem HonD.map (h:HonD lo hi w f p o) (g:∀ L,Bxs lo hi w L→Bxs lo' hi' w' L):HonD lo' hi' w' f p o:=by
 obtain ⟨q1,q2,e,b⟩:=h;exact ⟨q1,q2,e,g _ b⟩
theorem LnD.map (h:LnD lo hi w f p o) (g:∀ L,Bxs lo hi w L→Bxs lo' hi' w' L):LnD lo' hi' w' f p o:=by
 obtain ⟨q1,e,b⟩:=h;exact ⟨q1,e,g _ b⟩
theorem LhD.map (h:LhD lo hi w f p o) (g:∀ L,Bxs lo hi w L→Bxs lo' hi' w' L):LhD lo' hi' w' f p o:=by
 obtain ⟨q,q0,q1,s1,s2,s3,g9,g10,k,e,b⟩:=h;exact ⟨q,q0,q1,s1,s2,s3,g9,g10,k,e,g _ b⟩
end
theorem vecD_any (p o:Nat) (l m:Int) (w:World):Calls Tryz.prog 242 #[pA p o,.int .i64 l,.int .i64 m] w fun e w'=>∃ f:Fd,e = .returned f.val∧VecD w.heap.size w'.heap.size w' f p o l m∧Below w.heap.size w w' :=
 (vec_any p o l m w).mono fun e w' h=>by
  obtain ⟨F,rfl,⟨q1,q2,q3,rfl,⟨h1,h2,h3⟩,r1,r2,r3⟩,b⟩:=h
  refine ⟨⟨264,#[pA q1 0,pA q2 0,pA q3 0],265,#[pA q1 0],267,#[pA q1 0]⟩,rfl,⟨q1,q2,q3,rfl,Bxs.of ?_⟩,b⟩
  simp only [List.mem_cons,List.not_mem_nil,or_false]
  rintro x (rfl | rfl | rfl)
  · exact ⟨h1,r1⟩
  · exact ⟨h2,r2⟩
  · exact ⟨h3,r3⟩
theorem numD_any (p o:Nat) (s l m:Int) (w:World):Calls Tryz.prog 262 #[pA p o,.int .i64 s,.int .i64 l,.int .i64 m] w fun e w'=>∃ f:Fd,e = .returned f.val∧NumD w.heap.size w'.heap.size w' f p o s l m∧Below w.heap.size w w' :=
 (num_any p o s l m w).mono fun e w' h=>by
  obtain ⟨F,rfl,⟨q1,q2,q3,q4,rfl,⟨h1,h2,h3,h4⟩,r1,r2,r3,r4⟩,b⟩:=h
  refine ⟨⟨287,#[pA q1 0,pA q3 0,pA q4 0],288,#[pA q1 0,pA q2 0],289,#[pA q2 0,pA q1 0]⟩,rfl,⟨q1,q2,q3,q4,rfl,Bxs.of ?_⟩,b⟩
  simp only [List.mem_cons,List.not_mem_nil,or_false]
  rintro x (rfl | rfl | rfl | rfl)
  · exact ⟨h1,r1⟩
  · exact ⟨h2,r2⟩
  · exact ⟨h3,r3⟩
  · exact ⟨h4,r4⟩
theorem honD_any (p o:Nat) (w:World):Calls Tryz.prog 243 #[pA p o] w fun e w'=>∃ f:Fd,e = .returned f.val∧HonD w.heap.size w'.heap.size w' f p o∧Below w.heap.size w w' :=
 (hon_any p o w).mono fun e w' h=>by
  obtain ⟨F,rfl,⟨q1,q2,rfl,⟨h1,h2⟩,r1,r2⟩,b⟩:=h
  refine ⟨⟨268,#[pA q1 0],265,#[pA q2 0],267,#[pA q2 0]⟩,rfl,⟨q1,q2,rfl,Bxs.of ?_⟩,b⟩
  simp only [List.mem_cons,List.not_mem_nil,or_false]
  rintro x (rfl | rfl)
  · exact ⟨h1,r1⟩
  · exact ⟨h2,r2⟩
theorem lnD_any (p o:Nat) (w:World):Calls Tryz.prog 244 #[pA p o] w fun e w'=>∃ f:Fd,e = .returned f.val∧LnD w.heap.size w'.heap.size w' f p o∧Below w.heap.size w w' :=
 (lnm_any p o w).mono fun e w' h=>by
  obtain ⟨F,rfl,⟨q1,rfl,h1,r1⟩,b⟩:=h
  refine ⟨⟨269,#[pA q1 0],271,#[pA q1 0],272,#[pA q1 0]⟩,rfl,⟨q1,rfl,Bxs.of ?_⟩,b⟩
  simp only [List.mem_cons,List.not_mem_nil,or_false]
  rintro x rfl
  exact ⟨h1,r1⟩
theorem lhD_any (p o:Nat) (w:World):Calls Tryz.prog 263 #[pA p o] w fun e w'=>∃ f:Fd,e = .returned f.val∧LhD w.heap.size w'.heap.size w' f p o∧Below w.heap.size w w' :=
 (lh_any p o w).mono fun e w' h=>by
  obtain ⟨F,rfl,⟨q,q0,q1,s1,s2,s3,g9,g10,k,rfl,⟨h1,h2,h3,h4,h5,h6,h7,h8,h9⟩,r1,r2,r3,r4,r5,r6,r7,r8,r9⟩,b⟩:=h
  refine ⟨⟨293,#[pA k 0],294,#[pA k 0],295,#[pA k 0]⟩,rfl,⟨q,q0,q1,s1,s2,s3,g9,g10,k,rfl,Bxs.of ?_⟩,b⟩
  simp only [List.mem_cons,List.not_mem_nil,or_false]
  rintro x (rfl | rfl | rfl | rfl | rfl | rfl | rfl | rfl | rfl)
  · exact ⟨h1,r1⟩
  · exact ⟨h2,r2⟩
  · exact ⟨h3,r3⟩
  · exact ⟨h4,r4⟩
  · exact ⟨h5,r5⟩
  · exact ⟨h6,r6⟩
  · exact ⟨h7,r7⟩
  · exact ⟨h8,r8⟩
  · exact ⟨h9,r9⟩
def FL (base:Nat) (w:World) (v:Value) (fs:List Fd):Prop:=w.ownsRow base 243 3 v fs.length (fs.flatMap Fd.cells)
theorem FL.still {base:Nat} {w w':World} {v:Value} {fs:List Fd} (h:FL base w v fs) (hb:Below w.heap.size w w'):FL base w' v fs:=own_below h hb
theorem FL.lit (base:Nat) (w:World) (fs:List Fd) (hb:base≤w.heap.size) (hl:fs.length≤100):FL base (w.alloc (.cells (fs.flatMap Fd.cells).toArray 243)) (.slice (some ⟨w.heap.size,0,none⟩) fs.length fs.length) fs:=by
 have hs:(fs.flatMap Fd.cells).toArray.size=fs.length*3:=by
  rw [List.size_toArray]
  clear hl
  induction fs with
  | nil=>rfl
  | cons f fs ih=>rw [List.flatMap_cons,List.length_append,ih];show 3+_=(fs.length+1)*3;omega
 have:=World.ownsRow_lit (base:=base) (e:=243) (size:=3) w (fs.flatMap Fd.cells).toArray fs.length hb (by unfold maxLen;omega) hs
 exact this
end Go.Proofs.YtpmkiegabaidjaaGreatDoor
namespace Go.Proofs.YtpmkiegabaidjaaGreatDoor
open Go.RowKit
structure LeafFs (lo hi:Nat) (w:World) (p o:Nat) (last:Int) (f0 f1 f2 f3 f4 f5:Fd):Prop where
 e0:VecD lo hi w f0 p o 32 32
 e1:VecD lo hi w f1 p (o+1) 32 32
 e2:VecD lo hi w f2 p (o+2) 1 64
 e3:NumD lo hi w f3 p (o+3) 1 1 last
 e4:LhD lo hi w f4 p o
 e5:VecD lo hi w f5 p (o+5) 64 64
theorem LeafFs.map {lo hi lo' hi':Nat} {w w':World} {p o:Nat} {last:Int} {f0 f1 f2 f3 f4 f5:Fd} (h:LeafFs lo hi w p o last f0 f1 f2 f3 f4 f5) (g:∀ L,Bxs lo hi w L→Bxs lo' hi' w' L):LeafFs lo' hi' w' p o last f0 f1 f2 f3 f4 f5 :=
 ⟨h.e0.map g,h.e1.map g,h.e2.map g,h.e3.map g,h.e4.map g,h.e5.map g⟩
set_option maxRecDepth 20000 in
set_option maxHeartbeats 2000000 in
theorem lft_any (p o:Nat) (last:Int) (w:World):Calls Tryz.prog 240 #[pA p o,.int .i64 last] w fun e w'=>∃ v f0 f1 f2 f3 f4 f5,e = .returned v∧FL w.heap.size w' v [f0,f1,f2,f3,f4,f5]∧LeafFs w.heap.size w'.heap.size w' p o last f0 f1 f2 f3 f4 f5∧Below w.heap.size w w':=by
 go_enter Tryz.func240,Tryz.ntmps240
 go_wp2
 refine wp_region_held_drew (S:=fun u=>Below w.drew.heap.size w.drew u) (by kernel_rfl) (Below.refl _ _) (fun hS => ?_)
 have bd:Below w.heap.size w w.drew:=(Below.refl _ _).drew
 generalize w.drew=V at *
 refine tg 0 hS ?_
 (try simp only [pS])
 refine tg 1 hS ?_
 (try simp only [pS])
 refine tg 2 hS (v:=pA p o) ?_ (hy:=by intro u _;kernel_rfl)
 (try simp only [pS])
 refine tg 4 hS ?_
 (try simp only [pS])
 refine tg 5 hS ?_
 (try simp only [pS])
 refine tg 6 hS (v:=pA p (o+1)) ?_ (hy:=by intro u _;kernel_rfl)
 (try simp only [pS])
 refine tg 8 hS ?_
 (try simp only [pS])
 refine tg 9 hS ?_
 (try simp only [pS])
 refine tg 10 hS (v:=pA p (o+2)) ?_ (hy:=by intro u _;kernel_rfl)
 (try simp only [pS])
 refine tg 12 hS ?_
 (try simp only [pS])
 refine tg 13 hS ?_
 (try simp only [pS])
 refine tg 14 hS (v:=pA p (o+3)) ?_ (hy:=by intro u _;kernel_rfl)
 (try simp only [pS])
 refine tg 15 hS ?_
 (try simp only [pS])
 refine tg 17 hS ?_
 (try simp only [pS])
 refine tg 19 hS ?_
 (try simp only [pS])
 refine tg 20 hS ?_
 (try simp only [pS])
 refine tg 21 hS (v:=pA p (o+5)) ?_ (hy:=by intro u _;kernel_rfl)
 (try simp only [pS])
 refine cn 3 (vecD_any p o 32 32 V) (fun e w1 hr => ?_)
 obtain ⟨f0,rfl,d0,b1⟩:=hr
 refine ⟨_,rfl,b1,?_⟩
 (try simp only [pS])
 refine cn 7 (vecD_any p (o+1) 32 32 w1) (fun e w2 hr => ?_)
 obtain ⟨f1,rfl,d1,b2⟩:=hr
 refine ⟨_,rfl,b2,?_⟩
 (try simp only [pS])
 refine cn 11 (vecD_any p (o+2) 1 64 w2) (fun e w3 hr => ?_)
 obtain ⟨f2,rfl,d2,b3⟩:=hr
 refine ⟨_,rfl,b3,?_⟩
 (try simp only [pS])
 refine cn 16 (numD_any p (o+3) 1 1 last w3) (fun e w4 hr => ?_)
 obtain ⟨f3,rfl,d3,b4⟩:=hr
 refine ⟨_,rfl,b4,?_⟩
 (try simp only [pS])
 refine cn 18 (lhD_any p o w4) (fun e w5 hr => ?_)
 obtain ⟨f4,rfl,d4,b5⟩:=hr
 refine ⟨_,rfl,b5,?_⟩
 (try simp only [pS])
 refine cn 22 (vecD_any p (o+5) 64 64 w5) (fun e w6 hr => ?_)
 obtain ⟨f5,rfl,d5,b6⟩:=hr
 refine ⟨_,rfl,b6,?_⟩
 (try simp only [pS])
 have b7:Below w6.heap.size w6 (w6.alloc (.cells ([f0,f1,f2,f3,f4,f5].flatMap Fd.cells).toArray 243)):=(Below.refl _ _).alloc (Nat.le_refl _) _
 refine onlyV 23 (v := .slice (some ⟨w6.heap.size,0,none⟩) 6 6) (w':=w6.alloc (.cells ([f0,f1,f2,f3,f4,f5].flatMap Fd.cells).toArray 243)) ?_ b7 ?_
 · kernel_rfl
 (try simp only [pS])
 refine tg 24 b7 ?_
 (try simp only [pS])
 refine wpAnyH_done (by kernel_rfl) ?_ _
 go_wp2
 go_ret
 have hl:=FL.lit w.heap.size w6 [f0,f1,f2,f3,f4,f5] (Nat.le_trans bd.size (Nat.le_trans b1.size (Nat.le_trans b2.size (Nat.le_trans b3.size (Nat.le_trans b4.size (Nat.le_trans b5.size b6.size)))))) (by simp)
 have z1:=bd.size
 have z2:=b1.size
 have z3:=b2.size
 have z4:=b3.size
 have z5:=b4.size
 have z6:=b5.size
 have z7:=b6.size
 have z8:=b7.size
 generalize w6.alloc (.cells ([f0,f1,f2,f3,f4,f5].flatMap Fd.cells).toArray 243)=W at *
 have c6:=b7
 have c5:=below_next b6 c6
 have c4:=below_next b5 c5
 have c3:=below_next b4 c4
 have c2:=below_next b3 c3
 have c1:=below_next b2 c2
 refine ⟨_,f0,f1,f2,f3,f4,f5,rfl,hl,⟨?_,?_,?_,?_,?_,?_⟩,below_next bd (below_next b1 c1)⟩
 · exact d0.map fun L h=>(h.still c1).wide (by omega) (by omega)
 · exact d1.map fun L h=>(h.still c2).wide (by omega) (by omega)
 · exact d2.map fun L h=>(h.still c3).wide (by omega) (by omega)
 · exact d3.map fun L h=>(h.still c4).wide (by omega) (by omega)
 · exact d4.map fun L h=>(h.still c5).wide (by omega) (by omega)
 · exact d5.map fun L h=>(h.still c6).wide (by omega) (by omega)
end Go.Proofs.YtpmkiegabaidjaaGreatDoor
namespace Go.Proofs.YtpmkiegabaidjaaGreatDoor
open Go.RowKit
structure Tx where
 n:Nat
 b:Nat→Nat
structure LfD where
 enc:Tx
 sig:Tx
 name:Tx
 src:Int
 hash:Tx
 sg:Tx
def lfR (d:LfD) (last:Int):Prop:=d.enc.n=32∧d.sig.n=32∧(1≤d.name.n∧d.name.n≤64)∧(1≤d.src∧d.src≤last)∧(if d.src=3 then d.hash.n=0∨d.hash.n=32 else d.hash.n=0)∧d.sg.n=64
def lfA (d:LfD) (last:Int):Nat→Bool
 | 0=>decide ((32:Int)≤(d.enc.n:Int)) && decide ((d.enc.n:Int)≤32)
 | 1=>decide ((32:Int)≤(d.sig.n:Int)) && decide ((d.sig.n:Int)≤32)
 | 2=>decide ((1:Int)≤(d.name.n:Int)) && decide ((d.name.n:Int)≤64)
 | 3=>decide (1≤d.src) && decide (d.src≤last)
 | 4=>if d.src=3 then decide (d.hash.n=0) || decide (d.hash.n=32) else decide (d.hash.n=0)
 | _=>decide ((64:Int)≤(d.sg.n:Int)) && decide ((d.sg.n:Int)≤64)
def lfN (d:LfD):Nat→Nat
 | 0=>vcL d.enc.n
 | 1=>vcL d.sig.n
 | 2=>vcL d.name.n
 | 3=>1
 | 4=>if d.src=3 then vcL d.hash.n else 0
 | _=>vcL d.sg.n
def lfB (d:LfD):Nat→Nat→Nat
 | 0=>vcB d.enc.n d.enc.b
 | 1=>vcB d.sig.n d.sig.b
 | 2=>vcB d.name.n d.name.b
 | 3=>beN d.src.toNat 1
 | 4=>vcB d.hash.n d.hash.b
 | _=>vcB d.sg.n d.sg.b
def allU (al:Nat→Bool):Nat→Bool
 | 0=>true
 | n+1=>allU al n && al n
theorem lf_all (d:LfD) (last:Int):allU (lfA d last) 6=true↔lfR d last:=by
 simp only [allU,lfA,lfR,Bool.and_eq_true,decide_eq_true_eq,Bool.true_and]
 by_cases h:d.src=3
 · simp only [if_pos h,Bool.or_eq_true,decide_eq_true_eq];omega
 · simp only [if_neg h,decide_eq_true_eq];omega
structure PrD where
 enc:Tx
 hash:Tx
 um:List Int
structure PkD where
 init:Tx
 leaf:LfD
 sg:Tx
def zat (l:List Int) (i:Nat):Int:=(l[i]?).getD 0
def lastZ (l:List Int):Nat→Int
 | 0=>-1
 | k+1=>zat l k
def risU (l:List Int):Nat→Bool
 | 0=>true
 | k+1=>risU l k && (decide (lastZ l k<zat l k) && decide (zat l k<64))
def umB (l:List Int):Nat→Nat→Nat:=allB (fun _=>4) (fun i=>beN (zat l i).toNat 4)
def prR (d:PrD):Prop:=d.enc.n=32∧(d.hash.n=0∨d.hash.n=32)∧risU d.um d.um.length=true
def prA (d:PrD):Nat→Bool
 | 0=>decide ((32:Int)≤(d.enc.n:Int)) && decide ((d.enc.n:Int)≤32)
 | 1=>decide (d.hash.n=0) || decide (d.hash.n=32)
 | _=>risU d.um d.um.length
def prN (d:PrD):Nat→Nat
 | 0=>vcL d.enc.n
 | 1=>vcL d.hash.n
 | _=>vcL (4*d.um.length)
def prB (d:PrD):Nat→Nat→Nat
 | 0=>vcB d.enc.n d.enc.b
 | 1=>vcB d.hash.n d.hash.b
 | _=>vcB (4*d.um.length) (umB d.um d.um.length)
theorem pr_all (d:PrD):allU (prA d) 3=true↔prR d:=by
 simp only [allU,prA,prR,Bool.and_eq_true,decide_eq_true_eq,Bool.true_and,Bool.or_eq_true]
 constructor
 · rintro ⟨⟨h0,h1⟩,h2⟩
   exact ⟨by omega,h1,h2⟩
 · rintro ⟨h0,h1,h2⟩
   exact ⟨⟨by omega,h1⟩,h2⟩
def pkA (d:PkD):Nat→Bool
 | 0=>decide ((1:Int)≤1) && decide ((1:Int)≤1)
 | 1=>decide ((1:Int)≤1) && decide ((1:Int)≤1)
 | 2=>decide ((32:Int)≤(d.init.n:Int)) && decide ((d.init.n:Int)≤32)
 | 3=>lfA d.leaf 1 0
 | 4=>lfA d.leaf 1 1
 | 5=>lfA d.leaf 1 2
 | 6=>lfA d.leaf 1 3
 | 7=>lfA d.leaf 1 4
 | 8=>lfA d.leaf 1 5
 | _=>decide ((64:Int)≤(d.sg.n:Int)) && decide ((d.sg.n:Int)≤64)
end Go.Proofs.YtpmkiegabaidjaaGreatDoor
