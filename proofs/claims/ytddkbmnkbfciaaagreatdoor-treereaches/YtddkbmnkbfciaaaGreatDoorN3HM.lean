/- What the proof stands on: N3H, D1CF, D1KN, D1BR. -/
import Derived.Test.YtddkbmnkbfciaaaGreatDoorD1CEM
import Derived.Test.YtddkbmnkbfciaaaGreatDoorZAb2M
import Derived.Lib.SlBytesConst
namespace Go.Proofs.YtddkbmnkbfciaaaGreatDoor
open Go.RowKit
theorem neC {w:World} {g h:Nat} {x y:Value} {xs ys:List Value} (r:RW w g 0 (x :: xs)) (s:RW w h 0 (y :: ys)) (hn:x≠y):g≠h:=fun e=>by
 subst e
 exact hn (Option.some.inj ((r.cell (o:=0) rfl).symm.trans (s.cell (o:=0) rfl)))
theorem all3 (i j k:Nat) (c d e:Array Value):(#[clo i c,clo j d,clo k e]:Array Value).all (·.oneCell')=true:=by simp [clo,Value.oneCell']
theorem rgS {w:World} {g o:Nat} {X Y Z:Value} (h:w.there g o 3):(w.setCells g o [X,Y,Z]).rangeAt g o [X,Y,Z]:=World.rangeAt_setCells_same _ _ _ _ h
def LhF (base:Nat) (w:World) (F:Value) (p o:Nat):Prop:=∃ q q0 q1 s1 s2 s3 g9 g10 k,F = .agg #[clo 293 #[pA k 0],clo 294 #[pA k 0],clo 295 #[pA k 0]]∧(base≤q∧base≤q0∧base≤q1∧base≤s1∧base≤s2∧base≤s3∧base≤g9∧base≤g10∧base≤k) ∧
 RW w q 0 [pA p o]∧RW w q0 0 [pA p (o+4)]∧RW w q1 0 [pA p (o+4)]∧RW w s1 0 [pA p (o+4)]∧RW w s2 0 [.int .i64 0]∧RW w s3 0 [.int .i64 0] ∧
 RW w g9 0 [clo 268 #[pA q0 0],clo 265 #[pA q1 0],clo 267 #[pA q1 0]] ∧
 RW w g10 0 [clo 264 #[pA s1 0,pA s2 0,pA s3 0],clo 300 #[],clo 301 #[]]∧RW w k 0 [clo 292 #[pA q 0,pA g9 0,pA g10 0]]
set_option maxRecDepth 20000 in
set_option maxHeartbeats 4000000 in
theorem lh_any (p o:Nat) (w:World):Calls Tryz.prog 263 #[pA p o] w fun e w'=>∃ F,e = .returned F∧LhF w.heap.size w' F p o∧Below w.heap.size w w':=by
 have hmf:∀ (fn:Fn) (first cap:Array Value) (w:World),(Instr.makeFunc fn first cap).run Tryz.prog w = .ok (.func fn first cap) w:=fun _ _ _ _=>rfl
 obtain ⟨k1,b1,s1'⟩:=bx w (pA p o) 226
 obtain ⟨U,hU⟩:∃ U,U=w.alloc (.cells #[pA p o] 226):=⟨_,rfl⟩
 have HU:=Hid.mk' hU
 rw [←hU] at k1 b1 s1'
 go_enter Tryz.func263,Tryz.ntmps263
 go_upto_region 1 with (fail)
 rw [←HU.out,←s1']
 have s1h:=Hid.mk' s1'
 clear hU HU s1'
 have b2:Below U.heap.size U (U.alloc (.cells #[.nilFunc,.nilFunc,.nilFunc] 243)):=(Below.refl _ _).alloc (Nat.le_refl _) _
 have k2:=RW.fresh U [.nilFunc,.nilFunc,.nilFunc] 243
 have k1':=k1.still b2
 generalize U.alloc (.cells #[.nilFunc,.nilFunc,.nilFunc] 243)=W at *
 have k0:=k1'.drew
 have k2d:=k2.drew
 have bd:Below w.heap.size w W.drew:=(below_next b1 b2).drew
 have l0:=k0.lt
 have ck:=k0.cell (o:=0) rfl
 refine wp_region_held_drew (S:=fun u=>Below W.drew.heap.size W.drew u) (by kernel_rfl) (Below.refl _ _) (fun hS => ?_)
 generalize W.drew=V at *
 obtain ⟨oh,hoh⟩:∃ oh,oh=o+4:=⟨_,rfl⟩
 have Hoh:=Hid.mk' hoh
 refine tc 0 hS (fun u hu=>(hu.cell (p:=⟨w.heap.size,0,none⟩) l0).trans ck) ?_
 (try simp only [pS])
 refine tg 1 hS ?_
 (try simp only [pS])
 refine tg 2 hS (v:=pA p oh) ?_ (hy:=by intro u _;rw [Hoh.out];kernel_rfl)
 (try simp only [pS])
 refine tc 4 hS (fun u hu=>(hu.cell (p:=⟨w.heap.size,0,none⟩) l0).trans ck) ?_
 (try simp only [pS])
 refine tg 5 hS ?_
 (try simp only [pS])
 refine tg 6 hS (v:=pA p oh) ?_ (hy:=by intro u _;rw [Hoh.out];kernel_rfl)
 (try simp only [pS])
 refine dag_root (fun G hG0 => ?_)
 have hG:=Hid.mk' hG0
 clear hG0
 obtain ⟨F,hF0⟩:∃ F:Value→Value→Value→Value→Value→Act,∀ v3 v4 v9 v13 v14,F v3 v4 v9 v13 v14={ tmps:=#[pA p o,pA w.heap.size 0,pA U.heap.size 0,v3,v4,undef,pA p o,pA p o,pA p oh,v9,pA p o,pA p o,pA p oh,v13,v14,undef,undef,undef,undef,undef],defers:=[] }:=⟨_,fun _ _ _ _ _=>rfl⟩
 have hF:=Hid.mk' hF0
 clear hF0
 have st0:Hid (∀ (cur:World) (q0 q1 s1 s2 s3 g9 g10:Nat),Below V.heap.size V cur→RW cur q0 0 [pA p oh]→RW cur q1 0 [pA p oh]→V.heap.size≤q0→V.heap.size≤q1→RW cur s1 0 [pA p oh]→RW cur s2 0 [.int .i64 0]→RW cur s3 0 [.int .i64 0]→V.heap.size≤s1→V.heap.size≤s2→V.heap.size≤s3→RW cur g9 0 [clo 268 #[pA q0 0],clo 265 #[pA q1 0],clo 267 #[pA q1 0]]→V.heap.size≤g9→RW cur g10 0 [clo 264 #[pA s1 0,pA s2 0,pA s3 0],clo 300 #[],clo 301 #[]]→V.heap.size≤g10→g9≠g10→G 0 #[true,true,true,true,true,true,true,true,true,true,true,true,true] (F (pA g9 0) (pA g10 0) (.agg #[clo 268 #[pA q0 0],clo 265 #[pA q1 0],clo 267 #[pA q1 0]]) (.agg #[clo 264 #[pA s1 0,pA s2 0,pA s3 0],clo 265 #[pA s1 0],clo 267 #[pA s1 0]]) (.agg #[clo 264 #[pA s1 0,pA s2 0,pA s3 0],clo 300 #[],clo 301 #[]])) cur):=Hid.mk' (by
  intro cur q0 q1 s1 s2 s3 g9 g10 hS rq0 rq1 nq0 nq1 rs1 rs2 rs3 ns1 ns2 ns3 r9 n9 r10 n10 d
  rw [hF.out,hG.out]
  refine wpAnyH_done (by kernel_rfl) ?_ _
  have k2c:=k2d.still hS
  have k0c:=k0.still hS
  (try simp only [pS])
  clear hmf
  have hmf:∀ (fn:Fn) (first cap:Array Value) (w:World),(Instr.makeFunc fn first cap).run Tryz.prog w = .ok (.func fn first cap) w:=fun _ _ _ _=>rfl
  obtain ⟨x2,y2,z1⟩:=bx cur (clo 292 #[pA w.heap.size 0,pA g9 0,pA g10 0]) 278
  go_upto_region 3 with (fail)
  rw [show Value.func (Fn.func 292) #[] #[pA w.heap.size 0,pA g9 0,pA g10 0]=clo 292 #[pA w.heap.size 0,pA g9 0,pA g10 0] from rfl]
  have k2e:=k2c.still y2
  have k0e:=k0c.still y2
  have rq0:=rq0.still y2
  have rq1:=rq1.still y2
  have rs1:=rs1.still y2
  have rs2:=rs2.still y2
  have rs3:=rs3.still y2
  have r9:=r9.still y2
  have r10:=r10.still y2
  generalize cur.alloc (.cells #[clo 292 #[pA w.heap.size 0,pA g9 0,pA g10 0]] 278)=W5 at *
  clear hmf
  have hmf:∀ (fn:Fn) (first cap:Array Value) (w:World),(Instr.makeFunc fn first cap).run Tryz.prog w = .ok (.func fn first cap) w:=fun _ _ _ _=>rfl
  go_wp2_with (with_reducible (refine id (?_:wpList _ _ _ _ _ _));refine stF _ _ rfl rfl rfl rfl k2e.there ?_ rfl)
  refine bodyPost_ret (resF Tryz.results263 _ _ _ 0 _ _ _ rfl (rgS k2e.there)) rfl ?_
  have hs:=hS.size
  have hl:=k2d.lt
  have hu:=b1.size
  have hU2:U.heap.size=w.heap.size+1:=s1h.out
  have f:∀ {g:Nat} {cs:List Value},RW W5 g 0 cs→g≠U.heap.size→RW (W5.setCells U.heap.size 0 [clo 293 #[pA cur.heap.size 0],clo 294 #[pA cur.heap.size 0],clo 295 #[pA cur.heap.size 0]]) g 0 cs:=fun h hn=>h.far _ _ _ (.inl hn)
  rw [Hoh.out] at rq0 rq1 rs1
  refine ⟨_,rfl,⟨w.heap.size,q0,q1,s1,s2,s3,g9,g10,cur.heap.size,rfl,⟨Nat.le_refl _,by omega,by omega,by omega,by omega,by omega,by omega,by omega,by omega⟩,f k0e (by omega),f rq0 (by omega),f rq1 (by omega),f rs1 (by omega),f rs2 (by omega),f rs3 (by omega),f r9 (by omega),f r10 (by omega),f x2 (by omega)⟩,?_⟩
  exact below_setCells (by omega) _ _ _ (below_next (below_next bd hS) y2))
 have st1:Hid (∀ (cur:World) (q0 q1 s1 s2 s3 g9 g10:Nat),Below V.heap.size V cur→RW cur q0 0 [pA p oh]→RW cur q1 0 [pA p oh]→V.heap.size≤q0→V.heap.size≤q1→RW cur s1 0 [pA p oh]→RW cur s2 0 [.int .i64 0]→RW cur s3 0 [.int .i64 0]→V.heap.size≤s1→V.heap.size≤s2→V.heap.size≤s3→RW cur g9 0 [clo 268 #[pA q0 0],clo 265 #[pA q1 0],clo 267 #[pA q1 0]]→V.heap.size≤g9→RW cur g10 0 [.nilFunc,.nilFunc,.nilFunc]→V.heap.size≤g10→g9≠g10→G 1 #[true,true,true,true,true,true,true,true,true,true,true,true,false] (F (pA g9 0) (pA g10 0) (.agg #[clo 268 #[pA q0 0],clo 265 #[pA q1 0],clo 267 #[pA q1 0]]) (.agg #[clo 264 #[pA s1 0,pA s2 0,pA s3 0],clo 265 #[pA s1 0],clo 267 #[pA s1 0]]) (.agg #[clo 264 #[pA s1 0,pA s2 0,pA s3 0],clo 300 #[],clo 301 #[]])) cur):=Hid.mk' (by
  intro cur q0 q1 s1 s2 s3 g9 g10 hS rq0 rq1 nq0 nq1 rs1 rs2 rs3 ns1 ns2 ns3 r9 n9 r10 n10 d
  rw [hF.out,hG.out]
  refine wpAnyH_ready (rs:=[12]) (by kernel_rfl) (by simp) ?_
  refine aT _ 243 4 14 [clo 264 #[pA s1 0,pA s2 0,pA s3 0],clo 300 #[],clo 301 #[]] r10 rfl (below_setCells n10 _ _ _ hS) fldI (all3 _ _ _ _ _ _) (fun rr=>dagW hG (st0.out _ q0 q1 s1 s2 s3 g9 g10 (below_setCells n10 _ _ _ hS) (rq0.far _ _ _ (.inl (neC rq0 r10 (fun h=>by cases h)))) (rq1.far _ _ _ (.inl (neC rq1 r10 (fun h=>by cases h)))) nq0 nq1 (rs1.far _ _ _ (.inl (neC rs1 r10 (fun h=>by cases h)))) (rs2.far _ _ _ (.inl (neC rs2 r10 (fun h=>by cases h)))) (rs3.far _ _ _ (.inl (neC rs3 r10 (fun h=>by cases h)))) ns1 ns2 ns3 (r9.far _ _ _ (.inl d)) n9 rr n10 d) (hF.out _ _ _ _ _)) ?_ rfl rfl rfl (at_list rfl)
  exact AllReadyH.nil)
 have st2:Hid (∀ (cur:World) (q0 q1 s1 s2 s3 g9 g10:Nat),Below V.heap.size V cur→RW cur q0 0 [pA p oh]→RW cur q1 0 [pA p oh]→V.heap.size≤q0→V.heap.size≤q1→RW cur s1 0 [pA p oh]→RW cur s2 0 [.int .i64 0]→RW cur s3 0 [.int .i64 0]→V.heap.size≤s1→V.heap.size≤s2→V.heap.size≤s3→RW cur g9 0 [.nilFunc,.nilFunc,.nilFunc]→V.heap.size≤g9→RW cur g10 0 [.nilFunc,.nilFunc,.nilFunc]→V.heap.size≤g10→g9≠g10→G 2 #[true,true,true,true,true,true,true,true,true,true,true,false,false] (F (pA g9 0) (pA g10 0) (.agg #[clo 268 #[pA q0 0],clo 265 #[pA q1 0],clo 267 #[pA q1 0]]) (.agg #[clo 264 #[pA s1 0,pA s2 0,pA s3 0],clo 265 #[pA s1 0],clo 267 #[pA s1 0]]) (.agg #[clo 264 #[pA s1 0,pA s2 0,pA s3 0],clo 300 #[],clo 301 #[]])) cur):=Hid.mk' (by
  intro cur q0 q1 s1 s2 s3 g9 g10 hS rq0 rq1 nq0 nq1 rs1 rs2 rs3 ns1 ns2 ns3 r9 n9 r10 n10 d
  rw [hF.out,hG.out]
  clear st0
  refine wpAnyH_ready (rs:=[11]) (by kernel_rfl) (by simp) ?_
  refine aT _ 243 3 9 [clo 268 #[pA q0 0],clo 265 #[pA q1 0],clo 267 #[pA q1 0]] r9 rfl (below_setCells n9 _ _ _ hS) fldI (all3 _ _ _ _ _ _) (fun rr=>dagW hG (st1.out _ q0 q1 s1 s2 s3 g9 g10 (below_setCells n9 _ _ _ hS) (rq0.far _ _ _ (.inl (neC rq0 r9 (fun h=>by cases h)))) (rq1.far _ _ _ (.inl (neC rq1 r9 (fun h=>by cases h)))) nq0 nq1 (rs1.far _ _ _ (.inl (neC rs1 r9 (fun h=>by cases h)))) (rs2.far _ _ _ (.inl (neC rs2 r9 (fun h=>by cases h)))) (rs3.far _ _ _ (.inl (neC rs3 r9 (fun h=>by cases h)))) ns1 ns2 ns3 rr n9 (r10.far _ _ _ (.inl d.symm)) n10 d) (hF.out _ _ _ _ _)) ?_ rfl rfl rfl (at_list rfl)
  exact AllReadyH.nil)
 have st3:Hid (∀ (cur:World) (q0 q1 s1 s2 s3 g9:Nat),Below V.heap.size V cur→RW cur q0 0 [pA p oh]→RW cur q1 0 [pA p oh]→V.heap.size≤q0→V.heap.size≤q1→RW cur s1 0 [pA p oh]→RW cur s2 0 [.int .i64 0]→RW cur s3 0 [.int .i64 0]→V.heap.size≤s1→V.heap.size≤s2→V.heap.size≤s3→RW cur g9 0 [.nilFunc,.nilFunc,.nilFunc]→V.heap.size≤g9→G 3 #[true,true,true,true,true,true,true,true,true,true,false,false,false] (F (pA g9 0) (undef) (.agg #[clo 268 #[pA q0 0],clo 265 #[pA q1 0],clo 267 #[pA q1 0]]) (.agg #[clo 264 #[pA s1 0,pA s2 0,pA s3 0],clo 265 #[pA s1 0],clo 267 #[pA s1 0]]) (.agg #[clo 264 #[pA s1 0,pA s2 0,pA s3 0],clo 300 #[],clo 301 #[]])) cur):=Hid.mk' (by
  intro cur q0 q1 s1 s2 s3 g9 hS rq0 rq1 nq0 nq1 rs1 rs2 rs3 ns1 ns2 ns3 r9 n9
  rw [hF.out,hG.out]
  clear st0 st1
  refine wpAnyH_ready (rs:=[10]) (by kernel_rfl) (by simp) ?_
  refine aG _ (fun g=>pA g 0) [.nilFunc,.nilFunc,.nilFunc] 243 (fun u hb=>below_next hS hb) (fun w1 g10 lg hb rr=>dagW hG (st2.out w1 q0 q1 s1 s2 s3 g9 g10 (below_next hS hb) (rq0.still hb) (rq1.still hb) nq0 nq1 (rs1.still hb) (rs2.still hb) (rs3.still hb) ns1 ns2 ns3 (r9.still hb) n9 rr (Nat.le_trans hS.size lg) (fun e=>by have:=r9.lt;omega)) (hF.out _ _ _ _ _)) ?_ (by kernel_rfl) (at_list rfl)
  exact AllReadyH.nil)
 have st4:Hid (∀ (cur:World) (q0 q1 s1 s2 s3 g10:Nat),Below V.heap.size V cur→RW cur q0 0 [pA p oh]→RW cur q1 0 [pA p oh]→V.heap.size≤q0→V.heap.size≤q1→RW cur s1 0 [pA p oh]→RW cur s2 0 [.int .i64 0]→RW cur s3 0 [.int .i64 0]→V.heap.size≤s1→V.heap.size≤s2→V.heap.size≤s3→RW cur g10 0 [.nilFunc,.nilFunc,.nilFunc]→V.heap.size≤g10→G 3 #[true,true,true,true,true,true,true,true,true,false,true,false,false] (F (undef) (pA g10 0) (.agg #[clo 268 #[pA q0 0],clo 265 #[pA q1 0],clo 267 #[pA q1 0]]) (.agg #[clo 264 #[pA s1 0,pA s2 0,pA s3 0],clo 265 #[pA s1 0],clo 267 #[pA s1 0]]) (.agg #[clo 264 #[pA s1 0,pA s2 0,pA s3 0],clo 300 #[],clo 301 #[]])) cur):=Hid.mk' (by
  intro cur q0 q1 s1 s2 s3 g10 hS rq0 rq1 nq0 nq1 rs1 rs2 rs3 ns1 ns2 ns3 r10 n10
  rw [hF.out,hG.out]
  clear st0 st1 st3
  refine wpAnyH_ready (rs:=[9]) (by kernel_rfl) (by simp) ?_
  refine aG _ (fun g=>pA g 0) [.nilFunc,.nilFunc,.nilFunc] 243 (fun u hb=>below_next hS hb) (fun w1 g9 lg hb rr=>dagW hG (st2.out w1 q0 q1 s1 s2 s3 g9 g10 (below_next hS hb) (rq0.still hb) (rq1.still hb) nq0 nq1 (rs1.still hb) (rs2.still hb) (rs3.still hb) ns1 ns2 ns3 rr (Nat.le_trans hS.size lg) (r10.still hb) n10 (fun e=>by have:=r10.lt;omega)) (hF.out _ _ _ _ _)) ?_ (by kernel_rfl) (at_list rfl)
  exact AllReadyH.nil)
 have st5:Hid (∀ (cur:World) (q0 q1 s1 s2 s3:Nat),Below V.heap.size V cur→RW cur q0 0 [pA p oh]→RW cur q1 0 [pA p oh]→V.heap.size≤q0→V.heap.size≤q1→RW cur s1 0 [pA p oh]→RW cur s2 0 [.int .i64 0]→RW cur s3 0 [.int .i64 0]→V.heap.size≤s1→V.heap.size≤s2→V.heap.size≤s3→G 4 #[true,true,true,true,true,true,true,true,true,false,false,false,false] (F (undef) (undef) (.agg #[clo 268 #[pA q0 0],clo 265 #[pA q1 0],clo 267 #[pA q1 0]]) (.agg #[clo 264 #[pA s1 0,pA s2 0,pA s3 0],clo 265 #[pA s1 0],clo 267 #[pA s1 0]]) (.agg #[clo 264 #[pA s1 0,pA s2 0,pA s3 0],clo 300 #[],clo 301 #[]])) cur):=Hid.mk' (by
  intro cur q0 q1 s1 s2 s3 hS rq0 rq1 nq0 nq1 rs1 rs2 rs3 ns1 ns2 ns3
  rw [hF.out,hG.out]
  clear st0 st1 st2
  refine wpAnyH_ready (rs:=[9,10]) (by kernel_rfl) (by simp) ?_
  refine aG _ (fun g=>pA g 0) [.nilFunc,.nilFunc,.nilFunc] 243 (fun u hb=>below_next hS hb) (fun w1 g9 lg hb rr=>dagW hG (st3.out w1 q0 q1 s1 s2 s3 g9 (below_next hS hb) (rq0.still hb) (rq1.still hb) nq0 nq1 (rs1.still hb) (rs2.still hb) (rs3.still hb) ns1 ns2 ns3 rr (Nat.le_trans hS.size lg)) (hF.out _ _ _ _ _)) ?_ (by kernel_rfl) (at_list rfl)
  refine aG _ (fun g=>pA g 0) [.nilFunc,.nilFunc,.nilFunc] 243 (fun u hb=>below_next hS hb) (fun w1 g10 lg hb rr=>dagW hG (st4.out w1 q0 q1 s1 s2 s3 g10 (below_next hS hb) (rq0.still hb) (rq1.still hb) nq0 nq1 (rs1.still hb) (rs2.still hb) (rs3.still hb) ns1 ns2 ns3 rr (Nat.le_trans hS.size lg)) (hF.out _ _ _ _ _)) ?_ (by kernel_rfl) (at_list rfl)
  exact AllReadyH.nil)
 have st6:Hid (∀ (cur:World) (q0 q1 s1 s2 s3 g9 g10:Nat),Below V.heap.size V cur→RW cur q0 0 [pA p oh]→RW cur q1 0 [pA p oh]→V.heap.size≤q0→V.heap.size≤q1→RW cur s1 0 [pA p oh]→RW cur s2 0 [.int .i64 0]→RW cur s3 0 [.int .i64 0]→V.heap.size≤s1→V.heap.size≤s2→V.heap.size≤s3→RW cur g9 0 [.nilFunc,.nilFunc,.nilFunc]→V.heap.size≤g9→RW cur g10 0 [.nilFunc,.nilFunc,.nilFunc]→V.heap.size≤g10→g9≠g10→G 3 #[true,true,true,true,true,true,true,true,false,true,true,false,false] (F (pA g9 0) (pA g10 0) (.agg #[clo 268 #[pA q0 0],clo 265 #[pA q1 0],clo 267 #[pA q1 0]]) (.agg #[clo 264 #[pA s1 0,pA s2 0,pA s3 0],clo 265 #[pA s1 0],clo 267 #[pA s1 0]]) (undef)) cur):=Hid.mk' (by
  intro cur q0 q1 s1 s2 s3 g9 g10 hS rq0 rq1 nq0 nq1 rs1 rs2 rs3 ns1 ns2 ns3 r9 n9 r10 n10 d
  rw [hF.out,hG.out]
  clear st0 st1 st3 st4 st5
  refine wpAnyH_ready (rs:=[8]) (by kernel_rfl) (by simp) ?_
  refine arC _ (unw_any 264 265 267 #[pA s1 0,pA s2 0,pA s3 0] #[pA s1 0] #[pA s1 0] cur) (fun e w1 h=>by obtain ⟨rfl,hb⟩:=h;exact ⟨_,rfl,below_next hS hb,dagW hG (st2.out w1 q0 q1 s1 s2 s3 g9 g10 (below_next hS hb) (rq0.still hb) (rq1.still hb) nq0 nq1 (rs1.still hb) (rs2.still hb) (rs3.still hb) ns1 ns2 ns3 (r9.still hb) n9 (r10.still hb) n10 d) (hF.out _ _ _ _ _)⟩) ?_ (at_list rfl)
  exact AllReadyH.nil)
 have st7:Hid (∀ (cur:World) (q0 q1 s1 s2 s3 g9:Nat),Below V.heap.size V cur→RW cur q0 0 [pA p oh]→RW cur q1 0 [pA p oh]→V.heap.size≤q0→V.heap.size≤q1→RW cur s1 0 [pA p oh]→RW cur s2 0 [.int .i64 0]→RW cur s3 0 [.int .i64 0]→V.heap.size≤s1→V.heap.size≤s2→V.heap.size≤s3→RW cur g9 0 [.nilFunc,.nilFunc,.nilFunc]→V.heap.size≤g9→G 4 #[true,true,true,true,true,true,true,true,false,true,false,false,false] (F (pA g9 0) (undef) (.agg #[clo 268 #[pA q0 0],clo 265 #[pA q1 0],clo 267 #[pA q1 0]]) (.agg #[clo 264 #[pA s1 0,pA s2 0,pA s3 0],clo 265 #[pA s1 0],clo 267 #[pA s1 0]]) (undef)) cur):=Hid.mk' (by
  intro cur q0 q1 s1 s2 s3 g9 hS rq0 rq1 nq0 nq1 rs1 rs2 rs3 ns1 ns2 ns3 r9 n9
  rw [hF.out,hG.out]
  clear st0 st1 st2 st4 st5
  refine wpAnyH_ready (rs:=[8,10]) (by kernel_rfl) (by simp) ?_
  refine arC _ (unw_any 264 265 267 #[pA s1 0,pA s2 0,pA s3 0] #[pA s1 0] #[pA s1 0] cur) (fun e w1 h=>by obtain ⟨rfl,hb⟩:=h;exact ⟨_,rfl,below_next hS hb,dagW hG (st3.out w1 q0 q1 s1 s2 s3 g9 (below_next hS hb) (rq0.still hb) (rq1.still hb) nq0 nq1 (rs1.still hb) (rs2.still hb) (rs3.still hb) ns1 ns2 ns3 (r9.still hb) n9) (hF.out _ _ _ _ _)⟩) ?_ (at_list rfl)
  refine aG _ (fun g=>pA g 0) [.nilFunc,.nilFunc,.nilFunc] 243 (fun u hb=>below_next hS hb) (fun w1 g10 lg hb rr=>dagW hG (st6.out w1 q0 q1 s1 s2 s3 g9 g10 (below_next hS hb) (rq0.still hb) (rq1.still hb) nq0 nq1 (rs1.still hb) (rs2.still hb) (rs3.still hb) ns1 ns2 ns3 (r9.still hb) n9 rr (Nat.le_trans hS.size lg) (fun e=>by have:=r9.lt;omega)) (hF.out _ _ _ _ _)) ?_ (by kernel_rfl) (at_list rfl)
  exact AllReadyH.nil)
 have st8:Hid (∀ (cur:World) (q0 q1 s1 s2 s3 g10:Nat),Below V.heap.size V cur→RW cur q0 0 [pA p oh]→RW cur q1 0 [pA p oh]→V.heap.size≤q0→V.heap.size≤q1→RW cur s1 0 [pA p oh]→RW cur s2 0 [.int .i64 0]→RW cur s3 0 [.int .i64 0]→V.heap.size≤s1→V.heap.size≤s2→V.heap.size≤s3→RW cur g10 0 [.nilFunc,.nilFunc,.nilFunc]→V.heap.size≤g10→G 4 #[true,true,true,true,true,true,true,true,false,false,true,false,false] (F (undef) (pA g10 0) (.agg #[clo 268 #[pA q0 0],clo 265 #[pA q1 0],clo 267 #[pA q1 0]]) (.agg #[clo 264 #[pA s1 0,pA s2 0,pA s3 0],clo 265 #[pA s1 0],clo 267 #[pA s1 0]]) (undef)) cur):=Hid.mk' (by
  intro cur q0 q1 s1 s2 s3 g10 hS rq0 rq1 nq0 nq1 rs1 rs2 rs3 ns1 ns2 ns3 r10 n10
  rw [hF.out,hG.out]
  clear st0 st1 st2 st3 st5 st7
  refine wpAnyH_ready (rs:=[8,9]) (by kernel_rfl) (by simp) ?_
  refine arC _ (unw_any 264 265 267 #[pA s1 0,pA s2 0,pA s3 0] #[pA s1 0] #[pA s1 0] cur) (fun e w1 h=>by obtain ⟨rfl,hb⟩:=h;exact ⟨_,rfl,below_next hS hb,dagW hG (st4.out w1 q0 q1 s1 s2 s3 g10 (below_next hS hb) (rq0.still hb) (rq1.still hb) nq0 nq1 (rs1.still hb) (rs2.still hb) (rs3.still hb) ns1 ns2 ns3 (r10.still hb) n10) (hF.out _ _ _ _ _)⟩) ?_ (at_list rfl)
  refine aG _ (fun g=>pA g 0) [.nilFunc,.nilFunc,.nilFunc] 243 (fun u hb=>below_next hS hb) (fun w1 g9 lg hb rr=>dagW hG (st6.out w1 q0 q1 s1 s2 s3 g9 g10 (below_next hS hb) (rq0.still hb) (rq1.still hb) nq0 nq1 (rs1.still hb) (rs2.still hb) (rs3.still hb) ns1 ns2 ns3 rr (Nat.le_trans hS.size lg) (r10.still hb) n10 (fun e=>by have:=r10.lt;omega)) (hF.out _ _ _ _ _)) ?_ (by kernel_rfl) (at_list rfl)
  exact AllReadyH.nil)
 have st9:Hid (∀ (cur:World) (q0 q1 s1 s2 s3:Nat),Below V.heap.size V cur→RW cur q0 0 [pA p oh]→RW cur q1 0 [pA p oh]→V.heap.size≤q0→V.heap.size≤q1→RW cur s1 0 [pA p oh]→RW cur s2 0 [.int .i64 0]→RW cur s3 0 [.int .i64 0]→V.heap.size≤s1→V.heap.size≤s2→V.heap.size≤s3→G 5 #[true,true,true,true,true,true,true,true,false,false,false,false,false] (F (undef) (undef) (.agg #[clo 268 #[pA q0 0],clo 265 #[pA q1 0],clo 267 #[pA q1 0]]) (.agg #[clo 264 #[pA s1 0,pA s2 0,pA s3 0],clo 265 #[pA s1 0],clo 267 #[pA s1 0]]) (undef)) cur):=Hid.mk' (by
  intro cur q0 q1 s1 s2 s3 hS rq0 rq1 nq0 nq1 rs1 rs2 rs3 ns1 ns2 ns3
  rw [hF.out,hG.out]
  clear st0 st1 st2 st3 st4 st6
  refine wpAnyH_ready (rs:=[8,9,10]) (by kernel_rfl) (by simp) ?_
  refine arC _ (unw_any 264 265 267 #[pA s1 0,pA s2 0,pA s3 0] #[pA s1 0] #[pA s1 0] cur) (fun e w1 h=>by obtain ⟨rfl,hb⟩:=h;exact ⟨_,rfl,below_next hS hb,dagW hG (st5.out w1 q0 q1 s1 s2 s3 (below_next hS hb) (rq0.still hb) (rq1.still hb) nq0 nq1 (rs1.still hb) (rs2.still hb) (rs3.still hb) ns1 ns2 ns3) (hF.out _ _ _ _ _)⟩) ?_ (at_list rfl)
  refine aG _ (fun g=>pA g 0) [.nilFunc,.nilFunc,.nilFunc] 243 (fun u hb=>below_next hS hb) (fun w1 g9 lg hb rr=>dagW hG (st7.out w1 q0 q1 s1 s2 s3 g9 (below_next hS hb) (rq0.still hb) (rq1.still hb) nq0 nq1 (rs1.still hb) (rs2.still hb) (rs3.still hb) ns1 ns2 ns3 rr (Nat.le_trans hS.size lg)) (hF.out _ _ _ _ _)) ?_ (by kernel_rfl) (at_list rfl)
  refine aG _ (fun g=>pA g 0) [.nilFunc,.nilFunc,.nilFunc] 243 (fun u hb=>below_next hS hb) (fun w1 g10 lg hb rr=>dagW hG (st8.out w1 q0 q1 s1 s2 s3 g10 (below_next hS hb) (rq0.still hb) (rq1.still hb) nq0 nq1 (rs1.still hb) (rs2.still hb) (rs3.still hb) ns1 ns2 ns3 rr (Nat.le_trans hS.size lg)) (hF.out _ _ _ _ _)) ?_ (by kernel_rfl) (at_list rfl)
  exact AllReadyH.nil)
 have st10:Hid (∀ (cur:World) (q0 q1 g9 g10:Nat),Below V.heap.size V cur→RW cur q0 0 [pA p oh]→RW cur q1 0 [pA p oh]→V.heap.size≤q0→V.heap.size≤q1→RW cur g9 0 [.nilFunc,.nilFunc,.nilFunc]→V.heap.size≤g9→RW cur g10 0 [.nilFunc,.nilFunc,.nilFunc]→V.heap.size≤g10→g9≠g10→G 4 #[true,true,true,true,true,true,true,false,false,true,true,false,false] (F (pA g9 0) (pA g10 0) (.agg #[clo 268 #[pA q0 0],clo 265 #[pA q1 0],clo 267 #[pA q1 0]]) (undef) (undef)) cur):=Hid.mk' (by
  intro cur q0 q1 g9 g10 hS rq0 rq1 nq0 nq1 r9 n9 r10 n10 d
  rw [hF.out,hG.out]
  clear st0 st1 st2 st3 st4 st5 st7 st8 st9
  refine wpAnyH_ready (rs:=[7]) (by kernel_rfl) (by simp) ?_
  refine arC _ (vec_any p oh 0 0 cur) (fun e w1 h=>by obtain ⟨F1,rfl,⟨s1,s2,s3,rfl,⟨y1,y2,y3⟩,x1,x2,x3⟩,hb⟩:=h;exact ⟨_,rfl,below_next hS hb,dagW hG (st6.out w1 q0 q1 s1 s2 s3 g9 g10 (below_next hS hb) (rq0.still hb) (rq1.still hb) nq0 nq1 x1 x2 x3 (Nat.le_trans hS.size y1) (Nat.le_trans hS.size y2) (Nat.le_trans hS.size y3) (r9.still hb) n9 (r10.still hb) n10 d) (hF.out _ _ _ _ _)⟩) ?_ (at_list rfl)
  exact AllReadyH.nil)
 have st11:Hid (∀ (cur:World) (q0 q1 g9:Nat),Below V.heap.size V cur→RW cur q0 0 [pA p oh]→RW cur q1 0 [pA p oh]→V.heap.size≤q0→V.heap.size≤q1→RW cur g9 0 [.nilFunc,.nilFunc,.nilFunc]→V.heap.size≤g9→G 5 #[true,true,true,true,true,true,true,false,false,true,false,false,false] (F (pA g9 0) (undef) (.agg #[clo 268 #[pA q0 0],clo 265 #[pA q1 0],clo 267 #[pA q1 0]]) (undef) (undef)) cur):=Hid.mk' (by
  intro cur q0 q1 g9 hS rq0 rq1 nq0 nq1 r9 n9
  rw [hF.out,hG.out]
  clear st0 st1 st2 st3 st4 st5 st6 st8 st9
  refine wpAnyH_ready (rs:=[7,10]) (by kernel_rfl) (by simp) ?_
  refine arC _ (vec_any p oh 0 0 cur) (fun e w1 h=>by obtain ⟨F1,rfl,⟨s1,s2,s3,rfl,⟨y1,y2,y3⟩,x1,x2,x3⟩,hb⟩:=h;exact ⟨_,rfl,below_next hS hb,dagW hG (st7.out w1 q0 q1 s1 s2 s3 g9 (below_next hS hb) (rq0.still hb) (rq1.still hb) nq0 nq1 x1 x2 x3 (Nat.le_trans hS.size y1) (Nat.le_trans hS.size y2) (Nat.le_trans hS.size y3) (r9.still hb) n9) (hF.out _ _ _ _ _)⟩) ?_ (at_list rfl)
  refine aG _ (fun g=>pA g 0) [.nilFunc,.nilFunc,.nilFunc] 243 (fun u hb=>below_next hS hb) (fun w1 g10 lg hb rr=>dagW hG (st10.out w1 q0 q1 g9 g10 (below_next hS hb) (rq0.still hb) (rq1.still hb) nq0 nq1 (r9.still hb) n9 rr (Nat.le_trans hS.size lg) (fun e=>by have:=r9.lt;omega)) (hF.out _ _ _ _ _)) ?_ (by kernel_rfl) (at_list rfl)
  exact AllReadyH.nil)
 have st12:Hid (∀ (cur:World) (q0 q1 g10:Nat),Below V.heap.size V cur→RW cur q0 0 [pA p oh]→RW cur q1 0 [pA p oh]→V.heap.size≤q0→V.heap.size≤q1→RW cur g10 0 [.nilFunc,.nilFunc,.nilFunc]→V.heap.size≤g10→G 5 #[true,true,true,true,true,true,true,false,false,false,true,false,false] (F (undef) (pA g10 0) (.agg #[clo 268 #[pA q0 0],clo 265 #[pA q1 0],clo 267 #[pA q1 0]]) (undef) (undef)) cur):=Hid.mk' (by
  intro cur q0 q1 g10 hS rq0 rq1 nq0 nq1 r10 n10
  rw [hF.out,hG.out]
  clear st0 st1 st2 st3 st4 st5 st6 st7 st9 st11
  refine wpAnyH_ready (rs:=[7,9]) (by kernel_rfl) (by simp) ?_
  refine arC _ (vec_any p oh 0 0 cur) (fun e w1 h=>by obtain ⟨F1,rfl,⟨s1,s2,s3,rfl,⟨y1,y2,y3⟩,x1,x2,x3⟩,hb⟩:=h;exact ⟨_,rfl,below_next hS hb,dagW hG (st8.out w1 q0 q1 s1 s2 s3 g10 (below_next hS hb) (rq0.still hb) (rq1.still hb) nq0 nq1 x1 x2 x3 (Nat.le_trans hS.size y1) (Nat.le_trans hS.size y2) (Nat.le_trans hS.size y3) (r10.still hb) n10) (hF.out _ _ _ _ _)⟩) ?_ (at_list rfl)
  refine aG _ (fun g=>pA g 0) [.nilFunc,.nilFunc,.nilFunc] 243 (fun u hb=>below_next hS hb) (fun w1 g9 lg hb rr=>dagW hG (st10.out w1 q0 q1 g9 g10 (below_next hS hb) (rq0.still hb) (rq1.still hb) nq0 nq1 rr (Nat.le_trans hS.size lg) (r10.still hb) n10 (fun e=>by have:=r10.lt;omega)) (hF.out _ _ _ _ _)) ?_ (by kernel_rfl) (at_list rfl)
  exact AllReadyH.nil)
 have st13:Hid (∀ (cur:World) (q0 q1:Nat),Below V.heap.size V cur→RW cur q0 0 [pA p oh]→RW cur q1 0 [pA p oh]→V.heap.size≤q0→V.heap.size≤q1→G 6 #[true,true,true,true,true,true,true,false,false,false,false,false,false] (F (undef) (undef) (.agg #[clo 268 #[pA q0 0],clo 265 #[pA q1 0],clo 267 #[pA q1 0]]) (undef) (undef)) cur):=Hid.mk' (by
  intro cur q0 q1 hS rq0 rq1 nq0 nq1
  rw [hF.out,hG.out]
  clear st0 st1 st2 st3 st4 st5 st6 st7 st8 st10
  refine wpAnyH_ready (rs:=[7,9,10]) (by kernel_rfl) (by simp) ?_
  refine arC _ (vec_any p oh 0 0 cur) (fun e w1 h=>by obtain ⟨F1,rfl,⟨s1,s2,s3,rfl,⟨y1,y2,y3⟩,x1,x2,x3⟩,hb⟩:=h;exact ⟨_,rfl,below_next hS hb,dagW hG (st9.out w1 q0 q1 s1 s2 s3 (below_next hS hb) (rq0.still hb) (rq1.still hb) nq0 nq1 x1 x2 x3 (Nat.le_trans hS.size y1) (Nat.le_trans hS.size y2) (Nat.le_trans hS.size y3)) (hF.out _ _ _ _ _)⟩) ?_ (at_list rfl)
  refine aG _ (fun g=>pA g 0) [.nilFunc,.nilFunc,.nilFunc] 243 (fun u hb=>below_next hS hb) (fun w1 g9 lg hb rr=>dagW hG (st11.out w1 q0 q1 g9 (below_next hS hb) (rq0.still hb) (rq1.still hb) nq0 nq1 rr (Nat.le_trans hS.size lg)) (hF.out _ _ _ _ _)) ?_ (by kernel_rfl) (at_list rfl)
  refine aG _ (fun g=>pA g 0) [.nilFunc,.nilFunc,.nilFunc] 243 (fun u hb=>below_next hS hb) (fun w1 g10 lg hb rr=>dagW hG (st12.out w1 q0 q1 g10 (below_next hS hb) (rq0.still hb) (rq1.still hb) nq0 nq1 rr (Nat.le_trans hS.size lg)) (hF.out _ _ _ _ _)) ?_ (by kernel_rfl) (at_list rfl)
  exact AllReadyH.nil)
 have st14:Hid (∀ (cur:World) (g9 g10:Nat),Below V.heap.size V cur→RW cur g9 0 [.nilFunc,.nilFunc,.nilFunc]→V.heap.size≤g9→RW cur g10 0 [.nilFunc,.nilFunc,.nilFunc]→V.heap.size≤g10→g9≠g10→G 5 #[true,true,true,false,true,true,true,false,false,true,true,false,false] (F (pA g9 0) (pA g10 0) (undef) (undef) (undef)) cur):=Hid.mk' (by
  intro cur g9 g10 hS r9 n9 r10 n10 d
  rw [hF.out,hG.out]
  clear st0 st1 st2 st3 st4 st5 st6 st7 st8 st9 st11 st12 st13
  refine wpAnyH_ready (rs:=[3]) (by kernel_rfl) (by simp) ?_
  refine arC _ (hon_any p oh cur) (fun e w1 h=>by obtain ⟨F1,rfl,⟨q0,q1,rfl,⟨y1,y2⟩,x1,x2⟩,hb⟩:=h;exact ⟨_,rfl,below_next hS hb,dagW hG (st10.out w1 q0 q1 g9 g10 (below_next hS hb) x1 x2 (Nat.le_trans hS.size y1) (Nat.le_trans hS.size y2) (r9.still hb) n9 (r10.still hb) n10 d) (hF.out _ _ _ _ _)⟩) ?_ (at_list rfl)
  exact AllReadyH.nil)
 have st15:Hid (∀ (cur:World) (g9:Nat),Below V.heap.size V cur→RW cur g9 0 [.nilFunc,.nilFunc,.nilFunc]→V.heap.size≤g9→G 6 #[true,true,true,false,true,true,true,false,false,true,false,false,false] (F (pA g9 0) (undef) (undef) (undef) (undef)) cur):=Hid.mk' (by
  intro cur g9 hS r9 n9
  rw [hF.out,hG.out]
  clear st0 st1 st2 st3 st4 st5 st6 st7 st8 st9 st10 st12 st13
  refine wpAnyH_ready (rs:=[3,10]) (by kernel_rfl) (by simp) ?_
  refine arC _ (hon_any p oh cur) (fun e w1 h=>by obtain ⟨F1,rfl,⟨q0,q1,rfl,⟨y1,y2⟩,x1,x2⟩,hb⟩:=h;exact ⟨_,rfl,below_next hS hb,dagW hG (st11.out w1 q0 q1 g9 (below_next hS hb) x1 x2 (Nat.le_trans hS.size y1) (Nat.le_trans hS.size y2) (r9.still hb) n9) (hF.out _ _ _ _ _)⟩) ?_ (at_list rfl)
  refine aG _ (fun g=>pA g 0) [.nilFunc,.nilFunc,.nilFunc] 243 (fun u hb=>below_next hS hb) (fun w1 g10 lg hb rr=>dagW hG (st14.out w1 g9 g10 (below_next hS hb) (r9.still hb) n9 rr (Nat.le_trans hS.size lg) (fun e=>by have:=r9.lt;omega)) (hF.out _ _ _ _ _)) ?_ (by kernel_rfl) (at_list rfl)
  exact AllReadyH.nil)
 have st16:Hid (∀ (cur:World) (g10:Nat),Below V.heap.size V cur→RW cur g10 0 [.nilFunc,.nilFunc,.nilFunc]→V.heap.size≤g10→G 6 #[true,true,true,false,true,true,true,false,false,false,true,false,false] (F (undef) (pA g10 0) (undef) (undef) (undef)) cur):=Hid.mk' (by
  intro cur g10 hS r10 n10
  rw [hF.out,hG.out]
  clear st0 st1 st2 st3 st4 st5 st6 st7 st8 st9 st10 st11 st13 st15
  refine wpAnyH_ready (rs:=[3,9]) (by kernel_rfl) (by simp) ?_
  refine arC _ (hon_any p oh cur) (fun e w1 h=>by obtain ⟨F1,rfl,⟨q0,q1,rfl,⟨y1,y2⟩,x1,x2⟩,hb⟩:=h;exact ⟨_,rfl,below_next hS hb,dagW hG (st12.out w1 q0 q1 g10 (below_next hS hb) x1 x2 (Nat.le_trans hS.size y1) (Nat.le_trans hS.size y2) (r10.still hb) n10) (hF.out _ _ _ _ _)⟩) ?_ (at_list rfl)
  refine aG _ (fun g=>pA g 0) [.nilFunc,.nilFunc,.nilFunc] 243 (fun u hb=>below_next hS hb) (fun w1 g9 lg hb rr=>dagW hG (st14.out w1 g9 g10 (below_next hS hb) rr (Nat.le_trans hS.size lg) (r10.still hb) n10 (fun e=>by have:=r10.lt;omega)) (hF.out _ _ _ _ _)) ?_ (by kernel_rfl) (at_list rfl)
  exact AllReadyH.nil)
 have st17:Hid (∀ (cur:World),Below V.heap.size V cur→G 7 #[true,true,true,false,true,true,true,false,false,false,false,false,false] (F (undef) (undef) (undef) (undef) (undef)) cur):=Hid.mk' (by
  intro cur  hS 
  rw [hF.out,hG.out]
  clear st0 st1 st2 st3 st4 st5 st6 st7 st8 st9 st10 st11 st12 st14
  refine wpAnyH_ready (rs:=[3,9,10]) (by kernel_rfl) (by simp) ?_
  refine arC _ (hon_any p oh cur) (fun e w1 h=>by obtain ⟨F1,rfl,⟨q0,q1,rfl,⟨y1,y2⟩,x1,x2⟩,hb⟩:=h;exact ⟨_,rfl,below_next hS hb,dagW hG (st13.out w1 q0 q1 (below_next hS hb) x1 x2 (Nat.le_trans hS.size y1) (Nat.le_trans hS.size y2)) (hF.out _ _ _ _ _)⟩) ?_ (at_list rfl)
  refine aG _ (fun g=>pA g 0) [.nilFunc,.nilFunc,.nilFunc] 243 (fun u hb=>below_next hS hb) (fun w1 g9 lg hb rr=>dagW hG (st15.out w1 g9 (below_next hS hb) rr (Nat.le_trans hS.size lg)) (hF.out _ _ _ _ _)) ?_ (by kernel_rfl) (at_list rfl)
  refine aG _ (fun g=>pA g 0) [.nilFunc,.nilFunc,.nilFunc] 243 (fun u hb=>below_next hS hb) (fun w1 g10 lg hb rr=>dagW hG (st16.out w1 g10 (below_next hS hb) rr (Nat.le_trans hS.size lg)) (hF.out _ _ _ _ _)) ?_ (by kernel_rfl) (at_list rfl)
  exact AllReadyH.nil)
 rw [hG.out]
 exact dagW hG (st17.out V hS) (hF.out _ _ _ _ _)
end Go.Proofs.YtddkbmnkbfciaaaGreatDoor
namespace Go.Proofs.YtddkbmnkbfciaaaGreatDoor
open Go.RowKit
theorem bigN_up {pn:Nat→Nat}:∀ {n m},n≤m→bigN pn n=true→bigN pn m=true
 | n,0,h,hb=>by
  obtain rfl:n=0:=by omega
  exact hb
 | n,m+1,h,hb=>by
  by_cases e:n=m+1
  · subst e;exact hb
  · show (bigN pn m || _)=true
    rw [bigN_up (by omega:n≤m) hb];rfl
set_option maxRecDepth 20000 in
set_option maxHeartbeats 4000000 in
theorem cVecs_any (xo:Option Addr) (cnt cap:Nat) (pv:Nat→Value) (pn:Nat→Nat) (pb:Nat→Nat→Nat) (hcnt:cnt≤1048576) (hsum:sumN pn cnt≤1048576) (w:World) (hP:PiecesIn w xo cnt pv pn pb) :
 Calls Tryz.prog 136 #[.slice xo cnt cap] w fun e w'=>((bigN pn cnt=true∧e = .returned (.tuple #[.slice none 0 0,.int .i64 6]))∨(bigN pn cnt=false∧∃ v,e = .returned (.tuple #[v,.int .i64 0])∧Own w.heap.size w' v (vsL pn cnt) (vsB pn pb cnt)))∧Below w.heap.size w w':=by
 have hall:=vsL_le pn cnt
 go_enter Tryz.func136,Tryz.ntmps136
 go_wp2
 go_loopw [4,11] (fun al i wr=>∃ q:Nat,q≤cnt∧i = .int .i64 q∧(∃ xa ca,al = .slice xa (vsL pn q) ca∧Own w.heap.size wr (.slice xa (vsL pn q) ca) (vsL pn q) (vsB pn pb q))∧bigN pn q=false∧Below w.heap.size w wr) (fun _ i _=>cnt - (intOf i).toNat)
 case atStart=>exact ⟨0,Nat.zero_le _,rfl,⟨none,0,rfl,Own.nil _ _ _⟩,rfl,Below.refl _ _⟩
 case round =>
  obtain ⟨q,hq,rfl,⟨xa,ca,rfl,own⟩,hbg,hb⟩:=hrel
  by_cases hlt:q<cnt
  · obtain ⟨lb,lo,rfl,hcell⟩:=(hP.keep hb).cell q hlt
    have hBq:=(hP.keep hb).each q hlt
    have hc0:=hcell q hlt
    have hqi:(0:Int)≤(q:Int)∧(q:Int)<cnt:=by omega
    have hq1:(q:Int)<(cnt:Int):=by omega
    by_cases hz:65536<pn q
    · have hv:=cVec11_size (pv q) (pn q) (pb q) hz wr hBq
      have hB1:bigN pn cnt=true:=bigN_up hlt (by show (bigN pn q || decide (65536<pn q))=true;rw [decide_eq_true hz,Bool.or_true])
      obtain ⟨vv,hvv⟩:∃ vv,vv=pv q:=⟨_,rfl⟩
      rw [←hvv] at hv hc0
      clear hvv hBq hcell hP hz own hbg
      go_wp2_with (go_at_call 57;refine hv.mono ?_;clear hv;rintro e w1 ⟨rfl,b1⟩)
      go_ret2
      exact ⟨.inl ⟨hB1,rfl⟩,below_next hb b1⟩
    have hv:=cVec11_good (pv q) (pn q) (pb q) (by omega) wr hBq
    have hbg2:bigN pn (q+1)=false:=by show (bigN pn q || decide (65536<pn q))=false;rw [hbg,decide_eq_false hz];rfl
    have HN:Hid (vsL pn (q+1)=vsL pn q+vcL (pn q)∧vsB pn pb (q+1)=cat (vsL pn q) (vsB pn pb q) (vcB (pn q) (pb q))):=Hid.mk' ⟨rfl,rfl⟩
    have hle:vsL pn (q+1)≤vsL pn cnt:=sumN_le _ hlt
    rw [HN.out.1] at hle
    obtain ⟨T,hT⟩:∃ T,T=vsL pn q:=⟨_,rfl⟩
    obtain ⟨F,hF⟩:∃ F,F=vsB pn pb q:=⟨_,rfl⟩
    obtain ⟨m,hm⟩:∃ m,m=vcL (pn q):=⟨_,rfl⟩
    obtain ⟨G,hG⟩:∃ G,G=vcB (pn q) (pb q):=⟨_,rfl⟩
    obtain ⟨vv,hvv⟩:∃ vv,vv=pv q:=⟨_,rfl⟩
    rw [←hT,←hF,←hm,←hG] at HN
    rw [←hT,←hm] at hle
    rw [←hT,←hF] at own
    rw [←hm,←hG,←hvv] at hv
    rw [←hvv] at hc0
    rw [←hT]
    have hTm:T+m≤140737488355328:=by omega
    clear hT hF hm hG hvv hBq hcell hP hle hz hbg
    go_wp2_with (first
     | (go_at_call 57;refine hv.mono ?_;clear hv;rintro e w1 ⟨s1,rfl,own1,b1⟩;(obtain ⟨x1,c1,hs1,hxn1,hc1,hsrc1⟩:=(BytesIn.of_own own1).src);subst hs1;have hsrc:=hsrc1 w1 (Below.refl _ _);have ownW:=own.below b1;have hbw1:=below_next hb b1)
     | (at_builtin;refine wpList_append_bytes rfl (.tmp 23) (.tmp 24) rfl w.heap.size _ T F rfl ownW x1 m c1 G rfl hsrc hxn1 hTm hbw1.size ?_;intro v2 w2 own2 grow2;have hbw2:=Own.grown hbw1 grow2 ownW (Nat.le_refl _) hbw1.size;(obtain ⟨x2,c2,hv2⟩:=own2.slice);subst hv2))
    go_roundw
    case rel=>exact ⟨q+1,hlt,by go_num,⟨x2,c2,by rw [HN.out.1],by rw [HN.out.1,HN.out.2];exact own2⟩,hbg2,hbw2⟩
    case measure=>simp [intOf];omega
  · obtain rfl:q=cnt:=by omega
    have hq1:¬(q:Int)<(q:Int):=by omega
    go_wp2
    go_ret2
    exact ⟨⟨_,rfl,own⟩,hb⟩
end Go.Proofs.YtddkbmnkbfciaaaGreatDoor
namespace Go.Proofs.YtddkbmnkbfciaaaGreatDoor
open Go.RowKit
theorem RdC.ge {lo hi:Nat} {w:World} {g L:Nat} {B:Nat→Nat} {r:Rd} (h:RdC lo hi w g L B r):lo≤g:=h.choose_spec.2.2.2.1.1
end Go.Proofs.YtddkbmnkbfciaaaGreatDoor
namespace Go.Proofs.YtddkbmnkbfciaaaGreatDoor
open Go.RowKit
structure SameIn (lo hi:Nat) (w w':World):Prop where
 size:w.heap.size≤w'.heap.size
 block:∀ k,lo≤k→k<hi→w'.heap[k]? = w.heap[k]?
theorem SameIn.cell {lo hi:Nat} {w w':World} (h:SameIn lo hi w w') {k o:Nat} (h1:lo≤k) (h2:k<hi):w'.cell? ⟨k,o,none⟩=w.cell? ⟨k,o,none⟩:=World.cell?_of_block (w:=w) (h.block k h1 h2)
theorem SameIn.frozen {lo hi:Nat} {w w':World} (h:SameIn lo hi w w') {k o:Nat} (h1:lo≤k) (h2:k<hi):w'.frozen? ⟨k,o,none⟩=w.frozen? ⟨k,o,none⟩:=World.frozen?_of_block (w:=w) (h.block k h1 h2)
theorem SameIn.of_below {lo hi M:Nat} {w w':World} (h:Below M w w') (hM:hi≤M):SameIn lo hi w w':=⟨h.size,fun k _ h2=>h.block k (by omega)⟩
theorem SameIn.of_out {lo hi b o n:Nat} {w w':World} (h:Out b o n w w') (hb:b<lo∨hi≤b) (hh:hi≤w.heap.size):SameIn lo hi w w':=⟨h.size,fun k h1 h2=>h.block k (by omega) (by omega)⟩
theorem RW.same {lo hi:Nat} {w w':World} (s:SameIn lo hi w w') {g:Nat} {vs:List Value} (r:RW w g 0 vs) (h1:lo≤g) (h2:g<hi):RW w' g 0 vs :=
 ⟨fun j v hv=>(s.cell h1 h2).trans (r.range j v hv),fun j hj=>by rw [s.cell h1 h2,s.frozen h1 h2];exact r.there j hj,Nat.lt_of_lt_of_le r.lt s.size⟩
theorem RdC.same {lo hi:Nat} {w w':World} {g L:Nat} {B:Nat→Nat} {r:Rd} (h:RdC lo hi w g L B r) (s:SameIn lo hi w w'):RdC lo hi w' g L B r:=by
 obtain ⟨v,rr,hv,ha,hg,hh⟩:=h
 exact ⟨v,RW.same s rr hg.1 hg.2,BI.same hv fun b o z h1 h2 hc=>(s.cell h1 h2).trans hc,ha,hg,Nat.le_trans hh s.size⟩
def RdB (lo hi:Nat) (w:World) (g L:Nat) (B:Nat→Nat) (r:Rd):Prop:=∃ v,RW w g 0 [v,.int .i64 (r.at_:Int),.int .i64 r.e]∧BI lo hi w v L B∧r.at_≤L∧(lo≤g∧g<hi)∧hi≤w.heap.size
theorem RdB.same {lo hi:Nat} {w w':World} {g L:Nat} {B:Nat→Nat} {r:Rd} (h:RdB lo hi w g L B r) (s:SameIn lo hi w w'):RdB lo hi w' g L B r:=by
 obtain ⟨v,rr,hv,ha,hg,hh⟩:=h
 exact ⟨v,RW.same s rr hg.1 hg.2,BI.same hv fun b o z h1 h2 hc=>(s.cell h1 h2).trans hc,ha,hg,Nat.le_trans hh s.size⟩
theorem RdB.size {lo hi:Nat} {w:World} {g L:Nat} {B:Nat→Nat} {r:Rd} (h:RdB lo hi w g L B r):hi≤w.heap.size:=h.choose_spec.2.2.2.2
theorem RdB.ge {lo hi:Nat} {w:World} {g L:Nat} {B:Nat→Nat} {r:Rd} (h:RdB lo hi w g L B r):lo≤g:=h.choose_spec.2.2.2.1.1
theorem RdB.lt {lo hi:Nat} {w:World} {g L:Nat} {B:Nat→Nat} {r:Rd} (h:RdB lo hi w g L B r):g<hi:=h.choose_spec.2.2.2.1.2
theorem RdB.of {lo hi:Nat} {w:World} {g L:Nat} {B:Nat→Nat} {r:Rd} (h:RdB lo hi w g L B r):RdR w g L B r:=by
 obtain ⟨v,rr,hv,ha,hg,hh⟩:=h
 exact ⟨v,rr,hv.of hh,ha⟩
structure Two (m lo hi hj:Nat) (w:World) (g k L:Nat) (B:Nat→Nat) (r:Rd):Prop where
 code:RdC lo hi w g L B r
 ref:RdB hi hj w k L B r
 low:m≤lo
theorem Two.same {m lo hi hj:Nat} {w w':World} {g k L:Nat} {B:Nat→Nat} {r:Rd} (h:Two m lo hi hj w g k L B r) (s:SameIn lo hj w w'):Two m lo hi hj w' g k L B r :=
 ⟨h.code.same ⟨s.size,fun c h1 h2=>s.block c h1 (Nat.lt_of_lt_of_le h2 (Nat.le_of_lt (Nat.lt_of_le_of_lt h.ref.ge h.ref.lt)))⟩,h.ref.same ⟨s.size,fun c h1 h2=>s.block c (Nat.le_trans (Nat.le_of_lt (Nat.lt_of_le_of_lt h.code.ge h.code.choose_spec.2.2.2.1.2)) h1) h2⟩,h.low⟩
theorem Two.still {m lo hi hj:Nat} {w w':World} {g k L:Nat} {B:Nat→Nat} {r:Rd} (h:Two m lo hi hj w g k L B r) (hb:Below w.heap.size w w'):Two m lo hi hj w' g k L B r:=h.same (SameIn.of_below hb h.ref.size)
theorem Two.half {m lo hi hj:Nat} {w w':World} {g k L:Nat} {B:Nat→Nat} {r:Rd} (h:Two m lo hi hj w g k L B r) (o:Out g 0 2 w w'):RdB hi hj w' k L B r∧Below m w w' :=
 ⟨h.ref.same (SameIn.of_out o (.inl h.code.choose_spec.2.2.2.1.2) h.ref.size),o.below (Nat.le_trans h.low h.code.ge) (Nat.le_trans (Nat.le_trans h.low h.code.ge) (Nat.le_of_lt h.code.lt))⟩
theorem Two.whole {m lo hi hj:Nat} {w w':World} {g k L:Nat} {B:Nat→Nat} {r:Rd} (hl:m≤lo) (h:RdC lo hi w g L B r) (h':RdB hi hj w' k L B r) (o:Out k 1 2 w w'):Two m lo hi hj w' g k L B r∧Below m w w' :=
 ⟨⟨h.same (SameIn.of_out o (.inr h'.ge) h.size),h',hl⟩,o.below (Nat.le_trans (Nat.le_trans hl h.ge) (Nat.le_trans (Nat.le_of_lt h.choose_spec.2.2.2.1.2) h'.ge)) (Nat.le_trans (Nat.le_trans hl h.ge) (Nat.le_of_lt h.lt))⟩
end Go.Proofs.YtddkbmnkbfciaaaGreatDoor
