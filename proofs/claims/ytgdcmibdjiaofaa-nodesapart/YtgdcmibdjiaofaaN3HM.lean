/- What the proof stands on: N3H, D1KN, D1BR, N3F, N3G, D1Bl, N3D, ZFl, N3P, N3Q. -/
import Derived.Test.YtgdcmibdjiaofaaBaseM
import Derived.Test.YtgdcmibdjiaofaaD1PcsM
import Derived.Lib.SlBytesConst
namespace Go.Proofs.Ytgdcmibdjiaofaa
open Go.RowKit
theorem neC {w:World} {g h:Nat} {x y:Value} {xs ys:List Value} (r:RW w g 0 (x :: xs)) (s:RW w h 0 (y :: ys)) (hn:x≠y):g≠h:=fun e=>by
 subst e
 exact hn (Option.some.inj ((r.cell (o:=0) rfl).symm.trans (s.cell (o:=0) rfl)))
theorem all3 (i j k:Nat) (c d e:Array Value):(#[clo i c,clo j d,clo k e]:Array Value).all (·.oneCell')=true:=by simp [clo,Value.oneCell']
theorem rgS {w:World} {g o:Nat} {X Y Z:Value} (h:w.there g o 3):(w.setCells g o [X,Y,Z]).rangeAt g o [X,Y,Z]:=World.rangeAt_setCells_same _ _ _ _ h
def LhF (base:Nat) (w:World) (F:Value) (p o:Nat):Prop:=∃ q q0 q1 s1 s2 s3 g9 g10 k,F = .agg #[clo 115 #[pA k 0],clo 116 #[pA k 0],clo 117 #[pA k 0]]∧(base≤q∧base≤q0∧base≤q1∧base≤s1∧base≤s2∧base≤s3∧base≤g9∧base≤g10∧base≤k) ∧
 RW w q 0 [pA p o]∧RW w q0 0 [pA p (o+4)]∧RW w q1 0 [pA p (o+4)]∧RW w s1 0 [pA p (o+4)]∧RW w s2 0 [.int .i64 0]∧RW w s3 0 [.int .i64 0] ∧
 RW w g9 0 [clo 98 #[pA q0 0],clo 81 #[pA q1 0],clo 84 #[pA q1 0]] ∧
 RW w g10 0 [clo 80 #[pA s1 0,pA s2 0,pA s3 0],clo 91 #[],clo 92 #[]]∧RW w k 0 [clo 114 #[pA q 0,pA g9 0,pA g10 0]]
set_option maxRecDepth 20000 in
set_option maxHeartbeats 4000000 in
theorem lh_any (p o:Nat) (w:World):Calls Try.prog 94 #[pA p o] w fun e w'=>∃ F,e = .returned F∧LhF w.heap.size w' F p o∧Below w.heap.size w w':=by
 have hmf:∀ (fn:Fn) (first cap:Array Value) (w:World),(Instr.makeFunc fn first cap).run Try.prog w = .ok (.func fn first cap) w:=fun _ _ _ _=>rfl
 obtain ⟨k1,b1,s1'⟩:=bx w (pA p o) 76
 obtain ⟨U,hU⟩:∃ U,U=w.alloc (.cells #[pA p o] 76):=⟨_,rfl⟩
 have HU:=Hid.mk' hU
 rw [←hU] at k1 b1 s1'
 go_enter Try.func94,Try.ntmps94
 go_upto_region 1 with (fail)
 rw [←HU.out,←s1']
 have s1h:=Hid.mk' s1'
 clear hU HU s1'
 have b2:Below U.heap.size U (U.alloc (.cells #[.nilFunc,.nilFunc,.nilFunc] 102)):=(Below.refl _ _).alloc (Nat.le_refl _) _
 have k2:=RW.fresh U [.nilFunc,.nilFunc,.nilFunc] 102
 have k1':=k1.still b2
 generalize U.alloc (.cells #[.nilFunc,.nilFunc,.nilFunc] 102)=W at *
 have k0:=k1'.drew
 have k2d:=k2.drew
 have bd:Below w.heap.size w W.drew:=(below_next b1 b2).drew
 have l0:=k0.lt
 have ck:=k0.cell (o:=0) rfl
 refine wp_region_held_drew (S:=fun u=>Below W.drew.heap.size W.drew u) (by kernel_rfl) (Below.refl _ _) (fun hS => ?_)
 generalize W.drew=V at *
 obtain ⟨oh,hoh⟩:∃ oh,oh=o+4:=⟨_,rfl⟩
 have Hoh:=Hid.mk' hoh
 refine tc 0 hS (fun u hu=>(hu.cell (p:=⟨w.heap.size,0,none⟩) l0).trans ck) ?_
 (try simp only [pS])
 refine tg 1 hS ?_
 (try simp only [pS])
 refine tg 2 hS (v:=pA p oh) ?_ (hy:=by intro u _;rw [Hoh.out];kernel_rfl)
 (try simp only [pS])
 refine tc 4 hS (fun u hu=>(hu.cell (p:=⟨w.heap.size,0,none⟩) l0).trans ck) ?_
 (try simp only [pS])
 refine tg 5 hS ?_
 (try simp only [pS])
 refine tg 6 hS (v:=pA p oh) ?_ (hy:=by intro u _;rw [Hoh.out];kernel_rfl)
 (try simp only [pS])
 refine dag_root (fun G hG0 => ?_)
 have hG:=Hid.mk' hG0
 clear hG0
 obtain ⟨F,hF0⟩:∃ F:Value→Value→Value→Value→Value→Act,∀ v3 v4 v9 v13 v14,F v3 v4 v9 v13 v14={ tmps:=#[pA p o,pA w.heap.size 0,pA U.heap.size 0,v3,v4,undef,pA p o,pA p o,pA p oh,v9,pA p o,pA p o,pA p oh,v13,v14,undef,undef,undef,undef,undef],defers:=[] }:=⟨_,fun _ _ _ _ _=>rfl⟩
 have hF:=Hid.mk' hF0
 clear hF0
 have st0:Hid (∀ (cur:World) (q0 q1 s1 s2 s3 g9 g10:Nat),Below V.heap.size V cur→RW cur q0 0 [pA p oh]→RW cur q1 0 [pA p oh]→V.heap.size≤q0→V.heap.size≤q1→RW cur s1 0 [pA p oh]→RW cur s2 0 [.int .i64 0]→RW cur s3 0 [.int .i64 0]→V.heap.size≤s1→V.heap.size≤s2→V.heap.size≤s3→RW cur g9 0 [clo 98 #[pA q0 0],clo 81 #[pA q1 0],clo 84 #[pA q1 0]]→V.heap.size≤g9→RW cur g10 0 [clo 80 #[pA s1 0,pA s2 0,pA s3 0],clo 91 #[],clo 92 #[]]→V.heap.size≤g10→g9≠g10→G 0 #[true,true,true,true,true,true,true,true,true,true,true,true,true] (F (pA g9 0) (pA g10 0) (.agg #[clo 98 #[pA q0 0],clo 81 #[pA q1 0],clo 84 #[pA q1 0]]) (.agg #[clo 80 #[pA s1 0,pA s2 0,pA s3 0],clo 81 #[pA s1 0],clo 84 #[pA s1 0]]) (.agg #[clo 80 #[pA s1 0,pA s2 0,pA s3 0],clo 91 #[],clo 92 #[]])) cur):=Hid.mk' (by
  intro cur q0 q1 s1 s2 s3 g9 g10 hS rq0 rq1 nq0 nq1 rs1 rs2 rs3 ns1 ns2 ns3 r9 n9 r10 n10 d
  rw [hF.out,hG.out]
  refine wpAnyH_done (by kernel_rfl) ?_ _
  have k2c:=k2d.still hS
  have k0c:=k0.still hS
  (try simp only [pS])
  clear hmf
  have hmf:∀ (fn:Fn) (first cap:Array Value) (w:World),(Instr.makeFunc fn first cap).run Try.prog w = .ok (.func fn first cap) w:=fun _ _ _ _=>rfl
  obtain ⟨x2,y2,z1⟩:=bx cur (clo 114 #[pA w.heap.size 0,pA g9 0,pA g10 0]) 140
  go_upto_region 3 with (fail)
  rw [show Value.func (Fn.func 114) #[] #[pA w.heap.size 0,pA g9 0,pA g10 0]=clo 114 #[pA w.heap.size 0,pA g9 0,pA g10 0] from rfl]
  have k2e:=k2c.still y2
  have k0e:=k0c.still y2
  have rq0:=rq0.still y2
  have rq1:=rq1.still y2
  have rs1:=rs1.still y2
  have rs2:=rs2.still y2
  have rs3:=rs3.still y2
  have r9:=r9.still y2
  have r10:=r10.still y2
  generalize cur.alloc (.cells #[clo 114 #[pA w.heap.size 0,pA g9 0,pA g10 0]] 140)=W5 at *
  clear hmf
  have hmf:∀ (fn:Fn) (first cap:Array Value) (w:World),(Instr.makeFunc fn first cap).run Try.prog w = .ok (.func fn first cap) w:=fun _ _ _ _=>rfl
  go_wp2_with (with_reducible (refine id (?_:wpList _ _ _ _ _ _));refine stF _ _ rfl rfl rfl rfl k2e.there ?_ rfl)
  refine bodyPost_ret (resF Try.results94 _ _ _ 0 _ _ _ rfl (rgS k2e.there)) rfl ?_
  have hs:=hS.size
  have hl:=k2d.lt
  have hu:=b1.size
  have hU2:U.heap.size=w.heap.size+1:=s1h.out
  have f:∀ {g:Nat} {cs:List Value},RW W5 g 0 cs→g≠U.heap.size→RW (W5.setCells U.heap.size 0 [clo 115 #[pA cur.heap.size 0],clo 116 #[pA cur.heap.size 0],clo 117 #[pA cur.heap.size 0]]) g 0 cs:=fun h hn=>h.far _ _ _ (.inl hn)
  rw [Hoh.out] at rq0 rq1 rs1
  refine ⟨_,rfl,⟨w.heap.size,q0,q1,s1,s2,s3,g9,g10,cur.heap.size,rfl,⟨Nat.le_refl _,by omega,by omega,by omega,by omega,by omega,by omega,by omega,by omega⟩,f k0e (by omega),f rq0 (by omega),f rq1 (by omega),f rs1 (by omega),f rs2 (by omega),f rs3 (by omega),f r9 (by omega),f r10 (by omega),f x2 (by omega)⟩,?_⟩
  exact below_setCells (by omega) _ _ _ (below_next (below_next bd hS) y2))
 have st1:Hid (∀ (cur:World) (q0 q1 s1 s2 s3 g9 g10:Nat),Below V.heap.size V cur→RW cur q0 0 [pA p oh]→RW cur q1 0 [pA p oh]→V.heap.size≤q0→V.heap.size≤q1→RW cur s1 0 [pA p oh]→RW cur s2 0 [.int .i64 0]→RW cur s3 0 [.int .i64 0]→V.heap.size≤s1→V.heap.size≤s2→V.heap.size≤s3→RW cur g9 0 [clo 98 #[pA q0 0],clo 81 #[pA q1 0],clo 84 #[pA q1 0]]→V.heap.size≤g9→RW cur g10 0 [.nilFunc,.nilFunc,.nilFunc]→V.heap.size≤g10→g9≠g10→G 1 #[true,true,true,true,true,true,true,true,true,true,true,true,false] (F (pA g9 0) (pA g10 0) (.agg #[clo 98 #[pA q0 0],clo 81 #[pA q1 0],clo 84 #[pA q1 0]]) (.agg #[clo 80 #[pA s1 0,pA s2 0,pA s3 0],clo 81 #[pA s1 0],clo 84 #[pA s1 0]]) (.agg #[clo 80 #[pA s1 0,pA s2 0,pA s3 0],clo 91 #[],clo 92 #[]])) cur):=Hid.mk' (by
  intro cur q0 q1 s1 s2 s3 g9 g10 hS rq0 rq1 nq0 nq1 rs1 rs2 rs3 ns1 ns2 ns3 r9 n9 r10 n10 d
  rw [hF.out,hG.out]
  refine wpAnyH_ready (rs:=[12]) (by kernel_rfl) (by simp) ?_
  refine aT _ 102 4 14 [clo 80 #[pA s1 0,pA s2 0,pA s3 0],clo 91 #[],clo 92 #[]] r10 rfl (below_setCells n10 _ _ _ hS) fldI (all3 _ _ _ _ _ _) (fun rr=>dagW hG (st0.out _ q0 q1 s1 s2 s3 g9 g10 (below_setCells n10 _ _ _ hS) (rq0.far _ _ _ (.inl (neC rq0 r10 (fun h=>by cases h)))) (rq1.far _ _ _ (.inl (neC rq1 r10 (fun h=>by cases h)))) nq0 nq1 (rs1.far _ _ _ (.inl (neC rs1 r10 (fun h=>by cases h)))) (rs2.far _ _ _ (.inl (neC rs2 r10 (fun h=>by cases h)))) (rs3.far _ _ _ (.inl (neC rs3 r10 (fun h=>by cases h)))) ns1 ns2 ns3 (r9.far _ _ _ (.inl d)) n9 rr n10 d) (hF.out _ _ _ _ _)) ?_ rfl rfl rfl (at_list rfl)
  exact AllReadyH.nil)
 have st2:Hid (∀ (cur:World) (q0 q1 s1 s2 s3 g9 g10:Nat),Below V.heap.size V cur→RW cur q0 0 [pA p oh]→RW cur q1 0 [pA p oh]→V.heap.size≤q0→V.heap.size≤q1→RW cur s1 0 [pA p oh]→RW cur s2 0 [.int .i64 0]→RW cur s3 0 [.int .i64 0]→V.heap.size≤s1→V.heap.size≤s2→V.heap.size≤s3→RW cur g9 0 [.nilFunc,.nilFunc,.nilFunc]→V.heap.size≤g9→RW cur g10 0 [.nilFunc,.nilFunc,.nilFunc]→V.heap.size≤g10→g9≠g10→G 2 #[true,true,true,true,true,true,true,true,true,true,true,false,false] (F (pA g9 0) (pA g10 0) (.agg #[clo 98 #[pA q0 0],clo 81 #[pA q1 0],clo 84 #[pA q1 0]]) (.agg #[clo 80 #[pA s1 0,pA s2 0,pA s3 0],clo 81 #[pA s1 0],clo 84 #[pA s1 0]]) (.agg #[clo 80 #[pA s1 0,pA s2 0,pA s3 0],clo 91 #[],clo 92 #[]])) cur):=Hid.mk' (by
  intro cur q0 q1 s1 s2 s3 g9 g10 hS rq0 rq1 nq0 nq1 rs1 rs2 rs3 ns1 ns2 ns3 r9 n9 r10 n10 d
  rw [hF.out,hG.out]
  clear st0
  refine wpAnyH_ready (rs:=[11]) (by kernel_rfl) (by simp) ?_
  refine aT _ 102 3 9 [clo 98 #[pA q0 0],clo 81 #[pA q1 0],clo 84 #[pA q1 0]] r9 rfl (below_setCells n9 _ _ _ hS) fldI (all3 _ _ _ _ _ _) (fun rr=>dagW hG (st1.out _ q0 q1 s1 s2 s3 g9 g10 (below_setCells n9 _ _ _ hS) (rq0.far _ _ _ (.inl (neC rq0 r9 (fun h=>by cases h)))) (rq1.far _ _ _ (.inl (neC rq1 r9 (fun h=>by cases h)))) nq0 nq1 (rs1.far _ _ _ (.inl (neC rs1 r9 (fun h=>by cases h)))) (rs2.far _ _ _ (.inl (neC rs2 r9 (fun h=>by cases h)))) (rs3.far _ _ _ (.inl (neC rs3 r9 (fun h=>by cases h)))) ns1 ns2 ns3 rr n9 (r10.far _ _ _ (.inl d.symm)) n10 d) (hF.out _ _ _ _ _)) ?_ rfl rfl rfl (at_list rfl)
  exact AllReadyH.nil)
 have st3:Hid (∀ (cur:World) (q0 q1 s1 s2 s3 g9:Nat),Below V.heap.size V cur→RW cur q0 0 [pA p oh]→RW cur q1 0 [pA p oh]→V.heap.size≤q0→V.heap.size≤q1→RW cur s1 0 [pA p oh]→RW cur s2 0 [.int .i64 0]→RW cur s3 0 [.int .i64 0]→V.heap.size≤s1→V.heap.size≤s2→V.heap.size≤s3→RW cur g9 0 [.nilFunc,.nilFunc,.nilFunc]→V.heap.size≤g9→G 3 #[true,true,true,true,true,true,true,true,true,true,false,false,false] (F (pA g9 0) (undef) (.agg #[clo 98 #[pA q0 0],clo 81 #[pA q1 0],clo 84 #[pA q1 0]]) (.agg #[clo 80 #[pA s1 0,pA s2 0,pA s3 0],clo 81 #[pA s1 0],clo 84 #[pA s1 0]]) (.agg #[clo 80 #[pA s1 0,pA s2 0,pA s3 0],clo 91 #[],clo 92 #[]])) cur):=Hid.mk' (by
  intro cur q0 q1 s1 s2 s3 g9 hS rq0 rq1 nq0 nq1 rs1 rs2 rs3 ns1 ns2 ns3 r9 n9
  rw [hF.out,hG.out]
  clear st0 st1
  refine wpAnyH_ready (rs:=[10]) (by kernel_rfl) (by simp) ?_
  refine aG _ (fun g=>pA g 0) [.nilFunc,.nilFunc,.nilFunc] 102 (fun u hb=>below_next hS hb) (fun w1 g10 lg hb rr=>dagW hG (st2.out w1 q0 q1 s1 s2 s3 g9 g10 (below_next hS hb) (rq0.still hb) (rq1.still hb) nq0 nq1 (rs1.still hb) (rs2.still hb) (rs3.still hb) ns1 ns2 ns3 (r9.still hb) n9 rr (Nat.le_trans hS.size lg) (fun e=>by have:=r9.lt;omega)) (hF.out _ _ _ _ _)) ?_ (by kernel_rfl) (at_list rfl)
  exact AllReadyH.nil)
 have st4:Hid (∀ (cur:World) (q0 q1 s1 s2 s3 g10:Nat),Below V.heap.size V cur→RW cur q0 0 [pA p oh]→RW cur q1 0 [pA p oh]→V.heap.size≤q0→V.heap.size≤q1→RW cur s1 0 [pA p oh]→RW cur s2 0 [.int .i64 0]→RW cur s3 0 [.int .i64 0]→V.heap.size≤s1→V.heap.size≤s2→V.heap.size≤s3→RW cur g10 0 [.nilFunc,.nilFunc,.nilFunc]→V.heap.size≤g10→G 3 #[true,true,true,true,true,true,true,true,true,false,true,false,false] (F (undef) (pA g10 0) (.agg #[clo 98 #[pA q0 0],clo 81 #[pA q1 0],clo 84 #[pA q1 0]]) (.agg #[clo 80 #[pA s1 0,pA s2 0,pA s3 0],clo 81 #[pA s1 0],clo 84 #[pA s1 0]]) (.agg #[clo 80 #[pA s1 0,pA s2 0,pA s3 0],clo 91 #[],clo 92 #[]])) cur):=Hid.mk' (by
  intro cur q0 q1 s1 s2 s3 g10 hS rq0 rq1 nq0 nq1 rs1 rs2 rs3 ns1 ns2 ns3 r10 n10
  rw [hF.out,hG.out]
  clear st0 st1 st3
  refine wpAnyH_ready (rs:=[9]) (by kernel_rfl) (by simp) ?_
  refine aG _ (fun g=>pA g 0) [.nilFunc,.nilFunc,.nilFunc] 102 (fun u hb=>below_next hS hb) (fun w1 g9 lg hb rr=>dagW hG (st2.out w1 q0 q1 s1 s2 s3 g9 g10 (below_next hS hb) (rq0.still hb) (rq1.still hb) nq0 nq1 (rs1.still hb) (rs2.still hb) (rs3.still hb) ns1 ns2 ns3 rr (Nat.le_trans hS.size lg) (r10.still hb) n10 (fun e=>by have:=r10.lt;omega)) (hF.out _ _ _ _ _)) ?_ (by kernel_rfl) (at_list rfl)
  exact AllReadyH.nil)
 have st5:Hid (∀ (cur:World) (q0 q1 s1 s2 s3:Nat),Below V.heap.size V cur→RW cur q0 0 [pA p oh]→RW cur q1 0 [pA p oh]→V.heap.size≤q0→V.heap.size≤q1→RW cur s1 0 [pA p oh]→RW cur s2 0 [.int .i64 0]→RW cur s3 0 [.int .i64 0]→V.heap.size≤s1→V.heap.size≤s2→V.heap.size≤s3→G 4 #[true,true,true,true,true,true,true,true,true,false,false,false,false] (F (undef) (undef) (.agg #[clo 98 #[pA q0 0],clo 81 #[pA q1 0],clo 84 #[pA q1 0]]) (.agg #[clo 80 #[pA s1 0,pA s2 0,pA s3 0],clo 81 #[pA s1 0],clo 84 #[pA s1 0]]) (.agg #[clo 80 #[pA s1 0,pA s2 0,pA s3 0],clo 91 #[],clo 92 #[]])) cur):=Hid.mk' (by
  intro cur q0 q1 s1 s2 s3 hS rq0 rq1 nq0 nq1 rs1 rs2 rs3 ns1 ns2 ns3
  rw [hF.out,hG.out]
  clear st0 st1 st2
  refine wpAnyH_ready (rs:=[9,10]) (by kernel_rfl) (by simp) ?_
  refine aG _ (fun g=>pA g 0) [.nilFunc,.nilFunc,.nilFunc] 102 (fun u hb=>below_next hS hb) (fun w1 g9 lg hb rr=>dagW hG (st3.out w1 q0 q1 s1 s2 s3 g9 (below_next hS hb) (rq0.still hb) (rq1.still hb) nq0 nq1 (rs1.still hb) (rs2.still hb) (rs3.still hb) ns1 ns2 ns3 rr (Nat.le_trans hS.size lg)) (hF.out _ _ _ _ _)) ?_ (by kernel_rfl) (at_list rfl)
  refine aG _ (fun g=>pA g 0) [.nilFunc,.nilFunc,.nilFunc] 102 (fun u hb=>below_next hS hb) (fun w1 g10 lg hb rr=>dagW hG (st4.out w1 q0 q1 s1 s2 s3 g10 (below_next hS hb) (rq0.still hb) (rq1.still hb) nq0 nq1 (rs1.still hb) (rs2.still hb) (rs3.still hb) ns1 ns2 ns3 rr (Nat.le_trans hS.size lg)) (hF.out _ _ _ _ _)) ?_ (by kernel_rfl) (at_list rfl)
  exact AllReadyH.nil)
 have st6:Hid (∀ (cur:World) (q0 q1 s1 s2 s3 g9 g10:Nat),Below V.heap.size V cur→RW cur q0 0 [pA p oh]→RW cur q1 0 [pA p oh]→V.heap.size≤q0→V.heap.size≤q1→RW cur s1 0 [pA p oh]→RW cur s2 0 [.int .i64 0]→RW cur s3 0 [.int .i64 0]→V.heap.size≤s1→V.heap.size≤s2→V.heap.size≤s3→RW cur g9 0 [.nilFunc,.nilFunc,.nilFunc]→V.heap.size≤g9→RW cur g10 0 [.nilFunc,.nilFunc,.nilFunc]→V.heap.size≤g10→g9≠g10→G 3 #[true,true,true,true,true,true,true,true,false,true,true,false,false] (F (pA g9 0) (pA g10 0) (.agg #[clo 98 #[pA q0 0],clo 81 #[pA q1 0],clo 84 #[pA q1 0]]) (.agg #[clo 80 #[pA s1 0,pA s2 0,pA s3 0],clo 81 #[pA s1 0],clo 84 #[pA s1 0]]) (undef)) cur):=Hid.mk' (by
  intro cur q0 q1 s1 s2 s3 g9 g10 hS rq0 rq1 nq0 nq1 rs1 rs2 rs3 ns1 ns2 ns3 r9 n9 r10 n10 d
  rw [hF.out,hG.out]
  clear st0 st1 st3 st4 st5
  refine wpAnyH_ready (rs:=[8]) (by kernel_rfl) (by simp) ?_
  refine arC _ (unw_any 80 81 84 #[pA s1 0,pA s2 0,pA s3 0] #[pA s1 0] #[pA s1 0] cur) (fun e w1 h=>by obtain ⟨rfl,hb⟩:=h;exact ⟨_,rfl,below_next hS hb,dagW hG (st2.out w1 q0 q1 s1 s2 s3 g9 g10 (below_next hS hb) (rq0.still hb) (rq1.still hb) nq0 nq1 (rs1.still hb) (rs2.still hb) (rs3.still hb) ns1 ns2 ns3 (r9.still hb) n9 (r10.still hb) n10 d) (hF.out _ _ _ _ _)⟩) ?_ (at_list rfl)
  exact AllReadyH.nil)
 have st7:Hid (∀ (cur:World) (q0 q1 s1 s2 s3 g9:Nat),Below V.heap.size V cur→RW cur q0 0 [pA p oh]→RW cur q1 0 [pA p oh]→V.heap.size≤q0→V.heap.size≤q1→RW cur s1 0 [pA p oh]→RW cur s2 0 [.int .i64 0]→RW cur s3 0 [.int .i64 0]→V.heap.size≤s1→V.heap.size≤s2→V.heap.size≤s3→RW cur g9 0 [.nilFunc,.nilFunc,.nilFunc]→V.heap.size≤g9→G 4 #[true,true,true,true,true,true,true,true,false,true,false,false,false] (F (pA g9 0) (undef) (.agg #[clo 98 #[pA q0 0],clo 81 #[pA q1 0],clo 84 #[pA q1 0]]) (.agg #[clo 80 #[pA s1 0,pA s2 0,pA s3 0],clo 81 #[pA s1 0],clo 84 #[pA s1 0]]) (undef)) cur):=Hid.mk' (by
  intro cur q0 q1 s1 s2 s3 g9 hS rq0 rq1 nq0 nq1 rs1 rs2 rs3 ns1 ns2 ns3 r9 n9
  rw [hF.out,hG.out]
  clear st0 st1 st2 st4 st5
  refine wpAnyH_ready (rs:=[8,10]) (by kernel_rfl) (by simp) ?_
  refine arC _ (unw_any 80 81 84 #[pA s1 0,pA s2 0,pA s3 0] #[pA s1 0] #[pA s1 0] cur) (fun e w1 h=>by obtain ⟨rfl,hb⟩:=h;exact ⟨_,rfl,below_next hS hb,dagW hG (st3.out w1 q0 q1 s1 s2 s3 g9 (below_next hS hb) (rq0.still hb) (rq1.still hb) nq0 nq1 (rs1.still hb) (rs2.still hb) (rs3.still hb) ns1 ns2 ns3 (r9.still hb) n9) (hF.out _ _ _ _ _)⟩) ?_ (at_list rfl)
  refine aG _ (fun g=>pA g 0) [.nilFunc,.nilFunc,.nilFunc] 102 (fun u hb=>below_next hS hb) (fun w1 g10 lg hb rr=>dagW hG (st6.out w1 q0 q1 s1 s2 s3 g9 g10 (below_next hS hb) (rq0.still hb) (rq1.still hb) nq0 nq1 (rs1.still hb) (rs2.still hb) (rs3.still hb) ns1 ns2 ns3 (r9.still hb) n9 rr (Nat.le_trans hS.size lg) (fun e=>by have:=r9.lt;omega)) (hF.out _ _ _ _ _)) ?_ (by kernel_rfl) (at_list rfl)
  exact AllReadyH.nil)
 have st8:Hid (∀ (cur:World) (q0 q1 s1 s2 s3 g10:Nat),Below V.heap.size V cur→RW cur q0 0 [pA p oh]→RW cur q1 0 [pA p oh]→V.heap.size≤q0→V.heap.size≤q1→RW cur s1 0 [pA p oh]→RW cur s2 0 [.int .i64 0]→RW cur s3 0 [.int .i64 0]→V.heap.size≤s1→V.heap.size≤s2→V.heap.size≤s3→RW cur g10 0 [.nilFunc,.nilFunc,.nilFunc]→V.heap.size≤g10→G 4 #[true,true,true,true,true,true,true,true,false,false,true,false,false] (F (undef) (pA g10 0) (.agg #[clo 98 #[pA q0 0],clo 81 #[pA q1 0],clo 84 #[pA q1 0]]) (.agg #[clo 80 #[pA s1 0,pA s2 0,pA s3 0],clo 81 #[pA s1 0],clo 84 #[pA s1 0]]) (undef)) cur):=Hid.mk' (by
  intro cur q0 q1 s1 s2 s3 g10 hS rq0 rq1 nq0 nq1 rs1 rs2 rs3 ns1 ns2 ns3 r10 n10
  rw [hF.out,hG.out]
  clear st0 st1 st2 st3 st5 st7
  refine wpAnyH_ready (rs:=[8,9]) (by kernel_rfl) (by simp) ?_
  refine arC _ (unw_any 80 81 84 #[pA s1 0,pA s2 0,pA s3 0] #[pA s1 0] #[pA s1 0] cur) (fun e w1 h=>by obtain ⟨rfl,hb⟩:=h;exact ⟨_,rfl,below_next hS hb,dagW hG (st4.out w1 q0 q1 s1 s2 s3 g10 (below_next hS hb) (rq0.still hb) (rq1.still hb) nq0 nq1 (rs1.still hb) (rs2.still hb) (rs3.still hb) ns1 ns2 ns3 (r10.still hb) n10) (hF.out _ _ _ _ _)⟩) ?_ (at_list rfl)
  refine aG _ (fun g=>pA g 0) [.nilFunc,.nilFunc,.nilFunc] 102 (fun u hb=>below_next hS hb) (fun w1 g9 lg hb rr=>dagW hG (st6.out w1 q0 q1 s1 s2 s3 g9 g10 (below_next hS hb) (rq0.still hb) (rq1.still hb) nq0 nq1 (rs1.still hb) (rs2.still hb) (rs3.still hb) ns1 ns2 ns3 rr (Nat.le_trans hS.size lg) (r10.still hb) n10 (fun e=>by have:=r10.lt;omega)) (hF.out _ _ _ _ _)) ?_ (by kernel_rfl) (at_list rfl)
  exact AllReadyH.nil)
 have st9:Hid (∀ (cur:World) (q0 q1 s1 s2 s3:Nat),Below V.heap.size V cur→RW cur q0 0 [pA p oh]→RW cur q1 0 [pA p oh]→V.heap.size≤q0→V.heap.size≤q1→RW cur s1 0 [pA p oh]→RW cur s2 0 [.int .i64 0]→RW cur s3 0 [.int .i64 0]→V.heap.size≤s1→V.heap.size≤s2→V.heap.size≤s3→G 5 #[true,true,true,true,true,true,true,true,false,false,false,false,false] (F (undef) (undef) (.agg #[clo 98 #[pA q0 0],clo 81 #[pA q1 0],clo 84 #[pA q1 0]]) (.agg #[clo 80 #[pA s1 0,pA s2 0,pA s3 0],clo 81 #[pA s1 0],clo 84 #[pA s1 0]]) (undef)) cur):=Hid.mk' (by
  intro cur q0 q1 s1 s2 s3 hS rq0 rq1 nq0 nq1 rs1 rs2 rs3 ns1 ns2 ns3
  rw [hF.out,hG.out]
  clear st0 st1 st2 st3 st4 st6
  refine wpAnyH_ready (rs:=[8,9,10]) (by kernel_rfl) (by simp) ?_
  refine arC _ (unw_any 80 81 84 #[pA s1 0,pA s2 0,pA s3 0] #[pA s1 0] #[pA s1 0] cur) (fun e w1 h=>by obtain ⟨rfl,hb⟩:=h;exact ⟨_,rfl,below_next hS hb,dagW hG (st5.out w1 q0 q1 s1 s2 s3 (below_next hS hb) (rq0.still hb) (rq1.still hb) nq0 nq1 (rs1.still hb) (rs2.still hb) (rs3.still hb) ns1 ns2 ns3) (hF.out _ _ _ _ _)⟩) ?_ (at_list rfl)
  refine aG _ (fun g=>pA g 0) [.nilFunc,.nilFunc,.nilFunc] 102 (fun u hb=>below_next hS hb) (fun w1 g9 lg hb rr=>dagW hG (st7.out w1 q0 q1 s1 s2 s3 g9 (below_next hS hb) (rq0.still hb) (rq1.still hb) nq0 nq1 (rs1.still hb) (rs2.still hb) (rs3.still hb) ns1 ns2 ns3 rr (Nat.le_trans hS.size lg)) (hF.out _ _ _ _ _)) ?_ (by kernel_rfl) (at_list rfl)
  refine aG _ (fun g=>pA g 0) [.nilFunc,.nilFunc,.nilFunc] 102 (fun u hb=>below_next hS hb) (fun w1 g10 lg hb rr=>dagW hG (st8.out w1 q0 q1 s1 s2 s3 g10 (below_next hS hb) (rq0.still hb) (rq1.still hb) nq0 nq1 (rs1.still hb) (rs2.still hb) (rs3.still hb) ns1 ns2 ns3 rr (Nat.le_trans hS.size lg)) (hF.out _ _ _ _ _)) ?_ (by kernel_rfl) (at_list rfl)
  exact AllReadyH.nil)
 have st10:Hid (∀ (cur:World) (q0 q1 g9 g10:Nat),Below V.heap.size V cur→RW cur q0 0 [pA p oh]→RW cur q1 0 [pA p oh]→V.heap.size≤q0→V.heap.size≤q1→RW cur g9 0 [.nilFunc,.nilFunc,.nilFunc]→V.heap.size≤g9→RW cur g10 0 [.nilFunc,.nilFunc,.nilFunc]→V.heap.size≤g10→g9≠g10→G 4 #[true,true,true,true,true,true,true,false,false,true,true,false,false] (F (pA g9 0) (pA g10 0) (.agg #[clo 98 #[pA q0 0],clo 81 #[pA q1 0],clo 84 #[pA q1 0]]) (undef) (undef)) cur):=Hid.mk' (by
  intro cur q0 q1 g9 g10 hS rq0 rq1 nq0 nq1 r9 n9 r10 n10 d
  rw [hF.out,hG.out]
  clear st0 st1 st2 st3 st4 st5 st7 st8 st9
  refine wpAnyH_ready (rs:=[7]) (by kernel_rfl) (by simp) ?_
  refine arC _ (vec_any p oh 0 0 cur) (fun e w1 h=>by obtain ⟨F1,rfl,⟨s1,s2,s3,rfl,⟨y1,y2,y3⟩,x1,x2,x3⟩,hb⟩:=h;exact ⟨_,rfl,below_next hS hb,dagW hG (st6.out w1 q0 q1 s1 s2 s3 g9 g10 (below_next hS hb) (rq0.still hb) (rq1.still hb) nq0 nq1 x1 x2 x3 (Nat.le_trans hS.size y1) (Nat.le_trans hS.size y2) (Nat.le_trans hS.size y3) (r9.still hb) n9 (r10.still hb) n10 d) (hF.out _ _ _ _ _)⟩) ?_ (at_list rfl)
  exact AllReadyH.nil)
 have st11:Hid (∀ (cur:World) (q0 q1 g9:Nat),Below V.heap.size V cur→RW cur q0 0 [pA p oh]→RW cur q1 0 [pA p oh]→V.heap.size≤q0→V.heap.size≤q1→RW cur g9 0 [.nilFunc,.nilFunc,.nilFunc]→V.heap.size≤g9→G 5 #[true,true,true,true,true,true,true,false,false,true,false,false,false] (F (pA g9 0) (undef) (.agg #[clo 98 #[pA q0 0],clo 81 #[pA q1 0],clo 84 #[pA q1 0]]) (undef) (undef)) cur):=Hid.mk' (by
  intro cur q0 q1 g9 hS rq0 rq1 nq0 nq1 r9 n9
  rw [hF.out,hG.out]
  clear st0 st1 st2 st3 st4 st5 st6 st8 st9
  refine wpAnyH_ready (rs:=[7,10]) (by kernel_rfl) (by simp) ?_
  refine arC _ (vec_any p oh 0 0 cur) (fun e w1 h=>by obtain ⟨F1,rfl,⟨s1,s2,s3,rfl,⟨y1,y2,y3⟩,x1,x2,x3⟩,hb⟩:=h;exact ⟨_,rfl,below_next hS hb,dagW hG (st7.out w1 q0 q1 s1 s2 s3 g9 (below_next hS hb) (rq0.still hb) (rq1.still hb) nq0 nq1 x1 x2 x3 (Nat.le_trans hS.size y1) (Nat.le_trans hS.size y2) (Nat.le_trans hS.size y3) (r9.still hb) n9) (hF.out _ _ _ _ _)⟩) ?_ (at_list rfl)
  refine aG _ (fun g=>pA g 0) [.nilFunc,.nilFunc,.nilFunc] 102 (fun u hb=>below_next hS hb) (fun w1 g10 lg hb rr=>dagW hG (st10.out w1 q0 q1 g9 g10 (below_next hS hb) (rq0.still hb) (rq1.still hb) nq0 nq1 (r9.still hb) n9 rr (Nat.le_trans hS.size lg) (fun e=>by have:=r9.lt;omega)) (hF.out _ _ _ _ _)) ?_ (by kernel_rfl) (at_list rfl)
  exact AllReadyH.nil)
 have st12:Hid (∀ (cur:World) (q0 q1 g10:Nat),Below V.heap.size V cur→RW cur q0 0 [pA p oh]→RW cur q1 0 [pA p oh]→V.heap.size≤q0→V.heap.size≤q1→RW cur g10 0 [.nilFunc,.nilFunc,.nilFunc]→V.heap.size≤g10→G 5 #[true,true,true,true,true,true,true,false,false,false,true,false,false] (F (undef) (pA g10 0) (.agg #[clo 98 #[pA q0 0],clo 81 #[pA q1 0],clo 84 #[pA q1 0]]) (undef) (undef)) cur):=Hid.mk' (by
  intro cur q0 q1 g10 hS rq0 rq1 nq0 nq1 r10 n10
  rw [hF.out,hG.out]
  clear st0 st1 st2 st3 st4 st5 st6 st7 st9 st11
  refine wpAnyH_ready (rs:=[7,9]) (by kernel_rfl) (by simp) ?_
  refine arC _ (vec_any p oh 0 0 cur) (fun e w1 h=>by obtain ⟨F1,rfl,⟨s1,s2,s3,rfl,⟨y1,y2,y3⟩,x1,x2,x3⟩,hb⟩:=h;exact ⟨_,rfl,below_next hS hb,dagW hG (st8.out w1 q0 q1 s1 s2 s3 g10 (below_next hS hb) (rq0.still hb) (rq1.still hb) nq0 nq1 x1 x2 x3 (Nat.le_trans hS.size y1) (Nat.le_trans hS.size y2) (Nat.le_trans hS.size y3) (r10.still hb) n10) (hF.out _ _ _ _ _)⟩) ?_ (at_list rfl)
  refine aG _ (fun g=>pA g 0) [.nilFunc,.nilFunc,.nilFunc] 102 (fun u hb=>below_next hS hb) (fun w1 g9 lg hb rr=>dagW hG (st10.out w1 q0 q1 g9 g10 (below_next hS hb) (rq0.still hb) (rq1.still hb) nq0 nq1 rr (Nat.le_trans hS.size lg) (r10.still hb) n10 (fun e=>by have:=r10.lt;omega)) (hF.out _ _ _ _ _)) ?_ (by kernel_rfl) (at_list rfl)
  exact AllReadyH.nil)
 have st13:Hid (∀ (cur:World) (q0 q1:Nat),Below V.heap.size V cur→RW cur q0 0 [pA p oh]→RW cur q1 0 [pA p oh]→V.heap.size≤q0→V.heap.size≤q1→G 6 #[true,true,true,true,true,true,true,false,false,false,false,false,false] (F (undef) (undef) (.agg #[clo 98 #[pA q0 0],clo 81 #[pA q1 0],clo 84 #[pA q1 0]]) (undef) (undef)) cur):=Hid.mk' (by
  intro cur q0 q1 hS rq0 rq1 nq0 nq1
  rw [hF.out,hG.out]
  clear st0 st1 st2 st3 st4 st5 st6 st7 st8 st10
  refine wpAnyH_ready (rs:=[7,9,10]) (by kernel_rfl) (by simp) ?_
  refine arC _ (vec_any p oh 0 0 cur) (fun e w1 h=>by obtain ⟨F1,rfl,⟨s1,s2,s3,rfl,⟨y1,y2,y3⟩,x1,x2,x3⟩,hb⟩:=h;exact ⟨_,rfl,below_next hS hb,dagW hG (st9.out w1 q0 q1 s1 s2 s3 (below_next hS hb) (rq0.still hb) (rq1.still hb) nq0 nq1 x1 x2 x3 (Nat.le_trans hS.size y1) (Nat.le_trans hS.size y2) (Nat.le_trans hS.size y3)) (hF.out _ _ _ _ _)⟩) ?_ (at_list rfl)
  refine aG _ (fun g=>pA g 0) [.nilFunc,.nilFunc,.nilFunc] 102 (fun u hb=>below_next hS hb) (fun w1 g9 lg hb rr=>dagW hG (st11.out w1 q0 q1 g9 (below_next hS hb) (rq0.still hb) (rq1.still hb) nq0 nq1 rr (Nat.le_trans hS.size lg)) (hF.out _ _ _ _ _)) ?_ (by kernel_rfl) (at_list rfl)
  refine aG _ (fun g=>pA g 0) [.nilFunc,.nilFunc,.nilFunc] 102 (fun u hb=>below_next hS hb) (fun w1 g10 lg hb rr=>dagW hG (st12.out w1 q0 q1 g10 (below_next hS hb) (rq0.still hb) (rq1.still hb) nq0 nq1 rr (Nat.le_trans hS.size lg)) (hF.out _ _ _ _ _)) ?_ (by kernel_rfl) (at_list rfl)
  exact AllReadyH.nil)
 have st14:Hid (∀ (cur:World) (g9 g10:Nat),Below V.heap.size V cur→RW cur g9 0 [.nilFunc,.nilFunc,.nilFunc]→V.heap.size≤g9→RW cur g10 0 [.nilFunc,.nilFunc,.nilFunc]→V.heap.size≤g10→g9≠g10→G 5 #[true,true,true,false,true,true,true,false,false,true,true,false,false] (F (pA g9 0) (pA g10 0) (undef) (undef) (undef)) cur):=Hid.mk' (by
  intro cur g9 g10 hS r9 n9 r10 n10 d
  rw [hF.out,hG.out]
  clear st0 st1 st2 st3 st4 st5 st6 st7 st8 st9 st11 st12 st13
  refine wpAnyH_ready (rs:=[3]) (by kernel_rfl) (by simp) ?_
  refine arC _ (hon_any p oh cur) (fun e w1 h=>by obtain ⟨F1,rfl,⟨q0,q1,rfl,⟨y1,y2⟩,x1,x2⟩,hb⟩:=h;exact ⟨_,rfl,below_next hS hb,dagW hG (st10.out w1 q0 q1 g9 g10 (below_next hS hb) x1 x2 (Nat.le_trans hS.size y1) (Nat.le_trans hS.size y2) (r9.still hb) n9 (r10.still hb) n10 d) (hF.out _ _ _ _ _)⟩) ?_ (at_list rfl)
  exact AllReadyH.nil)
 have st15:Hid (∀ (cur:World) (g9:Nat),Below V.heap.size V cur→RW cur g9 0 [.nilFunc,.nilFunc,.nilFunc]→V.heap.size≤g9→G 6 #[true,true,true,false,true,true,true,false,false,true,false,false,false] (F (pA g9 0) (undef) (undef) (undef) (undef)) cur):=Hid.mk' (by
  intro cur g9 hS r9 n9
  rw [hF.out,hG.out]
  clear st0 st1 st2 st3 st4 st5 st6 st7 st8 st9 st10 st12 st13
  refine wpAnyH_ready (rs:=[3,10]) (by kernel_rfl) (by simp) ?_
  refine arC _ (hon_any p oh cur) (fun e w1 h=>by obtain ⟨F1,rfl,⟨q0,q1,rfl,⟨y1,y2⟩,x1,x2⟩,hb⟩:=h;exact ⟨_,rfl,below_next hS hb,dagW hG (st11.out w1 q0 q1 g9 (below_next hS hb) x1 x2 (Nat.le_trans hS.size y1) (Nat.le_trans hS.size y2) (r9.still hb) n9) (hF.out _ _ _ _ _)⟩) ?_ (at_list rfl)
  refine aG _ (fun g=>pA g 0) [.nilFunc,.nilFunc,.nilFunc] 102 (fun u hb=>below_next hS hb) (fun w1 g10 lg hb rr=>dagW hG (st14.out w1 g9 g10 (below_next hS hb) (r9.still hb) n9 rr (Nat.le_trans hS.size lg) (fun e=>by have:=r9.lt;omega)) (hF.out _ _ _ _ _)) ?_ (by kernel_rfl) (at_list rfl)
  exact AllReadyH.nil)
 have st16:Hid (∀ (cur:World) (g10:Nat),Below V.heap.size V cur→RW cur g10 0 [.nilFunc,.nilFunc,.nilFunc]→V.heap.size≤g10→G 6 #[true,true,true,false,true,true,true,false,false,false,true,false,false] (F (undef) (pA g10 0) (undef) (undef) (undef)) cur):=Hid.mk' (by
  intro cur g10 hS r10 n10
  rw [hF.out,hG.out]
  clear st0 st1 st2 st3 st4 st5 st6 st7 st8 st9 st10 st11 st13 st15
  refine wpAnyH_ready (rs:=[3,9]) (by kernel_rfl) (by simp) ?_
  refine arC _ (hon_any p oh cur) (fun e w1 h=>by obtain ⟨F1,rfl,⟨q0,q1,rfl,⟨y1,y2⟩,x1,x2⟩,hb⟩:=h;exact ⟨_,rfl,below_next hS hb,dagW hG (st12.out w1 q0 q1 g10 (below_next hS hb) x1 x2 (Nat.le_trans hS.size y1) (Nat.le_trans hS.size y2) (r10.still hb) n10) (hF.out _ _ _ _ _)⟩) ?_ (at_list rfl)
  refine aG _ (fun g=>pA g 0) [.nilFunc,.nilFunc,.nilFunc] 102 (fun u hb=>below_next hS hb) (fun w1 g9 lg hb rr=>dagW hG (st14.out w1 g9 g10 (below_next hS hb) rr (Nat.le_trans hS.size lg) (r10.still hb) n10 (fun e=>by have:=r10.lt;omega)) (hF.out _ _ _ _ _)) ?_ (by kernel_rfl) (at_list rfl)
  exact AllReadyH.nil)
 have st17:Hid (∀ (cur:World),Below V.heap.size V cur→G 7 #[true,true,true,false,true,true,true,false,false,false,false,false,false] (F (undef) (undef) (undef) (undef) (undef)) cur):=Hid.mk' (by
  intro cur  hS 
  rw [hF.out,hG.out]
  clear st0 st1 st2 st3 st4 st5 st6 st7 st8 st9 st10 st11 st12 st14
  refine wpAnyH_ready (rs:=[3,9,10]) (by kernel_rfl) (by simp) ?_
  refine arC _ (hon_any p oh cur) (fun e w1 h=>by obtain ⟨F1,rfl,⟨q0,q1,rfl,⟨y1,y2⟩,x1,x2⟩,hb⟩:=h;exact ⟨_,rfl,below_next hS hb,dagW hG (st13.out w1 q0 q1 (below_next hS hb) x1 x2 (Nat.le_trans hS.size y1) (Nat.le_trans hS.size y2)) (hF.out _ _ _ _ _)⟩) ?_ (at_list rfl)
  refine aG _ (fun g=>pA g 0) [.nilFunc,.nilFunc,.nilFunc] 102 (fun u hb=>below_next hS hb) (fun w1 g9 lg hb rr=>dagW hG (st15.out w1 g9 (below_next hS hb) rr (Nat.le_trans hS.size lg)) (hF.out _ _ _ _ _)) ?_ (by kernel_rfl) (at_list rfl)
  refine aG _ (fun g=>pA g 0) [.nilFunc,.nilFunc,.nilFunc] 102 (fun u hb=>below_next hS hb) (fun w1 g10 lg hb rr=>dagW hG (st16.out w1 g10 (below_next hS hb) rr (Nat.le_trans hS.size lg)) (hF.out _ _ _ _ _)) ?_ (by kernel_rfl) (at_list rfl)
  exact AllReadyH.nil)
 rw [hG.out]
 exact dagW hG (st17.out V hS) (hF.out _ _ _ _ _)
end Go.Proofs.Ytgdcmibdjiaofaa
namespace Go.Proofs.Ytgdcmibdjiaofaa
open Go.RowKit
theorem RdC.ge {lo hi:Nat} {w:World} {g L:Nat} {B:Nat→Nat} {r:Rd} (h:RdC lo hi w g L B r):lo≤g:=h.choose_spec.2.2.2.1.1
end Go.Proofs.Ytgdcmibdjiaofaa
namespace Go.Proofs.Ytgdcmibdjiaofaa
open Go.RowKit
structure SameIn (lo hi:Nat) (w w':World):Prop where
 size:w.heap.size≤w'.heap.size
 block:∀ k,lo≤k→k<hi→w'.heap[k]? = w.heap[k]?
theorem SameIn.cell {lo hi:Nat} {w w':World} (h:SameIn lo hi w w') {k o:Nat} (h1:lo≤k) (h2:k<hi):w'.cell? ⟨k,o,none⟩=w.cell? ⟨k,o,none⟩:=World.cell?_of_block (w:=w) (h.block k h1 h2)
theorem SameIn.frozen {lo hi:Nat} {w w':World} (h:SameIn lo hi w w') {k o:Nat} (h1:lo≤k) (h2:k<hi):w'.frozen? ⟨k,o,none⟩=w.frozen? ⟨k,o,none⟩:=World.frozen?_of_block (w:=w) (h.block k h1 h2)
theorem SameIn.of_below {lo hi M:Nat} {w w':World} (h:Below M w w') (hM:hi≤M):SameIn lo hi w w':=⟨h.size,fun k _ h2=>h.block k (by omega)⟩
theorem SameIn.of_out {lo hi b o n:Nat} {w w':World} (h:Out b o n w w') (hb:b<lo∨hi≤b) (hh:hi≤w.heap.size):SameIn lo hi w w':=⟨h.size,fun k h1 h2=>h.block k (by omega) (by omega)⟩
theorem RW.same {lo hi:Nat} {w w':World} (s:SameIn lo hi w w') {g:Nat} {vs:List Value} (r:RW w g 0 vs) (h1:lo≤g) (h2:g<hi):RW w' g 0 vs :=
 ⟨fun j v hv=>(s.cell h1 h2).trans (r.range j v hv),fun j hj=>by rw [s.cell h1 h2,s.frozen h1 h2];exact r.there j hj,Nat.lt_of_lt_of_le r.lt s.size⟩
theorem RdC.same {lo hi:Nat} {w w':World} {g L:Nat} {B:Nat→Nat} {r:Rd} (h:RdC lo hi w g L B r) (s:SameIn lo hi w w'):RdC lo hi w' g L B r:=by
 obtain ⟨v,rr,hv,ha,hg,hh⟩:=h
 exact ⟨v,RW.same s rr hg.1 hg.2,BI.same hv fun b o z h1 h2 hc=>(s.cell h1 h2).trans hc,ha,hg,Nat.le_trans hh s.size⟩
def RdB (lo hi:Nat) (w:World) (g L:Nat) (B:Nat→Nat) (r:Rd):Prop:=∃ v,RW w g 0 [v,.int .i64 (r.at_:Int),.int .i64 r.e]∧BI lo hi w v L B∧r.at_≤L∧(lo≤g∧g<hi)∧hi≤w.heap.size
theorem RdB.same {lo hi:Nat} {w w':World} {g L:Nat} {B:Nat→Nat} {r:Rd} (h:RdB lo hi w g L B r) (s:SameIn lo hi w w'):RdB lo hi w' g L B r:=by
 obtain ⟨v,rr,hv,ha,hg,hh⟩:=h
 exact ⟨v,RW.same s rr hg.1 hg.2,BI.same hv fun b o z h1 h2 hc=>(s.cell h1 h2).trans hc,ha,hg,Nat.le_trans hh s.size⟩
theorem RdB.size {lo hi:Nat} {w:World} {g L:Nat} {B:Nat→Nat} {r:Rd} (h:RdB lo hi w g L B r):hi≤w.heap.size:=h.choose_spec.2.2.2.2
theorem RdB.ge {lo hi:Nat} {w:World} {g L:Nat} {B:Nat→Nat} {r:Rd} (h:RdB lo hi w g L B r):lo≤g:=h.choose_spec.2.2.2.1.1
theorem RdB.lt {lo hi:Nat} {w:World} {g L:Nat} {B:Nat→Nat} {r:Rd} (h:RdB lo hi w g L B r):g<hi:=h.choose_spec.2.2.2.1.2
theorem RdB.of {lo hi:Nat} {w:World} {g L:Nat} {B:Nat→Nat} {r:Rd} (h:RdB lo hi w g L B r):RdR w g L B r:=by
 obtain ⟨v,rr,hv,ha,hg,hh⟩:=h
 exact ⟨v,rr,hv.of hh,ha⟩
structure Two (m lo hi hj:Nat) (w:World) (g k L:Nat) (B:Nat→Nat) (r:Rd):Prop where
 code:RdC lo hi w g L B r
 ref:RdB hi hj w k L B r
 low:m≤lo
theorem Two.same {m lo hi hj:Nat} {w w':World} {g k L:Nat} {B:Nat→Nat} {r:Rd} (h:Two m lo hi hj w g k L B r) (s:SameIn lo hj w w'):Two m lo hi hj w' g k L B r :=
 ⟨h.code.same ⟨s.size,fun c h1 h2=>s.block c h1 (Nat.lt_of_lt_of_le h2 (Nat.le_of_lt (Nat.lt_of_le_of_lt h.ref.ge h.ref.lt)))⟩,h.ref.same ⟨s.size,fun c h1 h2=>s.block c (Nat.le_trans (Nat.le_of_lt (Nat.lt_of_le_of_lt h.code.ge h.code.choose_spec.2.2.2.1.2)) h1) h2⟩,h.low⟩
theorem Two.still {m lo hi hj:Nat} {w w':World} {g k L:Nat} {B:Nat→Nat} {r:Rd} (h:Two m lo hi hj w g k L B r) (hb:Below w.heap.size w w'):Two m lo hi hj w' g k L B r:=h.same (SameIn.of_below hb h.ref.size)
theorem Two.whole {m lo hi hj:Nat} {w w':World} {g k L:Nat} {B:Nat→Nat} {r:Rd} (hl:m≤lo) (h:RdC lo hi w g L B r) (h':RdB hi hj w' k L B r) (o:Out k 1 2 w w'):Two m lo hi hj w' g k L B r∧Below m w w' :=
 ⟨⟨h.same (SameIn.of_out o (.inr h'.ge) h.size),h',hl⟩,o.below (Nat.le_trans (Nat.le_trans hl h.ge) (Nat.le_trans (Nat.le_of_lt h.choose_spec.2.2.2.1.2) h'.ge)) (Nat.le_trans (Nat.le_trans hl h.ge) (Nat.le_of_lt h.lt))⟩
end Go.Proofs.Ytgdcmibdjiaofaa
namespace Go.Proofs.Ytgdcmibdjiaofaa
open Go.RowKit
structure Fd where
 i0:Nat
 c0:Array Value
 i1:Nat
 c1:Array Value
 i2:Nat
 c2:Array Value
abbrev Fd.val (f:Fd):Value := .agg #[clo f.i0 f.c0,clo f.i1 f.c1,clo f.i2 f.c2]
abbrev Fd.cells (f:Fd):List Value:=[clo f.i0 f.c0,clo f.i1 f.c1,clo f.i2 f.c2]
def Bxs (lo hi:Nat) (w:World) (L:List (Nat × List Value)):Prop:=∀ x,x∈L→lo≤x.1∧x.1<hi∧RW w x.1 0 x.2
theorem Bxs.same {lo hi:Nat} {w w':World} {L:List (Nat × List Value)} (h:Bxs lo hi w L) (hb:SameIn lo hi w w'):Bxs lo hi w' L:=fun x hx=>by
 obtain ⟨h1,h2,r⟩:=h x hx
 exact ⟨h1,h2,fun j v hv=>(hb.cell h1 h2).trans (r.range j v hv),fun j hj=>by rw [hb.cell h1 h2,hb.frozen h1 h2];exact r.there j hj,Nat.lt_of_lt_of_le r.lt hb.size⟩
theorem Bxs.wide {lo hi lo' hi':Nat} {w:World} {L:List (Nat × List Value)} (h:Bxs lo hi w L) (h1:lo'≤lo) (h2:hi≤hi'):Bxs lo' hi' w L:=fun x hx=>by
 obtain ⟨a,b,r⟩:=h x hx
 exact ⟨Nat.le_trans h1 a,Nat.lt_of_lt_of_le b h2,r⟩
theorem Bxs.of {lo:Nat} {w:World} {L:List (Nat × List Value)} (h:∀ x,x∈L→lo≤x.1∧RW w x.1 0 x.2):Bxs lo w.heap.size w L:=fun x hx=>⟨(h x hx).1,(h x hx).2.lt,(h x hx).2⟩
theorem Bxs.still {lo hi:Nat} {w w':World} {L:List (Nat × List Value)} (h:Bxs lo hi w L) (hb:Below w.heap.size w w'):Bxs lo hi w' L:=fun x hx=>⟨(h x hx).1,(h x hx).2.1,(h x hx).2.2.still hb⟩
theorem Bxs.rest {lo hi:Nat} {X:List Nat} {w w':World} {L:List (Nat × List Value)} (h:Bxs lo hi w L) (hb:Rest X w w') (hX:∀ x,x∈X→x<lo∨hi≤x):Bxs lo hi w' L:=fun x hx=>by
 obtain ⟨a,b,r⟩:=h x hx
 exact ⟨a,b,r.rest hb (fun e=>by have:=hX _ e;omega)⟩
def VecD (lo hi:Nat) (w:World) (f:Fd) (p o:Nat) (l m:Int):Prop:=∃ q1 q2 q3,f=⟨80,#[pA q1 0,pA q2 0,pA q3 0],81,#[pA q1 0],84,#[pA q1 0]⟩∧Bxs lo hi w [(q1,[pA p o]),(q2,[.int .i64 l]),(q3,[.int .i64 m])]
def NumD (lo hi:Nat) (w:World) (f:Fd) (p o:Nat) (s l m:Int):Prop:=∃ q1 q2 q3 q4,f=⟨86,#[pA q1 0,pA q3 0,pA q4 0],87,#[pA q1 0,pA q2 0],89,#[pA q2 0,pA q1 0]⟩∧Bxs lo hi w [(q1,[pA p o]),(q2,[.int .i64 s]),(q3,[.int .i64 l]),(q4,[.int .i64 m])]
def HonD (lo hi:Nat) (w:World) (f:Fd) (p o:Nat):Prop:=∃ q0 q1,f=⟨98,#[pA q0 0],81,#[pA q1 0],84,#[pA q1 0]⟩∧Bxs lo hi w [(q0,[pA p o]),(q1,[pA p o])]
def LnD (lo hi:Nat) (w:World) (f:Fd) (p o:Nat):Prop:=∃ q,f=⟨99,#[pA q 0],101,#[pA q 0],102,#[pA q 0]⟩∧Bxs lo hi w [(q,[pA p o])]
def LhD (lo hi:Nat) (w:World) (f:Fd) (p o:Nat):Prop:=∃ q q0 q1 s1 s2 s3 g9 g10 k,f=⟨115,#[pA k 0],116,#[pA k 0],117,#[pA k 0]⟩∧Bxs lo hi w [(q,[pA p o]),(q0,[pA p (o+4)]),(q1,[pA p (o+4)]),(s1,[pA p (o+4)]),(s2,[.int .i64 0]),(s3,[.int .i64 0]),
 (g9,[clo 98 #[pA q0 0],clo 81 #[pA q1 0],clo 84 #[pA q1 0]]),
 (g10,[clo 80 #[pA s1 0,pA s2 0,pA s3 0],clo 91 #[],clo 92 #[]]),(k,[clo 114 #[pA q 0,pA g9 0,pA g10 0]])]
def unwD (f:Fd):Fd:=⟨f.i0,f.c0,91,#[],92,#[]⟩
section
variable {lo hi lo' hi':Nat} {w w':World} {f:Fd} {p o:Nat} {s l m:Int}
theorem VecD.map (h:VecD lo hi w f p o l m) (g:∀ L,Bxs lo hi w L→Bxs lo' hi' w' L):VecD lo' hi' w' f p o l m:=by
 obtain ⟨q1,q2,q3,e,b⟩:=h;exact ⟨q1,q2,q3,e,g _ b⟩
theorem NumD.map (h:NumD lo hi w f p o s l m) (g:∀ L,Bxs lo hi w L→Bxs lo' hi' w' L):NumD lo' hi' w' f p o s l m:=by
 obtain ⟨q1,q2,q3,q4,e,b⟩:=h;exact ⟨q1,q2,q3,q4,e,g _ b⟩
theorem HonD.map (h:HonD lo hi w f p o) (g:∀ L,Bxs lo hi w L→Bxs lo' hi' w' L):HonD lo' hi' w' f p o:=by
 obtain ⟨q1,q2,e,b⟩:=h;exact ⟨q1,q2,e,g _ b⟩
theorem LnD.map (h:LnD lo hi w f p o) (g:∀ L,Bxs lo hi w L→Bxs lo' hi' w' L):LnD lo' hi' w' f p o:=by
 obtain ⟨q1,e,b⟩:=h;exact ⟨q1,e,g _ b⟩
theorem LhD.map (h:LhD lo hi w f p o) (g:∀ L,Bxs lo hi w L→Bxs lo' hi' w' L):LhD lo' hi' w' f p o:=by
 obtain ⟨q,q0,q1,s1,s2,s3,g9,g10,k,e,b⟩:=h;exact ⟨q,q0,q1,s1,s2,s3,g9,g10,k,e,g _ b⟩
end
theorem vecD_any (p o:Nat) (l m:Int) (w:World):Calls Try.prog 57 #[pA p o,.int .i64 l,.int .i64 m] w fun e w'=>∃ f:Fd,e = .returned f.val∧VecD w.heap.size w'.heap.size w' f p o l m∧Below w.heap.size w w' :=
 (vec_any p o l m w).mono fun e w' h=>by
  obtain ⟨F,rfl,⟨q1,q2,q3,rfl,⟨h1,h2,h3⟩,r1,r2,r3⟩,b⟩:=h
  refine ⟨⟨80,#[pA q1 0,pA q2 0,pA q3 0],81,#[pA q1 0],84,#[pA q1 0]⟩,rfl,⟨q1,q2,q3,rfl,Bxs.of ?_⟩,b⟩
  simp only [List.mem_cons,List.not_mem_nil,or_false]
  rintro x (rfl | rfl | rfl)
  · exact ⟨h1,r1⟩
  · exact ⟨h2,r2⟩
  · exact ⟨h3,r3⟩
theorem numD_any (p o:Nat) (s l m:Int) (w:World):Calls Try.prog 58 #[pA p o,.int .i64 s,.int .i64 l,.int .i64 m] w fun e w'=>∃ f:Fd,e = .returned f.val∧NumD w.heap.size w'.heap.size w' f p o s l m∧Below w.heap.size w w' :=
 (num_any p o s l m w).mono fun e w' h=>by
  obtain ⟨F,rfl,⟨q1,q2,q3,q4,rfl,⟨h1,h2,h3,h4⟩,r1,r2,r3,r4⟩,b⟩:=h
  refine ⟨⟨86,#[pA q1 0,pA q3 0,pA q4 0],87,#[pA q1 0,pA q2 0],89,#[pA q2 0,pA q1 0]⟩,rfl,⟨q1,q2,q3,q4,rfl,Bxs.of ?_⟩,b⟩
  simp only [List.mem_cons,List.not_mem_nil,or_false]
  rintro x (rfl | rfl | rfl | rfl)
  · exact ⟨h1,r1⟩
  · exact ⟨h2,r2⟩
  · exact ⟨h3,r3⟩
  · exact ⟨h4,r4⟩
theorem honD_any (p o:Nat) (w:World):Calls Try.prog 71 #[pA p o] w fun e w'=>∃ f:Fd,e = .returned f.val∧HonD w.heap.size w'.heap.size w' f p o∧Below w.heap.size w w' :=
 (hon_any p o w).mono fun e w' h=>by
  obtain ⟨F,rfl,⟨q1,q2,rfl,⟨h1,h2⟩,r1,r2⟩,b⟩:=h
  refine ⟨⟨98,#[pA q1 0],81,#[pA q2 0],84,#[pA q2 0]⟩,rfl,⟨q1,q2,rfl,Bxs.of ?_⟩,b⟩
  simp only [List.mem_cons,List.not_mem_nil,or_false]
  rintro x (rfl | rfl)
  · exact ⟨h1,r1⟩
  · exact ⟨h2,r2⟩
theorem lnD_any (p o:Nat) (w:World):Calls Try.prog 72 #[pA p o] w fun e w'=>∃ f:Fd,e = .returned f.val∧LnD w.heap.size w'.heap.size w' f p o∧Below w.heap.size w w' :=
 (lnm_any p o w).mono fun e w' h=>by
  obtain ⟨F,rfl,⟨q1,rfl,h1,r1⟩,b⟩:=h
  refine ⟨⟨99,#[pA q1 0],101,#[pA q1 0],102,#[pA q1 0]⟩,rfl,⟨q1,rfl,Bxs.of ?_⟩,b⟩
  simp only [List.mem_cons,List.not_mem_nil,or_false]
  rintro x rfl
  exact ⟨h1,r1⟩
theorem lhD_any (p o:Nat) (w:World):Calls Try.prog 94 #[pA p o] w fun e w'=>∃ f:Fd,e = .returned f.val∧LhD w.heap.size w'.heap.size w' f p o∧Below w.heap.size w w' :=
 (lh_any p o w).mono fun e w' h=>by
  obtain ⟨F,rfl,⟨q,q0,q1,s1,s2,s3,g9,g10,k,rfl,⟨h1,h2,h3,h4,h5,h6,h7,h8,h9⟩,r1,r2,r3,r4,r5,r6,r7,r8,r9⟩,b⟩:=h
  refine ⟨⟨115,#[pA k 0],116,#[pA k 0],117,#[pA k 0]⟩,rfl,⟨q,q0,q1,s1,s2,s3,g9,g10,k,rfl,Bxs.of ?_⟩,b⟩
  simp only [List.mem_cons,List.not_mem_nil,or_false]
  rintro x (rfl | rfl | rfl | rfl | rfl | rfl | rfl | rfl | rfl)
  · exact ⟨h1,r1⟩
  · exact ⟨h2,r2⟩
  · exact ⟨h3,r3⟩
  · exact ⟨h4,r4⟩
  · exact ⟨h5,r5⟩
  · exact ⟨h6,r6⟩
  · exact ⟨h7,r7⟩
  · exact ⟨h8,r8⟩
  · exact ⟨h9,r9⟩
def FL (base:Nat) (w:World) (v:Value) (fs:List Fd):Prop:=w.ownsRow base 102 3 v fs.length (fs.flatMap Fd.cells)
theorem FL.still {base:Nat} {w w':World} {v:Value} {fs:List Fd} (h:FL base w v fs) (hb:Below w.heap.size w w'):FL base w' v fs:=own_below h hb
theorem FL.lit (base:Nat) (w:World) (fs:List Fd) (hb:base≤w.heap.size) (hl:fs.length≤100):FL base (w.alloc (.cells (fs.flatMap Fd.cells).toArray 102)) (.slice (some ⟨w.heap.size,0,none⟩) fs.length fs.length) fs:=by
 have hs:(fs.flatMap Fd.cells).toArray.size=fs.length*3:=by
  rw [List.size_toArray]
  clear hl
  induction fs with
  | nil=>rfl
  | cons f fs ih=>rw [List.flatMap_cons,List.length_append,ih];show 3+_=(fs.length+1)*3;omega
 have:=World.ownsRow_lit (base:=base) (e:=102) (size:=3) w (fs.flatMap Fd.cells).toArray fs.length hb (by unfold maxLen;omega) hs
 exact this
end Go.Proofs.Ytgdcmibdjiaofaa
namespace Go.Proofs.Ytgdcmibdjiaofaa
open Go.RowKit
structure LeafFs (lo hi:Nat) (w:World) (p o:Nat) (last:Int) (f0 f1 f2 f3 f4 f5:Fd):Prop where
 e0:VecD lo hi w f0 p o 32 32
 e1:VecD lo hi w f1 p (o+1) 32 32
 e2:VecD lo hi w f2 p (o+2) 1 64
 e3:NumD lo hi w f3 p (o+3) 1 1 last
 e4:LhD lo hi w f4 p o
 e5:VecD lo hi w f5 p (o+5) 64 64
theorem LeafFs.map {lo hi lo' hi':Nat} {w w':World} {p o:Nat} {last:Int} {f0 f1 f2 f3 f4 f5:Fd} (h:LeafFs lo hi w p o last f0 f1 f2 f3 f4 f5) (g:∀ L,Bxs lo hi w L→Bxs lo' hi' w' L):LeafFs lo' hi' w' p o last f0 f1 f2 f3 f4 f5 :=
 ⟨h.e0.map g,h.e1.map g,h.e2.map g,h.e3.map g,h.e4.map g,h.e5.map g⟩
set_option maxRecDepth 20000 in
set_option maxHeartbeats 2000000 in
theorem lft_any (p o:Nat) (last:Int) (w:World):Calls Try.prog 66 #[pA p o,.int .i64 last] w fun e w'=>∃ v f0 f1 f2 f3 f4 f5,e = .returned v∧FL w.heap.size w' v [f0,f1,f2,f3,f4,f5]∧LeafFs w.heap.size w'.heap.size w' p o last f0 f1 f2 f3 f4 f5∧Below w.heap.size w w':=by
 go_enter Try.func66,Try.ntmps66
 go_wp2
 refine wp_region_held_drew (S:=fun u=>Below w.drew.heap.size w.drew u) (by kernel_rfl) (Below.refl _ _) (fun hS => ?_)
 have bd:Below w.heap.size w w.drew:=(Below.refl _ _).drew
 generalize w.drew=V at *
 refine tg 0 hS ?_
 (try simp only [pS])
 refine tg 1 hS ?_
 (try simp only [pS])
 refine tg 2 hS (v:=pA p o) ?_ (hy:=by intro u _;kernel_rfl)
 (try simp only [pS])
 refine tg 4 hS ?_
 (try simp only [pS])
 refine tg 5 hS ?_
 (try simp only [pS])
 refine tg 6 hS (v:=pA p (o+1)) ?_ (hy:=by intro u _;kernel_rfl)
 (try simp only [pS])
 refine tg 8 hS ?_
 (try simp only [pS])
 refine tg 9 hS ?_
 (try simp only [pS])
 refine tg 10 hS (v:=pA p (o+2)) ?_ (hy:=by intro u _;kernel_rfl)
 (try simp only [pS])
 refine tg 12 hS ?_
 (try simp only [pS])
 refine tg 13 hS ?_
 (try simp only [pS])
 refine tg 14 hS (v:=pA p (o+3)) ?_ (hy:=by intro u _;kernel_rfl)
 (try simp only [pS])
 refine tg 15 hS ?_
 (try simp only [pS])
 refine tg 17 hS ?_
 (try simp only [pS])
 refine tg 19 hS ?_
 (try simp only [pS])
 refine tg 20 hS ?_
 (try simp only [pS])
 refine tg 21 hS (v:=pA p (o+5)) ?_ (hy:=by intro u _;kernel_rfl)
 (try simp only [pS])
 refine cn 3 (vecD_any p o 32 32 V) (fun e w1 hr => ?_)
 obtain ⟨f0,rfl,d0,b1⟩:=hr
 refine ⟨_,rfl,b1,?_⟩
 (try simp only [pS])
 refine cn 7 (vecD_any p (o+1) 32 32 w1) (fun e w2 hr => ?_)
 obtain ⟨f1,rfl,d1,b2⟩:=hr
 refine ⟨_,rfl,b2,?_⟩
 (try simp only [pS])
 refine cn 11 (vecD_any p (o+2) 1 64 w2) (fun e w3 hr => ?_)
 obtain ⟨f2,rfl,d2,b3⟩:=hr
 refine ⟨_,rfl,b3,?_⟩
 (try simp only [pS])
 refine cn 16 (numD_any p (o+3) 1 1 last w3) (fun e w4 hr => ?_)
 obtain ⟨f3,rfl,d3,b4⟩:=hr
 refine ⟨_,rfl,b4,?_⟩
 (try simp only [pS])
 refine cn 18 (lhD_any p o w4) (fun e w5 hr => ?_)
 obtain ⟨f4,rfl,d4,b5⟩:=hr
 refine ⟨_,rfl,b5,?_⟩
 (try simp only [pS])
 refine cn 22 (vecD_any p (o+5) 64 64 w5) (fun e w6 hr => ?_)
 obtain ⟨f5,rfl,d5,b6⟩:=hr
 refine ⟨_,rfl,b6,?_⟩
 (try simp only [pS])
 have b7:Below w6.heap.size w6 (w6.alloc (.cells ([f0,f1,f2,f3,f4,f5].flatMap Fd.cells).toArray 102)):=(Below.refl _ _).alloc (Nat.le_refl _) _
 refine onlyV 23 (v := .slice (some ⟨w6.heap.size,0,none⟩) 6 6) (w':=w6.alloc (.cells ([f0,f1,f2,f3,f4,f5].flatMap Fd.cells).toArray 102)) ?_ b7 ?_
 · kernel_rfl
 (try simp only [pS])
 refine tg 24 b7 ?_
 (try simp only [pS])
 refine wpAnyH_done (by kernel_rfl) ?_ _
 go_wp2
 go_ret
 have hl:=FL.lit w.heap.size w6 [f0,f1,f2,f3,f4,f5] (Nat.le_trans bd.size (Nat.le_trans b1.size (Nat.le_trans b2.size (Nat.le_trans b3.size (Nat.le_trans b4.size (Nat.le_trans b5.size b6.size)))))) (by simp)
 have z1:=bd.size
 have z2:=b1.size
 have z3:=b2.size
 have z4:=b3.size
 have z5:=b4.size
 have z6:=b5.size
 have z7:=b6.size
 have z8:=b7.size
 generalize w6.alloc (.cells ([f0,f1,f2,f3,f4,f5].flatMap Fd.cells).toArray 102)=W at *
 have c6:=b7
 have c5:=below_next b6 c6
 have c4:=below_next b5 c5
 have c3:=below_next b4 c4
 have c2:=below_next b3 c3
 have c1:=below_next b2 c2
 refine ⟨_,f0,f1,f2,f3,f4,f5,rfl,hl,⟨?_,?_,?_,?_,?_,?_⟩,below_next bd (below_next b1 c1)⟩
 · exact d0.map fun L h=>(h.still c1).wide (by omega) (by omega)
 · exact d1.map fun L h=>(h.still c2).wide (by omega) (by omega)
 · exact d2.map fun L h=>(h.still c3).wide (by omega) (by omega)
 · exact d3.map fun L h=>(h.still c4).wide (by omega) (by omega)
 · exact d4.map fun L h=>(h.still c5).wide (by omega) (by omega)
 · exact d5.map fun L h=>(h.still c6).wide (by omega) (by omega)
end Go.Proofs.Ytgdcmibdjiaofaa
namespace Go.Proofs.Ytgdcmibdjiaofaa
open Go.RowKit
theorem vecD_back {L:Nat} {B b:Nat→Nat} {a n:Nat} (lB:∀ j,B j<256) (hn:n≤65536) (hL:a+vcL n≤L) (h:∀ j,j<vcL n→B (a+j)=vcB n b j):vecD L B ⟨a,0⟩=(n,⟨a+vcL n,0⟩)∧(lenD L B ⟨a,0⟩).2.at_=a+lnS n∧∀ j,j<n→B (a+lnS n+j)=b j:=by
 unfold vcL at hL h ⊢
 have e1:lenD L B ⟨a,0⟩=(n,⟨a+lnS n,0⟩):=lenD_back lB (by omega) (by omega) (fun j hj=>by
  rw [h j (by omega)];unfold vcB;rw [cat_left hj])
 refine ⟨?_,by rw [e1],fun j hj => ?_⟩
 · unfold vecD
   rw [e1]
   dsimp only
   rw [if_neg (show ¬((0:Int)=0∧65536<n) by omega)]
   have e2:takD L (n:Int) ⟨a+lnS n,0⟩=(n,⟨a+lnS n+n,0⟩):=by
    unfold takD
    dsimp only
    rw [if_neg (fun e=>e rfl),if_neg (by omega),if_neg (by omega),Int.toNat_natCast]
   rw [e2,if_neg (fun e=>e rfl),Nat.add_assoc]
 · rw [Nat.add_assoc,h (lnS n+j) (by omega)]
   unfold vcB
   rw [cat_right]
theorem vecD_said {L:Nat} {B:Nat→Nat} {r:Rd} (lB:∀ j,B j<256) (hr:r.e=0) (hl:r.at_≤L) (h:(vecD L B r).2.e=0):(vecD L B r).1≤65536∧(vecD L B r).2.at_=r.at_+vcL (vecD L B r).1∧(vecD L B r).2.at_≤L∧∀ j,j<vcL (vecD L B r).1→B (r.at_+j)=vcB (vecD L B r).1 (fun j=>B ((lenD L B r).2.at_+j)) j:=by
 have hs:=lenD_said (L:=L) (r:=r) lB hr hl
 obtain ⟨p,hp⟩:∃ p,p=vecD L B r:=⟨_,rfl⟩
 rw [←hp] at h ⊢
 unfold vecD at hp
 obtain ⟨⟨n,s⟩,hq⟩:∃ q,q=lenD L B r:=⟨_,rfl⟩
 rw [←hq] at hp hs ⊢
 dsimp only at hp hs ⊢
 by_cases h1:s.e=0∧65536<n
 · rw [if_pos h1] at hp
   have e1:takD L (n:Int) ⟨s.at_,21⟩=(0,⟨s.at_,21⟩):=by unfold takD;exact if_pos (fun e=>by cases e)
   rw [e1,if_pos (show (21:Int)≠0 by decide)] at hp
   subst hp;cases h
 rw [if_neg h1] at hp
 by_cases he:s.e≠0
 · have e1:takD L (n:Int) s=(0,s):=by unfold takD;exact if_pos he
   rw [e1,if_pos he] at hp
   subst hp;exact absurd h he
 replace he:s.e=0:=Decidable.not_not.mp he
 obtain ⟨g1,g2,g3,g4⟩:=hs he
 have hn:n≤65536:=by omega
 by_cases h2:(L:Int) - (s.at_:Int)<(n:Int)
 · have e1:takD L (n:Int) s=(0,⟨s.at_,20⟩):=by
    unfold takD;rw [if_neg (fun e=>e he),if_neg (by omega),if_pos h2]
   rw [e1,if_pos (show (20:Int)≠0 by decide)] at hp
   subst hp;cases h
 have e1:takD L (n:Int) s=(n,⟨s.at_+n,0⟩):=by
  unfold takD;rw [if_neg (fun e=>e he),if_neg (by omega),if_neg h2,Int.toNat_natCast]
 rw [e1,if_neg (fun e=>e rfl)] at hp
 subst hp
 dsimp only
 refine ⟨hn,by unfold vcL;omega,by omega,fun j hj => ?_⟩
 unfold vcB
 by_cases hj':j<lnS n
 · rw [cat_left hj',g4 j hj']
 · unfold cat
   rw [if_neg hj',g2]
   show B (r.at_+j)=B (r.at_+lnS n+(j - lnS n))
   rw [show r.at_+lnS n+(j - lnS n)=r.at_+j by omega]
theorem numD_back {L:Nat} {B:Nat→Nat} {a n s:Nat} (hs:s=1∨s=2∨s=4∨s=8) (hn:n<mstN s) (hL:a+s≤L) (h:∀ j,j<s→B (a+j)=beN n s j):numD L B (s:Int) ⟨a,0⟩=(n,⟨a+s,0⟩):=by
 have hm:mstN s≤2 ^ (8*s):=by rcases hs with rfl | rfl | rfl | rfl <;> decide
 have hN:=nbN_be h (Nat.lt_of_lt_of_le hn hm) s (Nat.le_refl _)
 rw [Nat.sub_self,Nat.mul_zero,Nat.pow_zero,Nat.div_one] at hN
 have hz:szB (s:Int)=true:=by rcases hs with rfl | rfl | rfl | rfl <;> rfl
 unfold numD
 dsimp only
 rw [if_neg (fun e=>e rfl),if_neg (by rw [hz];decide),if_neg (by omega),if_neg ?_,Int.toNat_natCast,hN]
 rintro ⟨e8,hB⟩
 obtain rfl:s=8:=by omega
 have h0:=h 0 (by decide)
 rw [Nat.add_zero] at h0
 rw [h0] at hB
 unfold beN at hB
 have hn':n<4611686018427387904:=hn
 have:n / 2 ^ (8*(8 - 1 - 0))%256<64:=by
  show n / 72057594037927936%256<64
  omega
 omega
theorem allB_part (pn:Nat→Nat) (pb:Nat→Nat→Nat) (i:Nat):∀ d j,j<sumN pn i→allB pn pb (i+d) j=allB pn pb i j
 | 0,_,_=>rfl
 | d+1,j,hj=>by
  show cat (sumN pn (i+d)) (allB pn pb (i+d)) (pb (i+d)) j=_
  rw [cat_left (Nat.lt_of_lt_of_le hj (sumN_le pn (Nat.le_add_right _ _))),allB_part pn pb i d j hj]
theorem allB_at (pn:Nat→Nat) (pb:Nat→Nat→Nat) {k cnt:Nat} (hk:k<cnt) {j:Nat} (hj:j<pn k):allB pn pb cnt (sumN pn k+j)=pb k j:=by
 have h:=allB_part pn pb (k+1) (cnt - (k+1)) (sumN pn k+j) (show sumN pn k+j<sumN pn k+pn k by omega)
 rw [show k+1+(cnt - (k+1))=cnt by omega] at h
 rw [h]
 show cat (sumN pn k) (allB pn pb k) (pb k) (sumN pn k+j)=_
 rw [cat_right]
end Go.Proofs.Ytgdcmibdjiaofaa
namespace Go.Proofs.Ytgdcmibdjiaofaa
open Go.RowKit
structure Tx where
 n:Nat
 b:Nat→Nat
structure LfD where
 enc:Tx
 sig:Tx
 name:Tx
 src:Int
 hash:Tx
 sg:Tx
def lfR (d:LfD) (last:Int):Prop:=d.enc.n=32∧d.sig.n=32∧(1≤d.name.n∧d.name.n≤64)∧(1≤d.src∧d.src≤last)∧(if d.src=3 then d.hash.n=0∨d.hash.n=32 else d.hash.n=0)∧d.sg.n=64
def lfA (d:LfD) (last:Int):Nat→Bool
 | 0=>decide ((32:Int)≤(d.enc.n:Int)) && decide ((d.enc.n:Int)≤32)
 | 1=>decide ((32:Int)≤(d.sig.n:Int)) && decide ((d.sig.n:Int)≤32)
 | 2=>decide ((1:Int)≤(d.name.n:Int)) && decide ((d.name.n:Int)≤64)
 | 3=>decide (1≤d.src) && decide (d.src≤last)
 | 4=>if d.src=3 then decide (d.hash.n=0) || decide (d.hash.n=32) else decide (d.hash.n=0)
 | _=>decide ((64:Int)≤(d.sg.n:Int)) && decide ((d.sg.n:Int)≤64)
def lfN (d:LfD):Nat→Nat
 | 0=>vcL d.enc.n
 | 1=>vcL d.sig.n
 | 2=>vcL d.name.n
 | 3=>1
 | 4=>if d.src=3 then vcL d.hash.n else 0
 | _=>vcL d.sg.n
def lfB (d:LfD):Nat→Nat→Nat
 | 0=>vcB d.enc.n d.enc.b
 | 1=>vcB d.sig.n d.sig.b
 | 2=>vcB d.name.n d.name.b
 | 3=>beN d.src.toNat 1
 | 4=>vcB d.hash.n d.hash.b
 | _=>vcB d.sg.n d.sg.b
def allU (al:Nat→Bool):Nat→Bool
 | 0=>true
 | n+1=>allU al n && al n
theorem lf_all (d:LfD) (last:Int):allU (lfA d last) 6=true↔lfR d last:=by
 simp only [allU,lfA,lfR,Bool.and_eq_true,decide_eq_true_eq,Bool.true_and]
 by_cases h:d.src=3
 · simp only [if_pos h,Bool.or_eq_true,decide_eq_true_eq];omega
 · simp only [if_neg h,decide_eq_true_eq];omega
structure PrD where
 enc:Tx
 hash:Tx
 um:List Int
structure PkD where
 init:Tx
 leaf:LfD
 sg:Tx
def zat (l:List Int) (i:Nat):Int:=(l[i]?).getD 0
def lastZ (l:List Int):Nat→Int
 | 0=>-1
 | k+1=>zat l k
def risU (l:List Int):Nat→Bool
 | 0=>true
 | k+1=>risU l k && (decide (lastZ l k<zat l k) && decide (zat l k<64))
def umB (l:List Int):Nat→Nat→Nat:=allB (fun _=>4) (fun i=>beN (zat l i).toNat 4)
def prR (d:PrD):Prop:=d.enc.n=32∧(d.hash.n=0∨d.hash.n=32)∧risU d.um d.um.length=true
def prA (d:PrD):Nat→Bool
 | 0=>decide ((32:Int)≤(d.enc.n:Int)) && decide ((d.enc.n:Int)≤32)
 | 1=>decide (d.hash.n=0) || decide (d.hash.n=32)
 | _=>risU d.um d.um.length
def prN (d:PrD):Nat→Nat
 | 0=>vcL d.enc.n
 | 1=>vcL d.hash.n
 | _=>vcL (4*d.um.length)
def prB (d:PrD):Nat→Nat→Nat
 | 0=>vcB d.enc.n d.enc.b
 | 1=>vcB d.hash.n d.hash.b
 | _=>vcB (4*d.um.length) (umB d.um d.um.length)
theorem pr_all (d:PrD):allU (prA d) 3=true↔prR d:=by
 simp only [allU,prA,prR,Bool.and_eq_true,decide_eq_true_eq,Bool.true_and,Bool.or_eq_true]
 constructor
 · rintro ⟨⟨h0,h1⟩,h2⟩
   exact ⟨by omega,h1,h2⟩
 · rintro ⟨h0,h1,h2⟩
   exact ⟨⟨by omega,h1⟩,h2⟩
def pkR (d:PkD):Prop:=d.init.n=32∧lfR d.leaf 1∧d.sg.n=64
def pkA (d:PkD):Nat→Bool
 | 0=>decide ((1:Int)≤1) && decide ((1:Int)≤1)
 | 1=>decide ((1:Int)≤1) && decide ((1:Int)≤1)
 | 2=>decide ((32:Int)≤(d.init.n:Int)) && decide ((d.init.n:Int)≤32)
 | 3=>lfA d.leaf 1 0
 | 4=>lfA d.leaf 1 1
 | 5=>lfA d.leaf 1 2
 | 6=>lfA d.leaf 1 3
 | 7=>lfA d.leaf 1 4
 | 8=>lfA d.leaf 1 5
 | _=>decide ((64:Int)≤(d.sg.n:Int)) && decide ((d.sg.n:Int)≤64)
def pkN (d:PkD):Nat→Nat
 | 0=>2
 | 1=>2
 | 2=>vcL d.init.n
 | 3=>lfN d.leaf 0
 | 4=>lfN d.leaf 1
 | 5=>lfN d.leaf 2
 | 6=>lfN d.leaf 3
 | 7=>lfN d.leaf 4
 | 8=>lfN d.leaf 5
 | _=>vcL d.sg.n
def pkB (d:PkD):Nat→Nat→Nat
 | 0=>beN 1 2
 | 1=>beN 1 2
 | 2=>vcB d.init.n d.init.b
 | 3=>lfB d.leaf 0
 | 4=>lfB d.leaf 1
 | 5=>lfB d.leaf 2
 | 6=>lfB d.leaf 3
 | 7=>lfB d.leaf 4
 | 8=>lfB d.leaf 5
 | _=>vcB d.sg.n d.sg.b
theorem pk_all (d:PkD):allU (pkA d) 10=true↔pkR d:=by
 rw [show allU (pkA d) 10=((((((((((true && (decide ((1:Int)≤1) && decide ((1:Int)≤1))) && (decide ((1:Int)≤1) && decide ((1:Int)≤1))) && (decide ((32:Int)≤(d.init.n:Int)) && decide ((d.init.n:Int)≤32))) && lfA d.leaf 1 0) && lfA d.leaf 1 1) && lfA d.leaf 1 2) && lfA d.leaf 1 3) && lfA d.leaf 1 4) && lfA d.leaf 1 5) && (decide ((64:Int)≤(d.sg.n:Int)) && decide ((d.sg.n:Int)≤64))) from rfl]
 have h:=lf_all d.leaf 1
 rw [show allU (lfA d.leaf 1) 6=((((((true && lfA d.leaf 1 0) && lfA d.leaf 1 1) && lfA d.leaf 1 2) && lfA d.leaf 1 3) && lfA d.leaf 1 4) && lfA d.leaf 1 5) from rfl] at h
 unfold pkR
 rw [←h]
 simp only [Bool.and_eq_true,decide_eq_true_eq,Bool.true_and]
 constructor
 · rintro ⟨⟨⟨⟨⟨⟨⟨⟨_,h2⟩,a0⟩,a1⟩,a2⟩,a3⟩,a4⟩,a5⟩,h9⟩
   exact ⟨by omega,⟨⟨⟨⟨⟨a0,a1⟩,a2⟩,a3⟩,a4⟩,a5⟩,by omega⟩
 · rintro ⟨h2,⟨⟨⟨⟨⟨a0,a1⟩,a2⟩,a3⟩,a4⟩,a5⟩,h9⟩
   exact ⟨⟨⟨⟨⟨⟨⟨⟨by omega,by omega⟩,a0⟩,a1⟩,a2⟩,a3⟩,a4⟩,a5⟩,by omega⟩
end Go.Proofs.Ytgdcmibdjiaofaa
namespace Go.Proofs.Ytgdcmibdjiaofaa
open Go.RowKit
section
variable {P:Program} {md:Region.Mode} {ops:Array Oper} {Q:Exit→Act→World→Prop} {S:World→Prop} {fuel:Nat} {listed:Array Bool} {a:Act} {w:World}
def LastQ (P:Program) (ops:Array Oper) (Q:Exit→Act→World→Prop) (t:Nat):Exit→Act→World→Prop
 | .normal,a,w=>wpOp P ops Q t (Q .normal) a w
 | e,a,w=>Q e a w
def backward (md:Region.Mode) (ops:Array Oper):Bool:=(List.range ops.size).all fun i=>match ops[i]? with
 | none=>true
 | some o=>o.after.toList.all fun e=>!Region.binds md e || decide (e.on<i)
def waitsAll (md:Region.Mode) (ops:Array Oper) (t:Nat):Bool:=match ops[t]? with
 | none=>false
 | some o=>(List.range ops.size).all fun i=>decide (i=t) || o.after.toList.any fun e=>Region.binds md e && decide (e.on=i)
theorem backward_at (h:backward md ops=true) {i:Nat} {o:Oper} (ho:ops[i]? = some o) {e:Edge} (he:e∈o.after) (hb:Region.binds md e=true):e.on<i:=by
 have h1:=List.all_eq_true.1 h i (List.mem_range.2 (Array.getElem?_eq_some_iff.1 ho).1)
 rw [ho] at h1
 have h2:=List.all_eq_true.1 h1 e (Array.mem_toList_iff.2 he)
 rw [hb] at h2
 simpa using h2
theorem waitsAll_at {t:Nat} (h:waitsAll md ops t=true):∃ o,ops[t]? = some o∧∀ i,i<ops.size→i≠t→∃ e∈o.after,Region.binds md e=true∧e.on=i:=by
 unfold waitsAll at h
 split at h
 · cases h
 · rename_i o ho
   refine ⟨o,ho,fun i hi hne => ?_⟩
   have h1:=List.all_eq_true.1 h i (List.mem_range.2 hi)
   rw [decide_eq_false hne,Bool.false_or] at h1
   obtain ⟨e,he,h2⟩:=List.any_eq_true.1 h1
   rw [Bool.and_eq_true,decide_eq_true_eq] at h2
   exact ⟨e,Array.mem_toList_iff.1 he,h2.1,h2.2⟩
theorem wpOp_swap {Q':Exit→Act→World→Prop} (hp:∀ c a w,Q' (.panic c) a w→Q (.panic c) a w) (hl:LetsOut Q'→LetsOut Q) {i:Nat} {K:Act→World→Prop} (hh:wpOp P ops Q' i K a w):wpOp P ops Q i K a w:=by
 unfold wpOp at *
 split
 · simpa [*] using hh
 · rename_i o ho
   simp only [ho] at hh
   split
   · rename_i hw
     simp only [hw,if_true] at hh
     refine hh.imp (fun hh => ?_) (fun h=>⟨h.1,hl h.2⟩)
     unfold Oper.wp at *
     generalize (execOp a.eval o).run P w=r at *
     cases r with
     | ok n w' =>
      cases n <;> simp only [Oper.upon] at hh ⊢ <;>
       first
        | exact hh
        | exact Calls.mono hh (fun e w'' he=>by cases e <;> first | exact he | exact hp _ _ _ he | exact hl he)
     | halt x w'=>cases x <;> simp only [Oper.upon] at hh ⊢ <;> first | exact hh | exact hp _ _ _ hh
   · rename_i hw;simp only [hw] at hh;exact hh
theorem wpAny_end (hr:Region.ready md ops listed=[]) (h:Q .normal a w):∀ fuel,wpAny P md ops Q fuel listed a w
 | 0=>⟨hr,h⟩
 | _+1=>⟨fun _=>h,by rw [hr];simp⟩
theorem all_listed {t:Nat} (hb:backward md ops=true) (hz:listed.size=ops.size) (hr:Region.ready md ops (listed.setIfInBounds t true)=[]):∀ i,i<ops.size→i≠t→listed.getD i true=true:=by
 intro i
 induction i using Nat.strongRecOn with
 | ind i ih =>
  intro hi hne
  cases hc:listed.getD i true with
  | true=>rfl
  | false =>
   have hmem:i∈Region.ready md ops (listed.setIfInBounds t true):=by
    rw [mem_ready]
    refine ⟨by rw [getD_set_ne true (Ne.symm hne)];exact hc,ops[i],Array.getElem?_eq_getElem hi,fun e he hbe => ?_⟩
    have hlt:=backward_at hb (Array.getElem?_eq_getElem hi) he hbe
    by_cases het:e.on=t
    · rw [het]
      have:t<listed.size:=by omega
      simp [this]
    · have h1:=ih e.on hlt (by omega) het
      have hs:e.on<listed.size:=by omega
      rw [getD_set_ne false (Ne.symm het)]
      simp [hs] at h1 ⊢
      exact h1
   rw [hr] at hmem
   cases hmem
theorem wpAny_last {t:Nat} (ht:t<ops.size) (hb:backward md ops=true) (hw:waitsAll md ops t=true):∀ (fuel:Nat) (listed:Array Bool) (a:Act) (w:World),listed.size=ops.size→listed.getD t true=false →
 wpAny P md ops (LastQ P ops Q t) fuel (listed.setIfInBounds t true) a w→wpAny P md ops Q (fuel+1) listed a w:=by
 intro fuel
 induction fuel with
 | zero =>
  intro listed a w hz hlt h
  have hall:=all_listed hb hz h.1
  have hq:wpOp P ops Q t (Q .normal) a w:=h.2
  obtain ⟨o,ho,-⟩:=waitsAll_at hw
  have hmt:t∈Region.ready md ops listed:=mem_ready.2 ⟨hlt,o,ho,fun e he hbe=>by
   have h1:=backward_at hb ho he hbe
   have h2:=hall e.on (by omega) (by omega)
   have hs:e.on<listed.size:=by omega
   simp [hs] at h2 ⊢
   exact h2⟩
  refine ⟨fun h0=>(by rw [h0] at hmt;cases hmt),fun i hi => ?_⟩
  by_cases hit:i=t
  · subst hit
    exact wpOp_mono (fun a' w' h'=>wpAny_end h.1 h' _) hq
  · have:=ready_mono hi hit
    rw [h.1] at this
    cases this
 | succ fuel ih =>
  intro listed a w hz hlt h
  by_cases hr:Region.ready md ops (listed.setIfInBounds t true)=[]
  · have hall:=all_listed hb hz hr
    have hq:wpOp P ops Q t (Q .normal) a w:=h.1 hr
    obtain ⟨o,ho,-⟩:=waitsAll_at hw
    have hmt:t∈Region.ready md ops listed:=mem_ready.2 ⟨hlt,o,ho,fun e he hbe=>by
     have h1:=backward_at hb ho he hbe
     have h2:=hall e.on (by omega) (by omega)
     have hs:e.on<listed.size:=by omega
     simp [hs] at h2 ⊢
     exact h2⟩
    refine ⟨fun h0=>(by rw [h0] at hmt;cases hmt),fun i hi => ?_⟩
    by_cases hit:i=t
    · subst hit
      exact wpOp_mono (fun a' w' h'=>wpAny_end hr h' _) hq
    · have:=ready_mono hi hit
      rw [hr] at this
      cases this
  · obtain ⟨o,ho,hwt⟩:=waitsAll_at hw
    obtain ⟨j,hj⟩:=List.exists_mem_of_ne_nil _ hr
    obtain ⟨hju,oj,hoj,hjall⟩:=mem_ready.1 hj
    have hjs:j<ops.size:=(Array.getElem?_eq_some_iff.1 hoj).1
    have hjt:j≠t:=fun e=>by
     subst e
     have:j<listed.size:=by omega
     simp [this] at hju
    have hnt:t ∉ Region.ready md ops listed:=fun hm=>by
     obtain ⟨-,o',ho',hall⟩:=mem_ready.1 hm
     rw [ho] at ho'
     cases ho'
     obtain ⟨e,he,hbe,hej⟩:=hwt j hjs hjt
     have h1:=hall e he hbe
     rw [hej] at h1
     rw [getD_set_ne true (Ne.symm hjt)] at hju
     have hs:j<listed.size:=by omega
     simp [hs] at h1 hju
     rw [h1] at hju
     cases hju
    have hsome:∃ i,i∈Region.ready md ops listed:=by
     have hex:∃ i,i<ops.size∧i≠t∧listed.getD i true=false:=⟨j,hjs,hjt,by rwa [getD_set_ne true (Ne.symm hjt)] at hju⟩
     refine Classical.byContradiction fun hno => ?_
     obtain ⟨i,hi,hit,hiu⟩:=hex
     have hall:∀ i,i<ops.size→i≠t→listed.getD i true=true:=by
      intro i
      induction i using Nat.strongRecOn with
      | ind i ihh =>
       intro hi hne
       cases hc:listed.getD i true with
       | true=>rfl
       | false =>
        exfalso
        by_cases hti:∃ e∈ops[i].after,Region.binds md e=true∧e.on=t
        · obtain ⟨e1,he1,hb1,h1t⟩:=hti
          obtain ⟨e2,he2,hb2,h2i⟩:=hwt i hi hne
          have g1:=backward_at hb (Array.getElem?_eq_getElem hi) he1 hb1
          have g2:=backward_at hb ho he2 hb2
          omega
        · refine hno ⟨i,mem_ready.2 ⟨hc,ops[i],Array.getElem?_eq_getElem hi,fun e he hbe => ?_⟩⟩
          have hlt':=backward_at hb (Array.getElem?_eq_getElem hi) he hbe
          have h1:=ihh e.on hlt' (by omega) (fun het=>hti ⟨e,he,hbe,het⟩)
          have hs:e.on<listed.size:=by omega
          simp [hs] at h1 ⊢
          exact h1
     rw [hall i hi hit] at hiu
     cases hiu
    refine ⟨fun h0=>(by obtain ⟨i,hi⟩:=hsome;rw [h0] at hi;cases hi),fun i hi => ?_⟩
    have hit:i≠t:=fun e=>hnt (e ▸ hi)
    have h1:=h.2 i (ready_mono hi hit)
    refine wpOp_swap (Q':=LastQ P ops Q t) (fun _ _ _ h=>h) (fun h=>h) (wpOp_mono (fun a' w' h' => ?_) h1)
    refine ih (listed.setIfInBounds i true) a' w' (by simpa using hz) (by rw [getD_set_ne true hit];exact hlt) ?_
    rw [Array.setIfInBounds_comm _ _ hit]
    exact h'
theorem wp_last {id:Nat} (t:Nat) (hm:P.follows .mixedOrders=true) (ht:t+1=ops.size) (hb:backward .any ops=true) (hw:waitsAll .any ops t=true) (hS:S w.drew)
 (h:S w.drew→wpAnyH P .any ops (LastQ P ops (NoPanic Q) t) S t ((Array.replicate (t+1) false).setIfInBounds t true) a w.drew):(Code.region id ops true).wp P Q a w:=by
 refine wp_region_noPanic (wp_region_any hm ?_)
 rw [←ht]
 refine wpAny_last (by omega) hb hw t _ a _ (by simp [ht]) (by simp) ?_
 exact wpAny_of_held _ _ _ _ (h hS)
theorem wp_lastP {id:Nat} (t:Nat) (hm:P.follows .mixedOrders=true) (ht:t+1=ops.size) (hb:backward .any ops=true) (hw:waitsAll .any ops t=true) (hS:S w.drew)
 (h:S w.drew→wpAnyH P .any ops (LastQ P ops Q t) S t ((Array.replicate (t+1) false).setIfInBounds t true) a w.drew):(Code.region id ops true).wp P Q a w:=by
 refine wp_region_any hm ?_
 rw [←ht]
 refine wpAny_last (by omega) hb hw t _ a _ (by simp [ht]) (by simp) ?_
 exact wpAny_of_held _ _ _ _ (h hS)
theorem lastRow (t:Nat) {ot:Oper} (ty x y:Nat) {g off:Nat} {cs:List Value} (ds:List Value) (r:RW w g off cs) (hl:ds.length=cs.length) (hin:(P.info? ty).map (·.size)=some ds.toArray.size) (h1:ds.toArray.all (·.oneCell')=true) (h:RW (w.setCells g off ds) g off ds→Q .normal (a.put ot.dst undef) (w.setCells g off ds))
 (hi:ops.toList[t]? = some ot:=by rfl) (ho:ot.op = .store ty (.tmp x) (.tmp y):=by rfl) (hx:a.eval (.tmp x) = .pointer (some ⟨g,off,none⟩):=by rfl) (hy:a.eval (.tmp y) = .agg ds.toArray:=by rfl) (hw:Region.wanted ot (yielded ops a.tmps)=true:=by rfl):LastQ P ops Q t .normal a w:=by
 show wpOp P ops Q t (Q .normal) a w
 unfold wpOp
 rw [at_list hi]
 dsimp only
 rw [if_pos hw]
 exact .inl (wp_store_mid ty _ _ ho g off ds.toArray hx hy (by rw [List.size_toArray,hl];exact r.there) hin h1 (h (r.stored ds hl)))
theorem lastRun (t:Nat) {ot:Oper} {w':World} (h:Q .normal (a.put ot.dst undef) w') (hi:ops.toList[t]? = some ot:=by rfl) (hw:Region.wanted ot (yielded ops a.tmps)=true:=by rfl)
 (hrun:(execOp a.eval ot).run P w = .ok .skip w':=by go_simp;try with_reducible rfl):LastQ P ops Q t .normal a w:=by
 show wpOp P ops Q t (Q .normal) a w
 unfold wpOp
 rw [at_list hi]
 dsimp only
 rw [if_pos hw]
 refine .inl ?_
 unfold Oper.wp
 rw [hrun]
 exact h
end
end Go.Proofs.Ytgdcmibdjiaofaa
namespace Go.Proofs.Ytgdcmibdjiaofaa
open Go.RowKit
structure FieldPut (w:World) (f:Fd) (al:Bool) (n:Nat) (b:Nat→Nat):Prop where
 h0:∀ W,(callFunc f.i0 f.c0).run Try.prog W = .ok (.enter f.i0 f.c0) W
 h1:∀ W,(callFunc f.i1 f.c1).run Try.prog W = .ok (.enter f.i1 f.c1) W
 allow:∀ W,Below w.heap.size w W→Calls Try.prog f.i0 f.c0 W fun e w'=>e = .returned (.bool al)∧Below W.heap.size W w'
 put:al=true→∀ W,Below w.heap.size w W→Calls Try.prog f.i1 f.c1 W fun e w'=>∃ s,e = .returned s∧BytesIn w' s n b∧Below W.heap.size W w'
theorem wpList_clo {P:Program} {w:World} {ops:Array Oper} {rest:List Oper} {o:Oper} {a:Act} {Q:Exit→Act→World→Prop} (hgd:o.guard=none) {f:FuncId} {c:Array Value} {R:Ending→World→Prop} (hc:Calls P f c w R) (hf:∀ W,(callFunc f c).run P W = .ok (.enter f c) W)
 (x:Operand) (ts:Array TypeId) (ho:o.op = .call { callee := .value x,args:=#[],argTypes:=ts }) (hx:a.eval x = .func (.func f) #[] c)
 (h:∀ e w',R e w'→(∃ r,e = .returned r∧wpList P ops Q rest (a.put o.dst r) w')∨∃ ch,e = .panicked ch∧Q (.panic ch) a w'):wpList P ops Q (o :: rest) a w:=by
 refine wpList_plain hgd fun K hK => ?_
 have hrun:(execOp a.eval o).run P w = .ok (.enter f c) w:=by
  simp [execOp,ho,resolve,Deferred.ofValue,hx,invoke,hf]
 unfold Oper.wp
 rw [hrun,Oper.upon_enter]
 refine hc.mono fun e w' hR => ?_
 rcases h e w' hR with ⟨r,rfl,hk⟩ | ⟨ch,rfl,hq⟩
 · exact hK _ _ hk
 · exact hq
theorem sumN_bound {pn:Nat→Nat} {al:Nat→Bool} {n:Nat} (h:∀ i,i<n→al i=true→pn i≤70000):∀ {k:Nat},allU al k=true→k≤n→sumN pn k≤70000*k
 | 0,_,_=>by simp [sumN]
 | k+1,ha,hk=>by
  rw [allU,Bool.and_eq_true] at ha
  have:=sumN_bound h ha.1 (by omega)
  have:=h k (by omega) ha.2
  show sumN pn k+pn k≤_
  omega
theorem allU_false {al:Nat→Bool} {k:Nat} (h:al k=false):∀ {n},k<n→allU al n=false
 | 0,hk=>by omega
 | n+1,hk=>by
  rw [allU]
  by_cases e:k=n
  · subst e;rw [h,Bool.and_false]
  · rw [allU_false h (by omega),Bool.false_and]
theorem catch_p (p q:Nat) (x y:Value) (u:TypeId) (pv:Value) (older:List PanicEntry) (w:World) (hp:RW w p 0 [x]) (hq:RW w q 0 [y]) (hne:p≠q) :
 CallsD Try.prog 64 #[pA p 0,pA q 0] (.panicking ({ v := .iface u pv,recovered:=false } :: older)) w fun e u' w' =>
  e = .returned (.tuple #[])∧u' = .panicking ({ v := .iface u pv,recovered:=true } :: older)∧w'=(w.setCell ⟨p,0,none⟩ (.slice none 0 0)).setCell ⟨q,0,none⟩ (.int .i64 1):=by
 have c1:=hp.cell (o:=0) rfl
 have z1:=hp.live (o:=0) (by simp)
 have hq':=hq.far p 0 [.slice none 0 0] (.inl (fun e=>hne e.symm))
 have c2:(w.setCell ⟨p,0,none⟩ (.slice none 0 0)).cell? ⟨q,0,none⟩=some y:=hq'.cell (o:=0) rfl
 have z2:(w.setCell ⟨p,0,none⟩ (.slice none 0 0)).frozen? ⟨q,0,none⟩=false:=hq'.live (o:=0) (by simp)
 refine callsD_of_wpS Try.func64 rfl fun c₀ cs hu => ?_
 apply wpS_seq
 apply wpS_region
 simp [wpOpsS,go_sem,recoverD,hu,Try.ntmps64,Exit.thenS]
 refine wpS_cond (t:=true) (by simp [Act.eval,Array.replicate]) ?_
 simp only [if_true]
 apply wpS_region
 simp [wpOpsS,go_sem,c1,z1,c2,z2,bodyPostS,results,Try.results64]
theorem catch_i (p q:Nat) (w:World) :
 CallsD Try.prog 64 #[pA p 0,pA q 0] .returning w fun e u' w'=>e = .returned (.tuple #[])∧u' = .returning∧w'=w:=by
 refine callsD_of_wpS Try.func64 rfl fun c₀ cs hu => ?_
 apply wpS_seq
 apply wpS_region
 simp [wpOpsS,go_sem,recoverD,hu,Try.ntmps64,Exit.thenS]
 refine wpS_cond (t:=false) (by simp [Act.eval,Array.replicate]) ?_
 simp only [Bool.false_eq_true,if_false]
 refine wpS_of_wp (wp_skip ?_)
 cases c₀
 simp_all [bodyPostS,results,Try.results64]
theorem flat_at (fs:List Fd) (k:Nat) (f:Fd) (h:fs[k]? = some f) (j:Nat) (hj:j<3):(fs.flatMap Fd.cells)[k*3+j]? = f.cells[j]?:=by
 induction fs generalizing k with
 | nil=>simp at h
 | cons g fs ih =>
  rw [List.flatMap_cons]
  cases k with
  | zero =>
   simp at h;subst h
   rw [List.getElem?_append_left (by show _<3;omega),Nat.zero_mul,Nat.zero_add]
  | succ k =>
   rw [List.getElem?_append_right (by show 3≤_;omega),show (k+1)*3+j - (g.cells).length=k*3+j by show (k+1)*3+j - 3=_;omega]
   exact ih k (by simpa using h)
structure FR (w:World) (g:Nat) (fs:List Fd):Prop where
 lt:g<w.heap.size
 at_:∀ k f,fs[k]? = some f→w.rangeAt g (k*3) f.cells
theorem FR.still {w w':World} {g:Nat} {fs:List Fd} (h:FR w g fs) (hb:Below w.heap.size w w'):FR w' g fs:=⟨Nat.lt_of_lt_of_le h.lt hb.size,fun k f hk j v hv=>(hb.cell (p:=⟨g,k*3+j,none⟩) h.lt).trans (h.at_ k f hk j v hv)⟩
theorem FL.read {base:Nat} {w:World} {v:Value} {fs:List Fd} (h:FL base w v fs) (hn:0<fs.length):∃ g cap,v = .slice (some ⟨g,0,none⟩) fs.length cap∧base≤g∧fs.length≤cap∧cap≤maxLen∧FR w g fs:=by
 have h':=h
 rcases h.2 with ⟨_,e⟩ | ⟨g,cap,cur,rfl,hb,hg,hc,hm,-,-⟩
 · omega
 · refine ⟨g,cap,rfl,hb,hc,hm,(h'.lt g rfl).2,fun k f hk j u hu => ?_⟩
   have hk':=(List.getElem?_eq_some_iff.1 hk).1
   have hj:j<3:=(List.getElem?_eq_some_iff.1 hu).1
   rw [World.ownsRow.cellAt h' (k*3+j) (by omega),flat_at fs k f hk j hj]
   exact hu
set_option maxRecDepth 20000 in
set_option maxHeartbeats 4000000 in
theorem put_any (base:Nat) (v:Value) (fs:List Fd) (al:Nat→Bool) (pn:Nat→Nat) (pb:Nat→Nat→Nat) (w:World) (hv:FL base w v fs) (h0:0<fs.length) (h1:fs.length≤100) (hpn:∀ i,i<fs.length→al i=true→pn i≤70000) (hF:∀ i f,fs[i]? = some f→FieldPut w f (al i) (pn i) (pb i)) :
 Calls Try.prog 36 #[v] w fun e w'=>Below w.heap.size w w'∧if allU al fs.length=true then ∃ s,e = .returned (.tuple #[s,.int .i64 0])∧BytesIn w' s (sumN pn fs.length) (allB pn pb fs.length) else e = .returned (.tuple #[.slice none 0 0,.int .i64 1]):=by
 have hmf:∀ (fn:Fn) (first cap:Array Value) (w:World),(Instr.makeFunc fn first cap).run Try.prog w = .ok (.func fn first cap) w:=fun _ _ _ _=>rfl
 obtain ⟨g,cap,rfl,hg,hc,hm,hr⟩:=hv.read h0
 clear hv
 obtain ⟨n,hn⟩:∃ n,n=fs.length:=⟨_,rfl⟩
 have Hn:=Hid.mk' hn
 rw [←hn] at h0 h1 hpn ⊢
 clear hn
 obtain ⟨r1,b1,s1⟩:=bx w (.slice none 0 0) 22
 obtain ⟨r2,b2,s2⟩:=bx (w.alloc (.cells #[.slice none 0 0] 22)) (.int .i64 0) 28
 obtain ⟨W,hW⟩:∃ W,W=(w.alloc (.cells #[.slice none 0 0] 22)).alloc (.cells #[.int .i64 0] 28):=⟨_,rfl⟩
 have HW:=Hid.mk' hW
 rw [←hW] at r2 b2 s2
 replace r1:=r1.still b2
 replace b1:=below_next b1 b2
 rw [s1] at r2 s2
 have S2:=Hid.mk' s2
 clear hW s1 s2 b2
 go_enter_defers Try.func36,Try.ntmps36
 go_upto_region 2 with (fail)
 rw [←HW.out]
 go_wp2
 go_loopw [9] (fun i wr=>∃ k:Nat,k≤n∧i = .int .i64 k∧allU al k=true∧∃ vo,RW wr w.heap.size 0 [vo]∧Own W.heap.size wr vo (sumN pn k) (allB pn pb k)∧RW wr (w.heap.size+1) 0 [.int .i64 0]∧Below w.heap.size w wr∧W.heap.size≤wr.heap.size) (fun i _=>n - (intOf i).toNat)
 case atStart=>exact ⟨0,Nat.zero_le _,rfl,rfl,_,r1,Own.nil _ _ _,r2,b1,Nat.le_refl _⟩
 case round =>
  clear r1 r2 b1
  obtain ⟨k,hk,rfl,hal,vo,r1,ow,r2,b1,sw⟩:=hrel
  by_cases hlt:k<n
  · have hkl:k<fs.length:=by rw [←Hn.out];exact hlt
    have hfk:fs[k]? = some fs[k]:=List.getElem?_eq_getElem hkl
    obtain ⟨f,hf⟩:∃ f,f=fs[k]:=⟨_,rfl⟩
    rw [←hf] at hfk
    clear hf
    have fp:=hF k f hfk
    have fr:=(hr.still b1).at_ k f hfk
    obtain ⟨i0,c0,i1,c1,i2,c2⟩:=f
    have fr':wr.rangeAt g (k*3) [clo i0 c0,clo i1 c1,clo i2 c2]:=fr
    have HF:=Hid.mk' fp
    clear fr fp hF hfk
    have k5:=(RW.fresh wr [.nilFunc,.nilFunc,.nilFunc] 102).stored [clo i0 c0,clo i1 c1,clo i2 c2] rfl
    have b5:Below wr.heap.size wr ((wr.alloc (.cells #[.nilFunc,.nilFunc,.nilFunc] 102)).setCells wr.heap.size 0 [clo i0 c0,clo i1 c1,clo i2 c2]):=b3 (Below.refl _ _) (Nat.le_refl _) rfl
    obtain ⟨W5,hW5⟩:∃ W5,W5=(wr.alloc (.cells #[.nilFunc,.nilFunc,.nilFunc] 102)).setCells wr.heap.size 0 [clo i0 c0,clo i1 c1,clo i2 c2]:=⟨_,rfl⟩
    have HW5:=Hid.mk' hW5
    rw [←hW5] at k5 b5
    clear hW5
    go_upto_region 5 with (first
     | (with_reducible (refine id (?_:wpList _ _ _ _ _ _));refine ldF _ rfl rfl fr' ?_ rfl)
     | (with_reducible (refine id (?_:wpList _ _ _ _ _ _));refine stF _ _ rfl rfl rfl rfl th3 ?_ rfl))
    dsimp only [Act.put]
    rw [show (wr.alloc (.cells [.nilFunc,.nilFunc,.nilFunc].toArray 102)).setCells wr.heap.size 0 [clo i0 c0,clo i1 c1,clo i2 c2]=W5 from HW5.out.symm]
    clear fr'
    have q0:=k5.cell (o:=0) rfl
    have q1:=k5.cell (o:=1) rfl
    have r1':=r1.still b5
    have r2':=r2.still b5
    have ow':=Hid.mk' (ow.below b5)
    have b1':=below_next b1 b5
    clear r1 r2 ow
    have ca:=HF.out.allow W5 b1'
    have cf:=HF.out.h0
    by_cases ha:al k=true
    · rw [ha] at ca
      have cm:=must_t
      go_upto_region 6 with (first
       | (with_reducible (refine id (?_:wpList _ _ _ _ _ _));refine wpList_clo rfl ca cf _ _ rfl rfl ?_;clear ca;rintro e w6 ⟨rfl,b6⟩;refine .inl ⟨_,rfl,?_⟩)
       | (go_at_call 65;refine (cm _).mono ?_;clear cm;rintro e w7 ⟨rfl,hw⟩;obtain rfl:=hw.symm))
      have r1:=r1'.still b6
      have r2:=r2'.still b6
      have ow:=Hid.mk' (ow'.out.below b6)
      have k6:=k5.still b6
      have b7:=below_next b1' b6
      have s6:W.heap.size≤w6.heap.size:=Nat.le_trans sw (Nat.le_trans b5.size b6.size)
      clear r1' r2' ow' k5 b5 q0 q1 b1' hw b6 cf HW5
      have bd:Below w6.heap.size w6 w6.drew:=(Below.refl _ _).drew
      replace r1:=r1.drew
      replace r2:=r2.drew
      replace k6:=k6.drew
      replace ow:=Hid.mk' (ow.out.below bd)
      replace b7:=below_next b7 bd
      replace s6:W.heap.size≤w6.drew.heap.size:=s6
      have l1:w.heap.size<W.heap.size:=by have:=S2.out;omega
      refine wp_last 5 (S:=fun u=>Below W.heap.size w6.drew u) (by kernel_rfl) (by kernel_rfl) (by kernel_rfl) (by kernel_rfl) (Below.refl _ _) (fun hS => ?_)
      generalize w6.drew=V at *
      have cp:=HF.out.put ha V b7
      have cf:=HF.out.h1
      refine tc 0 hS (fun u hu=>(hu.cell (p:=⟨w.heap.size,0,none⟩) l1).trans (r1.cell (o:=0) rfl)) ?_
      (try simp only [pS])
      refine tg 1 hS (v:=pA wr.heap.size 1) ?_ (hy:=by intro u _;kernel_rfl)
      (try simp only [pS])
      refine onlyV 2 (v:=clo i1 c1) ?_ hS ?_
      · have q1:=k6.cell (o:=1) rfl
        go_simp
      (try simp only [pS])
      refine cl 3 cp (fun e w8 hr => ?_) (hrun:=by simp [execOp,resolve,Deferred.ofValue,Act.eval,invoke,cf])
      obtain ⟨s,rfl,hs,b8⟩:=hr
      refine ⟨_,rfl,b8.mono s6,?_⟩
      (try simp only [pS])
      obtain ⟨xo,cx,rfl,hxn,hcx,hsrc⟩:=hs.src
      have hp1:=hpn k hlt ha
      have hsn:sumN pn k≤70000*k:=sumN_bound hpn hal (by omega)
      obtain ⟨v9,w9,hrun9,ow9,b9⟩:=run_append_bytes w8 W.heap.size vo _ _ (ow.out.below b8) xo (pn k) cx (pb k) (hsrc w8 (Below.refl _ _)) hxn (by omega) (Nat.le_trans s6 b8.size)
      refine onlyV 4 (v:=v9) ?_ ((b8.mono s6).trans b9) ?_
      · exact exec_append (.tmp 17) (.tmp 20) rfl rfl rfl rfl hrun9
      (try simp only [pS])
      refine wpAnyH_done (by kernel_rfl) ?_ _
      have r9:=(r1.still b8).below b9 l1
      have r10:=(r2.still b8).below b9 (by have:=S2.out;omega)
      have q9:=r9.cell (o:=0) rfl
      have z9:=r9.live (o:=0) (by simp)
      obtain ⟨x9,y9,rfl⟩:=ow9.slice
      refine lastRun 5 ?_
      refine NoPanic.normal ?_
      go_wp2
      go_roundw
      case rel =>
       have X:Rest [w.heap.size] w9 (w9.setCell ⟨w.heap.size,0,none⟩ (.slice x9 (sumN pn k+pn k) y9)):=Rest.setCell w9 _ (by simp)
       refine ⟨k+1,by omega,by go_num,by rw [allU,hal,ha];rfl,_,r9.set1 (o:=0) (by simp) _,own_rest ow9 X (fun x hx => ?_),r10.rest X (by simp),?_,Nat.le_trans (Nat.le_trans s6 b8.size) (Nat.le_trans b9.size X.size)⟩
       · rw [List.mem_singleton] at hx;omega
       · exact (((b7.trans (b8.mono b7.size))).trans (b9.mono (by omega))).setCell (Nat.le_refl _) _
      case measure=>simp [intOf];omega
    · replace ha:al k=false:=by simpa using ha
      rw [ha] at ca
      have cm:=must_f
      have hall:allU al n=false:=allU_false ha hlt
      go_wp2_with (first
       | (with_reducible (refine id (?_:wpList _ _ _ _ _ _));refine wpList_clo rfl ca cf _ _ rfl rfl ?_;clear ca;rintro e w6 ⟨rfl,b6⟩;refine .inl ⟨_,rfl,?_⟩)
       | (go_at_call 65;refine (cm _).mono ?_;clear cm;rintro e w7 ⟨rfl,hw⟩;obtain rfl:=hw.symm))
      all_goals
       have r1:=r1'.still b6
       have r2:=r2'.still b6
       have b7:=below_next b1' b6
       refine leaves_cons (f:=64) (args:=#[pA w.heap.size 0,pA (w.heap.size+1) 0]) (by simp) (by simp [go_sem]) ?_
       refine (catch_p w.heap.size (w.heap.size+1) _ _ 9 (.string noB) [] _ r1 r2 (by omega)).mono ?_
       rintro e u' w'' ⟨rfl,rfl,rfl⟩
       have r3:=(r1.set1 (o:=0) (by simp) (.slice none 0 0)).far (w.heap.size+1) 0 [.int .i64 1] (.inl (by omega))
       have r4:=(r2.far w.heap.size 0 [.slice none 0 0] (.inl (by omega))).stored [.int .i64 1] rfl
       have q3:((w6.setCell ⟨w.heap.size,0,none⟩ (.slice none 0 0)).setCell ⟨w.heap.size+1,0,none⟩ (.int .i64 1)).cell? ⟨w.heap.size,0,none⟩=some (.slice none 0 0):=r3.cell (o:=0) rfl
       have q4:((w6.setCell ⟨w.heap.size,0,none⟩ (.slice none 0 0)).setCell ⟨w.heap.size+1,0,none⟩ (.int .i64 1)).cell? ⟨w.heap.size+1,0,none⟩=some (.int .i64 1):=r4.cell (o:=0) rfl
       have b8:Below w.heap.size w ((w6.setCell ⟨w.heap.size,0,none⟩ (.slice none 0 0)).setCell ⟨w.heap.size+1,0,none⟩ (.int .i64 1)):=(b7.setCell (Nat.le_refl _) _).setCell (Nat.le_succ _) _
       clear r3 r4
       generalize (w6.setCell ⟨w.heap.size,0,none⟩ (.slice none 0 0)).setCell ⟨w.heap.size+1,0,none⟩ (.int .i64 1)=W9 at *
       simp [Leaves,settle,results,Try.results36,go_sem,q3,q4,b8]
  · obtain rfl:k=n:=by omega
    have q1:=r1.cell (o:=0) rfl
    have z1:=r1.live (o:=0) (by simp)
    obtain ⟨xo,cx,rfl⟩:=ow.slice
    have r3:=(r1.set1 (o:=0) (by simp) (.slice xo (sumN pn k) cx))
    have X:Rest [w.heap.size] wr (wr.setCell ⟨w.heap.size,0,none⟩ (.slice xo (sumN pn k) cx)):=Rest.setCell wr _ (by simp)
    have ow2:=own_rest ow X (fun x hx=>by rw [List.mem_singleton] at hx;have:=S2.out;omega)
    have r4:=r2.rest X (by simp)
    have b2:Below w.heap.size w (wr.setCell ⟨w.heap.size,0,none⟩ (.slice xo (sumN pn k) cx)):=b1.setCell (Nat.le_refl _) _
    have q4:=r4.cell (o:=0) rfl
    have z4:=r4.live (o:=0) (by simp)
    go_wp2
    have X2:Rest [w.heap.size+1] (wr.setCell ⟨w.heap.size,0,none⟩ (.slice xo (sumN pn k) cx)) ((wr.setCell ⟨w.heap.size,0,none⟩ (.slice xo (sumN pn k) cx)).setCell ⟨w.heap.size+1,0,none⟩ (.int .i64 0)):=Rest.setCell _ _ (by simp)
    have ow3:=own_rest ow2 X2 (fun x hx=>by rw [List.mem_singleton] at hx;have:=S2.out;omega)
    have q5:=(r3.rest X2 (by simp)).cell (o:=0) rfl
    have q6:=(r4.set1 (o:=0) (by simp) (.int .i64 0)).cell (o:=0) rfl
    have b3:=b2.setCell (p:=⟨w.heap.size+1,0,none⟩) (Nat.le_succ _) (.int .i64 0)
    have hbi:=BytesIn.of_own ow3
    clear X X2 ow ow2 ow3 r1 r2 r3 r4 b1 b2 q1 z1 q4 z4
    generalize (wr.setCell ⟨w.heap.size,0,none⟩ (.slice xo (sumN pn k) cx)).setCell ⟨w.heap.size+1,0,none⟩ (.int .i64 0)=W9 at *
    refine leaves_cons (f:=64) (args:=#[pA w.heap.size 0,pA (w.heap.size+1) 0]) (by simp) (by simp [go_sem]) ?_
    refine (catch_i w.heap.size (w.heap.size+1) _).mono ?_
    rintro e u' w'' ⟨rfl,rfl,rfl⟩
    simp [Leaves,settle,results,Try.results36,go_sem,q5,q6,b3]
    exact hbi
end Go.Proofs.Ytgdcmibdjiaofaa
namespace Go.Proofs.Ytgdcmibdjiaofaa
open Go.RowKit
theorem Bxs.nth {lo hi:Nat} {w:World} {L:List (Nat × List Value)} (h:Bxs lo hi w L) (i:Nat) {q:Nat} {cs:List Value} {W:World} (hb:Below w.heap.size w W) (hm:L[i]? = some (q,cs):=by rfl):RW W q 0 cs:=(h _ (List.mem_of_getElem? hm)).2.2.still hb
theorem vecP {lo hi:Nat} {w:World} {f:Fd} {p o:Nat} {l m:Int} (h:VecD lo hi w f p o l m) {v:Value} {n:Nat} {b:Nat→Nat} (hc:w.cell? ⟨p,o,none⟩=some v) (hp:p<w.heap.size) (hv:BytesIn w v n b) (hm:m≤65536):FieldPut w f (decide (l≤(n:Int)) && decide ((n:Int)≤m)) (vcL n) (vcB n b):=by
 obtain ⟨q1,q2,q3,rfl,B⟩:=h
 obtain ⟨x,c,rfl,-,-,-⟩:=hv.src
 refine ⟨fun W=>by kernel_rfl,fun W=>by kernel_rfl,fun W hb => ?_,fun ha W hb => ?_⟩
 · exact vAl q1 q2 q3 p o x n c l m W ((B.nth 0 hb).cell (o:=0) rfl) ((B.nth 1 hb).cell (o:=0) rfl) ((B.nth 2 hb).cell (o:=0) rfl) ((hb.cell (p:=⟨p,o,none⟩) hp).trans hc)
 · rw [Bool.and_eq_true,decide_eq_true_eq,decide_eq_true_eq] at ha
   exact (vPut q1 p o _ n b (by omega) W ((B.nth 0 hb).cell (o:=0) rfl) ((hb.cell (p:=⟨p,o,none⟩) hp).trans hc) (hv.keep hb)).mono fun e w' ⟨s,h1,h2,h3⟩=>⟨s,h1,BytesIn.of_own h2,h3⟩
theorem honP {lo hi:Nat} {w:World} {f:Fd} {p o:Nat} (h:HonD lo hi w f p o) {v:Value} {n:Nat} {b:Nat→Nat} (hc:w.cell? ⟨p,o,none⟩=some v) (hp:p<w.heap.size) (hv:BytesIn w v n b):FieldPut w f (decide (n=0) || decide (n=32)) (vcL n) (vcB n b):=by
 obtain ⟨q0,q1,rfl,B⟩:=h
 obtain ⟨x,c,rfl,-,-,-⟩:=hv.src
 refine ⟨fun W=>by kernel_rfl,fun W=>by kernel_rfl,fun W hb => ?_,fun ha W hb => ?_⟩
 · exact hAl q0 p o x n c W ((B.nth 0 hb).cell (o:=0) rfl) ((hb.cell (p:=⟨p,o,none⟩) hp).trans hc)
 · rw [Bool.or_eq_true,decide_eq_true_eq,decide_eq_true_eq] at ha
   exact (vPut q1 p o _ n b (by omega) W ((B.nth 1 hb).cell (o:=0) rfl) ((hb.cell (p:=⟨p,o,none⟩) hp).trans hc) (hv.keep hb)).mono fun e w' ⟨s,h1,h2,h3⟩=>⟨s,h1,BytesIn.of_own h2,h3⟩
theorem numP {lo hi:Nat} {w:World} {f:Fd} {p o s:Nat} {l m:Int} (h:NumD lo hi w f p o (s:Int) l m) {z:Int} (hc:w.cell? ⟨p,o,none⟩=some (.int .i64 z)) (hp:p<w.heap.size) (hl:0≤l) (hs:szB s=true) (hm:m<(mstN s:Int)):FieldPut w f (decide (l≤z) && decide (z≤m)) s (beN z.toNat s):=by
 obtain ⟨q1,q2,q3,q4,rfl,B⟩:=h
 refine ⟨fun W=>by kernel_rfl,fun W=>by kernel_rfl,fun W hb => ?_,fun ha W hb => ?_⟩
 · exact nAl q1 q3 q4 p o z l m W ((B.nth 0 hb).cell (o:=0) rfl) ((B.nth 2 hb).cell (o:=0) rfl) ((B.nth 3 hb).cell (o:=0) rfl) ((hb.cell (p:=⟨p,o,none⟩) hp).trans hc)
 · rw [Bool.and_eq_true,decide_eq_true_eq,decide_eq_true_eq] at ha
   have r1:=B.nth 0 hb
   have r2:=B.nth 1 hb
   have e:z=(z.toNat:Int):=by omega
   refine nPut q1 q2 p o z.toNat s hs (by omega) W (r1.cell (o:=0) rfl) (r2.cell (o:=0) rfl) ?_ r1.lt r2.lt (Nat.lt_of_lt_of_le hp hb.size)
   rw [←e]
   exact (hb.cell (p:=⟨p,o,none⟩) hp).trans hc
theorem unwP {w:World} {f:Fd} {al:Bool} {n:Nat} {b:Nat→Nat} (h:FieldPut w f al n b):FieldPut w (unwD f) al 0 (fun _=>0) :=
 ⟨h.h0,fun W=>by unfold unwD;kernel_rfl,h.allow,fun _ W _=>(uPut W).mono fun e w' ⟨h1,h2⟩=>⟨_,h1,.inl ⟨none,rfl,rfl⟩,by rw [h2];exact Below.refl _ _⟩⟩
theorem kind_any (q g9 g10 p o:Nat) (src:Int) (f9 f10:Fd) (w:World) (h1:RW w q 0 [pA p o]) (h2:w.cell? ⟨p,o+3,none⟩=some (.int .i64 src)) (h9:RW w g9 0 f9.cells) (h10:RW w g10 0 f10.cells) :
 Calls Try.prog 114 #[pA q 0,pA g9 0,pA g10 0] w fun e w'=>e = .returned (if src=3 then f9.val else f10.val)∧Below w.heap.size w w':=by
 obtain ⟨i0,c0,i1,c1,i2,c2⟩:=f9
 obtain ⟨j0,d0,j1,d1,j2,d2⟩:=f10
 obtain ⟨W,hW⟩:∃ W,W=w.alloc (.cells #[.nilFunc,.nilFunc,.nilFunc] 102):=⟨_,rfl⟩
 have hb:Below w.heap.size w W:=by rw [hW];exact (Below.refl _ _).alloc (Nat.le_refl _) _
 have k:=RW.fresh w [.nilFunc,.nilFunc,.nilFunc] 102
 rw [show w.alloc (.cells [.nilFunc,.nilFunc,.nilFunc].toArray 102)=W from hW.symm] at k
 have HW:=Hid.mk' hW
 have c1':=(h1.still hb).cell (o:=0) rfl
 have lp:=block_lt_of_cell h2
 have c2':=(hb.cell (p:=⟨p,o+3,none⟩) lp).trans h2
 have r9:W.rangeAt g9 0 [clo i0 c0,clo i1 c1,clo i2 c2]:=(h9.still hb).range
 have r10:W.rangeAt g10 0 [clo j0 d0,clo j1 d1,clo j2 d2]:=(h10.still hb).range
 clear hW h9 h10 h1 h2
 by_cases hs:src=3
 · subst hs
   rw [if_pos rfl]
   go_enter Try.func114,Try.ntmps114
   go_upto_region 1 with (fail)
   rw [←HW.out]
   go_wp2_with (first
    | (with_reducible (refine id (?_:wpList _ _ _ _ _ _));refine ldF _ rfl rfl r9 ?_ rfl)
    | (with_reducible (refine id (?_:wpList _ _ _ _ _ _));refine stF _ _ rfl rfl rfl rfl k.there ?_ rfl))
   refine bodyPost_ret (resF Try.results114 _ _ _ 0 _ _ _ rfl (rgS k.there)) rfl ?_
   exact ⟨rfl,below_setCells (Nat.le_refl _) _ _ _ hb⟩
 · rw [if_neg hs]
   go_enter Try.func114,Try.ntmps114
   go_upto_region 1 with (fail)
   rw [←HW.out]
   go_wp2_with (first
    | (with_reducible (refine id (?_:wpList _ _ _ _ _ _));refine ldF _ rfl rfl r10 ?_ rfl)
    | (with_reducible (refine id (?_:wpList _ _ _ _ _ _));refine stF _ _ rfl rfl rfl rfl k.there ?_ rfl))
   refine bodyPost_ret (resF Try.results114 _ _ _ 0 _ _ _ rfl (rgS k.there)) rfl ?_
   exact ⟨rfl,below_setCells (Nat.le_refl _) _ _ _ hb⟩
end Go.Proofs.Ytgdcmibdjiaofaa
